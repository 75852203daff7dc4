import PyProof.Rows.All
import Wide.All
import OpenK.AllK
import Wide.FinOn
import HandS.ForMost
import HandS.ForExc
import HandS.Style
import HandS.Star
import HandS.IsInst
import HandS.Strs
import HandS.NoneIn
import HandS.Conv
import HandS.Zip
import HandS.Small
import HandS.SortInts
import HandS.RaiseMore
import HandS.CallSlots
import HandS.Deep
import HandS.Defaults
import HandS.Remove
import HandS.Rev
import HandS.RevTup
import HandS.TryOnly
import HandS.DictTup
import KE.KDictKeyed
import KE.KeyNested
import HandS.TupAny
import HandS.SetFor
import KE.KIndexOf
import KE.GoesEnum
import KE.KDictZip
import OpenK.KOps
import HandS.Flow
import HandS.RepeatKit
import HandS.Records
import KE.KFromBytes
import KE.KSuper
import KE.KExcSuper
import HandS.ExcInit
import HandS.ExcOwn
import HandS.ExcValue
import HandS.ExcField
import PyProof.EnumMake
import PyProof.Draws
import PyProof.TupleIter
import HandS.SortKw
import KE.SortData
import PyProof.AssignAttr
import PySem.Challenge.RW_nextalive_k09_whole_falls_in_any_order
noncomputable section
set_option Elab.async false
set_option linter.all false
set_option maxRecDepth 100000
set_option autoImplicit false
namespace Nx
open PySem L2

/-! ## 1. Objects, stores, outcomes -/
/-- a dict's key: a number or a text, or a tuple of such and of tuples -/
inductive DK where
  | sc (k : L2.Key)
  | tp (k : NestedKey)
deriving DecidableEq
inductive Ob where
  | lst (xs : List V)
  | tup (xs : List V)
  | tpl (xs : List V)
  | scr (xs : List V)
  | kon (xs : List V)
  | ins (c : Nat) (fs : List (Str × V))
  | dct (kvs : List (DK × V × V))
  | met (c : Nat) (m : Str) (n : Nat)

def Ob.isKon : Ob → Bool
  | .kon _ => true
  | _ => false
abbrev Sto := List Ob
/-- where the classes stand; the written part -/
structure CC where
  cl : Nat → Addr
  K : PySem.W.Frag
  w : World
instance : CoeFun CC (fun _ => Nat → Addr) := ⟨CC.cl⟩
abbrev Rho := List (Option V)

inductive Out (α : Type) where
  | val (a : α) (S : Sto)
  | exc (c : Nat) (fs : List (Str × V)) (S : Sto)
abbrev M (α : Type) := Option (Out α)
def M.bind {α β : Type} (m : M α) (k : α → Sto → M β) : M β :=
  match m with
  | none => none
  | some (.val a S) => k a S
  | some (.exc c fs S) => some (.exc c fs S)
abbrev Prim := List V → Sto → M V
abbrev ItP := List V → Nat → Sto → Option (Option (V × Sto))
structure ItR where
  start : List V → Sto → Option (List V)
  next : ItP

/-- the items of a list or tuple -/
def seqOf (S : Sto) : V → Option (List V)
  | .ref n => match S[n]? with
    | some (.lst xs) => some xs
    | some (.scr xs) => some xs
    | some (.kon xs) => some xs
    | some (.tup xs) => some xs
    | some (.tpl xs) => some xs
    | _ => none
  | _ => none
/-! ## 2. The compact text -/
mutual
inductive Pat where
  | nm (i : Nat)
  | tp (ps : Pats)
inductive Pats where
  | nil
  | cons (p : Pat) (ps : Pats)
end
mutual
def Pat.bind : Pat → V → Rho → Sto → Option Rho
  | .nm i, v, ρ, _ => some (ρ.set i (some v))
  | .tp ps, .ref n, ρ, S => match S[n]? with
    | some (.tup xs) => ps.binds xs ρ S
    | some (.tpl xs) => ps.binds xs ρ S
    | some (.lst xs) => ps.binds xs ρ S
    | _ => none
  | .tp _, _, _, _ => none
def Pats.binds : Pats → List V → Rho → Sto → Option Rho
  | .nil, [], ρ, _ => some ρ
  | .cons p ps, x :: xs, ρ, S => match p.bind x ρ S with
    | some ρ' => ps.binds xs ρ' S
    | none => none
  | _, _, _, _ => none
end
mutual
inductive Ex where
  | var (i : Nat)
  | cst (v : V)
  | pn (f : Prim) (args : Exs)
  | ite (c a b : Ex)
  | and (a b : Ex)
  | or (a b : Ex)
  | chain (f g : Prim) (a b c : Ex)
  | mc (chk : V → Sto → Bool) (f : Prim) (o : Ex) (args : Exs)
  | sl (f : V → Option Int → Option Int → Sto → M V) (o : Ex) (lo hi : Exs)
  | stuck
  | lc (elt : Ex) (p : Pat) (ws : List Nat) (it : ItR) (args : Exs) (t : Ex)
  | dc (put : Prim) (k v : Ex) (p : Pat) (ws : List Nat) (it : ItR) (args : Exs) (t : Ex)
inductive Exs where
  | nil
  | cons (e : Ex) (es : Exs)
  | star (e : Ex) (es : Exs)
end
def wipeR (ρ : Rho) : List Nat → Rho
  | [] => ρ
  | v :: vs => (wipeR ρ vs).set v none
def fuel : Nat := 100000
def compLoop (it : ItP) (vs : List V) (p : Pat) (ρw : Rho) (n : Nat) (t e : Rho → Sto → M V) : Nat → Nat → Sto → M V
  | 0, _, _ => none
  | k + 1, i, S => match it vs i S with
    | none => none
    | some none => some (.val (.ref n) S)
    | some (some (x, S1)) => match p.bind x ρw S1 with
      | none => none
      | some ρ2 => match t ρ2 S1 with
        | some (.val (.bl false) S2) => compLoop it vs p ρw n t e k (i + 1) S2
        | some (.val (.bl true) S2) => match e ρ2 S2 with
          | some (.val v S3) => match S3[n]? with
            | some (.lst acc) => if acc.length < 100000 then compLoop it vs p ρw n t e k (i + 1) (S3.set n (.lst (acc ++ [v]))) else none
            | _ => none
          | _ => none
        | _ => none
def dictLoop (it : ItP) (vs : List V) (p : Pat) (ρw : Rho) (n : Nat) (t k v : Rho → Sto → M V) (put : Prim) : Nat → Nat → Sto → M V
  | 0, _, _ => none
  | j + 1, i, S => match it vs i S with
    | none => none
    | some none => some (.val (.ref n) S)
    | some (some (x, S1)) => match p.bind x ρw S1 with
      | none => none
      | some ρ2 => match t ρ2 S1 with
        | some (.val (.bl false) S2) => dictLoop it vs p ρw n t k v put j (i + 1) S2
        | some (.val (.bl true) S2) => match k ρ2 S2 with
          | some (.val kv S3) => match v ρ2 S3 with
            | some (.val vv S4) => match put [.ref n, kv, vv] S4 with
              | some (.val _ S5) => dictLoop it vs p ρw n t k v put j (i + 1) S5
              | _ => none
            | _ => none
          | _ => none
        | _ => none
/-- a slice's part: none, or one int -/
def part : List V → Option (Option Int)
  | [] => some none
  | [.int i] => some (some i)
  | _ => none
mutual
def ev : Ex → Rho → Sto → M V
  | .var i, ρ, S => match ρ[i]? with
    | some (some v) => some (.val v S)
    | _ => none
  | .cst v, _, S => some (.val v S)
  | .pn f es, ρ, S => (evs es ρ S).bind f
  | .ite c a b, ρ, S => (ev c ρ S).bind fun v S1 => match v with
    | .bl true => ev a ρ S1
    | .bl false => ev b ρ S1
    | _ => none
  | .and a b, ρ, S => (ev a ρ S).bind fun v S1 => match v with
    | .bl true => ev b ρ S1
    | .bl false => some (.val (.bl false) S1)
    | _ => none
  | .or a b, ρ, S => (ev a ρ S).bind fun v S1 => match v with
    | .bl true => some (.val (.bl true) S1)
    | .bl false => ev b ρ S1
    | _ => none
  | .chain f g a b c, ρ, S => (ev a ρ S).bind fun u S1 => (ev b ρ S1).bind fun v S2 => (f [u, v] S2).bind fun k S3 => match k with
    | .bl true => (ev c ρ S3).bind fun w S4 => g [v, w] S4
    | .bl false => some (.val (.bl false) S3)
    | _ => none
  | .mc chk f o es, ρ, S => (ev o ρ S).bind fun v S1 => match chk v S1 with
    | true => (evs es ρ S1).bind fun vs S2 => f (v :: vs) S2
    | false => none
  | .sl f o lo hi, ρ, S => (ev o ρ S).bind fun v S1 => (evs lo ρ S1).bind fun l S2 => match part l with
    | none => none
    | some a => (evs hi ρ S2).bind fun h S3 => match part h with
      | none => none
      | some b => f v a b S3
  | .stuck, _, _ => none
  | .lc elt p ws it es t, ρ, S => (evs es ρ S).bind fun vs S1 => match it.start vs S1 with
    | none => none
    | some st => compLoop it.next st p (wipeR ρ ws) S1.length (ev t) (ev elt) fuel 0 (S1 ++ [.lst []])
  | .dc put k v p ws it es t, ρ, S => (evs es ρ S).bind fun vs S1 => match it.start vs S1 with
    | none => none
    | some st => dictLoop it.next st p (wipeR ρ ws) S1.length (ev t) (ev k) (ev v) put fuel 0 (S1 ++ [.dct []])
def evs : Exs → Rho → Sto → M (List V)
  | .nil, _, S => some (.val [] S)
  | .cons e es, ρ, S => (ev e ρ S).bind fun v S1 => (evs es ρ S1).bind fun vs S2 => some (.val (v :: vs) S2)
  | .star e es, ρ, S => (ev e ρ S).bind fun v S1 => match seqOf S1 v with
    | none => none
    | some us => (evs es ρ S1).bind fun vs S2 => some (.val (us ++ vs) S2)
end
mutual
inductive Sx where
  | asg (p : Pat) (e : Ex)
  | par (i j : Nat) (a b : Ex)
  | par3 (i j l : Nat) (a b c : Ex)
  | expr (e : Ex)
  | setf (cs : List Nat) (f : Str) (o v : Ex)
  | seti (o i v : Ex)
  | ret (e : Ex)
  | retN
  | pass
  | stuck
  | ite (c : Ex) (a b : Sxs)
  | for_ (p : Pat) (it : ItR) (args : Exs) (body : Sxs)
  | raise (c : Nat) (fs : List Str) (args : Exs)
  | brk
  | cont
  | try_ (c : Nat) (subs : List Nat) (i : Nat) (body : Sxs) (h : List (Str × V) → Sxs)
  | while_ (c : Ex) (body : Sxs)
  | tryO (c : Nat) (body h : Sxs)
  | augi (get f put : Prim) (o i v : Ex)
  | unf (ts : List (Nat ⊕ (List Nat × Str × Nat))) (e : Ex)
inductive Sxs where
  | nil
  | cons (s : Sx) (ss : Sxs)
end
inductive SO where
  | nx (ρ : Rho) (S : Sto)
  | rt (v : V) (S : Sto)
  | bk (ρ : Rho) (S : Sto)
  | ct (ρ : Rho) (S : Sto)
  | exc (c : Nat) (fs : List (Str × V)) (ρ : Rho) (S : Sto)
abbrev MS := Option SO
def M.toS {α : Type} (m : M α) (ρ : Rho) (k : α → Sto → MS) : MS :=
  match m with
  | none => none
  | some (.val a S) => k a S
  | some (.exc c fs S) => some (.exc c fs ρ S)
def forLoop (it : ItP) (vs : List V) (p : Pat) (body : Rho → Sto → MS) : Nat → Nat → Rho → Sto → MS
  | 0, _, _, _ => none
  | k + 1, i, ρ, S => match it vs i S with
    | none => none
    | some none => some (.nx ρ S)
    | some (some (x, S1)) => match p.bind x ρ S1 with
      | none => none
      | some ρ2 => match body ρ2 S1 with
        | some (.nx ρ3 S2) => forLoop it vs p body k (i + 1) ρ3 S2
        | some (.ct ρ3 S2) => forLoop it vs p body k (i + 1) ρ3 S2
        | some (.bk ρ3 S2) => some (.nx ρ3 S2)
        | r => r
/-- names and fields get the parts of a tuple -/
def unfs : List (Nat ⊕ (List Nat × Str × Nat)) → List V → Rho → Sto → MS
  | [], [], ρ, S => some (.nx ρ S)
  | .inl i :: ts, x :: xs, ρ, S => unfs ts xs (ρ.set i (some x)) S
  | .inr (cs, f, j) :: ts, x :: xs, ρ, S => match ρ[j]? with
    | some (some (.ref n)) => match S[n]? with
      | some (.ins c fs) => if c ∈ cs ∧ fs.length < 1000 then unfs ts xs ρ (S.set n (.ins c (L2.putF f x fs))) else none
      | _ => none
    | _ => none
  | _, _, _, _ => none
def whileLoop (c : Rho → Sto → M V) (body : Rho → Sto → MS) : Nat → Rho → Sto → MS
  | 0, _, _ => none
  | k + 1, ρ, S => (c ρ S).toS ρ fun v S1 => match v with
    | .bl true => match body ρ S1 with
      | some (.nx ρ2 S2) => whileLoop c body k ρ2 S2
      | some (.ct ρ2 S2) => whileLoop c body k ρ2 S2
      | some (.bk ρ2 S2) => some (.nx ρ2 S2)
      | r => r
    | .bl false => some (.nx ρ S1)
    | _ => none
mutual
def ex : Sx → Rho → Sto → MS
  | .asg p e, ρ, S => (ev e ρ S).toS ρ fun v S1 => match p.bind v ρ S1 with
    | some ρ' => some (.nx ρ' S1)
    | none => none
  | .par i j a b, ρ, S => (evs (.cons a (.cons b .nil)) ρ S).toS ρ fun vs S1 => match vs with
    | [v, w] => some (.nx ((ρ.set i (some v)).set j (some w)) S1)
    | _ => none
  | .par3 i j l a b c, ρ, S => (evs (.cons a (.cons b (.cons c .nil))) ρ S).toS ρ fun vs S1 => match vs with
    | [v, w, u] => some (.nx (((ρ.set i (some v)).set j (some w)).set l (some u)) S1)
    | _ => none
  | .expr e, ρ, S => (ev e ρ S).toS ρ fun _ S1 => some (.nx ρ S1)
  | .setf cs f o v, ρ, S => (ev v ρ S).toS ρ fun w S1 => (ev o ρ S1).toS ρ fun u S2 => match u with
    | .ref n => match S2[n]? with
      | some (.ins c fs) => if c ∈ cs ∧ fs.length < 1000 then some (.nx ρ (S2.set n (.ins c (L2.putF f w fs)))) else none
      | _ => none
    | _ => none
  | .seti o i v, ρ, S => (ev v ρ S).toS ρ fun w S1 => (ev o ρ S1).toS ρ fun u S2 => (ev i ρ S2).toS ρ fun k S3 => match u, k with
    | .ref n, .int k => match S3[n]? with
      | some (.lst xs) => match ixN xs.length k with
        | some j => some (.nx ρ (S3.set n (.lst (xs.set j w))))
        | none => none
      | _ => none
    | _, _ => none
  | .ret e, ρ, S => (ev e ρ S).toS ρ fun v S1 => some (.rt v S1)
  | .retN, _, S => some (.rt .non S)
  | .pass, ρ, S => some (.nx ρ S)
  | .stuck, _, _ => none
  | .ite c a b, ρ, S => (ev c ρ S).toS ρ fun v S1 => match v with
    | .bl true => exs a ρ S1
    | .bl false => exs b ρ S1
    | _ => none
  | .for_ p it es body, ρ, S => (evs es ρ S).toS ρ fun vs S1 => match it.start vs S1 with
    | none => none
    | some st => forLoop it.next st p (exs body) fuel 0 ρ S1
  | .raise c fs es, ρ, S => (evs es ρ S).toS ρ fun vs S1 => if vs.length = fs.length then some (.exc c (fs.zip vs) ρ S1) else none
  | .brk, ρ, S => some (.bk ρ S)
  | .cont, ρ, S => some (.ct ρ S)
  | .try_ c subs i body h, ρ, S => match exs body ρ S with
    | some (.exc d fs ρ' S') => if (d = c ∨ d ∈ subs) ∧ i < ρ'.length then (match exs (h fs) ρ' S' with
        | some (.nx ρ2 S2) => some (.nx (ρ2.set i none) S2)
        | some (.rt v S2) => some (.rt v S2)
        | _ => none) else none
    | r => r
  | .while_ c body, ρ, S => whileLoop (ev c) (exs body) fuel ρ S
  | .tryO c body h, ρ, S => match exs body ρ S with
    | some (.exc d fs ρ' S') => if d = c then (match exs h ρ' S' with
        | some (.exc _ _ _ _) => none
        | r => r) else none
    | r => r
  | .augi get f put o i v, ρ, S => (ev o ρ S).toS ρ fun u S1 => (ev i ρ S1).toS ρ fun k S2 => M.toS (get [u, k] S2) ρ fun x S3 => (ev v ρ S3).toS ρ fun y S4 => M.toS (f [x, y] S4) ρ fun z S5 => M.toS (put [u, k, z] S5) ρ fun _ S6 => some (.nx ρ S6)
  | .unf ts e, ρ, S => (ev e ρ S).toS ρ fun v S1 => match seqOf S1 v with
    | some xs => if xs.length = ts.length then unfs ts xs ρ S1 else none
    | none => none
def exs : Sxs → Rho → Sto → MS
  | .nil, ρ, S => some (.nx ρ S)
  | .cons s ss, ρ, S => match ex s ρ S with
    | some (.nx ρ' S') => exs ss ρ' S'
    | r => r
end
/-- a def: n slots, m parameters -/
def den (n m : Nat) (body : Sxs) : Prim := fun us S =>
  if us.length = m then match exs body (us.map some ++ List.replicate (n - m) none) S with
    | some (.nx _ S') => some (.val .non S')
    | some (.rt v S') => some (.val v S')
    | some (.exc c fs _ S') => some (.exc c fs S')
    | _ => none
  else none

end Nx

set_option Elab.async false
set_option linter.all false
set_option maxRecDepth 100000
set_option autoImplicit false
namespace Nx
open PySem L2

/-! ## 3. What a store stands for -/
def RV (ad : List Addr) : V → V → Prop
  | .ref n, w => ∃ a, ad[n]? = some a ∧ w = .ref a
  | .non, w => w = .non
  | .bl b, w => w = .bl b
  | .int i, w => w = .int i
  | .str x, w => w = .str x
  | .byt b, w => w = .byt b
  | .flt b, w => w = .flt b
  | .ty n, w => w = .ty n
abbrev RVs (ad : List Addr) : List V → List V → Prop := Paired (RV ad)
abbrev RF (ad : List Addr) : List (Str × V) → List (Str × V) → Prop := Paired fun p q => p.1 = q.1 ∧ RV ad p.2 q.2
/-- a dict by its entries -/
def rawD (a : Addr) (es : Array DictEntry) : HO := .ext fun h => ∃ o ep, h.get? a = some o ∧ o.ExactDict ∧ o.data = .dict es ep
def DK.hash (w : World) : DK → Int
  | .sc k => keyH w k
  | .tp k => k.hash w
def EntR (C : CC) (ad : List Addr) (x : DK × V × V) (e : DictEntry) : Prop := e.hash = x.1.hash C.w ∧ (∃ u, RV ad x.2.1 u ∧ RelV u e.key) ∧ ∃ u, RV ad x.2.2 u ∧ RelV u e.val
structure DctR (C : CC) (ad : List Addr) (H : Hp) (a : Addr) (kvs : List (DK × V × V)) (es : Array DictEntry) : Prop where
  ho : H a = some (rawD a es)
  en : Paired (EntR C ad) kvs es.toList
  sys : (a == sysModules) = false
  nd : (kvs.map (·.1)).Nodup
  len : kvs.length ≤ sizeLine
def ObR (C : CC) (ad : List Addr) (H : Hp) (a : Addr) : Ob → Prop
  | .lst xs => ∃ ws, RVs ad xs ws ∧ H a = some (.lst ws)
  | .tup xs => ∃ o ws, RVs ad xs ws ∧ H a = some (.frz o (.tup ws)) ∧ o.dict = none
  | .tpl xs => ∃ ws, RVs ad xs ws ∧ H a = some (.tup ws)
  | .scr xs => ∃ o ws, RVs ad xs ws ∧ H a = some (.frz o (.lst ws))
  | .kon xs => ∃ ws, RVs ad xs ws ∧ ∀ H', SqL C.K H' a ws
  | .ins c fs => ∃ dx gs, RF ad fs gs ∧ H a = some (.ins (C c) dx gs)
  | .dct kvs => ∃ es, DctR C ad H a kvs es
  | .met c m n => ∃ f x, H a = some (.met f x) ∧ ad[n]? = some x ∧ PySem.W.findIn C.K (.ref (C c)) m = some (some (.ref f))
/-- where the fields of an exception stand -/
def XD (H : Hp) (d : Option Addr) (gs : List (Str × V)) : Prop := (∃ a, d = some a ∧ H a = some (.xd gs)) ∨ (d = none ∧ gs = [])
structure Sim (C : CC) (ad : List Addr) (S : Sto) (H : Hp) : Prop where
  len : ad.length = S.length
  nd : ∀ (n m : Nat) (a : Addr) (o u : Ob), ad[n]? = some a → ad[m]? = some a → S[n]? = some o → S[m]? = some u → o.isKon = false → u.isKon = false → n = m
  ob : ∀ (n : Nat) (o : Ob) (a : Addr), S[n]? = some o → ad[n]? = some a → ObR C ad H a o
structure Ext (ad : List Addr) (H : Hp) (ad' : List Addr) (H' : Hp) : Prop where
  pre : ∃ more, ad' = ad ++ more ∧ ∀ a ∈ more, H a = none
  fr : ∀ a o, H a = some o → a ∉ ad → H' a = some o
  dom : ∀ a, H' a = none → H a = none

variable {C : CC} {ad ad1 ad' : List Addr} {H H1 H' : Hp} {S S1 S' : Sto} {a p : Addr}

theorem get_pre {ad more : List Addr} {n : Nat} {a : Addr} (h : ad[n]? = some a) : (ad ++ more)[n]? = some a := by
  rw [List.getElem?_append_left (by exact (List.getElem?_eq_some_iff.mp h).1)]; exact h
theorem RV.pre {more : List Addr} : ∀ {v w : V}, RV ad v w → RV (ad ++ more) v w
  | .ref n, w, ⟨a, h, e⟩ => ⟨a, get_pre h, e⟩
  | .non, w, h => h
  | .bl b, w, h => h
  | .int i, w, h => h
  | .str x, w, h => h
  | .byt b, w, h => h
  | .flt b, w, h => h
  | .ty n, w, h => h
theorem RVs.pre {more : List Addr} {xs ws : List V} (h : RVs ad xs ws) : RVs (ad ++ more) xs ws := L2.Paired.mapP h fun _ _ => RV.pre
theorem RF.pre {more : List Addr} {xs ws : List (Str × V)} (h : RF ad xs ws) : RF (ad ++ more) xs ws := L2.Paired.mapP h fun _ _ q => ⟨q.1, q.2.pre⟩
theorem RV.ext {v w : V} (h : RV ad v w) (e : Ext ad H ad' H') : RV ad' v w := by
  obtain ⟨more, rfl, _⟩ := e.pre; exact h.pre
theorem RVs.ext {v w : List V} (h : RVs ad v w) (e : Ext ad H ad' H') : RVs ad' v w := by
  obtain ⟨more, rfl, _⟩ := e.pre; exact h.pre
theorem RF.ext {v w : List (Str × V)} (h : RF ad v w) (e : Ext ad H ad' H') : RF ad' v w := by
  obtain ⟨more, rfl, _⟩ := e.pre; exact h.pre
theorem Sim.at (s : Sim C ad S H) {n : Nat} (h : n < S.length) : ∃ a, ad[n]? = some a := by
  rw [← s.len] at h; exact ⟨ad[n], List.getElem?_eq_getElem h⟩
theorem Sim.get (s : Sim C ad S H) {n : Nat} {o : Ob} (h : S[n]? = some o) : ∃ a, ad[n]? = some a ∧ ObR C ad H a o := by
  obtain ⟨a, e⟩ := s.at (List.getElem?_eq_some_iff.mp h).1
  exact ⟨a, e, s.ob _ _ _ h e⟩
theorem Sim.there (s : Sim C ad S H) {n : Nat} {o : Ob} (hS : S[n]? = some o) (ha : ad[n]? = some a) (hk : o.isKon = false) : ∃ o, H a = some o := by
  have q := s.ob n _ a hS ha
  cases o with
  | lst xs => obtain ⟨_, _, z⟩ := q; exact ⟨_, z⟩
  | tup xs => obtain ⟨_, _, _, z, _⟩ := q; exact ⟨_, z⟩
  | tpl xs => obtain ⟨_, _, z⟩ := q; exact ⟨_, z⟩
  | scr xs => obtain ⟨_, _, _, z⟩ := q; exact ⟨_, z⟩
  | kon xs => cases hk
  | ins c fs => obtain ⟨_, _, _, z⟩ := q; exact ⟨_, z⟩
  | dct kvs => obtain ⟨_, z⟩ := q; exact ⟨_, z.ho⟩
  | met c m n => obtain ⟨_, _, z, _⟩ := q; exact ⟨_, z⟩
theorem EntR.pre {more : List Addr} {x : DK × V × V} {e : DictEntry} (h : EntR C ad x e) : EntR C (ad ++ more) x e := ⟨h.1, let ⟨u, a, b⟩ := h.2.1; ⟨u, a.pre, b⟩, let ⟨u, a, b⟩ := h.2.2; ⟨u, a.pre, b⟩⟩
theorem Ext.refl (s : Sim C ad S H) : Ext ad H ad H := ⟨⟨[], by simp, by simp⟩, fun _ _ h _ => h, fun _ h => h⟩
theorem Ext.trans (x : Ext ad H ad1 H1) (y : Ext ad1 H1 ad' H') : Ext ad H ad' H' := by
  obtain ⟨m1, rfl, f1⟩ := x.pre
  obtain ⟨m2, rfl, f2⟩ := y.pre
  refine ⟨⟨m1 ++ m2, by simp, fun a h => ?_⟩, fun a o h n => ?_, fun a h => x.dom a (y.dom a h)⟩
  · rcases List.mem_append.mp h with h | h
    · exact f1 a h
    · exact x.dom a (f2 a h)
  · refine y.fr a o (x.fr a o h n) fun z => ?_
    rcases List.mem_append.mp z with z | z
    · exact n z
    · rw [f1 a z] at h; cases h
theorem ObR.mono {a : Addr} : ∀ {o : Ob}, ObR C ad H a o → (∀ u, H a = some u → H' a = some u) → ∀ more, ObR C (ad ++ more) H' a o
  | .lst xs, ⟨ws, r, h⟩, k, _ => ⟨ws, r.pre, k _ h⟩
  | .tup xs, ⟨o, ws, r, h, d⟩, k, _ => ⟨o, ws, r.pre, k _ h, d⟩
  | .tpl xs, ⟨ws, r, h⟩, k, _ => ⟨ws, r.pre, k _ h⟩
  | .scr xs, ⟨o, ws, r, h⟩, k, _ => ⟨o, ws, r.pre, k _ h⟩
  | .kon xs, ⟨ws, r, h⟩, _, _ => ⟨ws, r.pre, h⟩
  | .ins c fs, ⟨dx, gs, r, h⟩, k, _ => ⟨dx, gs, r.pre, k _ h⟩
  | .met c m n, ⟨f, x, h, g, z⟩, k, _ => ⟨f, x, k _ h, get_pre g, z⟩
  | .dct kvs, ⟨es, z⟩, k, _ => ⟨es, k _ z.ho, L2.Paired.mapP z.en fun _ _ h => h.pre, z.sys, z.nd, z.len⟩
theorem get_cut {α : Type} {l : List α} {p : α} {n : Nat} {a : α} (h : (l ++ [p])[n]? = some a) : l[n]? = some a ∨ (n = l.length ∧ a = p) := by
  by_cases hl : n < l.length
  · rw [List.getElem?_append_left hl] at h; exact .inl h
  · have e : n = l.length := by
      have := (List.getElem?_eq_some_iff.mp h).1
      simp at this; omega
    subst e
    rw [List.getElem?_append_right (Nat.le_refl _)] at h
    simp at h
    exact .inr ⟨rfl, h.symm⟩
/-- a new object -/
theorem Sim.alloc (s : Sim C ad S H) {ho : HO} {o : Ob} (hp : H p = none) (r : ObR C (ad ++ [p]) (upd H p ho) p o) :
    Sim C (ad ++ [p]) (S ++ [o]) (upd H p ho) ∧ Ext ad H (ad ++ [p]) (upd H p ho) := by
  have old : ∀ {n : Nat} {a : Addr} {u : Ob}, ad[n]? = some a → S[n]? = some u → u.isKon = false → a ≠ p := fun {n a u} h1 h2 h3 z => by
    obtain ⟨w, e⟩ := s.there h2 h1 h3
    rw [z, hp] at e; cases e
  refine ⟨⟨by simp [s.len], fun n m b u v h1 h2 h3 h4 k1 k2 => ?_, fun n u b hn hb => ?_⟩, ⟨[p], rfl, by simpa using hp⟩, fun a o h _ => by rw [upd_ne (ne_of_none h hp)]; exact h, fun a h => ?_⟩
  · rcases get_cut h1 with a1 | ⟨a1, e1⟩ <;> rcases get_cut h2 with a2 | ⟨a2, e2⟩ <;> rcases get_cut h3 with b1 | ⟨b1, f1⟩ <;> rcases get_cut h4 with b2 | ⟨b2, f2⟩
    all_goals first
      | exact s.nd n m b u v a1 a2 b1 b2 k1 k2
      | exact absurd e2 (old a1 b1 k1)
      | exact absurd e1 (old a2 b2 k2)
      | (have l := s.len; omega)
      | (have l := s.len; have := (List.getElem?_eq_some_iff.mp a1).1; omega)
      | (have l := s.len; have := (List.getElem?_eq_some_iff.mp a2).1; omega)
      | (have l := s.len; have := (List.getElem?_eq_some_iff.mp b1).1; omega)
      | (have l := s.len; have := (List.getElem?_eq_some_iff.mp b2).1; omega)
  · rcases get_cut hn with a1 | ⟨a1, e1⟩ <;> rcases get_cut hb with b1 | ⟨b1, f1⟩
    · exact (s.ob _ _ _ a1 b1).mono (fun u e => by rw [upd_ne (ne_of_none e hp)]; exact e) _
    · have := (List.getElem?_eq_some_iff.mp a1).1
      have l := s.len; omega
    · have := (List.getElem?_eq_some_iff.mp b1).1
      have l := s.len; omega
    · subst e1 f1; exact r
  · by_cases e : a = p
    · subst e; rw [upd_same] at h; cases h
    · rw [upd_ne e] at h; exact h
/-- an object changed -/
theorem Sim.write (s : Sim C ad S H) {n : Nat} {ho : HO} {o o0 : Ob} (h0 : S[n]? = some o0) (hk0 : o0.isKon = false) (hk : o.isKon = false) (ha : ad[n]? = some a) (r : ObR C ad (upd H a ho) a o) :
    Sim C ad (S.set n o) (upd H a ho) ∧ Ext ad H ad (upd H a ho) := by
  have hm : a ∈ ad := List.mem_of_getElem? ha
  have hl : n < S.length := (List.getElem?_eq_some_iff.mp h0).1
  have was : ∀ {m : Nat} {u : Ob}, (S.set n o)[m]? = some u → ∃ v, S[m]? = some v ∧ (u.isKon = false → v.isKon = false) ∧ (m ≠ n → v = u) := fun {m u} h => by
    by_cases e : m = n
    · subst e; exact ⟨o0, h0, fun _ => hk0, fun z => absurd rfl z⟩
    · rw [List.getElem?_set_ne (Ne.symm e)] at h; exact ⟨u, h, id, fun _ => rfl⟩
  refine ⟨⟨by simp [s.len], fun i j b u v h1 h2 h3 h4 k1 k2 => ?_, fun m u b hn hb => ?_⟩, ⟨[], by simp, by simp⟩, fun b u h nb => by
    have nab : b ≠ a := fun z => nb (by rw [z]; exact hm)
    rw [upd_ne nab]; exact h, fun b h => ?_⟩
  · obtain ⟨u', a1, a2, _⟩ := was h3
    obtain ⟨v', b1, b2, _⟩ := was h4
    exact s.nd i j b u' v' h1 h2 a1 b1 (a2 k1) (b2 k2)
  · by_cases e : m = n
    · subst e
      rw [ha] at hb; cases hb
      rw [List.getElem?_set_self hl] at hn; cases hn
      exact r
    · rw [List.getElem?_set_ne (Ne.symm e)] at hn
      have q := s.ob m u b hn hb
      cases hku : u.isKon with
      | true =>
        cases u with
        | kon xs => exact q
        | _ => cases hku
      | false =>
        have nab : b ≠ a := fun z => by
          subst z
          exact e (s.nd m n b u o0 hb ha hn h0 hku hk0)
        have q' := q.mono (H' := upd H a ho) (fun u e => by rw [upd_ne nab]; exact e) []
        simpa using q'
  · by_cases e : b = a
    · subst e; rw [upd_same] at h; cases h
    · rw [upd_ne e] at h; exact h

/-- slots -/
def EnvR (ad : List Addr) (ρ : Rho) (σ : L2.St) : Prop := ρ.length = σ.length ∧ ∀ (i : Nat) (v : V), ρ[i]? = some (some v) → ∃ w, σ[i]? = some (some w) ∧ RV ad v w
theorem EnvR.ext {ρ : Rho} {σ : L2.St} (r : EnvR ad ρ σ) (e : Ext ad H ad' H') : EnvR ad' ρ σ :=
  ⟨r.1, fun i v h => let ⟨w, h1, h2⟩ := r.2 i v h; ⟨w, h1, h2.ext e⟩⟩
theorem EnvR.set {ρ : Rho} {σ : L2.St} (r : EnvR ad ρ σ) (i : Nat) {v w : V} (h : RV ad v w) : EnvR ad (ρ.set i (some v)) (σ.set i (some w)) := by
  refine ⟨by simp [r.1], fun j u hj => ?_⟩
  by_cases e : i = j
  · subst e
    by_cases hl : i < ρ.length
    · rw [List.getElem?_set_self hl] at hj; cases hj
      exact ⟨w, by rw [List.getElem?_set_self (by rw [← r.1]; exact hl)], h⟩
    · rw [List.getElem?_eq_none (by simpa using hl)] at hj; cases hj
  · rw [List.getElem?_set_ne e] at hj
    obtain ⟨w', h1, h2⟩ := r.2 j u hj
    exact ⟨w', by rw [List.getElem?_set_ne e]; exact h1, h2⟩
theorem EnvR.del {ρ : Rho} {σ : L2.St} (r : EnvR ad ρ σ) (i : Nat) (x : Option V) : EnvR ad (ρ.set i none) (σ.set i x) := by
  refine ⟨by simp [r.1], fun j u hj => ?_⟩
  by_cases e : i = j
  · subst e
    by_cases hl : i < ρ.length
    · rw [List.getElem?_set_self hl] at hj; cases hj
    · rw [List.getElem?_eq_none (by simpa using hl)] at hj; cases hj
  · rw [List.getElem?_set_ne e] at hj
    obtain ⟨w', h1, h2⟩ := r.2 j u hj
    exact ⟨w', by rw [List.getElem?_set_ne e]; exact h1, h2⟩

/-! ## 4. What an outcome wants -/
def tM {α ω : Type} (C : CC) (W : WX) (R : List Addr → α → ω → Prop) (ad : List Addr) (H : Hp) (σ : L2.St) (Q : ω → Hp → Prop) : M α → Prop
  | none => False
  | some (.val v S') => ∀ ad' H' w, Ext ad H ad' H' → Sim C ad' S' H' → R ad' v w → Q w H'
  | some (.exc c fs S') => ∀ ad' H' d gs, Ext ad H ad' H' → Sim C ad' S' H' → RF ad' fs gs → XD H' d gs → W (.ref (C c)) d σ H'
theorem tM.mono {α ω : Type} {W : WX} {R : List Addr → α → ω → Prop} {σ : L2.St} {Q Q' : ω → Hp → Prop} {m : M α} (h : tM C W R ad H σ Q m) (k : ∀ w H', Q w H' → Q' w H') : tM C W R ad H σ Q' m := by
  match m, h with
  | some (.val v S'), h => exact fun ad' H' w e s r => k _ _ (h ad' H' w e s r)
  | some (.exc c fs S'), h => exact h
theorem tM.step {α ω : Type} {W : WX} {R : List Addr → α → ω → Prop} {σ : L2.St} {Q : ω → Hp → Prop} {m : M α} (h : tM C W R ad H σ Q m) (e : Ext ad H ad1 H1) : tM C W R ad1 H1 σ Q m := by
  match m, h with
  | some (.val v S'), h => exact fun ad' H' w x s r => h ad' H' w (e.trans x) s r
  | some (.exc c fs S'), h => exact fun ad' H' d gs x s r y => h ad' H' d gs (e.trans x) s r y
/-- one after the other -/
theorem tM.bind {α β ω ω' : Type} {W : WX} {R : List Addr → α → ω → Prop} {R' : List Addr → β → ω' → Prop} {σ : L2.St} {Q : ω' → Hp → Prop} {m : M α} {k : α → Sto → M β} (h : tM C W R' ad H σ Q (m.bind k)) :
    tM C W R ad H σ (fun w H1 => ∃ ad1 S1 v, Ext ad H ad1 H1 ∧ Sim C ad1 S1 H1 ∧ R ad1 v w ∧ tM C W R' ad1 H1 σ Q (k v S1)) m := by
  match m, h with
  | some (.val v S'), h => exact fun ad' H' w e s r => ⟨ad', S', v, e, s, r, h.step e⟩
  | some (.exc c fs S'), h => exact h

def tEv (C : CC) (W : WX) (x : Ex) : TE := fun σ H Q => ∃ ad S ρ, Sim C ad S H ∧ EnvR ad ρ σ ∧ tM C W RV ad H σ Q (ev x ρ S)
def tEvs (C : CC) (W : WX) (x : Exs) : TA := fun σ H Q => ∃ ad S ρ, Sim C ad S H ∧ EnvR ad ρ σ ∧ tM C W RVs ad H σ Q (evs x ρ S)
/-- a test -/
def tTs (C : CC) (W : WX) (x : Ex) : TT := fun σ H Q => tEv C W x σ H fun v H' => ∃ k, v = .bl k ∧ Q k H'
def tSO (C : CC) (W : WX) (D : Ends) (ad : List Addr) (H : Hp) : MS → Prop
  | none => False
  | some (.nx ρ S') => ∀ ad' H' σ', Ext ad H ad' H' → Sim C ad' S' H' → EnvR ad' ρ σ' → D.nx σ' H'
  | some (.bk ρ S') => ∀ ad' H' σ', Ext ad H ad' H' → Sim C ad' S' H' → EnvR ad' ρ σ' → D.bk σ' H'
  | some (.ct ρ S') => ∀ ad' H' σ', Ext ad H ad' H' → Sim C ad' S' H' → EnvR ad' ρ σ' → D.ct σ' H'
  | some (.rt v S') => ∀ ad' H' w, Ext ad H ad' H' → Sim C ad' S' H' → RV ad' v w → D.rt w H'
  | some (.exc c fs ρ S') => ∀ ad' H' σ' d gs, Ext ad H ad' H' → Sim C ad' S' H' → EnvR ad' ρ σ' → RF ad' fs gs → XD H' d gs → W (.ref (C c)) d σ' H'
def tEx (C : CC) (W : WX) (x : Sx) : TS := fun D σ H => ∃ ad S ρ, Sim C ad S H ∧ EnvR ad ρ σ ∧ tSO C W D ad H (ex x ρ S)
def tExs (C : CC) (W : WX) (x : Sxs) : TS := fun D σ H => ∃ ad S ρ, Sim C ad S H ∧ EnvR ad ρ σ ∧ tSO C W D ad H (exs x ρ S)
theorem tSO.step {W : WX} {D : Ends} {m : MS} (h : tSO C W D ad H m) (e : Ext ad H ad1 H1) : tSO C W D ad1 H1 m := by
  match m, h with
  | some (.nx ρ S'), h => exact fun ad' H' w x s r => h ad' H' w (e.trans x) s r
  | some (.bk ρ S'), h => exact fun ad' H' w x s r => h ad' H' w (e.trans x) s r
  | some (.ct ρ S'), h => exact fun ad' H' w x s r => h ad' H' w (e.trans x) s r
  | some (.rt ρ S'), h => exact fun ad' H' w x s r => h ad' H' w (e.trans x) s r
  | some (.exc c fs ρ S'), h => exact fun ad' H' s d gs x y r z q => h ad' H' s d gs (e.trans x) y r z q
theorem tM.toS {α ω : Type} {W : WX} {R : List Addr → α → ω → Prop} {σ : L2.St} {ρ : Rho} {D : Ends} {m : M α} {k : α → Sto → MS} (he : EnvR ad ρ σ) (h : tSO C W D ad H (m.toS ρ k)) :
    tM C W R ad H σ (fun w H1 => ∃ ad1 S1 v, Ext ad H ad1 H1 ∧ Sim C ad1 S1 H1 ∧ R ad1 v w ∧ tSO C W D ad1 H1 (k v S1)) m := by
  match m, h with
  | some (.val v S'), h => exact fun ad' H' w e s r => ⟨ad', S', v, e, s, r, h.step e⟩
  | some (.exc c fs S'), h => exact fun ad' H' d gs e s r q => h ad' H' σ d gs e s (he.ext e) r q

/-! ## 5. Expressions -/
section
variable {X : Cx} {W : WX} {e e1 e2 e3 : PySem.Expr} {es : List PySem.Expr} {x y z : Ex} {xs : Exs} {pos : Pos}
theorem PE.imp {t t' : TE} (h : PE X e t) (k : ∀ σ H Q, t' σ H Q → t σ H Q) : PE X e t' := ⟨fun pins s σ H Q I q => h.run pins s σ H Q I (k σ H Q q)⟩
theorem PA.imp {t t' : TA} (h : PA X es t) (k : ∀ σ H Q, t' σ H Q → t σ H Q) : PA X es t' := ⟨fun ps pins s σ H Q I q => h.run ps pins s σ H Q I (k σ H Q q)⟩
theorem PT.imp {t t' : TT} (h : PT X e t) (k : ∀ σ H Q, t' σ H Q → t σ H Q) : PT X e t' := ⟨fun pins s σ H Q I q => h.run pins s σ H Q I (k σ H Q q)⟩

theorem xe_var (i : Nat) {n : Str} (hN : X.N[i]? = some n := by rfl) (hv : Vis X.env.scope n := by first | exact Or.inl rfl | exact Or.inr (Or.inl rfl) | exact Or.inr (Or.inr rfl)) (hd : (n == ("__debug__" : Str)) = false := by decide)
    (hcd : (n == ("__classdict__" : Str)) = false := by decide) : PE X (.Name n pos) (tEv C W (.var i)) := by
  refine PE.imp (pe_var hN hv hd hcd) ?_
  rintro σ H Q ⟨ad, S, ρ, s, r, q⟩
  unfold ev at q
  split at q
  · rename_i v hv
    obtain ⟨w, hw, rw⟩ := r.2 i v hv
    exact ⟨w, hw, q ad H w (Ext.refl s) s rw⟩
  · exact q.elim
theorem xe_cst {v : V} (hp : PE X e (tC v)) (hv : ∀ ad, RV ad v v) : PE X e (tEv C W (.cst v)) := by
  refine PE.imp hp ?_
  rintro σ H Q ⟨ad, S, ρ, s, r, q⟩
  unfold ev at q
  exact q ad H v (Ext.refl s) s (hv ad)
theorem xe_int {i j} : PE X (.Constant (.int i) j pos) (tEv C W (.cst (.int i))) := xe_cst pe_int fun _ => rfl
theorem xe_bl {b j} : PE X (.Constant (.bool b) j pos) (tEv C W (.cst (.bl b))) := xe_cst pe_bl fun _ => rfl
theorem xe_non {j} : PE X (.Constant .none j pos) (tEv C W (.cst .non)) := xe_cst pe_non fun _ => rfl
theorem xe_str {z j} : PE X (.Constant (.str z) j pos) (tEv C W (.cst (.str z))) := xe_cst pe_str fun _ => rfl

theorem xa_nil : PA X [] (tEvs C W .nil) := by
  refine PA.imp pa_nil ?_
  rintro σ H Q ⟨ad, S, ρ, s, r, q⟩
  unfold evs at q
  exact q ad H [] (Ext.refl s) s .nil
theorem xa_cons (ha : PE X e (tEv C W x)) (hr : PA X es (tEvs C W xs)) (hs : starEach (e :: es) X.env = (false, eval e X.env) :: starEach es X.env := by rfl) : PA X (e :: es) (tEvs C W (.cons x xs)) := by
  refine PA.imp (pa_cons ha hr hs) ?_
  rintro σ H Q ⟨ad, S, ρ, s, r, q⟩
  unfold evs at q
  refine ⟨ad, S, ρ, s, r, (tM.bind (R := RV) q).mono ?_⟩
  rintro w H1 ⟨ad1, S1, v, e1, s1, r1, q1⟩
  refine ⟨ad1, S1, ρ, s1, r.ext e1, (tM.bind (R := RVs) q1).mono ?_⟩
  rintro ws H2 ⟨ad2, S2, vs, e2, s2, r2, q2⟩
  exact q2 ad2 H2 _ (Ext.refl s2) s2 (.cons (r1.ext e2) r2)

/-- what a primitive wants -/
def rP (C : CC) (f : Prim) : List V → Hp → VK → Prop := fun ws H Q => ∃ ad S vs, Sim C ad S H ∧ RVs ad vs ws ∧ tM C (fun _ _ _ _ => False) RV ad H [] Q (f vs S)
/-- no primitive raises -/
def NoX (f : Prim) : Prop := ∀ vs S c fs S', f vs S ≠ some (.exc c fs S')
theorem tM.noX {α ω : Type} {W W' : WX} {R : List Addr → α → ω → Prop} {σ σ' : L2.St} {Q : ω → Hp → Prop} {m : M α} (n : ∀ c fs S', m ≠ some (.exc c fs S')) (h : tM C W R ad H σ Q m) : tM C W' R ad H σ' Q m := by
  match m, h with
  | some (.val v S'), h => exact h
  | some (.exc c fs S'), h => exact absurd rfl (n c fs S')
/-- args, then a primitive -/
theorem pn_args {f : Prim} (n : NoX f) {σ : L2.St} {Q : VK} {ρ : Rho} (s : Sim C ad S H) (r : EnvR ad ρ σ) (q : tM C W RV ad H σ Q (ev (.pn f xs) ρ S)) : tEvs C W xs σ H fun ws H1 => rP C f ws H1 Q := by
  unfold ev at q
  refine ⟨ad, S, ρ, s, r, (tM.bind (R := RVs) q).mono ?_⟩
  rintro ws H1 ⟨ad1, S1, vs, e1, s1, r1, q1⟩
  exact ⟨ad1, S1, vs, s1, r1, q1.noX (n vs S1)⟩
/-- two operands -/
def P2 (C : CC) (f : Prim) : R2 := fun u w H Q => rP C f [u, w] H Q
theorem pn_two {f : Prim} (n : NoX f) {σ : L2.St} {Q : VK} {ρ : Rho} (s : Sim C ad S H) (r : EnvR ad ρ σ) (q : tM C W RV ad H σ Q (ev (.pn f (.cons x (.cons y .nil))) ρ S)) : tOp (P2 C f) (tEv C W x) (tEv C W y) σ H Q := by
  unfold ev evs evs evs at q
  have q' : tM C W RV ad H σ Q ((ev x ρ S).bind fun v S1 => (ev y ρ S1).bind fun w S2 => f [v, w] S2) := by
    cases h1 : ev x ρ S with
    | none => rw [h1] at q; exact q
    | some o =>
      rw [h1] at q
      cases o with
      | exc c fs S' => exact q
      | val v S1 =>
        cases h2 : ev y ρ S1 with
        | none => simp only [M.bind, h2] at q; exact q.elim
        | some o2 =>
          cases o2 with
          | exc c fs S' => simp only [M.bind, h2] at q ⊢; exact q
          | val w S2 => simp only [M.bind, h2] at q ⊢; exact q
  refine ⟨ad, S, ρ, s, r, (tM.bind (R := RV) q').mono ?_⟩
  rintro w H1 ⟨ad1, S1, v, e1, s1, r1, q1⟩
  refine ⟨ad1, S1, ρ, s1, r.ext e1, (tM.bind (R := RV) q1).mono ?_⟩
  rintro w2 H2 ⟨ad2, S2, v2, e2, s2, r2, q2⟩
  exact ⟨ad2, S2, [v, v2], s2, .cons (r1.ext e2) (.cons r2 .nil), q2.noX (n _ _)⟩
theorem xe_bin {op : Operator} {f : Prim} (ho : OpR X (binaryOp op) (P2 C f)) (n : NoX f) (ha : PE X e1 (tEv C W x)) (hb : PE X e2 (tEv C W y)) : PE X (.BinOp e1 op e2 pos) (tEv C W (.pn f (.cons x (.cons y .nil)))) :=
  PE.imp (pe_op ho ha hb) fun _ _ _ ⟨_, _, _, s, r, q⟩ => pn_two n s r q
end
end Nx

set_option Elab.async false
set_option linter.all false
set_option maxRecDepth 100000
set_option autoImplicit false
namespace Nx
open PySem L2
variable {C : CC} {ad ad1 ad' : List Addr} {H H1 H' : Hp} {S S1 S' : Sto} {a p : Addr}
variable {X : Cx} {W : WX} {e e1 e2 e3 : PySem.Expr} {es : List PySem.Expr} {x y z : Ex} {xs : Exs} {pos : Pos}

theorem RV.bl {b : Bool} {w : V} (h : RV ad (.bl b) w) : w = .bl b := h
theorem RV.int {b : Int} {w : V} (h : RV ad (.int b) w) : w = .int b := h
theorem RV.str {b : Str} {w : V} (h : RV ad (.str b) w) : w = .str b := h

/-! ### one operand -/
def P1 (C : CC) (f : Prim) : V → Hp → VK → Prop := fun u H Q => rP C f [u] H Q
theorem pn_one {f : Prim} (n : NoX f) {σ : L2.St} {Q : VK} {ρ : Rho} (s : Sim C ad S H) (r : EnvR ad ρ σ) (q : tM C W RV ad H σ Q (ev (.pn f (.cons x .nil)) ρ S)) : tUn (P1 C f) (tEv C W x) σ H Q := by
  unfold ev evs evs at q
  have q' : tM C W RV ad H σ Q ((ev x ρ S).bind fun v S1 => f [v] S1) := by
    cases h1 : ev x ρ S with
    | none => rw [h1] at q; exact q
    | some o =>
      rw [h1] at q
      cases o with
      | exc c fs S' => exact q
      | val v S1 => exact q
  refine ⟨ad, S, ρ, s, r, (tM.bind (R := RV) q').mono ?_⟩
  rintro w H1 ⟨ad1, S1, v, e1, s1, r1, q1⟩
  exact ⟨ad1, S1, [v], s1, .cons r1 .nil, q1.noX (n _ _)⟩
theorem xe_un {op : UnaryOp} {f : Prim} (ho : UnR X (unaryOp op) (P1 C f)) (n : NoX f) (ha : PE X e (tEv C W x)) : PE X (.UnaryOp op e pos) (tEv C W (.pn f (.cons x .nil))) :=
  PE.imp (pe_un ho ha) fun _ _ _ ⟨_, _, _, s, r, q⟩ => pn_one n s r q

/-! ### tests and choices -/
theorem xt_val (h : PE X e (tEv C W x)) (he : ∀ whole, isTrue e X.env whole = (do let v ← whole; standAt e.pos; holding [v] (truthy v)) := by intro _; rfl) : PT X e (tTs C W x) := pt_val h he
theorem xt_cmp {op : CmpOp} {f : Prim} (ho : OpR X (compareOp op) (P2 C f)) (n : NoX f) (ha : PE X e1 (tEv C W x)) (hb : PE X e2 (tEv C W y)) (hm : behindInMarks op e2 = false := by first | exact nomark _ | rfl) :
    PT X (.Compare e1 [op] [e2] pos) (tTs C W (.pn f (.cons x (.cons y .nil)))) :=
  PT.imp (pt_cmpR ho ha hb hm) fun _ _ _ ⟨_, _, _, s, r, q⟩ => pn_two n s r q
theorem xe_cmp {op : CmpOp} {f : Prim} (ho : OpR X (compareOp op) (P2 C f)) (n : NoX f) (ha : PE X e1 (tEv C W x)) (hb : PE X e2 (tEv C W y)) (hm : behindInMarks op e2 = false := by first | exact nomark _ | rfl) :
    PE X (.Compare e1 [op] [e2] pos) (tEv C W (.pn f (.cons x (.cons y .nil)))) :=
  PE.imp (pe_cmpR ho ha hb hm) fun _ _ _ ⟨_, _, _, s, r, q⟩ => pn_two n s r q
theorem not_of_ts : ∀ {σ : L2.St} {Q : Bool → Hp → Prop}, True := trivial
def pNot : Prim := fun vs S => match vs with
  | [.bl b] => some (.val (.bl !b) S)
  | _ => none
theorem noX_not : NoX pNot := by
  intro vs S c fs S' h
  unfold pNot at h
  split at h <;> cases h
theorem xe_not (ha : PE X e (tEv C W x)) : PE X (.UnaryOp .Not e pos) (tEv C W (.pn pNot (.cons x .nil))) := by
  refine PE.imp (pe_not ha) ?_
  rintro σ H Q ⟨ad, S, ρ, s, r, q⟩
  obtain ⟨ad, S, ρ, s, r, q⟩ := pn_one noX_not s r q
  refine ⟨ad, S, ρ, s, r, q.mono ?_⟩
  rintro w H1 ⟨ad1, S1, vs, s1, r1, q1⟩
  cases r1 with
  | cons r2 r3 =>
    cases r3
    rename_i v
    cases v with
    | bl b => cases RV.bl r2; exact ⟨b, rfl, q1 _ _ _ (Ext.refl s1) s1 rfl⟩
    | _ => exact q1.elim
theorem xt_not (ha : PT X e (tTs C W x)) : PT X (.UnaryOp .Not e pos) (tTs C W (.pn pNot (.cons x .nil))) := by
  refine PT.imp (pt_not ha) ?_
  rintro σ H Q ⟨ad, S, ρ, s, r, q⟩
  obtain ⟨ad, S, ρ, s, r, q⟩ := pn_one noX_not s r q
  refine ⟨ad, S, ρ, s, r, q.mono ?_⟩
  rintro w H1 ⟨ad1, S1, vs, s1, r1, q1⟩
  cases r1 with
  | cons r2 r3 =>
    cases r3
    rename_i v
    cases v with
    | bl b =>
      cases RV.bl r2
      obtain ⟨k, e, q2⟩ := q1 _ _ _ (Ext.refl s1) s1 rfl
      cases e
      exact ⟨b, rfl, q2⟩
    | _ => exact q1.elim
section
variable {b : PySem.Expr} {rest : List PySem.Expr}
theorem and_step {σ : L2.St} {Q : VK} {ρ : Rho} (s : Sim C ad S H) (r : EnvR ad ρ σ) (q : tM C W RV ad H σ Q (ev (.and x y) ρ S)) :
    tEv C W x σ H fun v H1 => ∃ c, v = .bl c ∧ if c = true then tEv C W y σ H1 Q else Q (.bl false) H1 := by
  unfold ev at q
  refine ⟨ad, S, ρ, s, r, (tM.bind (R := RV) q).mono ?_⟩
  rintro w H1 ⟨ad1, S1, v, e1, s1, r1, q1⟩
  cases v with
  | bl b =>
    cases RV.bl r1
    cases b with
    | true => exact ⟨true, rfl, by rw [if_pos rfl]; exact ⟨ad1, S1, ρ, s1, r.ext e1, q1⟩⟩
    | false => exact ⟨false, rfl, by rw [if_neg Bool.false_ne_true]; exact q1 _ _ _ (Ext.refl s1) s1 rfl⟩
  | _ => exact q1.elim
theorem or_step {σ : L2.St} {Q : VK} {ρ : Rho} (s : Sim C ad S H) (r : EnvR ad ρ σ) (q : tM C W RV ad H σ Q (ev (.or x y) ρ S)) :
    tEv C W x σ H fun v H1 => ∃ c, v = .bl c ∧ if c = true then Q (.bl true) H1 else tEv C W y σ H1 Q := by
  unfold ev at q
  refine ⟨ad, S, ρ, s, r, (tM.bind (R := RV) q).mono ?_⟩
  rintro w H1 ⟨ad1, S1, v, e1, s1, r1, q1⟩
  cases v with
  | bl b =>
    cases RV.bl r1
    cases b with
    | false => exact ⟨false, rfl, by rw [if_neg Bool.false_ne_true]; exact ⟨ad1, S1, ρ, s1, r.ext e1, q1⟩⟩
    | true => exact ⟨true, rfl, by rw [if_pos rfl]; exact q1 _ _ _ (Ext.refl s1) s1 rfl⟩
  | _ => exact q1.elim
theorem xe_and (ha : PE X e (tEv C W x)) (hb : PE X (.BoolOp .And (b :: rest) pos) (tEv C W y)) : PE X (.BoolOp .And (e :: b :: rest) pos) (tEv C W (.and x y)) :=
  PE.imp (pe_and ha hb) fun _ _ _ ⟨_, _, _, s, r, q⟩ => and_step s r q
theorem xe_or (ha : PE X e (tEv C W x)) (hb : PE X (.BoolOp .Or (b :: rest) pos) (tEv C W y)) : PE X (.BoolOp .Or (e :: b :: rest) pos) (tEv C W (.or x y)) :=
  PE.imp (pe_or ha hb) fun _ _ _ ⟨_, _, _, s, r, q⟩ => or_step s r q
theorem xe_one {op} (h : PE X e (tEv C W x)) : PE X (.BoolOp op [e] pos) (tEv C W x) := pe_one h
theorem tM.q {α ω : Type} {R : List Addr → α → ω → Prop} {σ : L2.St} {Q Q' : ω → Hp → Prop} {m : M α} (h : tM C W R ad H σ Q m) (k : ∀ w H', Q w H' → Q' w H') : tM C W R ad H σ Q' m := h.mono k
theorem tEv.mono {σ : L2.St} {Q Q' : VK} (h : tEv C W x σ H Q) (k : ∀ w H', Q w H' → Q' w H') : tEv C W x σ H Q' := by
  obtain ⟨ad, S, ρ, s, r, q⟩ := h; exact ⟨ad, S, ρ, s, r, q.mono k⟩
theorem PW.imp {t t' : TT} (h : PW X e t) (k : ∀ σ H Q, t' σ H Q → t σ H Q) : PW X e t' := ⟨fun wh pins s σ H Q I q => h.run wh pins s σ H Q I (k σ H Q q)⟩
theorem xw_and1 (ha : PT X e (tTs C W x)) : PW X (.BoolOp .And [e] pos) (tTs C W x) := pw_and1 ha
theorem xw_or1 (ha : PT X e (tTs C W x)) : PW X (.BoolOp .Or [e] pos) (tTs C W x) := pw_or1 ha
theorem xw_and (ha : PT X e (tTs C W x)) (hb : PW X (.BoolOp .And (b :: rest) pos) (tTs C W y)) : PW X (.BoolOp .And (e :: b :: rest) pos) (tTs C W (.and x y)) := by
  refine PW.imp (pw_and ha hb) ?_
  rintro σ H Q ⟨ad, S, ρ, s, r, q⟩
  refine (and_step s r q).mono ?_
  rintro w H1 ⟨c, rfl, h⟩
  refine ⟨c, rfl, ?_⟩
  cases c with
  | true => rw [if_pos rfl] at h ⊢; exact h
  | false =>
    rw [if_neg Bool.false_ne_true] at h ⊢
    obtain ⟨k, e, q⟩ := h
    cases e; exact q
theorem xw_or (ha : PT X e (tTs C W x)) (hb : PW X (.BoolOp .Or (b :: rest) pos) (tTs C W y)) : PW X (.BoolOp .Or (e :: b :: rest) pos) (tTs C W (.or x y)) := by
  refine PW.imp (pw_or ha hb) ?_
  rintro σ H Q ⟨ad, S, ρ, s, r, q⟩
  refine (or_step s r q).mono ?_
  rintro w H1 ⟨c, rfl, h⟩
  refine ⟨c, rfl, ?_⟩
  cases c with
  | false => rw [if_neg Bool.false_ne_true] at h ⊢; exact h
  | true =>
    rw [if_pos rfl] at h ⊢
    obtain ⟨k, e, q⟩ := h
    cases e; exact q
end
theorem xe_ite (hc : PT X e (tTs C W x)) (ha : PE X e1 (tEv C W y)) (hb : PE X e2 (tEv C W z)) : PE X (.IfExp e e1 e2 pos) (tEv C W (.ite x y z)) := by
  refine PE.imp (pe_ifExp hc ha hb) ?_
  rintro σ H Q ⟨ad, S, ρ, s, r, q⟩
  unfold ev at q
  refine ⟨ad, S, ρ, s, r, (tM.bind (R := RV) q).mono ?_⟩
  rintro w H1 ⟨ad1, S1, v, e1, s1, r1, q1⟩
  cases v with
  | bl b =>
    cases RV.bl r1
    cases b with
    | false => exact ⟨false, rfl, iteF ⟨ad1, S1, ρ, s1, r.ext e1, q1⟩⟩
    | true => exact ⟨true, rfl, iteT ⟨ad1, S1, ρ, s1, r.ext e1, q1⟩⟩
  | _ => exact q1.elim
/-- a op1 b op2 c -/
theorem chain_step {f g : Prim} (nf : NoX f) (ng : NoX g) {σ : L2.St} {Q : VK} {ρ : Rho} (s : Sim C ad S H) (r : EnvR ad ρ σ) (q : tM C W RV ad H σ Q (ev (.chain f g x y z) ρ S)) :
    tChain (P2 C f) (P2 C g) (tEv C W x) (tEv C W y) (tEv C W z) σ H Q := by
  unfold ev at q
  refine ⟨ad, S, ρ, s, r, (tM.bind (R := RV) q).mono ?_⟩
  rintro w H1 ⟨ad1, S1, v, e1, s1, r1, q1⟩
  refine ⟨ad1, S1, ρ, s1, r.ext e1, (tM.bind (R := RV) q1).mono ?_⟩
  rintro w2 H2 ⟨ad2, S2, v2, e2, s2, r2, q2⟩
  refine ⟨ad2, S2, [v, v2], s2, .cons (r1.ext e2) (.cons r2 .nil), ((tM.bind (R := RV) q2).noX (σ' := []) (nf _ _)).mono ?_⟩
  rintro w3 H3 ⟨ad3, S3, v3, e3, s3, r3, q3⟩
  cases v3 with
  | bl b =>
    cases RV.bl r3
    refine ⟨b, rfl, ?_⟩
    cases b with
    | false => rw [if_neg Bool.false_ne_true]; exact q3 _ _ _ (Ext.refl s3) s3 rfl
    | true =>
      rw [if_pos rfl]
      refine ⟨ad3, S3, ρ, s3, (r.ext e1).ext (e2.trans e3), (tM.bind (R := RV) q3).mono ?_⟩
      rintro w4 H4 ⟨ad4, S4, v4, e4, s4, r4, q4⟩
      exact ⟨ad4, S4, [v2, v4], s4, .cons (r2.ext (e3.trans e4)) (.cons r4 .nil), q4.noX (ng _ _)⟩
  | _ => exact q3.elim
theorem xe_chain {op op' : CmpOp} {f g : Prim} (ho : OpR X (compareOp op) (P2 C f)) (ho' : OpR X (compareOp op') (P2 C g)) (nf : NoX f) (ng : NoX g) (ha : PE X e1 (tEv C W x)) (hb : PE X e2 (tEv C W y)) (hc : PE X e3 (tEv C W z))
    (hm : lastMarks [op, op'] [e2, e3] = false := by with_unfolding_all rfl) : PE X (.Compare e1 [op, op'] [e2, e3] pos) (tEv C W (.chain f g x y z)) :=
  PE.imp (pe_chain ho ho' ha hb hc hm) fun _ _ _ ⟨_, _, _, s, r, q⟩ => chain_step nf ng s r q
theorem xt_chain {op op' : CmpOp} {f g : Prim} (ho : OpR X (compareOp op) (P2 C f)) (ho' : OpR X (compareOp op') (P2 C g)) (nf : NoX f) (ng : NoX g) (ha : PE X e1 (tEv C W x)) (hb : PE X e2 (tEv C W y)) (hc : PE X e3 (tEv C W z))
    (hm : lastMarks [op, op'] [e2, e3] = false := by with_unfolding_all rfl) : PT X (.Compare e1 [op, op'] [e2, e3] pos) (tTs C W (.chain f g x y z)) :=
  PT.imp (pt_chain ho ho' ha hb hc hm) fun _ _ _ ⟨_, _, _, s, r, q⟩ => chain_step nf ng s r q

/-! ### patterns -/
theorem wipe_get : ∀ (σ : L2.St) (vs : List Nat) (j : Nat), (wipe σ vs)[j]? = if j ∈ vs then (σ[j]?).map (fun _ => none) else σ[j]?
  | σ, [], j => by simp [wipe]
  | σ, v :: vs, j => by
    unfold wipe
    by_cases e : v = j
    · subst e
      rw [if_pos List.mem_cons_self]
      by_cases hl : v < σ.length
      · rw [List.getElem?_set_self (by rw [wipe_length]; exact hl), List.getElem?_eq_getElem hl]; rfl
      · rw [List.getElem?_eq_none (by simpa [wipe_length] using hl), List.getElem?_eq_none (by simpa using hl)]; rfl
    · rw [List.getElem?_set_ne e, wipe_get σ vs j]
      have : (j ∈ v :: vs) ↔ (j ∈ vs) := by simp [Ne.symm e]
      by_cases hj : j ∈ vs
      · rw [if_pos hj, if_pos (this.mpr hj)]
      · rw [if_neg hj, if_neg (fun z => hj (this.mp z))]
theorem wipeR_eq (ρ : Rho) : ∀ vs, wipeR ρ vs = wipe ρ vs
  | [] => rfl
  | v :: vs => by unfold wipeR wipe; rw [wipeR_eq ρ vs]
theorem EnvR.wipe {ρ : Rho} {σ : L2.St} (r : EnvR ad ρ σ) (vs : List Nat) : EnvR ad (wipeR ρ vs) (L2.wipe σ vs) := by
  rw [wipeR_eq]
  refine ⟨by rw [wipe_length, wipe_length]; exact r.1, fun i v h => ?_⟩
  rw [wipe_get] at h ⊢
  by_cases hi : i ∈ vs
  · rw [if_pos hi] at h
    cases q : ρ[i]? with
    | none => rw [q] at h; cases h
    | some o => rw [q] at h; cases h
  · rw [if_neg hi] at h ⊢
    exact r.2 i v h
/-- the two differ at the places ls alone -/
def Off (ls : List Nat) (σ σ' : L2.St) : Prop := ∀ vs, (∀ i ∈ ls, i ∈ vs) → wipe σ' vs = wipe σ vs
theorem Off.set (σ : L2.St) (i : Nat) (x : Option V) : Off [i] σ (σ.set i x) := fun vs h => by
  apply List.ext_getElem?
  intro j
  rw [wipe_get, wipe_get]
  have hi := h i (by simp)
  by_cases hj : j ∈ vs
  · rw [if_pos hj, if_pos hj]
    by_cases e : i = j
    · subst e
      by_cases hl : i < σ.length
      · rw [List.getElem?_set_self hl, List.getElem?_eq_getElem hl]; rfl
      · rw [List.getElem?_eq_none (by simpa using hl), List.getElem?_eq_none (by simpa using hl)]
    · rw [List.getElem?_set_ne e]
  · rw [if_neg hj, if_neg hj]
    have nij : i ≠ j := fun z => hj (by rw [← z]; exact hi)
    rw [List.getElem?_set_ne nij]
mutual
def Pat.slots : Pat → List Nat
  | .nm i => [i]
  | .tp ps => ps.slots
def Pats.slots : Pats → List Nat
  | .nil => []
  | .cons p ps => p.slots ++ ps.slots
end
def tPat (C : CC) (P : Pat) : TG := fun w σ H K => ∃ ad S ρ v, Sim C ad S H ∧ EnvR ad ρ σ ∧ RV ad v w ∧ match P.bind v ρ S with
  | none => False
  | some ρ' => ∀ σ', EnvR ad ρ' σ' → Off P.slots σ σ' → K σ' H
def tPats (C : CC) (P : Pats) : TGs := fun ws σ H K => ∃ ad S ρ vs, Sim C ad S H ∧ EnvR ad ρ σ ∧ RVs ad vs ws ∧ match P.binds vs ρ S with
  | none => False
  | some ρ' => ∀ σ', EnvR ad ρ' σ' → Off P.slots σ σ' → K σ' H
theorem PG.imp {t t' : TG} {tg : PySem.Expr} (h : PG X tg t) (k : ∀ v σ H Q, t' v σ H Q → t v σ H Q) : PG X tg t' := ⟨fun pins s σ H v u Q I r q => h.run pins s σ H v u Q I r (k v σ H Q q)⟩
theorem PGs.imp {t t' : TGs} {tg : List PySem.Expr} (h : PGs X tg t) (k : ∀ v σ H Q, t' v σ H Q → t v σ H Q) : PGs X tg t' := ⟨fun pins s σ H v u Q I r q => h.run pins s σ H v u Q I r (k v σ H Q q)⟩
theorem xg_name {i : Nat} {n : Str} (hN : X.N.Nodup) (hi : X.N[i]? = some n) (hx : Loc X.env.scope n) (hf : X.fn n = true ∨ X.env.scope.names.lookup n = some .local := by first | exact .inl rfl | exact .inr rfl | assumption) : PG X (.Name n pos) (tPat C (.nm i)) := by
  refine PG.imp (pg_name hN hi hx hf) ?_
  rintro w σ H K ⟨ad, S, ρ, v, s, r, rv, q⟩
  exact q _ (r.set i rv) (Off.set σ i _)
theorem xgs_nil : PGs X [] (tPats C .nil) := by
  refine PGs.imp pgs_nil ?_
  rintro w σ H K ⟨ad, S, ρ, v, s, r, rv, q⟩
  cases rv with
  | nil => exact ⟨rfl, q _ r fun _ _ => rfl⟩
  | cons r1 r2 => exact q.elim
theorem xgs_cons {P : Pat} {Ps : Pats} (h1 : PG X e (tPat C P)) (h2 : PGs X es (tPats C Ps))
    (hs : (assignEach (e :: es) X.env).map (·.2) = assign e X.env :: (assignEach es X.env).map (·.2) := by rfl) : PGs X (e :: es) (tPats C (.cons P Ps)) := by
  refine PGs.imp (pgs_cons h1 h2 hs) ?_
  rintro w σ H K ⟨ad, S, ρ, v, s, r, rv, q⟩
  cases rv with
  | nil => exact q.elim
  | cons r1 r2 =>
    rename_i x w xs ws
    refine ⟨_, _, rfl, ad, S, ρ, x, s, r, r1, ?_⟩
    unfold Pats.binds at q
    cases h : P.bind x ρ S with
    | none => rw [h] at q; exact q.elim
    | some ρ' =>
      rw [h] at q
      refine fun σ' r' o' => ⟨ad, S, ρ', xs, s, r', r2, ?_⟩
      cases h2 : Ps.binds xs ρ' S with
      | none => simp only [h2] at q
      | some ρ2 =>
        simp only [h2] at q
        refine fun σ2 r2 o2 => q σ2 r2 fun vs hv => ?_
        rw [o2 vs fun i hi => hv i (by unfold Pats.slots; exact List.mem_append_right _ hi), o' vs fun i hi => hv i (by unfold Pats.slots; exact List.mem_append_left _ hi)]
theorem Paired.len {α β : Type} {R : α → β → Prop} {xs : List α} {ys : List β} (h : Paired R xs ys) : xs.length = ys.length := PySem.Paired.length h
def Pats.len : Pats → Nat
  | .nil => 0
  | .cons _ ps => ps.len + 1
theorem Pats.binds_len : ∀ (Ps : Pats) (xs : List V) (ρ ρ' : Rho), Ps.binds xs ρ S = some ρ' → xs.length = Ps.len
  | .nil, [], _, _, _ => rfl
  | .nil, _ :: _, _, _, h => nomatch h
  | .cons _ _, [], _, _, h => nomatch h
  | .cons P ps, x :: xs, ρ, ρ', h => by
    unfold Pats.binds at h
    split at h
    · have := Pats.binds_len ps xs _ _ h
      simp [Pats.len, this]
    · cases h
theorem xg_tup {Ps : Pats} {k : Nat} (hc : X.calm = true) (h : PGs X es (tPats C Ps)) (hn : (assignEach es X.env).length = Ps.len := by rfl) (hst : (assignEach es X.env).findIdx? (·.1) = none := by rfl) :
    PG X (.Tuple es k pos) (tPat C (.tp Ps)) := by
  refine ⟨fun pins sh σ H w u K I rl hh => ?_⟩
  obtain ⟨ad, S, ρ, v, s, r, rv, q⟩ := hh
  cases v with
  | ref n =>
    obtain ⟨b, hb, rfl⟩ := rv
    unfold Pat.bind at q
    cases o : S[n]? with
    | none => rw [o] at q; exact q.elim
    | some ob =>
      rw [o] at q
      have fin : ∀ (xs ws : List V), RVs ad xs ws → (match Ps.binds xs ρ S with
          | none => False
          | some ρ' => ∀ σ', EnvR ad ρ' σ' → Off Ps.slots σ σ' → K σ' H) → ws.length = Ps.len ∧ tPats C Ps ws σ H K := fun xs ws rw q => by
        refine ⟨?_, ad, S, ρ, xs, s, r, rw, q⟩
        cases hq : Ps.binds xs ρ S with
        | none => simp only [hq] at q
        | some ρ' => rw [← Pats.binds_len Ps xs ρ ρ' hq]; exact (Paired.len rw).symm
      cases ob with
      | tup xs =>
        obtain ⟨oo, ws, rw, hw, _⟩ := s.ob _ _ _ o hb
        exact (pg_tup hc h hn hst).run pins sh σ H _ u K I rl ⟨b, ws, rfl, .inl (.inr ⟨oo, hw⟩), fin xs ws rw q⟩
      | tpl xs =>
        obtain ⟨ws, rw, hw⟩ := s.ob _ _ _ o hb
        exact (pg_tup hc h hn hst).run pins sh σ H _ u K I rl ⟨b, ws, rfl, .inl (.inl hw), fin xs ws rw q⟩
      | lst xs =>
        obtain ⟨ws, rw, hw⟩ := s.ob _ _ _ o hb
        exact (pg_lst hc h hn hst).run pins sh σ H _ u K I rl ⟨b, ws, rfl, .inl (.inl hw), fin xs ws rw q⟩
      | _ => exact q.elim
  | _ => exact q.elim
end Nx

set_option Elab.async false
set_option linter.all false
set_option maxRecDepth 100000
set_option autoImplicit false
namespace Nx
open PySem L2
variable {C : CC} {ad ad1 ad' : List Addr} {H H1 H' : Hp} {S S1 S' : Sto} {a p : Addr}
variable {X : Cx} {W : WX} {e e1 e2 e3 : PySem.Expr} {es : List PySem.Expr} {x y z : Ex} {xs : Exs} {pos : Pos}
variable {st : Stmt} {rest : List Stmt} {sx : Sx} {ss : Sxs}
theorem PS.imp {t t' : TS} (h : PS X st t) (k : ∀ D σ H, t' D σ H → t D σ H) : PS X st t' := ⟨fun pins s σ H D I q => h.run pins s σ H D I (k D σ H q)⟩
theorem PSs.imp {t t' : TS} (h : PSs X rest t) (k : ∀ D σ H, t' D σ H → t D σ H) : PSs X rest t' := ⟨fun pins s σ H D I q => h.run pins s σ H D I (k D σ H q)⟩
theorem tSO.ends {D D' : Ends} {m : MS} (h : tSO C W D ad H m) (kn : ∀ σ H, D.nx σ H → D'.nx σ H) (kb : ∀ σ H, D.bk σ H → D'.bk σ H) (kc : ∀ σ H, D.ct σ H → D'.ct σ H) (kr : ∀ v H, D.rt v H → D'.rt v H) : tSO C W D' ad H m := by
  match m, h with
  | some (.nx ρ S'), h => exact fun ad' H' w x s r => kn _ _ (h ad' H' w x s r)
  | some (.bk ρ S'), h => exact fun ad' H' w x s r => kb _ _ (h ad' H' w x s r)
  | some (.ct ρ S'), h => exact fun ad' H' w x s r => kc _ _ (h ad' H' w x s r)
  | some (.rt ρ S'), h => exact fun ad' H' w x s r => kr _ _ (h ad' H' w x s r)
  | some (.exc c fs ρ S'), h => exact h

theorem xss_nil : PSs X [] (tExs C W .nil) := by
  refine PSs.imp pss_nil ?_
  rintro D σ H ⟨ad, S, ρ, s, r, q⟩
  unfold exs at q
  exact q ad H σ (Ext.refl s) s r
theorem xss_cons (h1 : PS X st (tEx C W sx)) (h2 : PSs X rest (tExs C W ss)) : PSs X (st :: rest) (tExs C W (.cons sx ss)) := by
  refine PSs.imp (pss_cons h1 h2) ?_
  rintro D σ H ⟨ad, S, ρ, s, r, q⟩
  unfold exs at q
  refine ⟨ad, S, ρ, s, r, ?_⟩
  cases o : ex sx ρ S with
  | none => rw [o] at q; exact q
  | some so =>
    rw [o] at q
    cases so with
    | nx ρ' S' =>
      intro ad' H' σ' x s' r'
      exact ⟨ad', S', ρ', s', r', q.step x⟩
    | _ => exact q
/-- `x = e`, `(a, b) = e` -/
theorem xs_asg {tg : PySem.Expr} {P : Pat} (he : PE X e (tEv C W x)) (hg : PG X tg (tPat C P)) (hs : swapsWithSole [tg] e pos.line X.env = pure false := by rfl) (hw : swappedStores [tg] e X.env = pure none := by rfl)
    (h1 : (assignEach [tg] X.env).map (·.2) = [assign tg X.env] := by rfl) : PS X (.Assign [tg] e pos) (tEx C W (.asg P x)) := by
  refine PS.imp (ps_asg he hg hs hw h1) ?_
  rintro D σ H ⟨ad, S, ρ, s, r, q⟩
  unfold ex at q
  refine ⟨ad, S, ρ, s, r, (tM.toS (R := RV) r q).mono ?_⟩
  rintro w H1 ⟨ad1, S1, v, e1, s1, r1, q1⟩
  refine ⟨ad1, S1, ρ, v, s1, r.ext e1, r1, ?_⟩
  cases hb : P.bind v ρ S1 with
  | none => simp only [hb] at q1; exact q1
  | some ρ' =>
    simp only [hb] at q1
    exact fun σ' r' _ => q1 ad1 H1 σ' (Ext.refl s1) s1 r'
theorem xs_set {i : Nat} {n : Str} {pos' : Pos} (hN : X.N.Nodup) (hi : X.N[i]? = some n) (hx : Loc X.env.scope n) (he : PE X e (tEv C W x)) (hs : swapsWith e (some (.Name n pos')) pos.line X.env = pure false := by rfl)
    (hf : X.fn n = true ∨ X.env.scope.names.lookup n = some .local := by first | exact .inl rfl | exact .inr rfl) : PS X (.Assign [.Name n pos'] e pos) (tEx C W (.asg (.nm i) x)) := by
  refine PS.imp (ps_set hN hi hx he hs hf) ?_
  rintro D σ H ⟨ad, S, ρ, s, r, q⟩
  unfold ex at q
  refine ⟨ad, S, ρ, s, r, (tM.toS (R := RV) r q).mono ?_⟩
  rintro w H1 ⟨ad1, S1, v, e1, s1, r1, q1⟩
  exact q1 ad1 H1 _ (Ext.refl s1) s1 ((r.ext e1).set i r1)
theorem xs_par {i j : Nat} {n m : Str} {px py pt : Pos} {kt k2 pt2} (hc : X.calm = true) (hN : X.N.Nodup) (hi : X.N[i]? = some n) (hj : X.N[j]? = some m) (hij : i ≠ j)
    (hx : X.env.scope.names.lookup n = some .local) (hy : X.env.scope.names.lookup m = some .local) (ha : PA X [e1, e2] (tEvs C W (.cons x (.cons y .nil))))
    (hw : swappedStores [.Tuple [.Name n px, .Name m py] kt pt] (.Tuple [e1, e2] k2 pt2) X.env = pure (some [n, m]))
    (hs : swapsWithSole [.Tuple [.Name n px, .Name m py] kt pt] (.Tuple [e1, e2] k2 pt2) pos.line X.env = pure false := by rfl) :
    PS X (.Assign [.Tuple [.Name n px, .Name m py] kt pt] (.Tuple [e1, e2] k2 pt2) pos) (tEx C W (.par i j x y)) := by
  refine PS.imp (ps_par hc hN hi hj hij hx hy ha hw hs) ?_
  rintro D σ H ⟨ad, S, ρ, s, r, q⟩
  unfold ex at q
  refine ⟨ad, S, ρ, s, r, (tM.toS (R := RVs) r q).mono ?_⟩
  rintro ws H1 ⟨ad1, S1, vs, e1, s1, r1, q1⟩
  match vs, ws, r1, q1 with
  | [v, u], _, .cons ra (.cons rb .nil), q1 => exact ⟨_, _, rfl, q1 ad1 H1 _ (Ext.refl s1) s1 (((r.ext e1).set i ra).set j rb)⟩
theorem xs_par3 {i j l : Nat} {n m o : Str} {px py pz pt : Pos} {kt k2 pt2} (hc : X.calm = true) (hN : X.N.Nodup) (hi : X.N[i]? = some n) (hj : X.N[j]? = some m) (hl : X.N[l]? = some o) (hij : i ≠ j) (hil : i ≠ l) (hjl : j ≠ l)
    (hx : X.env.scope.names.lookup n = some .local) (hy : X.env.scope.names.lookup m = some .local) (hz : X.env.scope.names.lookup o = some .local) (ha : PA X [e1, e2, e3] (tEvs C W (.cons x (.cons y (.cons z .nil)))))
    (hw : swappedStores [.Tuple [.Name n px, .Name m py, .Name o pz] kt pt] (.Tuple [e1, e2, e3] k2 pt2) X.env = pure (some [n, m, o]))
    (hs : swapsWithSole [.Tuple [.Name n px, .Name m py, .Name o pz] kt pt] (.Tuple [e1, e2, e3] k2 pt2) pos.line X.env = pure false := by rfl) :
    PS X (.Assign [.Tuple [.Name n px, .Name m py, .Name o pz] kt pt] (.Tuple [e1, e2, e3] k2 pt2) pos) (tEx C W (.par3 i j l x y z)) := by
  refine PS.imp (ps_par3 hc hN hi hj hl hij hil hjl hx hy hz ha hw hs) ?_
  rintro D σ H ⟨ad, S, ρ, s, r, q⟩
  unfold ex at q
  refine ⟨ad, S, ρ, s, r, (tM.toS (R := RVs) r q).mono ?_⟩
  rintro ws H1 ⟨ad1, S1, vs, e1, s1, r1, q1⟩
  match vs, ws, r1, q1 with
  | [v, u, t], _, .cons ra (.cons rb (.cons rc .nil)), q1 => exact ⟨_, _, _, rfl, q1 ad1 H1 _ (Ext.refl s1) s1 ((((r.ext e1).set i ra).set j rb).set l rc)⟩
theorem xs_expr (he : PE X e (tEv C W x)) (hs : swapsWith e none pos.line X.env = pure false := by rfl) : PS X (.Expr e pos) (tEx C W (.expr x)) := by
  refine PS.imp (ps_expr he hs) ?_
  rintro D σ H ⟨ad, S, ρ, s, r, q⟩
  unfold ex at q
  refine ⟨ad, S, ρ, s, r, (tM.toS (R := RV) r q).mono ?_⟩
  rintro w H1 ⟨ad1, S1, v, e1, s1, r1, q1⟩
  exact q1 ad1 H1 σ (Ext.refl s1) s1 (r.ext e1)
theorem xs_ret (he : PE X e (tEv C W x)) : PS X (.Return (some e) pos) (tEx C W (.ret x)) := by
  refine PS.imp (ps_ret he) ?_
  rintro D σ H ⟨ad, S, ρ, s, r, q⟩
  unfold ex at q
  refine ⟨ad, S, ρ, s, r, (tM.toS (R := RV) r q).mono ?_⟩
  rintro w H1 ⟨ad1, S1, v, e1, s1, r1, q1⟩
  exact q1 ad1 H1 w (Ext.refl s1) s1 r1
theorem xs_retN : PS X (.Return none pos) (tEx C W .retN) := by
  refine PS.imp ps_retN ?_
  rintro D σ H ⟨ad, S, ρ, s, r, q⟩
  unfold ex at q
  exact q ad H _ (Ext.refl s) s rfl
theorem xs_pass : PS X (.Pass pos) (tEx C W .pass) := by
  refine PS.imp ps_pass ?_
  rintro D σ H ⟨ad, S, ρ, s, r, q⟩
  unfold ex at q
  exact q ad H σ (Ext.refl s) s r
theorem xs_brk : PS X (.Break pos) (tEx C W .brk) := by
  refine PS.imp ps_break ?_
  rintro D σ H ⟨ad, S, ρ, s, r, q⟩
  unfold ex at q
  exact q ad H σ (Ext.refl s) s r
theorem xs_cont : PS X (.Continue pos) (tEx C W .cont) := by
  refine PS.imp ps_continue ?_
  rintro D σ H ⟨ad, S, ρ, s, r, q⟩
  unfold ex at q
  exact q ad H σ (Ext.refl s) s r
theorem xs_doc {t j pos'} : PS X (.Expr (.Constant (.str t) j pos) pos') (tEx C W .pass) := by
  refine PS.imp ps_doc ?_
  rintro D σ H ⟨ad, S, ρ, s, r, q⟩
  unfold ex at q
  exact q ad H σ (Ext.refl s) s r
theorem xs_if {b1 b2 : List Stmt} {s1 s2 : Sxs} (hc : PT X e (tTs C W x)) (ha : PSs X b1 (tExs C W s1)) (hb : PSs X b2 (tExs C W s2)) : PS X (.If e b1 b2 pos) (tEx C W (.ite x s1 s2)) := by
  refine PS.imp (ps_if hc ha hb) ?_
  rintro D σ H ⟨ad, S, ρ, s, r, q⟩
  unfold ex at q
  refine ⟨ad, S, ρ, s, r, (tM.toS (R := RV) r q).mono ?_⟩
  rintro w H1 ⟨ad1, S1, v, e1, s1, r1, q1⟩
  cases v with
  | bl b =>
    cases RV.bl r1
    cases b with
    | false => exact ⟨false, rfl, iteF ⟨ad1, S1, ρ, s1, r.ext e1, q1⟩⟩
    | true => exact ⟨true, rfl, iteT ⟨ad1, S1, ρ, s1, r.ext e1, q1⟩⟩
  | _ => exact q1.elim

/-! ### loops -/
/-- an iterator J does what the walk f from st does (in the store whose addresses begin with ad0) -/
structure ItOk (C : CC) (ad0 : List Addr) (f : ItP) (st : List V) (J : It) : Prop where
  stop : ∀ (ad : List Addr) (i : Nat) (S : Sto) (H : Hp) (more : List Addr), ad = ad0 ++ more → Sim C ad S H → f st i S = some none → J.stop i H
  go : ∀ (ad : List Addr) (i : Nat) (S : Sto) (H : Hp) (more : List Addr) (v : V) (S' : Sto), ad = ad0 ++ more → Sim C ad S H → f st i S = some (some (v, S')) →
    J.go i H ∧ ∀ w H', J.yld i H w H' → ∃ ad', Ext ad H ad' H' ∧ Sim C ad' S' H' ∧ RV ad' v w
/-- what is walked: the arguments, then such an iterator -/
def tIt (C : CC) (W : WX) (f : ItR) (xs : Exs) : TI := fun σ H R => ∃ ad S ρ, Sim C ad S H ∧ EnvR ad ρ σ ∧ match evs xs ρ S with
  | none => False
  | some (.exc c fs S') => ∀ ad' H' d gs, Ext ad H ad' H' → Sim C ad' S' H' → RF ad' fs gs → XD H' d gs → W (.ref (C c)) d σ H'
  | some (.val vs S') => ∃ st, f.start vs S' = some st ∧ ∀ ad' H' ws, Ext ad H ad' H' → Sim C ad' S' H' → RVs ad' vs ws → ∀ J, ItOk C ad' f.next st J → R J H'
theorem more_trans {ad ad0 more ad2 : List Addr} (h : ad = ad0 ++ more) (e : Ext ad H ad2 H1) : ∃ m2, ad2 = ad0 ++ m2 := by
  obtain ⟨m, e1, _⟩ := e.pre
  exact ⟨more ++ m, by rw [e1, h, List.append_assoc]⟩
theorem xs_for {tg it : PySem.Expr} {body : List Stmt} {f : ItR} {P : Pat} (hp : PassesOwn (model X.prog X.w) X.A X.env X.xe) (hc : X.calm = true) (hi : PI X tg it (tIt C W f xs)) (hg : PG X tg (tPat C P)) (hb : PSs X body (tExs C W ss))
    (hs : ∀ x, foldedSetIterable it X.env x = pure x := by intro _; rfl) : PS X (.For tg it body [] pos) (tEx C W (.for_ P f xs ss)) := by
  refine PS.imp (ps_for hp hc hi hg hb hs) ?_
  rintro D σ H ⟨ad, S, ρ, s, r, q⟩
  unfold ex at q
  refine ⟨ad, S, ρ, s, r, ?_⟩
  cases hev : evs xs ρ S with
  | none => rw [hev] at q; exact q.elim
  | some oo =>
  rw [hev] at q
  cases oo with
  | exc c fs S' => exact fun ad' H' d gs e s r' hd => q ad' H' σ d gs e s (r.ext e) r' hd
  | val vs S1 =>
  cases hst : f.start vs S1 with
  | none => simp only [M.toS, hst] at q; exact q.elim
  | some st =>
    simp only [M.toS, hst] at q
    refine ⟨st, hst, fun ad1 H1 ws e1 s1 r1 J ok => ?_⟩
    have q1 := q.step e1
    refine ⟨fun i m σ H => ∃ ad S ρ more, ad = ad1 ++ more ∧ Sim C ad S H ∧ EnvR ad ρ σ ∧ tSO C W D ad H (forLoop f.next st P (exs ss) m i ρ S), ⟨fuel, ad1, S1, ρ, [], by simp, s1, r.ext e1, q1⟩, ?_⟩
    rintro i m σ H ⟨ad, S, ρ, more, hm, s, r, q⟩
    cases m with
    | zero => exact q.elim
    | succ k =>
      unfold forLoop at q
      cases hn : f.next st i S with
      | none => simp only [hn] at q; exact q.elim
      | some o =>
        cases o with
        | none =>
          simp only [hn] at q
          exact .inl ⟨ok.stop ad i S H more hm s hn, q ad H σ (Ext.refl s) s r⟩
        | some vS =>
          obtain ⟨v, S'⟩ := vS
          simp only [hn] at q
          obtain ⟨go, hy⟩ := ok.go ad i S H more v S' hm s hn
          refine .inr ⟨go, fun σ' H' => ∃ ad S ρ more, ad = ad1 ++ more ∧ Sim C ad S H' ∧ EnvR ad ρ σ' ∧ tSO C W D ad H' (forLoop f.next st P (exs ss) k (i + 1) ρ S), fun σ' H' h => ⟨k, Nat.lt_succ_self k, h⟩, ?_⟩
          intro w H' y
          obtain ⟨ad2, e2, s2, r2⟩ := hy w H' y
          obtain ⟨m2, hm2⟩ := more_trans hm e2
          refine ⟨ad2, S', ρ, v, s2, r.ext e2, r2, ?_⟩
          cases hb : P.bind v ρ S' with
          | none => simp only [hb] at q; exact q.elim
          | some ρ2 =>
            simp only [hb] at q
            intro σ2 r3 _
            refine ⟨ad2, S', ρ2, s2, r3, ?_⟩
            have q := q.step e2
            cases ho : exs ss ρ2 S' with
            | none => simp only [ho] at q; exact q.elim
            | some so =>
              simp only [ho] at q
              cases so with
              | nx ρ3 S3 =>
                intro ad3 H3 σ3 e3 s3 r3
                obtain ⟨m3, hm3⟩ := more_trans hm2 e3
                exact ⟨ad3, S3, ρ3, m3, hm3, s3, r3, q.step e3⟩
              | ct ρ3 S3 =>
                intro ad3 H3 σ3 e3 s3 r3
                obtain ⟨m3, hm3⟩ := more_trans hm2 e3
                exact ⟨ad3, S3, ρ3, m3, hm3, s3, r3, q.step e3⟩
              | bk ρ3 S3 => exact q
              | rt v S3 => exact q
              | exc c fs ρ3 S3 => exact q

/-! ### comprehensions -/
abbrev W0 : WX := fun _ _ _ _ => False
theorem lc_step {f : ItR} {P : Pat} {ws : List Nat} {t : Ex} {σ : L2.St} {Q : VK} {ρ : Rho} (hw : ∀ i ∈ P.slots, i ∈ ws) (s : Sim C ad S H) (r : EnvR ad ρ σ) (q : tM C W RV ad H σ Q (ev (.lc x P ws f xs t) ρ S)) :
    tLc (tIt C W f xs) (tPat C P) (tTs C W0 t) (tEv C W0 x) ws σ H Q := by
  unfold ev at q
  refine ⟨ad, S, ρ, s, r, ?_⟩
  cases hev : evs xs ρ S with
  | none => rw [hev] at q; exact q.elim
  | some oo =>
  rw [hev] at q
  cases oo with
  | exc c fs S' => exact q
  | val vs S1 =>
  cases hst : f.start vs S1 with
  | none => simp only [M.bind, hst] at q; exact q.elim
  | some st =>
    simp only [M.bind, hst] at q
    refine ⟨st, hst, fun ad1 H1 us e1 s1 r1 J ok => ?_⟩
    have q1 := q.step e1
    intro D hD
    obtain ⟨s2, e2⟩ := s1.alloc (ho := .lst []) (o := .lst []) hD ⟨[], .nil, upd_same⟩
    have hDn : (ad1 ++ [D])[S1.length]? = some D := by
      rw [← s1.len, List.getElem?_append_right (Nat.le_refl _)]; simp
    refine ⟨fun i m H => ∃ ad S more, ad = (ad1 ++ [D]) ++ more ∧ Sim C ad S H ∧ tM C W RV ad H σ Q (compLoop f.next st P (wipeR ρ ws) S1.length (ev t) (ev x) m i S),
      ⟨fuel, ad1 ++ [D], S1 ++ [.lst []], [], by simp, s2, q1.step e2⟩, ?_⟩
    rintro i m H ⟨ad, S, more, hm, s, q⟩
    have hm' : ad = ad1 ++ ([D] ++ more) := by rw [hm, List.append_assoc]
    have hDa : ad[S1.length]? = some D := by rw [hm]; exact get_pre hDn
    have rr : EnvR ad ρ σ := by
      have := r.ext e1
      rw [hm']
      exact ⟨this.1, fun i v h => let ⟨w, h1, h2⟩ := this.2 i v h; ⟨w, h1, h2.pre⟩⟩
    cases m with
    | zero => exact q.elim
    | succ k =>
      unfold compLoop at q
      cases hn : f.next st i S with
      | none => simp only [hn] at q; exact q.elim
      | some o =>
        cases o with
        | none =>
          simp only [hn] at q
          exact .inl ⟨ok.stop ad i S H _ hm' s hn, q ad H _ (Ext.refl s) s ⟨D, hDa, rfl⟩⟩
        | some vS =>
          obtain ⟨v, S'⟩ := vS
          simp only [hn] at q
          obtain ⟨go, hy⟩ := ok.go ad i S H _ v S' hm' s hn
          refine .inr ⟨go, fun H' => ∃ ad S more, ad = (ad1 ++ [D]) ++ more ∧ Sim C ad S H' ∧ tM C W RV ad H' σ Q (compLoop f.next st P (wipeR ρ ws) S1.length (ev t) (ev x) k (i + 1) S), fun H' h => ⟨k, Nat.lt_succ_self k, h⟩, ?_⟩
          intro w H' y
          obtain ⟨ad2, e2', s2', r2⟩ := hy w H' y
          obtain ⟨m2, hm2⟩ := more_trans hm e2'
          refine ⟨ad2, S', wipeR ρ ws, v, s2', (rr.ext e2').wipe ws, r2, ?_⟩
          cases hb : P.bind v (wipeR ρ ws) S' with
          | none => simp only [hb] at q; exact q.elim
          | some ρ2 =>
            simp only [hb] at q
            intro σ2 r3 off
            refine ⟨?_, ?_⟩
            · rw [off ws hw]
              apply List.ext_getElem?
              intro j
              rw [wipe_get, wipe_get]
              by_cases hj : j ∈ ws
              · rw [if_pos hj, if_pos hj]; cases σ[j]? <;> rfl
              · rw [if_neg hj]
            · have q := q.step e2'
              refine ⟨ad2, S', ρ2, s2', r3, ?_⟩
              cases ht : ev t ρ2 S' with
              | none => simp only [ht] at q; exact q.elim
              | some ot =>
                cases ot with
                | exc c fs S3 => simp only [ht] at q; exact q.elim
                | val b S2 =>
                  cases b with
                  | bl b =>
                    intro ad3 H3 w3 e3 s3 r3'
                    cases RV.bl r3'
                    refine ⟨b, rfl, ?_⟩
                    have q := q.step e3
                    obtain ⟨m3, hm3⟩ := more_trans hm2 e3
                    cases b with
                    | false =>
                      simp only [ht] at q
                      exact iteF ⟨ad3, S2, m3, hm3, s3, q⟩
                    | true =>
                      simp only [ht] at q
                      refine iteT ⟨ad3, S2, ρ2, s3, r3.ext e3, ?_⟩
                      cases hx' : ev x ρ2 S2 with
                      | none => simp only [hx'] at q; exact q.elim
                      | some ox =>
                        cases ox with
                        | exc c fs S3 => simp only [hx'] at q; exact q.elim
                        | val u S3 =>
                          simp only [hx'] at q
                          intro ad4 H4 w4 e4 s4 r4
                          have q := q.step e4
                          obtain ⟨m4, hm4⟩ := more_trans hm3 e4
                          have hD4 : ad4[S1.length]? = some D := by rw [hm4]; exact get_pre hDn
                          cases hl : S3[S1.length]? with
                          | none => simp only [hl] at q; exact q.elim
                          | some ol =>
                            cases ol with
                            | lst acc =>
                              simp only [hl] at q
                              obtain ⟨wsx, rw4, hw4⟩ := s4.ob _ _ _ hl hD4
                              by_cases hlen : acc.length < 100000
                              · rw [if_pos hlen] at q
                                refine ⟨wsx, hw4, ?_, ?_⟩
                                · rw [← Paired.len rw4]; exact Nat.lt_of_lt_of_le hlen (by decide)
                                · obtain ⟨s5, e5⟩ := s4.write (ho := .lst (wsx ++ [w4])) (o := .lst (acc ++ [u])) hl rfl rfl hD4 ⟨_, PySem.Paired.snoc rw4 r4, upd_same⟩
                                  exact ⟨ad4, _, m4, hm4, s5, q.step e5⟩
                              · rw [if_neg hlen] at q; exact q.elim
                            | _ => simp only [hl] at q; exact q.elim
                  | _ => simp only [ht] at q; exact q.elim
end Nx

set_option Elab.async false
set_option linter.all false
set_option maxRecDepth 100000
set_option autoImplicit false
namespace Nx
open PySem L2 PySem.Spec PyProof.Rows
variable {C : CC} {ad ad1 ad' : List Addr} {H H1 H' : Hp} {S S1 S' : Sto} {a p : Addr}
variable {X : Cx} {W : WX} {e e1 e2 e3 : PySem.Expr} {es : List PySem.Expr} {x y z : Ex} {xs : Exs} {pos : Pos}
variable {st : Stmt} {rest : List Stmt} {sx : Sx} {ss : Sxs}
/-! ### comprehensions, whole -/
theorem xe_lc {elt tg iter : PySem.Expr} {ifs : List PySem.Expr} {scope : Scope} {own : List (Str × Nat)} {f : ItR} {P : Pat} {t : Ex} {ws : List Nat} (hw : ∀ i ∈ P.slots, i ∈ ws) (hws : own.map (·.2) = ws) (hc : X.calm = true) (hN : X.N.Nodup) (hi : PI X tg iter (tIt C W f xs)) (ok : BlkOk X.N X.env.scope scope own)
    (hg : ∀ (s : Shared) (H : Hp) (Cc : Addr) (cl : List (Str × Addr)) (fp : List Addr), PG (X.blk s H scope (compEnvC scope cl Cc X.env) fp) tg (tPat C P)) (ht : ∀ (s : Shared) (H : Hp) (Cc : Addr) (cl : List (Str × Addr)) (fp : List Addr), PTs (X.blk s H scope (compEnvC scope cl Cc X.env) fp) ifs (tTs C W0 t))
    (he : ∀ (s : Shared) (H : Hp) (Cc : Addr) (cl : List (Str × Addr)) (fp : List Addr), PE (X.blk s H scope (compEnvC scope cl Cc X.env) fp) elt (tEv C W0 x)) (hs : ∀ x, foldedSetIterable iter X.env x = pure x := by intro _; rfl) :
    PE X (.ListComp elt [⟨tg, iter, ifs, 0⟩] scope pos) (tEv C W (.lc x P ws f xs t)) := by
  subst hws
  exact PE.imp (pe_lc hc hN hi ok hg ht he hs) fun _ _ _ ⟨_, _, _, s, r, q⟩ => lc_step hw s r q
theorem xs_setLc {elt tg iter : PySem.Expr} {ifs : List PySem.Expr} {scope : Scope} {own : List (Str × Nat)} {f : ItR} {P : Pat} {t : Ex} {ws : List Nat} {i : Nat} {n : Str} {py spos : Pos} (hw : ∀ i ∈ P.slots, i ∈ ws) (hws : own.map (·.2) = ws) (hc : X.calm = true) (hN : X.N.Nodup) (hy : X.N[i]? = some n) (hyl : X.env.scope.names.lookup n = some .local)
    (hsw : swapsWith (.ListComp elt [⟨tg, iter, ifs, 0⟩] scope pos) (some (.Name n py)) spos.line X.env = pure true) (hi : PI X tg iter (tIt C W f xs)) (ok : BlkOk X.N X.env.scope scope own)
    (hg : ∀ (s : Shared) (H : Hp) (Cc : Addr) (cl : List (Str × Addr)) (fp : List Addr), PG (X.blk s H scope (compEnvC scope cl Cc X.env) fp) tg (tPat C P)) (ht : ∀ (s : Shared) (H : Hp) (Cc : Addr) (cl : List (Str × Addr)) (fp : List Addr), PTs (X.blk s H scope (compEnvC scope cl Cc X.env) fp) ifs (tTs C W0 t))
    (he : ∀ (s : Shared) (H : Hp) (Cc : Addr) (cl : List (Str × Addr)) (fp : List Addr), PE (X.blk s H scope (compEnvC scope cl Cc X.env) fp) elt (tEv C W0 x)) (hs : ∀ x, foldedSetIterable iter X.env x = pure x := by intro _; rfl) :
    PS X (.Assign [.Name n py] (.ListComp elt [⟨tg, iter, ifs, 0⟩] scope pos) spos) (tEx C W (.asg (.nm i) (.lc x P ws f xs t))) := by
  subst hws
  refine PS.imp (ps_setLc hc hN hy hyl hsw hi ok hg ht he hs) ?_
  rintro D σ H ⟨ad, S, ρ, s, r, q⟩
  unfold ex at q
  refine lc_step hw s r ((tM.toS (R := RV) r q).mono ?_)
  rintro w H1 ⟨ad1, S1, v, e1, s1, r1, q1⟩
  exact q1 ad1 H1 _ (Ext.refl s1) s1 ((r.ext e1).set i r1)
theorem xts_nil : PTs X [] (tTs C W (.cst (.bl true))) := ⟨fun pins s σ H Q I ⟨ad, S, ρ, sm, r, q⟩ => pts_nil.run pins s σ H Q I (by
  unfold ev at q
  obtain ⟨k, e, q⟩ := q ad H _ (Ext.refl sm) sm rfl
  cases e; exact q)⟩
theorem xts_one {c : PySem.Expr} (h : PT X c (tTs C W x)) : PTs X [c] (tTs C W x) := pts_one h

/-! ### defs -/
/-- what a def with the denotation d promises -/
def spD (C : CC) (m : Nat) (d : Prim) : Sp := fun ws H Q E => ws.length = m ∧ ∃ ad S vs, Sim C ad S H ∧ RVs ad vs ws ∧ match d vs S with
  | none => False
  | some (.val v S') => ∀ ad' H' w, Ext ad H ad' H' → Sim C ad' S' H' → RV ad' v w → Q w H'
  | some (.exc c fs S') => ∀ ad' H' dd gs, Ext ad H ad' H' → Sim C ad' S' H' → RF ad' fs gs → XD H' dd gs → E (.ref (C c)) dd H'
theorem EnvR.start {vs ws : List V} (r : RVs ad vs ws) (n : Nat) (N : List Str) (hn : N.length = n) : EnvR ad (vs.map some ++ List.replicate (n - vs.length) none) (L2.start N ws) := by
  have hl := Paired.len r
  unfold L2.start
  rw [hn, ← hl]
  refine ⟨by simp [hl], fun i v h => ?_⟩
  by_cases hi : i < vs.length
  · rw [List.getElem?_append_left (by simpa using hi), List.getElem?_map] at h
    rw [List.getElem?_append_left (by simpa [← hl] using hi), List.getElem?_map]
    cases q : vs[i]? with
    | none => rw [q] at h; cases h
    | some u =>
      rw [q] at h; cases h
      have : ∀ {vs ws : List V} {i : Nat} {v : V}, RVs ad vs ws → vs[i]? = some v → ∃ w, ws[i]? = some w ∧ RV ad v w := by
        intro vs ws i v r
        induction r generalizing i with
        | nil => intro h; simp at h
        | cons r1 r2 ih =>
          intro h
          cases i with
          | zero => simp at h; subst h; exact ⟨_, by simp, r1⟩
          | succ i => simp at h; obtain ⟨w, h1, h2⟩ := ih h; exact ⟨w, by simpa using h1, h2⟩
      obtain ⟨w, h1, h2⟩ := this r q
      exact ⟨w, by rw [h1]; rfl, h2⟩
  · rw [List.getElem?_append_right (by simpa using hi)] at h
    rw [List.getElem?_replicate] at h
    split at h <;> cases h
theorem RVs.get {vs ws : List V} {i : Nat} {v : V} (r : RVs ad vs ws) (h : vs[i]? = some v) : ∃ w, ws[i]? = some w ∧ RV ad v w := by
  induction r generalizing i with
  | nil => simp at h
  | cons r1 r2 ih =>
    cases i with
    | zero => simp at h; subst h; exact ⟨_, by simp, r1⟩
    | succ i => simp at h; obtain ⟨w, h1, h2⟩ := ih h; exact ⟨w, by simpa using h1, h2⟩
section
variable {P : Program} {w : World} {K : PySem.W.Frag} {mg : Str → Option Value} {base : Heap}
/-- THE RULE for a def: its body's reading -/
theorem fn_ok {n qual : Str} {st : Stmt} {f : Addr} {fd : FuncData} {N ps : List Str} {k m l : Nat} {body : Sxs} (F : Fun K n qual st f fd) (Sc : FnScope N ps (defScope st)) (hm : ps.length = m) (hl : N.length = l)
    (hbody : ∀ (cdv : Value) (A : Around) (outer : List Env) (s : Shared) (H : Hp) (E : XK), Room k (A.deeper (envOfC qual (defScope st) s.heap.objs.size f cdv)) →
      PSs (cxOf (L2.CX P w) P w K mg base N qual (defScope st) f cdv A outer s H E) (defBody st) (tExs C (fun cls d _ H => E cls d H) body)) :
    FnOk P w K mg base (L2.CX P w) (k + 1) f fd ps (spD C m (den l m body)) := by
  refine F.okX Sc (fun vs H Q E h => h.1.trans hm.symm) (fun cdv A outer s H vs Q E hr h => ⟨_, hbody cdv A outer s H E hr, ?_⟩)
  obtain ⟨hlen, ad, S, us, sm, r, q⟩ := h
  have hu : us.length = m := (Paired.len r).trans hlen
  refine ⟨ad, S, us.map some ++ List.replicate (l - m) none, sm, by rw [← hu]; exact EnvR.start r l N hl, ?_⟩
  unfold den at q
  rw [if_pos hu] at q
  cases o : exs body (us.map some ++ List.replicate (l - m) none) S with
  | none => rw [o] at q; exact q
  | some so =>
    rw [o] at q
    cases so with
    | nx ρ S' => exact fun ad' H' σ' x s' r' => q ad' H' _ x s' rfl
    | rt v S' => exact q
    | exc c fs ρ S' => exact fun ad' H' σ' d gs x s' _ r' hd => q ad' H' d gs x s' r' hd
    | bk ρ S' => exact q.elim
    | ct ρ S' => exact q.elim
end
/-- f(e, ..) -/
theorem call_step {d : Prim} {m : Nat} {σ : L2.St} {Q : VK} {ρ : Rho} (hlen : ∀ vs S o, d vs S = some o → vs.length = m) (s : Sim C ad S H) (r : EnvR ad ρ σ) (q : tM C W RV ad H σ Q (ev (.pn d xs) ρ S)) :
    tCallS (spD C m d) (WE W) (tEvs C W xs) σ H Q := by
  unfold ev at q
  refine ⟨ad, S, ρ, s, r, (tM.bind (R := RVs) q).mono ?_⟩
  rintro ws H1 ⟨ad1, S1, vs, e1, s1, r1, q1⟩
  cases hd : d vs S1 with
  | none => rw [hd] at q1; exact q1.elim
  | some o =>
    refine ⟨(Paired.len r1).symm.trans (hlen _ _ _ hd), ad1, S1, vs, s1, r1, ?_⟩
    rw [hd] at q1 ⊢
    cases o with
    | val v S2 => exact q1
    | exc c fs S2 => exact q1
theorem den_len {n m : Nat} {b : Sxs} : ∀ vs S o, den n m b vs S = some o → vs.length = m := fun vs S o h => by
  unfold den at h
  by_cases hl : vs.length = m
  · exact hl
  · rw [if_neg hl] at h; cases h
theorem xe_call {f : Addr} {fd : FuncData} {k : Nat} {ps : List Str} {n : Str} {pf : Pos} {l m : Nat} {b : Sxs} (F : FnOk X.prog X.w X.K X.mg X.base (L2.CX X.prog X.w) k f fd ps (spD C m (den l m b))) (hr : Room k X.A) (hg : Gl X n) (hm : X.mg n = some (.ref f)) (hk : PySem.W.keepIn X.K (.ref f) = true) (hb : Binds X.K fd ps []) (tk : Takes X W)
    (ha : PA X (e :: es) (tEvs C W xs)) (hdb : (n == ("__debug__" : Str)) = false := by decide) (he : starEach (e :: es) X.env = (false, eval e X.env) :: starEach es X.env := by rfl) (hpl : (backTo pos (starEach es X.env)).any (·.1) = false := by rfl) :
    PE X (.Call (.Name n pf) (e :: es) [] pos) (tEv C W (.pn (den l m b) xs)) :=
  PE.imp (pe_callS F hr hg hm hk hb (fun σ => passAt tk σ) ha hdb he hpl) fun _ _ _ ⟨_, _, _, s, r, q⟩ => call_step den_len s r q
/-- a built-in function -/
theorem xe_callB {id : String} {n : Str} {pf : Pos} {f : Prim} (hc : CallR X (.builtin id) (rP C f)) (nx : NoX f) (hg : Gl X n) (hm : X.mg n = none) (hv : bootBuiltins n = some (.builtin id)) (ha : PA X (e :: es) (tEvs C W xs)) (hn : n ≠ "__name__" := by decide) (hdb : (n == ("__debug__" : Str)) = false := by decide)
    (he : starEach (e :: es) X.env = (false, eval e X.env) :: starEach es X.env := by rfl) (hpl : (backTo pos (starEach es X.env)).any (·.1) = false := by rfl) : PE X (.Call (.Name n pf) (e :: es) [] pos) (tEv C W (.pn f xs)) :=
  PE.imp (pe_callB hc hg hm hv ha hn hdb he hpl) fun _ _ _ ⟨_, _, _, s, r, q⟩ => pn_args nx s r q
theorem xe_callTy {T : String} {n : Str} {pf : Pos} {f : Prim} (hc : CallR X (.type T) (rP C f)) (nx : NoX f) (hg : Gl X n) (hm : X.mg n = none) (hv : bootBuiltins n = some (.type T)) (ha : PA X (e :: es) (tEvs C W xs)) (hn : n ≠ "__name__" := by decide) (hdb : (n == ("__debug__" : Str)) = false := by decide)
    (he : starEach (e :: es) X.env = (false, eval e X.env) :: starEach es X.env := by rfl) (hpl : (backTo pos (starEach es X.env)).any (·.1) = false := by rfl) : PE X (.Call (.Name n pf) (e :: es) [] pos) (tEv C W (.pn f xs)) :=
  PE.imp (pe_callTy hc hg hm hv ha hn hdb he hpl) fun _ _ _ ⟨_, _, _, s, r, q⟩ => pn_args nx s r q
end Nx

set_option Elab.async false
set_option linter.all false
set_option maxRecDepth 100000
set_option autoImplicit false
namespace Nx
open PySem L2 PySem.Spec PyProof.Rows
variable {C : CC} {ad ad1 ad' : List Addr} {H H1 H' : Hp} {S S1 S' : Sto} {a p : Addr}
variable {X : Cx} {W : WX} {e e1 e2 e3 : PySem.Expr} {es : List PySem.Expr} {x y z : Ex} {xs : Exs} {pos : Pos}

theorem rP.elim {f : Prim} (n : NoX f) {ws : List V} {Q : VK} (h : rP C f ws H Q) : ∃ ad S vs v S', Sim C ad S H ∧ RVs ad vs ws ∧ f vs S = some (.val v S') ∧ ∀ ad' H' w, Ext ad H ad' H' → Sim C ad' S' H' → RV ad' v w → Q w H' := by
  obtain ⟨ad, S, vs, s, r, q⟩ := h
  cases hf : f vs S with
  | none => rw [hf] at q; exact q.elim
  | some o =>
    cases o with
    | val v S' => rw [hf] at q; exact ⟨ad, S, vs, v, S', s, r, hf, q⟩
    | exc c fs S' => exact absurd hf (n _ _ _ _ _)
/-- a primitive given by its values alone -/
def pv1 (g : V → Sto → Option V) : Prim := fun vs S => match vs with
  | [a] => (g a S).map fun v => .val v S
  | _ => none
def pv2 (g : V → V → Sto → Option V) : Prim := fun vs S => match vs with
  | [a, b] => (g a b S).map fun v => .val v S
  | _ => none
theorem noX_pv1 (g : V → Sto → Option V) : NoX (pv1 g) := by
  intro vs S c fs S' h
  unfold pv1 at h
  split at h
  · cases q : g _ S with
    | none => rw [q] at h; cases h
    | some v => rw [q] at h; cases h
  · cases h
theorem noX_pv2 (g : V → V → Sto → Option V) : NoX (pv2 g) := by
  intro vs S c fs S' h
  unfold pv2 at h
  split at h
  · cases q : g _ _ S with
    | none => rw [q] at h; cases h
    | some v => rw [q] at h; cases h
  · cases h
/-- a primitive that makes one new object -/
def pn1 (g : V → Sto → Option Ob) : Prim := fun vs S => match vs with
  | [a] => (g a S).map fun o => .val (.ref S.length) (S ++ [o])
  | _ => none
theorem noX_pn1 (g : V → Sto → Option Ob) : NoX (pn1 g) := by
  intro vs S c fs S' h
  unfold pn1 at h
  split at h
  · cases q : g _ S with
    | none => rw [q] at h; cases h
    | some v => rw [q] at h; cases h
  · cases h
theorem P2.elim2 {g : V → V → Sto → Option V} {u w : V} {Q : VK} (h : P2 C (pv2 g) u w H Q) : ∃ ad S a b v, Sim C ad S H ∧ RV ad a u ∧ RV ad b w ∧ g a b S = some v ∧ ∀ w', RV ad v w' → Q w' H := by
  obtain ⟨ad, S, vs, v, S', s, r, hf, k⟩ := rP.elim (noX_pv2 g) h
  match vs, r, hf with
  | [a, b], .cons ra (.cons rb .nil), hf =>
    unfold pv2 at hf
    cases q : g a b S with
    | none => simp only [q] at hf; cases hf
    | some v' =>
      simp only [q] at hf
      cases hf
      exact ⟨ad, S, a, b, v, s, ra, rb, q, fun w' r' => k ad H w' (Ext.refl s) s r'⟩
theorem P1.elim1 {g : V → Sto → Option V} {u : V} {Q : VK} (h : rP C (pv1 g) [u] H Q) : ∃ ad S a v, Sim C ad S H ∧ RV ad a u ∧ g a S = some v ∧ ∀ w', RV ad v w' → Q w' H := by
  obtain ⟨ad, S, vs, v, S', s, r, hf, k⟩ := rP.elim (noX_pv1 g) h
  match vs, r, hf with
  | [a], .cons ra .nil, hf =>
    unfold pv1 at hf
    cases q : g a S with
    | none => simp only [q] at hf; cases hf
    | some v' =>
      simp only [q] at hf
      cases hf
      exact ⟨ad, S, a, v, s, ra, q, fun w' r' => k ad H w' (Ext.refl s) s r'⟩
theorem pv1_one {g : V → Sto → Option V} {ws : List V} {Q : VK} (h : rP C (pv1 g) ws H Q) : ∃ u, ws = [u] := by
  obtain ⟨ad, S, vs, v, S', s, r, hf, k⟩ := rP.elim (noX_pv1 g) h
  match vs, ws, r, hf with
  | [a], _, .cons ra .nil, hf => exact ⟨_, rfl⟩

/-! ### ints -/
def gInt (k : Int → Int → Option V) : V → V → Sto → Option V := fun a b _ => match a, b with
  | .int i, .int j => k i j
  | _, _ => none
theorem gInt.elim {k : Int → Int → Option V} {u w : V} {Q : VK} (h : P2 C (pv2 (gInt k)) u w H Q) : ∃ i j v, u = .int i ∧ w = .int j ∧ k i j = some v ∧ ∀ ad, (∃ S, Sim C ad S H) → ∀ w', RV ad v w' → True := by
  obtain ⟨ad, S, a, b, v, s, ra, rb, hg, q⟩ := P2.elim2 h
  unfold gInt at hg
  split at hg
  · exact ⟨_, _, v, ra, rb, hg, fun _ _ _ _ => trivial⟩
  · cases hg
theorem gInt.out {k : Int → Int → Option V} {u w : V} {Q : VK} (h : P2 C (pv2 (gInt k)) u w H Q) : ∃ i j v, u = .int i ∧ w = .int j ∧ k i j = some v ∧ ((∀ ad, RV ad v v) → Q v H) := by
  obtain ⟨ad, S, a, b, v, s, ra, rb, hg, q⟩ := P2.elim2 h
  unfold gInt at hg
  split at hg
  · exact ⟨_, _, v, ra, rb, hg, fun f => q v (f ad)⟩
  · cases hg
def gSub := gInt fun i j => some (.int (i - j))
def gMod := gInt fun i j => if 0 < j then some (.int (i % j)) else none
def gFdiv := gInt fun i j => if 0 < j ∧ j < 1073741824 then some (.int (i / j)) else none
def gPow := gInt fun i j => if 0 ≤ j ∧ j ≤ 1000000 ∧ i.natAbs < 2 ^ 64 then some (.int (i ^ j.toNat)) else none
def gLt := gInt fun i j => some (.bl (decide (i < j)))
def gLe := gInt fun i j => some (.bl (decide (i ≤ j)))
def gGt := gInt fun i j => some (.bl (decide (j < i)))
def gGe := gInt fun i j => some (.bl (decide (j ≤ i)))
theorem o_sub : OpR X (binaryOp .Sub) (P2 C (pv2 gSub)) := by
  intro pins s σ H x y v u Q I rx ry h
  obtain ⟨i, j, v', rfl, rfl, hk, q⟩ := gInt.out h
  cases hk
  exact op_sub pins s σ H _ _ v u Q I rx ry ⟨i, j, rfl, rfl, q fun _ => rfl⟩
theorem o_mod : OpR X (binaryOp .Mod) (P2 C (pv2 gMod)) := by
  intro pins s σ H x y v u Q I rx ry h
  obtain ⟨i, j, v', rfl, rfl, hk, q⟩ := gInt.out h
  by_cases c : 0 < j
  · rw [if_pos c] at hk; cases hk
    exact op_mod pins s σ H _ _ v u Q I rx ry ⟨i, j, rfl, rfl, c, q fun _ => rfl⟩
  · rw [if_neg c] at hk; cases hk
theorem o_fdiv : OpR X (binaryOp .FloorDiv) (P2 C (pv2 gFdiv)) := by
  intro pins s σ H x y v u Q I rx ry h
  obtain ⟨i, j, v', rfl, rfl, hk, q⟩ := gInt.out h
  by_cases c : 0 < j ∧ j < 1073741824
  · rw [if_pos c] at hk; cases hk
    exact op_fdiv pins s σ H _ _ v u Q I rx ry ⟨i, j, rfl, rfl, c, q fun _ => rfl⟩
  · rw [if_neg c] at hk; cases hk
theorem o_pow : OpR X (binaryOp .Pow) (P2 C (pv2 gPow)) := by
  intro pins s σ H x y v u Q I rx ry h
  obtain ⟨i, j, v', rfl, rfl, hk, q⟩ := gInt.out h
  by_cases c : 0 ≤ j ∧ j ≤ 1000000 ∧ i.natAbs < 2 ^ 64
  · rw [if_pos c] at hk; cases hk
    exact op_pow pins s σ H _ _ v u Q I rx ry ⟨i, j, rfl, rfl, c, q fun _ => rfl⟩
  · rw [if_neg c] at hk; cases hk
theorem o_lt : OpR X (compareOp .Lt) (P2 C (pv2 gLt)) := by
  intro pins s σ H x y v u Q I rx ry h
  obtain ⟨i, j, v', rfl, rfl, hk, q⟩ := gInt.out h
  cases hk
  exact op_lt pins s σ H _ _ v u Q I rx ry ⟨i, j, rfl, rfl, q fun _ => rfl⟩
theorem o_le : OpR X (compareOp .LtE) (P2 C (pv2 gLe)) := by
  intro pins s σ H x y v u Q I rx ry h
  obtain ⟨i, j, v', rfl, rfl, hk, q⟩ := gInt.out h
  cases hk
  exact op_le pins s σ H _ _ v u Q I rx ry ⟨i, j, rfl, rfl, q fun _ => rfl⟩
theorem o_gt : OpR X (compareOp .Gt) (P2 C (pv2 gGt)) := by
  intro pins s σ H x y v u Q I rx ry h
  obtain ⟨i, j, v', rfl, rfl, hk, q⟩ := gInt.out h
  cases hk
  exact op_gt pins s σ H _ _ v u Q I rx ry ⟨i, j, rfl, rfl, q fun _ => rfl⟩
theorem o_ge : OpR X (compareOp .GtE) (P2 C (pv2 gGe)) := by
  intro pins s σ H x y v u Q I rx ry h
  obtain ⟨i, j, v', rfl, rfl, hk, q⟩ := gInt.out h
  cases hk
  exact op_ge pins s σ H _ _ v u Q I rx ry ⟨i, j, rfl, rfl, q fun _ => rfl⟩
def gNeg : V → Sto → Option V := fun a _ => match a with
  | .int i => some (.int (-i))
  | _ => none
theorem o_neg : UnR X (unaryOp .USub) (P1 C (pv1 gNeg)) := by
  intro pins s σ H x v Q I rx h
  obtain ⟨ad, S, a, v', sm, ra, hg, q⟩ := P1.elim1 h
  unfold gNeg at hg
  split at hg
  · cases hg; cases RV.int ra
    exact un_neg pins s σ H _ v Q I rx ⟨_, rfl, q _ rfl⟩
  · cases hg

/-! ### data -/
mutual
/-- a value read as data, at most k deep -/
def rd (S : Sto) : Nat → V → Option PyData
  | _, .non => some .none
  | _, .bl b => some (.bool b)
  | _, .int i => some (.int i)
  | _, .str x => some (.str x)
  | k + 1, .ref n => match S[n]? with
    | some (.lst xs) => (rds S k xs).map .list
    | some (.scr xs) => (rds S k xs).map .list
    | some (.tup xs) => (rds S k xs).map .tuple
    | some (.tpl xs) => (rds S k xs).map .tuple
    | _ => none
  | _, _ => none
def rds (S : Sto) : Nat → List V → Option (List PyData)
  | _, [] => some []
  | k, x :: xs => match rd S k x, rds S k xs with
    | some d, some ds => some (d :: ds)
    | _, _ => none
end
mutual
theorem rd_dp {K : PySem.W.Frag} (s : Sim C ad S H) : ∀ (k : Nat) (v w : V) (d : PyData), rd S k v = some d → RV ad v w → Dp K H w d
  | k, .non, w, d, h, r => by unfold rd at h; cases h; cases r; exact .non
  | k, .bl b, w, d, h, r => by unfold rd at h; cases h; cases r; exact .bl b
  | k, .int b, w, d, h, r => by unfold rd at h; cases h; cases r; exact .int b
  | k, .str b, w, d, h, r => by unfold rd at h; cases h; cases r; exact .str b
  | 0, .ref n, w, d, h, r => by unfold rd at h; cases h
  | k + 1, .ref n, w, d, h, r => by
    obtain ⟨b, hb, rfl⟩ := r
    unfold rd at h
    split at h
    · rename_i xs hx
      obtain ⟨ws, rw, hw⟩ := s.ob _ _ _ hx hb
      cases q : rds S k xs with
      | none => rw [q] at h; cases h
      | some ds => rw [q] at h; cases h; exact .lst (.inl (.inl hw)) (rds_dp s k xs ws ds q rw)
    · rename_i xs hx
      obtain ⟨o, ws, rw, hw⟩ := s.ob _ _ _ hx hb
      cases q : rds S k xs with
      | none => rw [q] at h; cases h
      | some ds => rw [q] at h; cases h; exact .lst (.inl (.inr ⟨o, hw⟩)) (rds_dp s k xs ws ds q rw)
    · rename_i xs hx
      obtain ⟨oo, ws, rw, hw, _⟩ := s.ob _ _ _ hx hb
      cases q : rds S k xs with
      | none => rw [q] at h; cases h
      | some ds => rw [q] at h; cases h; exact .tup (.inl (.inr ⟨oo, hw⟩)) (rds_dp s k xs ws ds q rw)
    · rename_i xs hx
      obtain ⟨ws, rw, hw⟩ := s.ob _ _ _ hx hb
      cases q : rds S k xs with
      | none => rw [q] at h; cases h
      | some ds => rw [q] at h; cases h; exact .tup (.inl (.inl hw)) (rds_dp s k xs ws ds q rw)
    · cases h
  | k, .byt b, w, d, h, r => by unfold rd at h; cases h
  | k, .flt b, w, d, h, r => by unfold rd at h; cases h
  | k, .ty b, w, d, h, r => by unfold rd at h; cases h
theorem rds_dp {K : PySem.W.Frag} (s : Sim C ad S H) : ∀ (k : Nat) (xs ws : List V) (ds : List PyData), rds S k xs = some ds → RVs ad xs ws → DpAll K H ws ds
  | k, [], ws, ds, h, r => by unfold rds at h; cases h; cases r; exact .nil
  | k, x :: xs, ws, ds, h, r => by
    cases r with
    | cons r1 r2 =>
      unfold rds at h
      split at h
      · rename_i d ds' h1 h2
        cases h
        exact .cons (rd_dp s k x _ _ h1 r1) (rds_dp s k xs _ _ h2 r2)
      · cases h
end
def deep : Nat := 50
def gEq (neg : Bool) : V → V → Sto → Option V := fun a b S => match rd S deep a, rd S deep b with
  | some d, some d' => if SeqAt.shaped d = true ∧ SeqAt.shaped d' = true then some (.bl (if neg then !PyData.eqv d d' else PyData.eqv d d')) else none
  | _, _ => none
theorem o_eq (hu : X.A.units + 64 < cLine) : OpR X (compareOp .Eq) (P2 C (pv2 (gEq false))) := by
  intro pins s σ H x y v u Q I rx ry h
  obtain ⟨ad, S, a, b, v', sm, ra, rb, hg, q⟩ := P2.elim2 h
  unfold gEq at hg
  split at hg
  · rename_i d d' h1 h2
    split at hg
    · rename_i hs
      cases hg
      exact op_eqD hu pins s σ H _ _ v u Q I rx ry ⟨d, d', rd_dp sm _ _ _ _ h1 ra, rd_dp sm _ _ _ _ h2 rb, hs.1, hs.2, q _ rfl⟩
    · cases hg
  · cases hg
theorem o_ne (hu : X.A.units + 64 < cLine) : OpR X (compareOp .NotEq) (P2 C (pv2 (gEq true))) := by
  intro pins s σ H x y v u Q I rx ry h
  obtain ⟨ad, S, a, b, v', sm, ra, rb, hg, q⟩ := P2.elim2 h
  unfold gEq at hg
  split at hg
  · rename_i d d' h1 h2
    split at hg
    · rename_i hs
      cases hg
      exact op_neD hu pins s σ H _ _ v u Q I rx ry ⟨d, d', rd_dp sm _ _ _ _ h1 ra, rd_dp sm _ _ _ _ h2 rb, hs.1, hs.2, q _ rfl⟩
    · cases hg
  · cases hg
/-- x is None, x is not None -/
def gIsN (neg : Bool) : V → V → Sto → Option V := fun a b _ => match b with
  | .non => some (.bl (if neg then !decide (a = .non) else decide (a = .non)))
  | _ => none
theorem RV.non_iff {v w : V} (r : RV ad v w) : (w = .non) ↔ (v = .non) := by
  cases v with
  | ref n => obtain ⟨_, _, rfl⟩ := r; constructor <;> intro h <;> cases h
  | _ => cases r; constructor <;> intro h <;> first | exact h | cases h
theorem o_isN : OpR X (compareOp .Is) (P2 C (pv2 (gIsN false))) := by
  intro pins s σ H x y v u Q I rx ry h
  obtain ⟨ad, S, a, b, v', sm, ra, rb, hg, q⟩ := P2.elim2 h
  unfold gIsN at hg
  split at hg
  · cases hg
    cases (show y = .non from rb)
    refine op_isN pins s σ H _ _ v u Q I rx ry ⟨rfl, q _ ?_⟩
    show V.bl _ = V.bl _
    congr 1
    exact decide_eq_decide.mpr ra.non_iff
  · cases hg
theorem o_notN : OpR X (compareOp .IsNot) (P2 C (pv2 (gIsN true))) := by
  intro pins s σ H x y v u Q I rx ry h
  obtain ⟨ad, S, a, b, v', sm, ra, rb, hg, q⟩ := P2.elim2 h
  unfold gIsN at hg
  split at hg
  · cases hg
    cases (show y = .non from rb)
    refine op_notN pins s σ H _ _ v u Q I rx ry ⟨rfl, q _ ?_⟩
    show V.bl _ = V.bl _
    congr 2
    exact decide_eq_decide.mpr ra.non_iff
  · cases hg
end Nx

set_option Elab.async false
set_option linter.all false
set_option maxRecDepth 100000
set_option autoImplicit false
namespace Nx
open PySem L2 PySem.Spec PyProof.Rows
variable {C : CC} {ad ad1 ad' : List Addr} {H H1 H' : Hp} {S S1 S' : Sto} {a p : Addr}
variable {X : Cx} {W : WX} {e e1 e2 e3 : PySem.Expr} {es : List PySem.Expr} {x y z : Ex} {xs : Exs} {pos : Pos}

/-! ### sequences -/
theorem seq_of {K : PySem.W.Frag} (hK : C.K = K) {v w : V} {vs : List V} (s : Sim C ad S H) (h : seqOf S v = some vs) (r : RV ad v w) : ∃ b ws, w = .ref b ∧ RVs ad vs ws ∧ (SqL K H b ws ∨ SqT K H b ws) := by
  cases v with
  | ref n =>
    obtain ⟨b, hb, rfl⟩ := r
    simp only [seqOf] at h
    cases o : S[n]? with
    | none => simp only [o] at h; cases h
    | some ob =>
      simp only [o] at h
      cases ob with
      | lst xs => cases h; obtain ⟨ws, rw, hw⟩ := s.ob _ _ _ o hb; exact ⟨b, ws, rfl, rw, .inl (.inl (.inl hw))⟩
      | scr xs => cases h; obtain ⟨o, ws, rw, hw⟩ := s.ob _ _ _ o hb; exact ⟨b, ws, rfl, rw, .inl (.inl (.inr ⟨o, hw⟩))⟩
      | kon xs => cases h; obtain ⟨ws, rw, hw⟩ := s.ob _ _ _ o hb; exact ⟨b, ws, rfl, rw, .inl (hK ▸ hw H)⟩
      | tup xs => cases h; obtain ⟨oo, ws, rw, hw, _⟩ := s.ob _ _ _ o hb; exact ⟨b, ws, rfl, rw, .inr (.inl (.inr ⟨oo, hw⟩))⟩
      | tpl xs => cases h; obtain ⟨ws, rw, hw⟩ := s.ob _ _ _ o hb; exact ⟨b, ws, rfl, rw, .inr (.inl (.inl hw))⟩
      | ins c fs => cases h
      | dct kvs => cases h
      | met c m n => cases h
  | _ => cases h
/-- of a list alone -/
def lstOf (S : Sto) : V → Option (List V)
  | .ref n => match S[n]? with
    | some (.lst xs) => some xs
    | some (.scr xs) => some xs
    | some (.kon xs) => some xs
    | _ => none
  | _ => none
theorem lst_of {K : PySem.W.Frag} (hK : C.K = K) {v w : V} {vs : List V} (s : Sim C ad S H) (h : lstOf S v = some vs) (r : RV ad v w) : ∃ b ws, w = .ref b ∧ RVs ad vs ws ∧ SqL K H b ws := by
  cases v with
  | ref n =>
    obtain ⟨b, hb, rfl⟩ := r
    simp only [lstOf] at h
    cases o : S[n]? with
    | none => simp only [o] at h; cases h
    | some ob =>
      simp only [o] at h
      cases ob with
      | lst xs => cases h; obtain ⟨ws, rw, hw⟩ := s.ob _ _ _ o hb; exact ⟨b, ws, rfl, rw, .inl (.inl hw)⟩
      | scr xs => cases h; obtain ⟨o, ws, rw, hw⟩ := s.ob _ _ _ o hb; exact ⟨b, ws, rfl, rw, .inl (.inr ⟨o, hw⟩)⟩
      | kon xs => cases h; obtain ⟨ws, rw, hw⟩ := s.ob _ _ _ o hb; exact ⟨b, ws, rfl, rw, hK ▸ hw H⟩
      | tup xs => cases h
      | tpl xs => cases h
      | ins c fs => cases h
      | dct kvs => cases h
      | met c m n => cases h
  | _ => cases h
def tupOf (S : Sto) : V → Option (List V)
  | .ref n => match S[n]? with
    | some (.tup xs) => some xs
    | some (.tpl xs) => some xs
    | _ => none
  | _ => none
theorem tup_of {K : PySem.W.Frag} {v w : V} {vs : List V} (s : Sim C ad S H) (h : tupOf S v = some vs) (r : RV ad v w) : ∃ b ws, w = .ref b ∧ RVs ad vs ws ∧ SqT K H b ws := by
  cases v with
  | ref n =>
    obtain ⟨b, hb, rfl⟩ := r
    simp only [tupOf] at h
    cases o : S[n]? with
    | none => simp only [o] at h; cases h
    | some ob =>
      simp only [o] at h
      cases ob with
      | tup xs => cases h; obtain ⟨oo, ws, rw, hw, _⟩ := s.ob _ _ _ o hb; exact ⟨b, ws, rfl, rw, .inl (.inr ⟨oo, hw⟩)⟩
      | tpl xs => cases h; obtain ⟨ws, rw, hw⟩ := s.ob _ _ _ o hb; exact ⟨b, ws, rfl, rw, .inl (.inl hw)⟩
      | lst xs => cases h
      | scr xs => cases h
      | kon xs => cases h
      | ins c fs => cases h
      | dct kvs => cases h
      | met c m n => cases h
  | _ => cases h
theorem RV.flat {v w : V} (h : flatV v = true) (r : RV ad v w) : w = v := by
  cases v with
  | ref n => cases h
  | _ => exact r
theorem RVs.flat {vs ws : List V} (h : vs.all flatV = true) (r : RVs ad vs ws) : ws = vs := by
  induction r with
  | nil => rfl
  | cons r1 r2 ih =>
    simp only [List.all_cons, Bool.and_eq_true] at h
    rw [RV.flat h.1 r1, ih h.2]
theorem flat_rv {v : V} (h : flatV v = true) : RV ad v v := by
  cases v with
  | ref n => cases h
  | byt b => cases h
  | flt b => cases h
  | ty b => cases h
  | _ => rfl
def rdPair (S : Sto) (a b : V) : Option (PyData × List PyData) := match rd S deep a, rd S deep b with
  | some d, some (.list ds) => if SeqAt.shaped d = true ∧ SeqAt.shaped (.list ds) = true then some (d, ds) else none
  | _, _ => none
/-- x in xs: flat items; else deep data in a list -/
def gIn (neg : Bool) : V → V → Sto → Option V := fun a b S => match seqOf S b with
  | none => none
  | some xs => if flatV a = true ∧ xs.all flatV = true then some (.bl (if neg then !inV a xs else inV a xs))
    else match rdPair S a b with
      | some (d, ds) => some (.bl (if neg then !(ds.any fun z => PyData.eqv z d) else ds.any fun z => PyData.eqv z d))
      | none => none
theorem rdPair_some {a b : V} {d : PyData} {ds : List PyData} (h : rdPair S a b = some (d, ds)) : rd S deep a = some d ∧ rd S deep b = some (.list ds) ∧ SeqAt.shaped d = true ∧ SeqAt.shaped (.list ds) = true := by
  unfold rdPair at h
  split at h
  · split at h
    · cases h; rename_i h1 h2 h3; exact ⟨h1, h2, h3.1, h3.2⟩
    · cases h
  · cases h
theorem o_in (hK : C.K = X.K) (hu : X.A.units + 65 < cLine) : OpR X (compareOp .In) (P2 C (pv2 (gIn false))) := by
  intro pins s σ H x y v u Q I rx ry h
  obtain ⟨ad, S, a, b, v', sm, ra, rb, hg, q⟩ := P2.elim2 h
  unfold gIn at hg
  split at hg
  · cases hg
  · rename_i xs hx
    split at hg
    · rename_i hf
      cases hg
      obtain ⟨p, ws, rfl, rw, hs⟩ := seq_of (K := X.K) hK sm hx rb
      have e1 := RVs.flat hf.2 rw
      have e2 := RV.flat hf.1 ra
      subst e1 e2
      exact op_in_seq pins s σ H _ _ v u Q I rx ry ⟨p, _, rfl, hs, hf.1, hf.2, q _ rfl⟩
    · split at hg
      · rename_i d ds hp
        cases hg
        obtain ⟨h1, h2, h3, h4⟩ := rdPair_some hp
        exact op_inD hu pins s σ H _ _ v u Q I rx ry ⟨d, ds, rd_dp sm _ _ _ _ h1 ra, rd_dp sm _ _ _ _ h2 rb, h3, h4, q _ rfl⟩
      · cases hg
theorem o_notIn (hK : C.K = X.K) (hu : X.A.units + 65 < cLine) : OpR X (compareOp .NotIn) (P2 C (pv2 (gIn true))) := by
  intro pins s σ H x y v u Q I rx ry h
  obtain ⟨ad, S, a, b, v', sm, ra, rb, hg, q⟩ := P2.elim2 h
  unfold gIn at hg
  split at hg
  · cases hg
  · rename_i xs hx
    split at hg
    · rename_i hf
      cases hg
      obtain ⟨p, ws, rfl, rw, hs⟩ := seq_of (K := X.K) hK sm hx rb
      have e1 := RVs.flat hf.2 rw
      have e2 := RV.flat hf.1 ra
      subst e1 e2
      exact op_notIn_seq pins s σ H _ _ v u Q I rx ry ⟨p, _, rfl, hs, hf.1, hf.2, q _ rfl⟩
    · split at hg
      · rename_i d ds hp
        cases hg
        obtain ⟨h1, h2, h3, h4⟩ := rdPair_some hp
        exact op_notInD hu pins s σ H _ _ v u Q I rx ry ⟨d, ds, rd_dp sm _ _ _ _ h1 ra, rd_dp sm _ _ _ _ h2 rb, h3, h4, q _ rfl⟩
      · cases hg

/-! ### items -/
def gIx : V → V → Sto → Option V := fun a b S => match seqOf S a, b with
  | some xs, .int i => atI xs i
  | _, _ => none
theorem atI_rv {vs ws : List V} {i : Int} {v : V} (r : RVs ad vs ws) (h : atI vs i = some v) : ∃ w, atI ws i = some w ∧ RV ad v w := by
  unfold atI at h ⊢
  rw [← Paired.len r]
  cases q : ixN vs.length i with
  | none => rw [q] at h; cases h
  | some j => rw [q] at h; exact RVs.get r h
theorem xe_ix (hK : C.K = X.K) (ha : PE X e1 (tEv C W x)) (hb : PE X e2 (tEv C W y)) (hs : PlainIx e2) : PE X (.Subscript e1 e2 pos) (tEv C W (.pn (pv2 gIx) (.cons x (.cons y .nil)))) := by
  refine PE.imp (pe_ix (r := P2 C (pv2 gIx)) ?_ ha hb hs) fun _ _ _ ⟨_, _, _, s, r, q⟩ => pn_two (noX_pv2 _) s r q
  intro value slice pins s σ H x y v u Q I rx ry h hsub
  obtain ⟨ad, S, a, b, v', sm, ra, rb, hg, q⟩ := P2.elim2 h
  unfold gIx at hg
  split at hg
  · rename_i xs i hx
    obtain ⟨p, ws, rfl, rw, hs⟩ := seq_of (K := X.K) hK sm hx ra
    cases RV.int rb
    obtain ⟨w, hw, rw'⟩ := atI_rv rw hg
    rcases hs with hs | hs
    · exact ix_list value slice pins s σ H _ _ v u Q I rx ry ⟨p, ws, i, w, rfl, rfl, hs, hw, q _ rw'⟩ hsub
    · exact ix_tup value slice pins s σ H _ _ v u Q I rx ry ⟨p, ws, i, w, rfl, rfl, hs, hw, q _ rw'⟩ hsub
  · cases hg

/-! ### built-in functions of values -/
def gLen : V → Sto → Option V := fun a S => (seqOf S a).map fun xs => .int xs.length
theorem c_len (hK : C.K = X.K) : CallR X (.builtin "len") (rP C (pv1 gLen)) := by
  intro pins s σ H ws us Q I r h
  obtain ⟨u, rfl⟩ := pv1_one h
  obtain ⟨ad, S, a, v', sm, ra, hg, q⟩ := P1.elim1 h
  unfold gLen at hg
  cases hx : seqOf S a with
  | none => rw [hx] at hg; cases hg
  | some xs =>
    rw [hx] at hg; cases hg
    obtain ⟨p, zs, rfl, rw, hs⟩ := seq_of (K := X.K) hK sm hx ra
    refine call_len_seq pins s σ H _ us Q I r ⟨p, zs, rfl, hs, ?_⟩
    rw [← Paired.len rw]
    exact q _ rfl
def gInt1 : V → Sto → Option V := fun a _ => match a with
  | .int i => some (.int i)
  | .bl b => some (.int (if b then 1 else 0))
  | _ => none
theorem c_int : CallR X (.type "int") (rP C (pv1 gInt1)) := by
  intro pins s σ H ws us Q I r h
  obtain ⟨u, rfl⟩ := pv1_one h
  obtain ⟨ad, S, a, v', sm, ra, hg, q⟩ := P1.elim1 h
  unfold gInt1 at hg
  split at hg
  · cases hg; cases RV.int ra; exact call_int1 pins s σ H _ us Q I r (.inl ⟨_, rfl, q _ rfl⟩)
  · cases hg; cases RV.bl ra; exact call_int1 pins s σ H _ us Q I r (.inr ⟨_, rfl, q _ rfl⟩)
  · cases hg
def gAbs : V → Sto → Option V := fun a _ => match a with
  | .int i => some (.int (if i < 0 then -i else i))
  | _ => none
theorem c_abs : CallR X (.builtin "abs") (rP C (pv1 gAbs)) := by
  intro pins s σ H ws us Q I r h
  obtain ⟨u, rfl⟩ := pv1_one h
  obtain ⟨ad, S, a, v', sm, ra, hg, q⟩ := P1.elim1 h
  unfold gAbs at hg
  split at hg
  · cases hg; cases RV.int ra; exact call_abs pins s σ H _ us Q I r ⟨_, rfl, q _ rfl⟩
  · cases hg
theorem pv2_two {g : V → V → Sto → Option V} {ws : List V} {Q : VK} (h : rP C (pv2 g) ws H Q) : ∃ u w, ws = [u, w] := by
  obtain ⟨ad, S, vs, v, S', s, r, hf, k⟩ := rP.elim (noX_pv2 g) h
  match vs, ws, r, hf with
  | [a, b], _, .cons ra (.cons rb .nil), hf => exact ⟨_, _, rfl⟩
def gMax2 := gInt fun i j => some (.int (if j > i then j else i))
def gMin2 := gInt fun i j => some (.int (if j < i then j else i))
theorem c_max2 (hc : X.calm = true) : CallR X (.builtin "max") (rP C (pv2 gMax2)) := by
  intro pins s σ H ws us Q I r h
  obtain ⟨u, w, rfl⟩ := pv2_two h
  obtain ⟨i, j, v', rfl, rfl, hk, q⟩ := gInt.out h
  cases hk
  exact call_max2 hc pins s σ H _ us Q I r ⟨i, j, rfl, q fun _ => rfl⟩
theorem c_min2 (hc : X.calm = true) : CallR X (.builtin "min") (rP C (pv2 gMin2)) := by
  intro pins s σ H ws us Q I r h
  obtain ⟨u, w, rfl⟩ := pv2_two h
  obtain ⟨i, j, v', rfl, rfl, hk, q⟩ := gInt.out h
  cases hk
  exact call_min2 hc pins s σ H _ us Q I r ⟨i, j, rfl, q fun _ => rfl⟩
/-- a list of ints -/
def intsOf : List V → Option (List Int)
  | [] => some []
  | .int i :: r => (intsOf r).map (i :: ·)
  | _ :: _ => none
theorem intsOf_eq : ∀ {vs : List V} {ns : List Int}, intsOf vs = some ns → vs = ns.map V.int
  | [], ns, h => by cases h; rfl
  | .int i :: r, ns, h => by
    unfold intsOf at h
    cases q : intsOf r with
    | none => rw [q] at h; cases h
    | some ms => rw [q] at h; cases h; rw [intsOf_eq q]; rfl
  | .non :: _, _, h => nomatch h
  | .bl _ :: _, _, h => nomatch h
  | .str _ :: _, _, h => nomatch h
  | .byt _ :: _, _, h => nomatch h
  | .flt _ :: _, _, h => nomatch h
  | .ref _ :: _, _, h => nomatch h
  | .ty _ :: _, _, h => nomatch h
theorem ints_flat (ns : List Int) : (ns.map V.int).all flatV = true := by
  rw [List.all_eq_true]; intro v h
  obtain ⟨i, _, rfl⟩ := List.mem_map.mp h; rfl
theorem ints_rv {vs ws : List V} {ns : List Int} (h : intsOf vs = some ns) (r : RVs ad vs ws) : ws = ns.map V.int := by
  rw [intsOf_eq h] at r
  exact RVs.flat (ints_flat ns) r
def lstInts (S : Sto) (a : V) : Option (List Int) := (lstOf S a).bind intsOf
theorem lst_ints {K : PySem.W.Frag} (hK : C.K = K) {v w : V} {ns : List Int} (s : Sim C ad S H) (h : lstInts S v = some ns) (r : RV ad v w) : ∃ b, w = .ref b ∧ SqL K H b (ns.map V.int) := by
  unfold lstInts at h
  cases q : lstOf S v with
  | none => rw [q] at h; cases h
  | some vs =>
    rw [q] at h
    obtain ⟨b, ws, rfl, rw, hs⟩ := lst_of (K := K) hK s q r
    rw [ints_rv h rw] at hs
    exact ⟨b, rfl, hs⟩
def gSum : V → Sto → Option V := fun a S => (lstInts S a).map fun ns => .int ns.sum
theorem c_sum (hK : C.K = X.K) (hc : X.calm = true) : CallR X (.builtin "sum") (rP C (pv1 gSum)) := by
  intro pins s σ H ws us Q I r h
  obtain ⟨u, rfl⟩ := pv1_one h
  obtain ⟨ad, S, a, v', sm, ra, hg, q⟩ := P1.elim1 h
  unfold gSum at hg
  cases hx : lstInts S a with
  | none => rw [hx] at hg; cases hg
  | some ns =>
    rw [hx] at hg; cases hg
    obtain ⟨b, rfl, hs⟩ := lst_ints (K := X.K) hK sm hx ra
    exact cr_sum hc pins s σ H _ us Q I r ⟨b, ns, rfl, hs, q _ rfl⟩
/-- a list of bools -/
def blsOf : List V → Option (List Bool)
  | [] => some []
  | .bl i :: r => (blsOf r).map (i :: ·)
  | _ :: _ => none
theorem blsOf_eq : ∀ {vs : List V} {ns : List Bool}, blsOf vs = some ns → vs = ns.map V.bl
  | [], ns, h => by cases h; rfl
  | .bl i :: r, ns, h => by
    unfold blsOf at h
    cases q : blsOf r with
    | none => rw [q] at h; cases h
    | some ms => rw [q] at h; cases h; rw [blsOf_eq q]; rfl
  | .non :: _, _, h => nomatch h
  | .int _ :: _, _, h => nomatch h
  | .str _ :: _, _, h => nomatch h
  | .byt _ :: _, _, h => nomatch h
  | .flt _ :: _, _, h => nomatch h
  | .ref _ :: _, _, h => nomatch h
  | .ty _ :: _, _, h => nomatch h
theorem bls_flat (ns : List Bool) : (ns.map V.bl).all flatV = true := by
  rw [List.all_eq_true]; intro v h
  obtain ⟨i, _, rfl⟩ := List.mem_map.mp h; rfl
def lstBls (S : Sto) (a : V) : Option (List Bool) := (lstOf S a).bind blsOf
theorem lst_bls {K : PySem.W.Frag} (hK : C.K = K) {v w : V} {ns : List Bool} (s : Sim C ad S H) (h : lstBls S v = some ns) (r : RV ad v w) : ∃ b, w = .ref b ∧ SqL K H b (ns.map V.bl) := by
  unfold lstBls at h
  cases q : lstOf S v with
  | none => rw [q] at h; cases h
  | some vs =>
    rw [q] at h
    obtain ⟨b, ws, rfl, rw, hs⟩ := lst_of (K := K) hK s q r
    have e := blsOf_eq h
    subst e
    rw [RVs.flat (bls_flat ns) rw] at hs
    exact ⟨b, rfl, hs⟩
def gAll : V → Sto → Option V := fun a S => (lstBls S a).map fun ns => .bl (ns.all id)
def gAny : V → Sto → Option V := fun a S => (lstBls S a).map fun ns => .bl (ns.any id)
theorem c_all (hK : C.K = X.K) (hc : X.calm = true) : CallR X (.builtin "all") (rP C (pv1 gAll)) := by
  intro pins s σ H ws us Q I r h
  obtain ⟨u, rfl⟩ := pv1_one h
  obtain ⟨ad, S, a, v', sm, ra, hg, q⟩ := P1.elim1 h
  unfold gAll at hg
  cases hx : lstBls S a with
  | none => rw [hx] at hg; cases hg
  | some ns =>
    rw [hx] at hg; cases hg
    obtain ⟨b, rfl, hs⟩ := lst_bls (K := X.K) hK sm hx ra
    exact cr_all hc pins s σ H _ us Q I r ⟨b, ns, rfl, hs, q _ rfl⟩
theorem c_any (hK : C.K = X.K) (hc : X.calm = true) : CallR X (.builtin "any") (rP C (pv1 gAny)) := by
  intro pins s σ H ws us Q I r h
  obtain ⟨u, rfl⟩ := pv1_one h
  obtain ⟨ad, S, a, v', sm, ra, hg, q⟩ := P1.elim1 h
  unfold gAny at hg
  cases hx : lstBls S a with
  | none => rw [hx] at hg; cases hg
  | some ns =>
    rw [hx] at hg; cases hg
    obtain ⟨b, rfl, hs⟩ := lst_bls (K := X.K) hK sm hx ra
    exact cr_any hc pins s σ H _ us Q I r ⟨b, ns, rfl, hs, q _ rfl⟩
end Nx

set_option Elab.async false
set_option linter.all false
set_option maxRecDepth 100000
set_option autoImplicit false
namespace Nx
open PySem L2 PySem.Spec PyProof.Rows
variable {C : CC} {ad ad1 ad' : List Addr} {H H1 H' : Hp} {S S1 S' : Sto} {a p : Addr}
variable {X : Cx} {W : WX} {e e1 e2 e3 : PySem.Expr} {es : List PySem.Expr} {x y z : Ex} {xs : Exs} {pos : Pos}
theorem xe_stuck : PE X e (tEv C W .stuck) := ⟨fun pins s σ H Q I ⟨_, _, _, _, _, q⟩ => q.elim⟩
theorem xs_stuck {st : Stmt} : PS X st (tEx C W .stuck) := ⟨fun pins s σ H D I ⟨_, _, _, _, _, q⟩ => q.elim⟩
theorem alloc_out (s : Sim C ad S H) {o : Ob} {ho : HO} {Q : VK} (k : ∀ ad' H' w, Ext ad H ad' H' → Sim C ad' (S ++ [o]) H' → RV ad' (.ref S.length) w → Q w H') (r : ∀ p, H p = none → ObR C (ad ++ [p]) (upd H p ho) p o) :
    ∀ p, H p = none → Q (.ref p) (upd H p ho) := fun p hp => by
  obtain ⟨s', e'⟩ := s.alloc (ho := ho) (o := o) hp (r p hp)
  refine k _ _ _ e' s' ⟨p, ?_, rfl⟩
  rw [← s.len, List.getElem?_append_right (Nat.le_refl _)]; simp
theorem new_lst {xs ws : List V} (r : RVs ad xs ws) : ∀ p, H p = none → ObR C (ad ++ [p]) (upd H p (.lst ws)) p (.lst xs) := fun p _ => ⟨ws, r.pre, upd_same⟩
theorem new_tpl {xs ws : List V} (r : RVs ad xs ws) : ∀ p, H p = none → ObR C (ad ++ [p]) (upd H p (.tup ws)) p (.tpl xs) := fun p _ => ⟨ws, r.pre, upd_same⟩
theorem new_tup {xs ws : List V} {ob : Obj} (hd : ob.dict = none) (r : RVs ad xs ws) : ∀ p, H p = none → ObR C (ad ++ [p]) (upd H p (.frz ob (.tup ws))) p (.tup xs) := fun p _ => ⟨ob, ws, r.pre, upd_same, hd⟩
/-! ### tuples whose object is known to have no dict of its own -/
/-- a new such tuple -/
def FT (H : Hp) (Q : VK) (xs : List V) : Prop := ∀ (p : Addr) (ob : Obj), ob.dict = none → H p = none → Q (.ref p) (upd H p (.frz ob (.tup xs)))
theorem Inv.laidT {pins : List (Addr × Obj)} {σ : L2.St} {s : Shared} {h' : Heap} {Q : VK} {t' : Nat} {xs : List V} {us : List Value} (I : Inv X pins σ H s) (k : ∀ b u, s.heap.get? b = some u → h'.get? b = some u) (hz : xs.length ≤ sizeLine) (r : Vals xs us)
    (q : FT H Q xs) {tn : Nat} (hp : s.heap.objs.size ≤ h'.objs.size) : EP X pins σ Q (.ref h'.objs.size) { s with heap := h'.push { cls := .type "tuple", data := .seq us.toArray tn }, toks := t' } := by
  have fr : H h'.objs.size = none := I.hok.fresh hp
  exact ⟨.ref h'.objs.size, upd H h'.objs.size (.frz _ (.tup xs)), Inv.laid (t' := t') I (fun b u e => Heap.get?_push_of_some _ (k b u e)) hp
    ⟨Heap.get?_push_size _ rfl, hz, us, r, ⟨_, Heap.get?_push_size _ rfl, rfl, _, rfl⟩⟩, rfl, q _ _ rfl fr⟩
def tTupF (t : TA) : TE := fun σ H Q => t σ H fun xs H1 => xs.length ≤ sizeLine ∧ FT H1 Q xs
theorem pe_tupF {k} {t : TA} (h : PA X es t) : PE X (.Tuple es k pos) (tTupF t) := ⟨fun pins s σ H Q I hq => by
  refine wpAny_Tuple_spliced (thn (h.run pos pins s σ H _ I hq) ?_)
  rintro us s1 ⟨xs, H1, I1, r, z, q⟩
  exact ⟨by rw [← r.length]; exact z, Inv.laidT (t' := s1.toks) I1 (fun _ _ e => e) z r q (Nat.le_refl _)⟩⟩
/-- t + u -/
def rCatF (K : PySem.W.Frag) : R2 := fun x y H Q => ∃ a b xs ys, x = .ref a ∧ y = .ref b ∧ SqT K H a xs ∧ SqT K H b ys ∧ xs.length + ys.length ≤ sizeLine ∧
  (xs = [] → Q (.ref b) H) ∧ (xs ≠ [] → ys = [] → Q (.ref a) H) ∧ (xs ≠ [] → ys ≠ [] → FT H Q (xs ++ ys))
theorem op_catF : OpR X (binaryOp .Add) (rCatF X.K) := by
  intro pins s σ H x y v u Q I rx ry h
  obtain ⟨a, b, xs, ys, rfl, rfl, ta, tb, hz, q0, q1, q2⟩ := h
  cases rx; cases ry
  obtain ⟨us, r1, p1, _⟩ := I.tuple ta
  obtain ⟨ws, r2, p2, _⟩ := I.tuple tb
  by_cases hx : xs = []
  · subst hx; cases r1
    exact cat_tup0 p1 p2 ⟨.ref b, H, I, rfl, q0 rfl⟩
  · refine HT.cat_tup p1 p2 (fun z => hx (r1.nil_iff.mp z)) (fun z => ⟨.ref a, H, I, rfl, q1 hx (r2.nil_iff.mp z)⟩) (fun z => ?_) (by rw [← r1.length, ← r2.length]; exact hz)
    exact Inv.laidT (t' := s.toks) I (fun _ _ e => e) (by rw [List.length_append]; exact hz) (r1.append r2) (q2 hx fun c => z (r2.nil_iff.mpr c)) (Nat.le_refl _)
/-- t[lo:hi] -/
def rSlF (K : PySem.W.Frag) : V → Option Int → Option Int → Hp → VK → Prop := fun x lo hi H Q => ∃ a xs, x = .ref a ∧ SqT K H a xs ∧
  (HT.sIx xs.length 0 lo = 0 ∧ HT.sIx xs.length xs.length hi = xs.length → Q (.ref a) H) ∧ (¬ (HT.sIx xs.length 0 lo = 0 ∧ HT.sIx xs.length xs.length hi = xs.length) → FT H Q (cutV xs lo hi))
theorem sl_tupF : SlR X (rSlF X.K) := by
  intro pins s σ H x v vl vu lo hi sl Q I rx hs pl pu h
  obtain ⟨a, xs, rfl, tx, q1, q2⟩ := h
  cases rx
  obtain ⟨us, r, pt, hz⟩ := I.tuple tx
  have el : us.toArray.size = xs.length := by rw [List.size_toArray]; exact r.length.symm
  refine ⟨"tuple", _, PyProof.Rows.slot_tuple_getitem.lookup, pt.typeIs, ?_⟩
  by_cases c : HT.sIx xs.length 0 lo = 0 ∧ HT.sIx xs.length xs.length hi = xs.length
  · exact getItem_tuple_whole pt hs pl pu (by rw [el]; exact c) ⟨.ref a, H, I, rfl, q1 c⟩
  · refine HT.getItem_tuple_cut pt hs pl pu (by rw [el]; exact c) ?_ (by rw [el]; exact hz)
    rw [el]
    exact Inv.laidT (t' := s.toks) I (fun _ _ e => e) (Nat.le_trans (cutV_length xs lo hi) hz) ((r.drop _).take _) (q2 c) (Nat.le_refl _)
/-- tuple(x) -/
def rTupleF (K : PySem.W.Frag) : List V → Hp → VK → Prop := fun xs H Q => ∃ p ys, xs = [.ref p] ∧ ((SqL K H p ys ∧ FT H Q ys) ∨ (SqT K H p ys ∧ Q (.ref p) H))
theorem call_tupleF : CallR X (.type "tuple") (rTupleF X.K) := by
  intro pins s σ H xs us Q I r h
  obtain ⟨p, ys, rfl, h⟩ := h
  obtain ⟨u, rfl, rx⟩ := vals1 r
  cases rx
  rcases h with ⟨hq, q⟩ | ⟨hq, q⟩
  · obtain ⟨ws, r', pl, hz⟩ := I.list hq
    have el := r'.length
    refine call_tuple_list pl.isList (fun h' kp => ?_) (by simp only [List.size_toArray] <;> omega)
    have I1 : Inv X pins σ H { s with heap := h' } := I.kept (t' := s.toks) kp
    exact Inv.laidT (t' := s.toks) I1 (fun _ _ e => e) hz r' q (Nat.le_refl _)
  · obtain ⟨ws, r', pt, hz⟩ := I.tuple hq
    exact call_tuple_same pt ⟨.ref p, H, I, rfl, q⟩
theorem alloc_tup (s : Sim C ad S H) {xs ws : List V} {Q : VK} (r : RVs ad xs ws) (k : ∀ ad' H' w, Ext ad H ad' H' → Sim C ad' (S ++ [.tup xs]) H' → RV ad' (.ref S.length) w → Q w H') : FT H Q ws := fun p ob hd hp => by
  obtain ⟨s', e'⟩ := s.alloc (ho := .frz ob (.tup ws)) (o := .tup xs) hp (new_tup hd r p hp)
  refine k _ _ _ e' s' ⟨p, ?_, rfl⟩
  rw [← s.len, List.getElem?_append_right (Nat.le_refl _)]; simp
theorem RVs.append {xs ws ys zs : List V} (r : RVs ad xs ws) (q : RVs ad ys zs) : RVs ad (xs ++ ys) (ws ++ zs) := by
  induction r with
  | nil => exact q
  | cons r1 r2 ih => exact .cons r1 ih
theorem RVs.take {xs ws : List V} (r : RVs ad xs ws) : ∀ n, RVs ad (xs.take n) (ws.take n) := by
  induction r with
  | nil => intro n; simp; exact .nil
  | cons r1 r2 ih =>
    intro n
    cases n with
    | zero => exact .nil
    | succ n => exact .cons r1 (ih n)
theorem RVs.drop {xs ws : List V} (r : RVs ad xs ws) : ∀ n, RVs ad (xs.drop n) (ws.drop n) := by
  induction r with
  | nil => intro n; simp; exact .nil
  | cons r1 r2 ih =>
    intro n
    cases n with
    | zero => exact .cons r1 r2
    | succ n => exact ih n
theorem RVs.nil_iff {xs ws : List V} (r : RVs ad xs ws) : xs = [] ↔ ws = [] := by
  cases r with
  | nil => simp
  | cons _ _ => simp

/-! ### + -/
def pAdd : Prim := fun vs S => match vs with
  | [.int i, .int j] => some (.val (.int (i + j)) S)
  | [.str a, .str b] => if a.length + b.length ≤ 100000 then some (.val (.str (a ++ b)) S) else none
  | [.ref n, .ref m] => match S[n]?, S[m]? with
    | some (.lst xs), some (.lst ys) => if xs.length + ys.length ≤ 100000 then some (.val (.ref S.length) (S ++ [.lst (xs ++ ys)])) else none
    | some (.tup xs), some (.tup ys) => if xs.length + ys.length ≤ 100000 then
        (if xs = [] then some (.val (.ref m) S) else if ys = [] then some (.val (.ref n) S) else some (.val (.ref S.length) (S ++ [.tup (xs ++ ys)]))) else none
    | _, _ => none
  | _ => none
theorem noX_add : NoX pAdd := by
  intro vs S c fs S' h
  unfold pAdd at h
  repeat' split at h
  all_goals cases h
theorem line_of {n : Nat} (h : n ≤ 100000) : n ≤ sizeLine := Nat.le_trans h (by decide)
theorem line_lt {n : Nat} (h : n < 100000) : n < sizeLine := Nat.lt_of_lt_of_le h (by decide)
theorem P2.vals {f : Prim} (n : NoX f) {u w : V} {Q : VK} (h : P2 C f u w H Q) : ∃ ad S a b v S', Sim C ad S H ∧ RV ad a u ∧ RV ad b w ∧ f [a, b] S = some (.val v S') ∧ ∀ ad' H' w, Ext ad H ad' H' → Sim C ad' S' H' → RV ad' v w → Q w H' := by
  obtain ⟨ad, S, vs, v, S', s, r, hf, k⟩ := rP.elim n h
  match vs, r, hf with
  | [a, b], .cons ra (.cons rb .nil), hf => exact ⟨ad, S, a, b, v, S', s, ra, rb, hf, k⟩
theorem o_add : OpR X (binaryOp .Add) (P2 C pAdd) := by
  intro pins s σ H x y v u Q I rx ry h
  obtain ⟨ad, S, a, b, v', S', sm, ra, rb, hf, k⟩ := P2.vals noX_add h
  unfold pAdd at hf
  split at hf
  · rename_i i j he
    cases he
    cases hf; cases RV.int ra; cases RV.int rb
    exact op_add pins s σ H _ _ v u Q I rx ry ⟨i, j, rfl, rfl, k ad H _ (Ext.refl sm) sm rfl⟩
  · rename_i i j he
    cases he
    split at hf
    · rename_i hl
      cases hf; cases RV.str ra; cases RV.str rb
      exact op_add_str pins s σ H _ _ v u Q I rx ry ⟨i, j, rfl, rfl, line_of hl, k ad H _ (Ext.refl sm) sm rfl⟩
    · cases hf
  · rename_i n m he
    cases he
    obtain ⟨pn, hn, rfl⟩ := ra
    obtain ⟨pm, hm, rfl⟩ := rb
    split at hf
    · rename_i xs ys h1 h2
      split at hf
      · rename_i hl
        cases hf
        obtain ⟨ws, rw1, hw1⟩ := sm.ob _ _ _ h1 hn
        obtain ⟨zs, rw2, hw2⟩ := sm.ob _ _ _ h2 hm
        exact op_cat pins s σ H _ _ v u Q I rx ry ⟨pn, pm, ws, zs, rfl, rfl, hw1, hw2, by rw [← Paired.len rw1, ← Paired.len rw2]; exact line_of hl, alloc_out sm k (new_lst (rw1.append rw2))⟩
      · cases hf
    · rename_i xs ys h1 h2
      split at hf
      · rename_i hl
        obtain ⟨o1, ws, rw1, hw1, _⟩ := sm.ob _ _ _ h1 hn
        obtain ⟨o2, zs, rw2, hw2, _⟩ := sm.ob _ _ _ h2 hm
        refine op_catF pins s σ H _ _ v u Q I rx ry ⟨pn, pm, ws, zs, rfl, rfl, .inl (.inr ⟨o1, hw1⟩), .inl (.inr ⟨o2, hw2⟩), by rw [← Paired.len rw1, ← Paired.len rw2]; exact line_of hl, fun e => ?_, fun e e' => ?_, fun e e' => ?_⟩
        · rw [if_pos (rw1.nil_iff.mpr e)] at hf; cases hf
          exact k ad H _ (Ext.refl sm) sm ⟨pm, hm, rfl⟩
        · rw [if_neg (fun z => e (rw1.nil_iff.mp z)), if_pos (rw2.nil_iff.mpr e')] at hf; cases hf
          exact k ad H _ (Ext.refl sm) sm ⟨pn, hn, rfl⟩
        · rw [if_neg (fun z => e (rw1.nil_iff.mp z)), if_neg (fun z => e' (rw2.nil_iff.mp z))] at hf; cases hf
          exact alloc_tup sm (rw1.append rw2) k
      · cases hf
    · cases hf
  · cases hf
/-! ### * -/
def pMul : Prim := fun vs S => match vs with
  | [.int i, .int j] => if (-(2 ^ 64) < i ∧ i < 2 ^ 64) ∨ (-(2 ^ 64) < j ∧ j < 2 ^ 64) then some (.val (.int (i * j)) S) else none
  | [.ref n, .int j] => match S[n]? with
    | some (.lst xs) => if 0 ≤ j ∧ j < 100000 ∧ xs.length * j.toNat ≤ 100000 then some (.val (.ref S.length) (S ++ [.lst (List.replicate j.toNat xs).flatten])) else none
    | _ => none
  | _ => none
theorem noX_mul : NoX pMul := by
  intro vs S c fs S' h
  unfold pMul at h
  repeat' split at h
  all_goals cases h
theorem RVs.rep {xs ws : List V} (r : RVs ad xs ws) : ∀ n, RVs ad (List.replicate n xs).flatten (List.replicate n ws).flatten
  | 0 => .nil
  | n + 1 => by
    rw [List.replicate_succ, List.replicate_succ, List.flatten_cons, List.flatten_cons]
    exact r.append (RVs.rep r n)
theorem o_mul : OpR X (binaryOp .Mult) (P2 C pMul) := by
  intro pins s σ H x y v u Q I rx ry h
  obtain ⟨ad, S, a, b, v', S', sm, ra, rb, hf, k⟩ := P2.vals noX_mul h
  unfold pMul at hf
  split at hf
  · rename_i i j he
    cases he
    split at hf
    · rename_i hl
      cases hf; cases RV.int ra; cases RV.int rb
      exact op_mul pins s σ H _ _ v u Q I rx ry ⟨i, j, rfl, rfl, hl, k ad H _ (Ext.refl sm) sm rfl⟩
    · cases hf
  · rename_i n j he
    cases he
    obtain ⟨pn, hn, rfl⟩ := ra
    cases RV.int rb
    split at hf
    · rename_i xs h1
      split at hf
      · rename_i hl
        cases hf
        obtain ⟨ws, rw1, hw1⟩ := sm.ob _ _ _ h1 hn
        exact op_rep pins s σ H _ _ v u Q I rx ry ⟨pn, j, ws, rfl, rfl, hw1, by omega, by omega, by rw [← Paired.len rw1]; exact line_of hl.2.2, alloc_out sm k (new_lst (rw1.rep _))⟩
      · cases hf
    · cases hf
  · cases hf

/-! ### displays -/
def pTup : Prim := fun vs S => if vs.length ≤ 100000 then some (.val (.ref S.length) (S ++ [.tup vs])) else none
def pLst : Prim := fun vs S => if vs.length ≤ 100000 then some (.val (.ref S.length) (S ++ [.lst vs])) else none
theorem noX_tup : NoX pTup := by
  intro vs S c fs S' h
  unfold pTup at h
  split at h <;> cases h
theorem noX_lst : NoX pLst := by
  intro vs S c fs S' h
  unfold pLst at h
  split at h <;> cases h
theorem xe_tup {k} (h : PA X es (tEvs C W xs)) : PE X (.Tuple es k pos) (tEv C W (.pn pTup xs)) := by
  refine PE.imp (pe_tupF h) ?_
  rintro σ H Q ⟨ad, S, ρ, s, r, q⟩
  obtain ⟨ad, S, ρ, s, r, q⟩ := pn_args noX_tup s r q
  refine ⟨ad, S, ρ, s, r, q.mono ?_⟩
  rintro ws H1 h1
  obtain ⟨ad1, S1, vs, v, S2, s1, r1, hf, k⟩ := rP.elim noX_tup h1
  unfold pTup at hf
  split at hf
  · rename_i hl
    cases hf
    exact ⟨by rw [← Paired.len r1]; exact line_of hl, alloc_tup s1 r1 k⟩
  · cases hf
theorem xe_lst (h : PA X es (tEvs C W xs)) : PE X (.List es pos) (tEv C W (.pn pLst xs)) := by
  refine PE.imp (pe_lst h) ?_
  rintro σ H Q ⟨ad, S, ρ, s, r, q⟩
  obtain ⟨ad, S, ρ, s, r, q⟩ := pn_args noX_lst s r q
  refine ⟨ad, S, ρ, s, r, q.mono ?_⟩
  rintro ws H1 h1
  obtain ⟨ad1, S1, vs, v, S2, s1, r1, hf, k⟩ := rP.elim noX_lst h1
  unfold pLst at hf
  split at hf
  · rename_i hl
    cases hf
    exact ⟨by rw [← Paired.len r1]; exact line_of hl, alloc_out s1 k (new_lst r1)⟩
  · cases hf

/-! ### list(..), tuple(..), sorted(..) -/
def gListOf : V → Sto → Option Ob := fun a S => (seqOf S a).map .lst
theorem rp_new1 {g : V → Sto → Option Ob} {ws : List V} {Q : VK} (h : rP C (pn1 g) ws H Q) : ∃ ad S a u o, ws = [u] ∧ Sim C ad S H ∧ RV ad a u ∧ g a S = some o ∧ ∀ ad' H' w, Ext ad H ad' H' → Sim C ad' (S ++ [o]) H' → RV ad' (.ref S.length) w → Q w H' := by
  obtain ⟨ad, S, vs, v, S', s, r, hf, k⟩ := rP.elim (noX_pn1 g) h
  match vs, ws, r, hf with
  | [a], _, .cons ra .nil, hf =>
    unfold pn1 at hf
    cases q : g a S with
    | none => simp only [q] at hf; cases hf
    | some o =>
      simp only [q] at hf
      cases hf
      exact ⟨ad, S, a, _, o, rfl, s, ra, q, k⟩
theorem c_list (hK : C.K = X.K) : CallR X (.type "list") (rP C (pn1 gListOf)) := by
  intro pins s σ H ws us Q I r h
  obtain ⟨ad, S, a, u, o, rfl, sm, ra, hg, k⟩ := rp_new1 h
  unfold gListOf at hg
  cases hx : seqOf S a with
  | none => rw [hx] at hg; cases hg
  | some xs =>
    rw [hx] at hg; cases hg
    obtain ⟨b, zs, rfl, rw, hs⟩ := seq_of (K := X.K) hK sm hx ra
    exact call_list_of pins s σ H _ us Q I r ⟨b, zs, rfl, hs, alloc_out sm k (new_lst rw)⟩
def pTupleOf : Prim := fun vs S => match vs with
  | [a] => match tupOf S a with
    | some _ => some (.val a S)
    | none => match lstOf S a with
      | some xs => some (.val (.ref S.length) (S ++ [.tup xs]))
      | none => none
  | _ => none
theorem noX_tupleOf : NoX pTupleOf := by
  intro vs S c fs S' h
  unfold pTupleOf at h
  repeat' split at h
  all_goals cases h
theorem c_tuple (hK : C.K = X.K) : CallR X (.type "tuple") (rP C pTupleOf) := by
  intro pins s σ H ws us Q I r h
  obtain ⟨ad, S, vs, v, S', sm, ra, hf, k⟩ := rP.elim noX_tupleOf h
  match vs, ws, ra, hf with
  | [a], _, .cons ra .nil, hf =>
    unfold pTupleOf at hf
    simp only at hf
    cases ht : tupOf S a with
    | some xs =>
      simp only [ht] at hf
      cases hf
      obtain ⟨b, zs, rfl, rw, hs⟩ := tup_of (K := X.K) sm ht ra
      exact call_tupleF pins s σ H _ us Q I r ⟨b, zs, rfl, .inr ⟨hs, k ad H _ (Ext.refl sm) sm ra⟩⟩
    | none =>
      simp only [ht] at hf
      cases hl : lstOf S a with
      | none => simp only [hl] at hf; cases hf
      | some xs =>
        simp only [hl] at hf
        cases hf
        obtain ⟨b, zs, rfl, rw, hs⟩ := lst_of (K := X.K) hK sm hl ra
        exact call_tupleF pins s σ H _ us Q I r ⟨b, zs, rfl, .inl ⟨hs, alloc_tup sm rw k⟩⟩
/-- sorted ints -/
def insI (x : Int) : List Int → List Int
  | [] => [x]
  | y :: r => if x ≤ y then x :: y :: r else y :: insI x r
def sortI : List Int → List Int
  | [] => []
  | x :: r => insI x (sortI r)
theorem insI_perm (x : Int) : ∀ l, (insI x l).Perm (x :: l)
  | [] => .refl _
  | y :: r => by
    unfold insI
    split
    · exact .refl _
    · exact (List.Perm.cons y (insI_perm x r)).trans (List.Perm.swap x y r)
theorem sortI_perm : ∀ l, (sortI l).Perm l
  | [] => .refl _
  | x :: r => (insI_perm x (sortI r)).trans (.cons x (sortI_perm r))
theorem insI_sorted (x : Int) : ∀ l : List Int, l.Pairwise (· ≤ ·) → (insI x l).Pairwise (· ≤ ·)
  | [], _ => by simp [insI]
  | y :: r, h => by
    unfold insI
    rw [List.pairwise_cons] at h
    split
    · rename_i c
      rw [List.pairwise_cons]
      refine ⟨fun z hz => ?_, List.pairwise_cons.mpr h⟩
      rcases List.mem_cons.mp hz with rfl | hz
      · exact c
      · exact Int.le_trans c (h.1 z hz)
    · rename_i c
      rw [List.pairwise_cons]
      refine ⟨fun z hz => ?_, insI_sorted x r h.2⟩
      have := (insI_perm x r).mem_iff.mp hz
      rcases List.mem_cons.mp this with rfl | hz
      · omega
      · exact h.1 z hz
theorem sortI_sorted : ∀ l : List Int, (sortI l).Pairwise (· ≤ ·)
  | [] => .nil
  | x :: r => insI_sorted x _ (sortI_sorted r)
theorem sorted_unique : ∀ {xs ys : List Int}, xs.Perm ys → xs.Pairwise (· ≤ ·) → ys.Pairwise (· ≤ ·) → xs = ys
  | [], ys, h, _, _ => by have := h.length_eq; cases ys with | nil => rfl | cons _ _ => simp at this
  | x :: xs, [], h, _, _ => by have := h.length_eq; simp at this
  | x :: xs, y :: ys, h, hx, hy => by
    rw [List.pairwise_cons] at hx hy
    have e : x = y := by
      have h1 := h.mem_iff.mp List.mem_cons_self
      have h2 := h.mem_iff.mpr (List.mem_cons_self (a := y) (l := ys))
      rcases List.mem_cons.mp h1 with e | h1
      · exact e
      · rcases List.mem_cons.mp h2 with e | h2
        · exact e.symm
        · exact Int.le_antisymm (hx.1 _ h2) (hy.1 _ h1)
    subst e
    rw [sorted_unique (List.Perm.cons_inv h) hx.2 hy.2]
def gSorted : V → Sto → Option Ob := fun a S => match lstInts S a with
  | some ns => if ns.length < 64 then some (.lst ((sortI ns).map V.int)) else none
  | none => none
theorem c_sorted (hK : C.K = X.K) : CallR X (.builtin "sorted") (rP C (pn1 gSorted)) := by
  intro pins s σ H ws us Q I r h
  obtain ⟨ad, S, a, u, o, rfl, sm, ra, hg, k⟩ := rp_new1 h
  unfold gSorted at hg
  cases hx : lstInts S a with
  | none => simp only [hx] at hg; cases hg
  | some ns =>
    simp only [hx] at hg
    split at hg
    · rename_i hl
      cases hg
      obtain ⟨b, rfl, hs⟩ := lst_ints (K := X.K) hK sm hx ra
      refine cr_sorted pins s σ H _ us Q I r ⟨b, ns, rfl, hs, hl, fun ns' p hp hw hn => ?_⟩
      have e : ns' = sortI ns := sorted_unique (hp.trans (sortI_perm ns).symm) hw (sortI_sorted ns)
      subst e
      refine alloc_out sm k (new_lst ?_) p hn
      have : ∀ ms : List Int, RVs ad (ms.map V.int) (ms.map V.int) := by
        intro ms
        induction ms with
        | nil => exact .nil
        | cons m ms ih => exact .cons rfl ih
      exact this _
    · cases hg
end Nx

set_option Elab.async false
set_option linter.all false
set_option maxRecDepth 100000
set_option autoImplicit false
namespace Nx
open PySem L2 PySem.Spec PyProof.Rows
variable {C : CC} {ad ad1 ad' : List Addr} {H H1 H' : Hp} {S S1 S' : Sto} {a p : Addr}
variable {X : Cx} {W : WX} {e e1 e2 e3 : PySem.Expr} {es : List PySem.Expr} {x y z : Ex} {xs : Exs} {pos : Pos}

/-! ### what is walked -/
def itSeq : ItR where
  start := fun vs S => match vs with
    | [.ref n] => match S[n]? with
      | some (.lst _) => some [.ref n, .bl true]
      | some (.scr _) => some [.ref n, .bl true]
      | some (.kon _) => some [.ref n, .bl true]
      | some (.tup _) => some [.ref n, .bl false]
      | some (.tpl _) => some [.ref n, .bl false]
      | _ => none
    | _ => none
  next := fun st i S => match st with
    | [.ref n, .bl true] => match lstOf S (.ref n) with
      | some xs => some ((xs[i]?).map fun v => (v, S))
      | none => none
    | [.ref n, .bl false] => match tupOf S (.ref n) with
      | some xs => some ((xs[i]?).map fun v => (v, S))
      | none => none
    | _ => none
theorem itok_l {K : PySem.W.Frag} (hK : C.K = K) {ad0 : List Addr} {n : Nat} {a : Addr} (hn : ad0[n]? = some a) : ItOk C ad0 itSeq.next [.ref n, .bl true] (Itl K a) := by
  refine ⟨fun ad i S H more hm s h => ?_, fun ad i S H more v S' hm s h => ?_⟩
  · simp only [itSeq] at h
    cases q : lstOf S (.ref n) with
    | none => simp only [q] at h; cases h
    | some xs =>
      simp only [q] at h
      have ha : ad[n]? = some a := by rw [hm]; exact get_pre hn
      obtain ⟨b, ws, e, rw', hs⟩ := lst_of (K := K) hK s q (show RV ad (.ref n) (.ref a) from ⟨a, ha, rfl⟩)
      cases e
      refine ⟨ws, hs, ?_⟩
      rw [← Paired.len rw']
      cases hx : xs[i]? with
      | none => exact List.getElem?_eq_none_iff.mp hx
      | some v => rw [hx] at h; cases h
  · simp only [itSeq] at h
    cases q : lstOf S (.ref n) with
    | none => simp only [q] at h; cases h
    | some xs =>
      simp only [q] at h
      have ha : ad[n]? = some a := by rw [hm]; exact get_pre hn
      obtain ⟨b, ws, e, rw', hs⟩ := lst_of (K := K) hK s q (show RV ad (.ref n) (.ref a) from ⟨a, ha, rfl⟩)
      cases e
      cases hx : xs[i]? with
      | none => rw [hx] at h; cases h
      | some u =>
        rw [hx] at h; cases h
        obtain ⟨w, hw, rv⟩ := RVs.get rw' hx
        refine ⟨⟨ws, w, hs, hw⟩, ?_⟩
        rintro w' H' ⟨rfl, hall⟩
        have e := hall ws hs
        rw [hw] at e; cases e
        exact ⟨ad, Ext.refl s, s, rv⟩
theorem itok_t {K : PySem.W.Frag} {ad0 : List Addr} {n : Nat} {a : Addr} (hn : ad0[n]? = some a) : ItOk C ad0 itSeq.next [.ref n, .bl false] (Itt K a) := by
  refine ⟨fun ad i S H more hm s h => ?_, fun ad i S H more v S' hm s h => ?_⟩
  · simp only [itSeq] at h
    cases q : tupOf S (.ref n) with
    | none => simp only [q] at h; cases h
    | some xs =>
      simp only [q] at h
      have ha : ad[n]? = some a := by rw [hm]; exact get_pre hn
      obtain ⟨b, ws, e, rw', hs⟩ := tup_of (K := K) s q (show RV ad (.ref n) (.ref a) from ⟨a, ha, rfl⟩)
      cases e
      refine ⟨ws, hs, ?_⟩
      rw [← Paired.len rw']
      cases hx : xs[i]? with
      | none => exact List.getElem?_eq_none_iff.mp hx
      | some v => rw [hx] at h; cases h
  · simp only [itSeq] at h
    cases q : tupOf S (.ref n) with
    | none => simp only [q] at h; cases h
    | some xs =>
      simp only [q] at h
      have ha : ad[n]? = some a := by rw [hm]; exact get_pre hn
      obtain ⟨b, ws, e, rw', hs⟩ := tup_of (K := K) s q (show RV ad (.ref n) (.ref a) from ⟨a, ha, rfl⟩)
      cases e
      cases hx : xs[i]? with
      | none => rw [hx] at h; cases h
      | some u =>
        rw [hx] at h; cases h
        obtain ⟨w, hw, rv⟩ := RVs.get rw' hx
        refine ⟨⟨ws, w, hs, hw⟩, ?_⟩
        rintro w' H' ⟨rfl, hall⟩
        have e := hall ws hs
        rw [hw] at e; cases e
        exact ⟨ad, Ext.refl s, s, rv⟩
theorem PI.of {tg it : PySem.Expr} {t' : TI} (h : ∀ pins s σ H R, Inv X pins σ H s → t' σ H R → ∃ t, PI X tg it t ∧ t σ H R) : PI X tg it t' := ⟨fun pins s σ H R I q => by
  obtain ⟨t, h1, h2⟩ := h pins s σ H R I q
  exact h1.run pins s σ H R I h2⟩
/-- one argument's value -/
theorem evs_one {ρ : Rho} : evs (.cons x .nil) ρ S = (ev x ρ S).bind fun v S1 => some (.val [v] S1) := by
  unfold evs evs
  cases ev x ρ S with
  | none => rfl
  | some o => cases o <;> rfl
theorem xi_seq (hK : C.K = X.K) {tg it : PySem.Expr} (h : PE X it (tEv C W x)) : PI X tg it (tIt C W itSeq (.cons x .nil)) := by
  refine PI.of fun pins s σ H R I q => ?_
  obtain ⟨ad, S, ρ, sm, r, q⟩ := q
  rw [evs_one] at q
  cases hx : ev x ρ S with
  | none => rw [hx] at q; exact q.elim
  | some o =>
    rw [hx] at q
    cases o with
    | exc c fs S' => exact ⟨_, pi_list h, ad, S, ρ, sm, r, by rw [hx]; exact q⟩
    | val v S' =>
      obtain ⟨st, hst, k⟩ := q
      have hv : ∃ n, v = .ref n := by
        cases v with
        | ref n => exact ⟨n, rfl⟩
        | _ => cases hst
      obtain ⟨n, rfl⟩ := hv
      simp only [itSeq] at hst
      cases ho : S'[n]? with
      | none => simp only [ho] at hst; cases hst
      | some ob =>
        simp only [ho] at hst
        cases ob with
        | ins c fs => cases hst
        | dct kvs => cases hst
        | met c m n => cases hst
        | tup xs =>
          cases hst
          refine ⟨_, pi_tup h, ad, S, ρ, sm, r, ?_⟩
          rw [hx]
          rintro ad' H' w e' s' ⟨b, hb, rfl⟩
          obtain ⟨oo, ws, rw', hw, _⟩ := s'.ob _ _ _ ho hb
          exact ⟨b, rfl, ⟨ws, .inl (.inr ⟨oo, hw⟩)⟩, k ad' H' [.ref b] e' s' (.cons ⟨b, hb, rfl⟩ .nil) _ (itok_t hb)⟩
        | tpl xs =>
          cases hst
          refine ⟨_, pi_tup h, ad, S, ρ, sm, r, ?_⟩
          rw [hx]
          rintro ad' H' w e' s' ⟨b, hb, rfl⟩
          obtain ⟨ws, rw', hw⟩ := s'.ob _ _ _ ho hb
          exact ⟨b, rfl, ⟨ws, .inl (.inl hw)⟩, k ad' H' [.ref b] e' s' (.cons ⟨b, hb, rfl⟩ .nil) _ (itok_t hb)⟩
        | lst xs =>
          cases hst
          refine ⟨_, pi_list h, ad, S, ρ, sm, r, ?_⟩
          rw [hx]
          rintro ad' H' w e' s' ⟨b, hb, rfl⟩
          obtain ⟨ws, rw', hw⟩ := s'.ob _ _ _ ho hb
          exact ⟨b, rfl, ⟨ws, .inl (.inl hw)⟩, k ad' H' [.ref b] e' s' (.cons ⟨b, hb, rfl⟩ .nil) _ (itok_l hK hb)⟩
        | kon xs =>
          cases hst
          refine ⟨_, pi_list h, ad, S, ρ, sm, r, ?_⟩
          rw [hx]
          rintro ad' H' w e' s' ⟨b, hb, rfl⟩
          obtain ⟨ws, rw', hw⟩ := s'.ob _ _ _ ho hb
          exact ⟨b, rfl, ⟨ws, hK ▸ hw H'⟩, k ad' H' [.ref b] e' s' (.cons ⟨b, hb, rfl⟩ .nil) _ (itok_l hK hb)⟩
        | scr xs =>
          cases hst
          refine ⟨_, pi_list h, ad, S, ρ, sm, r, ?_⟩
          rw [hx]
          rintro ad' H' w e' s' ⟨b, hb, rfl⟩
          obtain ⟨oo, ws, rw', hw⟩ := s'.ob _ _ _ ho hb
          exact ⟨b, rfl, ⟨ws, .inl (.inr ⟨oo, hw⟩)⟩, k ad' H' [.ref b] e' s' (.cons ⟨b, hb, rfl⟩ .nil) _ (itok_l hK hb)⟩
/-- range(n), range(a, b) -/
def itRange : ItR where
  start := fun vs _ => match vs with
    | [.int n] => if n < 100000 ∧ -100000 < n then some [.int 0, .int n] else none
    | [.int a, .int b] => if a < 100000 ∧ -100000 < a ∧ b < 100000 ∧ -100000 < b then some [.int a, .int b] else none
    | _ => none
  next := fun st i S => match st with
    | [.int a, .int b] => if a + i < b then some (some (.int (a + i), S)) else some none
    | _ => none
theorem itok_r {ad0 : List Addr} {a b : Int} {n : Nat} (hn : ∀ i : Nat, (i < n ↔ a + i < b)) : ItOk C ad0 itRange.next [.int a, .int b] (Itr a n) := by
  refine ⟨fun ad i S H more hm s h => ?_, fun ad i S H more v S' hm s h => ?_⟩
  · simp only [itRange] at h
    split at h
    · cases h
    · rename_i c
      exact Nat.le_of_not_lt fun z => c ((hn i).mp z)
  · simp only [itRange] at h
    split at h
    · rename_i c
      cases h
      refine ⟨(hn i).mpr c, ?_⟩
      rintro w H' ⟨rfl, rfl⟩
      exact ⟨ad, Ext.refl s, s, rfl⟩
    · cases h
theorem xi_range1 {tg : PySem.Expr} {p : Pos} (hg : Gl X "range") (hm : X.mg "range" = none) (ha : PA X [e] (tEvs C W (.cons x .nil))) (hs : starEach [e] X.env = [(false, eval e X.env)] := by rfl) : PI X tg (.Call (.Name "range" p) [e] [] pos) (tIt C W itRange (.cons x .nil)) := by
  refine PI.of fun pins s σ H R I q => ⟨_, pi_range1 hg hm ha hs, ?_⟩
  obtain ⟨ad, S, ρ, sm, r, q⟩ := q
  refine ⟨ad, S, ρ, sm, r, ?_⟩
  cases hx : evs (.cons x .nil) ρ S with
  | none => rw [hx] at q; exact q.elim
  | some o =>
    rw [hx] at q
    cases o with
    | exc c fs S' => exact q
    | val vs S' =>
      obtain ⟨st, hst, k⟩ := q
      intro ad' H' ws e' s' rv
      simp only [itRange] at hst
      split at hst
      · rename_i n
        split at hst
        · rename_i hb
          cases hst
          cases rv with
          | cons r1 r2 =>
            cases r2; cases RV.int r1
            exact ⟨n, rfl, by omega, by omega, k ad' H' _ e' s' (.cons rfl .nil) _ (itok_r fun i => by omega)⟩
        · cases hst
      · rename_i a b
        -- two values of one argument: not possible
        rw [evs_one] at hx
        cases hev : ev x ρ S with
        | none => rw [hev] at hx; cases hx
        | some o => rw [hev] at hx; cases o <;> cases hx
      · cases hst
theorem xi_range2 {tg : PySem.Expr} {p : Pos} (hg : Gl X "range") (hm : X.mg "range" = none) (ha : PA X [e1, e2] (tEvs C W (.cons x (.cons y .nil)))) (hs : starEach [e1, e2] X.env = [(false, eval e1 X.env), (false, eval e2 X.env)] := by rfl) (hs2 : starEach [e2] X.env = [(false, eval e2 X.env)] := by rfl) :
    PI X tg (.Call (.Name "range" p) [e1, e2] [] pos) (tIt C W itRange (.cons x (.cons y .nil))) := by
  refine PI.of fun pins s σ H R I q => ⟨_, pi_range2 hg hm ha hs hs2, ?_⟩
  obtain ⟨ad, S, ρ, sm, r, q⟩ := q
  refine ⟨ad, S, ρ, sm, r, ?_⟩
  cases hx : evs (.cons x (.cons y .nil)) ρ S with
  | none => rw [hx] at q; exact q.elim
  | some o =>
    rw [hx] at q
    cases o with
    | exc c fs S' => exact q
    | val vs S' =>
      obtain ⟨st, hst, k⟩ := q
      intro ad' H' ws e' s' rv
      simp only [itRange] at hst
      split at hst
      · rename_i n
        -- one value of two arguments: not possible
        unfold evs evs evs at hx
        cases hev : ev x ρ S with
        | none => rw [hev] at hx; cases hx
        | some o =>
          rw [hev] at hx
          cases o with
          | exc c fs S' => cases hx
          | val v1 S1 =>
            simp only [M.bind] at hx
            cases hev2 : ev y ρ S1 with
            | none => rw [hev2] at hx; cases hx
            | some o2 => rw [hev2] at hx; cases o2 <;> cases hx
      · rename_i a b
        split at hst
        · rename_i hb
          cases hst
          cases rv with
          | cons r1 r2 =>
            cases r2 with
            | cons r2 r3 =>
            cases r3; cases RV.int r1; cases RV.int r2
            exact ⟨a, b, rfl, ⟨by omega, by omega, by omega, by omega⟩, k ad' H' _ e' s' (.cons rfl (.cons rfl .nil)) _ (itok_r fun i => by omega)⟩
        · cases hst
      · cases hst
/-- enumerate(xs), xs a list -/
def itEnum : ItR where
  start := fun vs S => match vs with
    | [v] => match lstOf S v with
      | some _ => some [v]
      | none => none
    | _ => none
  next := fun st i S => match st with
    | [v] => match lstOf S v with
      | some xs => some ((xs[i]?).map fun u => (.ref S.length, S ++ [.tpl [.int i, u]]))
      | none => none
    | _ => none
theorem Sim.allocT (s : Sim C ad S H) {T : Addr} {xs ws : List V} (hT : H T = none) (r : RVs ad xs ws) : ∃ ad', Ext ad H ad' (upd H T (.tup ws)) ∧ Sim C ad' (S ++ [.tpl xs]) (upd H T (.tup ws)) ∧ RV ad' (.ref S.length) (.ref T) := by
  obtain ⟨s', e'⟩ := s.alloc (ho := .tup ws) (o := .tpl xs) hT (new_tpl r T hT)
  refine ⟨_, e', s', T, ?_, rfl⟩
  rw [← s.len, List.getElem?_append_right (Nat.le_refl _)]; simp
theorem itok_e {K : PySem.W.Frag} (hK : C.K = K) {ad0 : List Addr} {v : V} {a : Addr} (hn : RV ad0 v (.ref a)) : ItOk C ad0 itEnum.next [v] (Ite K a) := by
  refine ⟨fun ad i S H more hm s h => ?_, fun ad i S H more u S' hm s h => ?_⟩
  · simp only [itEnum] at h
    cases q : lstOf S v with
    | none => simp only [q] at h; cases h
    | some xs =>
      simp only [q] at h
      obtain ⟨b, ws, e, rw', hs⟩ := lst_of (K := K) hK s q (by rw [hm]; exact hn.pre)
      cases e
      refine ⟨ws, hs, ?_⟩
      rw [← Paired.len rw']
      cases hx : xs[i]? with
      | none => exact List.getElem?_eq_none_iff.mp hx
      | some v => rw [hx] at h; cases h
  · simp only [itEnum] at h
    cases q : lstOf S v with
    | none => simp only [q] at h; cases h
    | some xs =>
      simp only [q] at h
      obtain ⟨b, ws, e, rw', hs⟩ := lst_of (K := K) hK s q (by rw [hm]; exact hn.pre)
      cases e
      cases hx : xs[i]? with
      | none => rw [hx] at h; cases h
      | some t =>
        rw [hx] at h; cases h
        obtain ⟨w, hw, rv⟩ := RVs.get rw' hx
        refine ⟨⟨ws, w, hs, hw⟩, ?_⟩
        rintro w' H' ⟨T, z, rfl, hT, rfl, hall⟩
        have e := hall ws hs
        rw [hw] at e; cases e
        exact s.allocT hT (.cons rfl (.cons rv .nil))
theorem xi_enum (hK : C.K = X.K) {tpos : Pos} {elts : List PySem.Expr} {kk : Nat} {p : Pos} (hg : Gl X "enumerate") (hm : X.mg "enumerate" = none) (ha : PA X [e] (tEvs C W (.cons x .nil))) (hs : starEach [e] X.env = [(false, eval e X.env)] := by rfl) :
    PI X (.Tuple elts kk tpos) (.Call (.Name "enumerate" p) [e] [] pos) (tIt C W itEnum (.cons x .nil)) := by
  refine PI.of fun pins s σ H R I q => ⟨_, pi_enum hg hm ha hs, ?_⟩
  obtain ⟨ad, S, ρ, sm, r, q⟩ := q
  refine ⟨ad, S, ρ, sm, r, ?_⟩
  cases hx : evs (.cons x .nil) ρ S with
  | none => rw [hx] at q; exact q.elim
  | some o =>
    rw [hx] at q
    cases o with
    | exc c fs S' => exact q
    | val vs S' =>
      obtain ⟨st, hst, k⟩ := q
      intro ad' H' ws e' s' rv
      simp only [itEnum] at hst
      split at hst
      · rename_i v
        split at hst
        · rename_i xs hl
          cases hst
          cases rv with
          | cons r1 r2 =>
            cases r2
            obtain ⟨b, zs, rfl, rw', hs⟩ := lst_of (K := X.K) hK s' hl r1
            exact ⟨b, zs, rfl, hs, k ad' H' _ e' s' (.cons r1 .nil) _ (itok_e hK r1)⟩
        · cases hst
      · cases hst
/-- zip(xs, ys), two lists -/
def itZip : ItR where
  start := fun vs S => match vs with
    | [u, v] => match lstOf S u, lstOf S v with
      | some _, some _ => some [u, v]
      | _, _ => none
    | _ => none
  next := fun st i S => match st with
    | [u, v] => match lstOf S u, lstOf S v with
      | some xs, some ys => match xs[i]?, ys[i]? with
        | some a, some b => some (some (.ref S.length, S ++ [.tpl [a, b]]))
        | _, _ => some none
      | _, _ => none
    | _ => none
theorem itok_z {K : PySem.W.Frag} (hK : C.K = K) {ad0 : List Addr} {u v : V} {a b : Addr} (hu : RV ad0 u (.ref a)) (hv : RV ad0 v (.ref b)) : ItOk C ad0 itZip.next [u, v] (Itz K a b) := by
  refine ⟨fun ad i S H more hm s h => ?_, fun ad i S H more t S' hm s h => ?_⟩
  · simp only [itZip] at h
    split at h
    · rename_i xs ys q1 q2
      obtain ⟨_, ws, e, rw1, hs1⟩ := lst_of (K := K) hK s q1 (by rw [hm]; exact hu.pre)
      cases e
      obtain ⟨_, zs, e, rw2, hs2⟩ := lst_of (K := K) hK s q2 (by rw [hm]; exact hv.pre)
      cases e
      refine ⟨ws, zs, hs1, hs2, ?_⟩
      rw [← Paired.len rw1, ← Paired.len rw2]
      split at h
      · cases h
      · rename_i hno
        by_cases c1 : xs.length ≤ i
        · exact .inl c1
        · by_cases c2 : ys.length ≤ i
          · exact .inr c2
          · exact absurd (List.getElem?_eq_getElem (Nat.lt_of_not_le c2)) (hno _ _ (List.getElem?_eq_getElem (Nat.lt_of_not_le c1)))
    · cases h
  · simp only [itZip] at h
    split at h
    · rename_i xs ys q1 q2
      obtain ⟨_, ws, e, rw1, hs1⟩ := lst_of (K := K) hK s q1 (by rw [hm]; exact hu.pre)
      cases e
      obtain ⟨_, zs, e, rw2, hs2⟩ := lst_of (K := K) hK s q2 (by rw [hm]; exact hv.pre)
      cases e
      split at h
      · rename_i p q hp hq
        cases h
        obtain ⟨w1, hw1, rv1⟩ := RVs.get rw1 hp
        obtain ⟨w2, hw2, rv2⟩ := RVs.get rw2 hq
        refine ⟨⟨ws, zs, w1, w2, hs1, hs2, hw1, hw2⟩, ?_⟩
        rintro w' H' ⟨T, y1, y2, rfl, hT, rfl, h1, h2⟩
        have e1 := h1 ws hs1
        have e2 := h2 zs hs2
        rw [hw1] at e1; cases e1
        rw [hw2] at e2; cases e2
        exact s.allocT hT (.cons rv1 (.cons rv2 .nil))
      · cases h
    · cases h
theorem xi_zip (hK : C.K = X.K) {tpos : Pos} {elts : List PySem.Expr} {kk : Nat} {p : Pos} (hg : Gl X "zip") (hm : X.mg "zip" = none) (ha : PA X [e1, e2] (tEvs C W xs)) (hs : starEach [e1, e2] X.env = (false, eval e1 X.env) :: starEach [e2] X.env := by rfl) (hpl : (backTo pos (starEach [e2] X.env)).any (·.1) = false := by rfl) :
    PI X (.Tuple elts kk tpos) (.Call (.Name "zip" p) [e1, e2] [] pos) (tIt C W itZip xs) := by
  refine PI.of fun pins s σ H R I q => ⟨_, pi_zip hg hm ha hs hpl, ?_⟩
  obtain ⟨ad, S, ρ, sm, r, q⟩ := q
  refine ⟨ad, S, ρ, sm, r, ?_⟩
  cases hx : evs xs ρ S with
  | none => rw [hx] at q; exact q.elim
  | some o =>
    rw [hx] at q
    cases o with
    | exc c fs S' => exact q
    | val vs S' =>
      obtain ⟨st, hst, k⟩ := q
      intro ad' H' ws e' s' rv
      simp only [itZip] at hst
      split at hst
      · rename_i u v
        split at hst
        · rename_i xs ys q1 q2
          cases hst
          cases rv with
          | cons r1 r2 =>
            cases r2 with
            | cons r2 r3 =>
            cases r3
            obtain ⟨b, zs, rfl, rw', hs⟩ := lst_of (K := X.K) hK s' q1 r1
            obtain ⟨b2, zs2, rfl, rw2, hs2⟩ := lst_of (K := X.K) hK s' q2 r2
            exact ⟨b, b2, zs, zs2, rfl, hs, hs2, k ad' H' _ e' s' (.cons r1 (.cons r2 .nil)) _ (itok_z hK r1 r2)⟩
        · cases hst
      · cases hst
end Nx

set_option Elab.async false
set_option linter.all false
set_option maxRecDepth 100000
set_option autoImplicit false
namespace Nx
open PySem L2 PySem.Spec PyProof.Rows
variable {C : CC} {ad ad1 ad' : List Addr} {H H1 H' : Hp} {S S1 S' : Sto} {a p : Addr}
variable {X : Cx} {W : WX} {e e1 e2 e3 o : PySem.Expr} {es : List PySem.Expr} {x y z : Ex} {xs : Exs} {pos : Pos}

/-! ### slices -/
def fSl : V → Option Int → Option Int → Sto → M V := fun v lo hi S => match tupOf S v with
  | some xs => if HT.sIx xs.length 0 lo = 0 ∧ HT.sIx xs.length xs.length hi = xs.length then some (.val v S) else some (.val (.ref S.length) (S ++ [.tup (cutV xs lo hi)]))
  | none => match lstOf S v with
    | some xs => some (.val (.ref S.length) (S ++ [.lst (cutV xs lo hi)]))
    | none => none
theorem RVs.cut {vs ws : List V} (r : RVs ad vs ws) (lo hi : Option Int) : RVs ad (cutV vs lo hi) (cutV ws lo hi) := by
  unfold cutV
  rw [← Paired.len r]
  exact (r.drop _).take _
inductive POk (X : Cx) (C : CC) (W : WX) : Option PySem.Expr → Exs → Prop where
  | none : POk X C W none .nil
  | some {e : PySem.Expr} {x : Ex} (h : PE X e (tEv C W x)) : POk X C W (some e) (.cons x .nil)
def tPt (C : CC) (W : WX) (x : Exs) : TO := fun σ H Q => ∃ ad S ρ, Sim C ad S H ∧ EnvR ad ρ σ ∧ tM C W (fun _ (l : List V) (o : Option Int) => part l = some o) ad H σ Q (evs x ρ S) ∧ ∀ vs S', evs x ρ S = some (.val vs S') → (part vs).isSome = true
theorem po_of {lo : Option PySem.Expr} {l : Exs} (h : POk X C W lo l) : PO X lo (tPt C W l) := by
  cases h with
  | none =>
    refine ⟨fun pins s σ H Q I q => po_none.run pins s σ H Q I ?_⟩
    obtain ⟨ad, S, ρ, sm, r, q, _⟩ := q
    unfold evs at q
    exact q ad H none (Ext.refl sm) sm rfl
  | some h =>
    refine ⟨fun pins s σ H Q I q => (po_some h).run pins s σ H Q I ?_⟩
    obtain ⟨ad, S, ρ, sm, r, q, hp⟩ := q
    rename_i x
    refine ⟨ad, S, ρ, sm, r, ?_⟩
    rw [evs_one] at q hp
    cases hx : ev x ρ S with
    | none => rw [hx] at q; exact q.elim
    | some o =>
      rw [hx] at q hp
      cases o with
      | exc c fs S' => exact q
      | val v S' =>
        intro ad' H' w e' s' rv
        have := hp [v] S' rfl
        cases v with
        | int i => cases RV.int rv; exact ⟨i, rfl, q ad' H' (some i) e' s' rfl⟩
        | _ => cases this
theorem xe_slice (hK : C.K = X.K) {lo hi : Option PySem.Expr} {l h : Exs} {p2 : Pos} (he : PE X e (tEv C W x)) (hl : POk X C W lo l) (hu : POk X C W hi h) : PE X (.Subscript e (.Slice lo hi none p2) pos) (tEv C W (.sl fSl x l h)) := by
  refine ⟨fun pins s σ H Q I q => ?_⟩
  obtain ⟨ad, S, ρ, sm, r, q⟩ := q
  unfold ev at q
  let rr : V → Option Int → Option Int → Hp → VK → Prop := fun v lo hi H Q => rSlL X.K v lo hi H Q ∨ rSlF X.K v lo hi H Q
  refine (pe_slice (r := rr) (SlR.or sl_list sl_tupF) he (po_of hl) (po_of hu)).run pins s σ H Q I ?_
  refine ⟨ad, S, ρ, sm, r, (tM.bind (R := RV) q).mono ?_⟩
  rintro w H1 ⟨ad1, S1, v, e1, s1, r1, q1⟩
  refine ⟨ad1, S1, ρ, s1, r.ext e1, ?_, ?_⟩
  · cases h1 : evs l ρ S1 with
    | none => rw [h1] at q1; exact q1.elim
    | some o1 =>
      rw [h1] at q1
      cases o1 with
      | exc c fs S' => exact q1
      | val vl S2 =>
        intro ad2 H2 lo' e2 s2 hlo
        have q2 := q1.step e2
        simp only [M.bind, hlo] at q2
        refine ⟨ad2, S2, ρ, s2, (r.ext e1).ext e2, ?_, ?_⟩
        · cases h2 : evs h ρ S2 with
          | none => rw [h2] at q2; exact q2.elim
          | some o2 =>
            rw [h2] at q2
            cases o2 with
            | exc c fs S' => exact q2
            | val vh S3 =>
              intro ad3 H3 hi' e3 s3 hhi
              have q3 := q2.step e3
              simp only [hhi] at q3
              have rv3 : RV ad3 v w := (r1.ext e2).ext e3
              unfold fSl at q3
              cases ht : tupOf S3 v with
              | some xs =>
                simp only [ht] at q3
                obtain ⟨b, ws, rfl, rw', hs⟩ := tup_of (K := X.K) s3 ht rv3
                refine .inr ⟨b, ws, rfl, hs, fun c => ?_, fun c => ?_⟩
                · rw [← Paired.len rw'] at c
                  rw [if_pos c] at q3
                  exact q3 ad3 H3 _ (Ext.refl s3) s3 rv3
                · rw [← Paired.len rw'] at c
                  rw [if_neg c] at q3
                  exact alloc_tup s3 (rw'.cut _ _) q3
              | none =>
                simp only [ht] at q3
                cases hl2 : lstOf S3 v with
                | none => simp only [hl2] at q3; exact q3.elim
                | some xs =>
                  simp only [hl2] at q3
                  obtain ⟨b, ws, rfl, rw', hs⟩ := lst_of (K := X.K) hK s3 hl2 rv3
                  exact .inl ⟨b, ws, rfl, hs, alloc_out s3 q3 (new_lst (rw'.cut _ _))⟩
        · intro vs S' he'
          rw [he'] at q2
          simp only [M.bind] at q2
          cases hp : part vs with
          | none => simp only [hp] at q2; exact q2.elim
          | some _ => rfl
  · intro vs S' he'
    rw [he'] at q1
    simp only [M.bind] at q1
    cases hp : part vs with
    | some _ => rfl
    | none => simp only [hp] at q1; exact q1.elim
/-- a method of a built-in list: the receiver is looked at ahead of the arguments -/
def isLst : V → Sto → Bool := fun v S => match v with
  | .ref n => match S[n]? with
    | some (.lst _) => true
    | some (.scr _) => true
    | _ => false
  | _ => false
theorem mc_step {chk : V → Sto → Bool} {f : Prim} (nf : NoX f) {σ : L2.St} {Q : VK} {ρ : Rho} (s : Sim C ad S H) (r : EnvR ad ρ σ) (q : tM C W RV ad H σ Q (ev (.mc chk f x xs) ρ S)) :
    tEv C W x σ H fun w H1 => ∃ ad1 S1 v, Sim C ad1 S1 H1 ∧ RV ad1 v w ∧ chk v S1 = true ∧ tEvs C W xs σ H1 fun ws H2 => rP C f (w :: ws) H2 Q := by
  unfold ev at q
  refine ⟨ad, S, ρ, s, r, (tM.bind (R := RV) q).mono ?_⟩
  rintro w H1 ⟨ad1, S1, v, e1, s1, r1, q1⟩
  refine ⟨ad1, S1, v, s1, r1, ?_⟩
  cases hc : chk v S1 with
  | false => rw [hc] at q1; exact q1.elim
  | true =>
    rw [hc] at q1
    refine ⟨rfl, ad1, S1, ρ, s1, r.ext e1, (tM.bind (R := RVs) q1).mono ?_⟩
    rintro ws H2 ⟨ad2, S2, vs, e2, s2, r2, q2⟩
    exact ⟨ad2, S2, v :: vs, s2, .cons (r1.ext e2) r2, q2.noX (nf _ _)⟩
theorem isLst_ty {K : PySem.W.Frag} {v w : V} (s : Sim C ad S H) (r : RV ad v w) (h : isLst v S = true) : tyV K "list" w H := by
  cases v with
  | ref n =>
    obtain ⟨b, hb, rfl⟩ := r
    simp only [isLst] at h
    cases ho : S[n]? with
    | none => simp only [ho] at h; cases h
    | some ob =>
      simp only [ho] at h
      cases ob with
      | lst xs => obtain ⟨ws, _, hw⟩ := s.ob _ _ _ ho hb; exact .inl ⟨rfl, ws, .inl (.inl hw)⟩
      | scr xs => obtain ⟨oo, ws, _, hw⟩ := s.ob _ _ _ ho hb; exact .inl ⟨rfl, ws, .inl (.inr ⟨oo, hw⟩)⟩
      | _ => cases h
  | _ => cases h
/-- what a method wants -/
def MP (C : CC) (f : Prim) : V → List V → Hp → VK → Prop := fun w ws H Q => rP C f (w :: ws) H Q
theorem xe_lmeth {id : String} {name : Str} {f : Prim} {apos cpos : Pos} (nf : NoX f) (slot : Slot "list" name id) (hty : typeOf (.builtin id) = pure (.type "method_descriptor")) (hm : MtR X id (MP C f)) (ho : PE X o (tEv C W x)) (ha : PA X (e :: es) (tEvs C W xs))
    (hbase : attributeBase o name X.env (eval o X.env) = eval o X.env := by rfl)
    (hfew : ((backTo cpos (starEach (e :: es) X.env)).all (fun x => !x.1) && (backToKw cpos (keywordEach [] X.env)).all (fun x => x.1.isSome)
      && decide ((e :: es).length + ([] : List Keyword).length + (if ([] : List Keyword).isEmpty then 0 else 1) < 30)) = true := by rfl)
    (hline : (apos.endLine == cpos.line) = true := by rfl) (hs : starEach (e :: es) X.env = (false, eval e X.env) :: starEach es X.env := by rfl) (hplain : (backTo cpos (starEach es X.env)).any (·.1) = false := by rfl) :
    PE X (.Call (.Attribute o name apos) (e :: es) [] cpos) (tEv C W (.mc isLst f x xs)) := by
  refine PE.imp (pe_bm PySem.F.plainAttrs_list slot hty hm ho ha hbase hfew hline hs hplain) ?_
  rintro σ H Q ⟨ad, S, ρ, s, r, q⟩
  obtain ⟨ad, S, ρ, s, r, q⟩ := mc_step nf s r q
  refine ⟨ad, S, ρ, s, r, q.mono ?_⟩
  rintro w H1 ⟨ad1, S1, v, s1, r1, hc, h2⟩
  exact ⟨isLst_ty s1 r1 hc, h2⟩
theorem xe_lmeth0 {id : String} {name : Str} {f : Prim} {apos cpos : Pos} (nf : NoX f) (slot : Slot "list" name id) (hty : typeOf (.builtin id) = pure (.type "method_descriptor")) (hm : MtR X id (MP C f)) (ho : PE X o (tEv C W x))
    (hbase : attributeBase o name X.env (eval o X.env) = eval o X.env := by rfl) (hline : (apos.endLine == cpos.line) = true := by rfl) :
    PE X (.Call (.Attribute o name apos) [] [] cpos) (tEv C W (.mc isLst f x .nil)) := by
  refine PE.imp (pe_bm0 PySem.F.plainAttrs_list slot hty hm ho hbase hline) ?_
  rintro σ H Q ⟨ad, S, ρ, s, r, q⟩
  obtain ⟨ad, S, ρ, s, r, q⟩ := mc_step nf s r q
  refine ⟨ad, S, ρ, s, r, q.mono ?_⟩
  rintro w H1 ⟨ad1, S1, v, s1, r1, hc, h2⟩
  refine ⟨isLst_ty s1 r1 hc, ?_⟩
  obtain ⟨ad2, S2, ρ2, s2, r2, q2⟩ := h2
  unfold evs at q2
  exact q2 ad2 H1 [] (Ext.refl s2) s2 .nil
/-- the receiver a list that may change -/
theorem mp_lst {f : Prim} (nf : NoX f) {w : V} {ws : List V} {Q : VK} (h : MP C f w ws H Q) : ∃ ad S v vs u S', Sim C ad S H ∧ RV ad v w ∧ RVs ad vs ws ∧ f (v :: vs) S = some (.val u S') ∧ ∀ ad' H' t, Ext ad H ad' H' → Sim C ad' S' H' → RV ad' u t → Q t H' := by
  obtain ⟨ad, S, vs, v, S', s, r, hf, k⟩ := rP.elim nf h
  cases r with
  | cons r1 r2 => exact ⟨ad, S, _, _, v, S', s, r1, r2, hf, k⟩
def pAppend : Prim := fun vs S => match vs with
  | [.ref n, y] => match S[n]? with
    | some (.lst xs) => if xs.length < 100000 then some (.val .non (S.set n (.lst (xs ++ [y])))) else none
    | _ => none
  | _ => none
theorem noX_append : NoX pAppend := by
  intro vs S c fs S' h
  unfold pAppend at h
  repeat' split at h
  all_goals cases h
theorem m_append : MtR X "list.append" (MP C pAppend) := by
  intro pins s σ H w ws v us Q I rw rws h
  obtain ⟨ad, S, v', vs, u, S', sm, r1, r2, hf, k⟩ := mp_lst noX_append h
  unfold pAppend at hf
  split at hf
  · rename_i n y he
    cases he
    split at hf
    · rename_i xs hx
      split at hf
      · rename_i hl
        cases hf
        obtain ⟨b, hb, rfl⟩ := r1
        cases r2 with
        | cons r3 r4 =>
        cases r4
        obtain ⟨zs, rz, hz⟩ := sm.ob _ _ _ hx hb
        obtain ⟨s5, e5⟩ := sm.write (ho := .lst (zs ++ [_])) (o := .lst (xs ++ [y])) hx rfl rfl hb ⟨_, PySem.Paired.snoc rz r3, upd_same⟩
        exact mt_append pins s σ H _ _ v us Q I rw rws ⟨b, zs, _, rfl, rfl, hz, by rw [← Paired.len rz]; exact line_lt hl, k ad _ .non e5 s5 rfl⟩
      · cases hf
    · cases hf
  · cases hf
def pPop : Prim := fun vs S => match vs with
  | [.ref n] => match S[n]? with
    | some (.lst xs) => match xs[xs.length - 1]? with
      | some y => some (.val y (S.set n (.lst xs.dropLast)))
      | none => none
    | _ => none
  | _ => none
theorem noX_pop : NoX pPop := by
  intro vs S c fs S' h
  unfold pPop at h
  repeat' split at h
  all_goals cases h
theorem dropLast_take {α : Type} (l : List α) : l.dropLast = l.take (l.length - 1) := List.dropLast_eq_take
theorem m_pop : MtR X "list.pop" (MP C pPop) := by
  intro pins s σ H w ws v us Q I rw rws h
  obtain ⟨ad, S, v', vs, u, S', sm, r1, r2, hf, k⟩ := mp_lst noX_pop h
  unfold pPop at hf
  split at hf
  · rename_i n he
    cases he
    split at hf
    · rename_i xs hx
      split at hf
      · rename_i y hy
        cases hf
        obtain ⟨b, hb, rfl⟩ := r1
        cases r2
        obtain ⟨zs, rz, hz⟩ := sm.ob _ _ _ hx hb
        obtain ⟨t, ht, rt⟩ := RVs.get rz hy
        have hl := Paired.len rz
        obtain ⟨s5, e5⟩ := sm.write (ho := .lst zs.dropLast) (o := .lst xs.dropLast) hx rfl rfl hb ⟨_, by rw [dropLast_take, dropLast_take, hl]; exact rz.take _, upd_same⟩
        exact mt_pop pins s σ H _ _ v us Q I rw rws ⟨b, zs, t, rfl, rfl, hz, by rw [← hl]; exact ht, k ad _ t e5 s5 rt⟩
      · cases hf
    · cases hf
  · cases hf
def pPopAt : Prim := fun vs S => match vs with
  | [.ref n, .int i] => match S[n]? with
    | some (.lst xs) => if -1000000 < i ∧ i < 1000000 then (match seqIndex? i xs.length with
      | some k => match xs[k]? with
        | some y => some (.val y (S.set n (.lst (xs.eraseIdx k))))
        | none => none
      | none => none) else none
    | _ => none
  | _ => none
theorem noX_popAt : NoX pPopAt := by
  intro vs S c fs S' h
  unfold pPopAt at h
  repeat' split at h
  all_goals cases h
theorem RVs.erase {vs ws : List V} (r : RVs ad vs ws) : ∀ k, RVs ad (vs.eraseIdx k) (ws.eraseIdx k) := by
  induction r with
  | nil => intro k; simp; exact .nil
  | cons r1 r2 ih =>
    intro k
    cases k with
    | zero => exact r2
    | succ k => exact .cons r1 (ih k)
theorem m_popAt : MtR X "list.pop" (MP C pPopAt) := by
  intro pins s σ H w ws v us Q I rw rws h
  obtain ⟨ad, S, v', vs, u, S', sm, r1, r2, hf, k⟩ := mp_lst noX_popAt h
  unfold pPopAt at hf
  split at hf
  · rename_i n i he
    cases he
    split at hf
    · rename_i xs hx
      split at hf
      · rename_i hb2
        split at hf
        · rename_i j hj
          split at hf
          · rename_i y hy
            cases hf
            obtain ⟨b, hb, rfl⟩ := r1
            cases r2 with
            | cons r3 r4 =>
            cases r4
            cases RV.int r3
            obtain ⟨zs, rz, hz⟩ := sm.ob _ _ _ hx hb
            obtain ⟨t, ht, rt⟩ := RVs.get rz hy
            have hl := Paired.len rz
            obtain ⟨s5, e5⟩ := sm.write (ho := .lst (zs.eraseIdx j)) (o := .lst (xs.eraseIdx j)) hx rfl rfl hb ⟨_, rz.erase j, upd_same⟩
            exact mt_popAt pins s σ H _ _ v us Q I rw rws ⟨b, zs, i, j, t, rfl, rfl, hz, by omega, by omega, by rw [← hl]; exact hj, ht, k ad _ t e5 s5 rt⟩
          · cases hf
        · cases hf
      · cases hf
    · cases hf
  · cases hf
def pInsert : Prim := fun vs S => match vs with
  | [.ref n, .int i, y] => match S[n]? with
    | some (.lst xs) => if 0 ≤ i ∧ i < 1000000 ∧ xs.length < 100000 then some (.val .non (S.set n (.lst (xs.take i.toNat ++ [y] ++ xs.drop i.toNat)))) else none
    | _ => none
  | _ => none
theorem noX_insert : NoX pInsert := by
  intro vs S c fs S' h
  unfold pInsert at h
  repeat' split at h
  all_goals cases h
theorem m_insert : MtR X "list.insert" (MP C pInsert) := by
  intro pins s σ H w ws v us Q I rw rws h
  obtain ⟨ad, S, v', vs, u, S', sm, r1, r2, hf, k⟩ := mp_lst noX_insert h
  unfold pInsert at hf
  split at hf
  · rename_i n i y he
    cases he
    split at hf
    · rename_i xs hx
      split at hf
      · rename_i hb2
        cases hf
        obtain ⟨b, hb, rfl⟩ := r1
        cases r2 with
        | cons r3 r4 =>
        cases r4 with
        | cons r4 r5 =>
        cases r5
        cases RV.int r3
        obtain ⟨zs, rz, hz⟩ := sm.ob _ _ _ hx hb
        have hl := Paired.len rz
        obtain ⟨s5, e5⟩ := sm.write (ho := .lst (zs.take i.toNat ++ [_] ++ zs.drop i.toNat)) (o := .lst (xs.take i.toNat ++ [y] ++ xs.drop i.toNat)) hx rfl rfl hb ⟨_, ((rz.take _).append (.cons r4 .nil)).append (rz.drop _), upd_same⟩
        exact mt_insert pins s σ H _ _ v us Q I rw rws ⟨b, zs, i, _, rfl, rfl, hz, by rw [← hl]; exact line_lt hb2.2.2, hb2.1, by omega, k ad _ .non e5 s5 rfl⟩
      · cases hf
    · cases hf
  · cases hf
end Nx

set_option Elab.async false
set_option linter.all false
set_option maxRecDepth 100000
set_option autoImplicit false
namespace Nx
open PySem L2 PySem.Spec PyProof.Rows
variable {C : CC} {ad ad1 ad' : List Addr} {H H1 H' : Hp} {S S1 S' : Sto} {a p : Addr}
variable {X : Cx} {W : WX} {e e1 e2 e3 o : PySem.Expr} {es : List PySem.Expr} {x y z : Ex} {xs : Exs} {pos : Pos}

/-! ### fields -/
theorem RF.look {gs fs : List (Str × V)} (r : RF ad fs gs) (f : Str) {v : V} (h : fs.lookup f = some v) : ∃ w, gs.lookup f = some w ∧ RV ad v w := by
  induction r with
  | nil => cases h
  | cons r1 r2 ih =>
    rename_i p q _ _
    obtain ⟨k, v1⟩ := p
    obtain ⟨k2, v2⟩ := q
    obtain ⟨e, rv⟩ := r1
    simp only at e rv
    subst e
    simp only [List.lookup_cons] at h ⊢
    cases c : f == k with
    | true => simp only [c] at h ⊢; cases h; exact ⟨v2, rfl, rv⟩
    | false => simp only [c] at h ⊢; exact ih h
theorem RF.look_none {gs fs : List (Str × V)} (r : RF ad fs gs) (f : Str) (h : fs.lookup f = none) : gs.lookup f = none := by
  induction r with
  | nil => rfl
  | cons r1 r2 ih =>
    rename_i p q _ _
    obtain ⟨k, v1⟩ := p
    obtain ⟨k2, v2⟩ := q
    obtain ⟨e, rv⟩ := r1
    simp only at e rv
    subst e
    simp only [List.lookup_cons] at h ⊢
    cases c : f == k with
    | true => simp only [c] at h; cases h
    | false => simp only [c] at h ⊢; exact ih h
theorem RF.put {gs fs : List (Str × V)} (r : RF ad fs gs) (f : Str) {v w : V} (rv : RV ad v w) : RF ad (L2.putF f v fs) (L2.putF f w gs) := by
  induction r with
  | nil => exact .cons ⟨rfl, rv⟩ .nil
  | cons r1 r2 ih =>
    rename_i p q _ _
    obtain ⟨k, v1⟩ := p
    obtain ⟨k2, v2⟩ := q
    obtain ⟨e, rv1⟩ := r1
    simp only at e rv1
    subst e
    unfold L2.putF
    by_cases c : k = f
    · rw [if_pos c, if_pos c]; exact .cons ⟨rfl, rv⟩ r2
    · rw [if_neg c, if_neg c]; exact .cons ⟨rfl, rv1⟩ ih
def gFld (cs : List Nat) (f : Str) : V → Sto → Option V := fun a S => match a with
  | .ref n => match S[n]? with
    | some (.ins c fs) => if c ∈ cs then fs.lookup f else none
    | _ => none
  | _ => none
/-- what is asked of the classes of a field -/
def FldOk (X : Cx) (C : CC) (cs : List Nat) (f : Str) : Prop := ∀ c ∈ cs, Cls X.K (C c) ∧ NoAttr X.K (C c) f
theorem xe_fld {cs : List Nat} {f : Str} (hf : FldOk X C cs f) (he : PE X e (tEv C W x)) (hb : attributeBase e f X.env (eval e X.env) = eval e X.env := by rfl) : PE X (.Attribute e f pos) (tEv C W (.pn (pv1 (gFld cs f)) (.cons x .nil))) := by
  refine PE.imp (pe_fld he hb) ?_
  rintro σ H Q ⟨ad, S, ρ, s, r, q⟩
  obtain ⟨ad, S, ρ, s, r, q⟩ := pn_one (noX_pv1 _) s r q
  refine ⟨ad, S, ρ, s, r, q.mono ?_⟩
  intro w H1 h1
  obtain ⟨ad1, S1, v, u, s1, rv, hg, k⟩ := P1.elim1 h1
  unfold gFld at hg
  split at hg
  · rename_i n
    obtain ⟨b, hb, rfl⟩ := rv
    split at hg
    · rename_i c fs ho
      split at hg
      · rename_i hc
        obtain ⟨dx, gs, rf, hH⟩ := s1.ob _ _ _ ho hb
        obtain ⟨t, ht, rt⟩ := rf.look f hg
        exact ⟨b, C c, dx, gs, t, rfl, hH, (hf c hc).1, (hf c hc).2, ht, k t rt⟩
      · cases hg
    · cases hg
  · cases hg
theorem xs_setf {cs : List Nat} {f : Str} {o value : PySem.Expr} {pos' : Pos} (hf : FldOk X C cs f) (ho : PE X o (tEv C W x)) (hv : PE X value (tEv C W y)) (hs : swapsWith value (some (.Attribute o f pos')) pos.line X.env = pure false := by rfl) :
    PS X (.Assign [.Attribute o f pos'] value pos) (tEx C W (.setf cs f x y)) := by
  refine PS.imp (ps_fld ho hv hs) ?_
  rintro D σ H ⟨ad, S, ρ, s, r, q⟩
  unfold ex at q
  refine ⟨ad, S, ρ, s, r, (tM.toS (R := RV) r q).mono ?_⟩
  rintro w H1 ⟨ad1, S1, v, e1, s1, r1, q1⟩
  refine ⟨ad1, S1, ρ, s1, r.ext e1, (tM.toS (R := RV) (r.ext e1) q1).mono ?_⟩
  rintro u H2 ⟨ad2, S2, v2, e2, s2, r2, q2⟩
  cases v2 with
  | ref n =>
    obtain ⟨b, hb, rfl⟩ := r2
    simp only at q2
    cases ho : S2[n]? with
    | none => simp only [ho] at q2; exact q2.elim
    | some ob =>
      simp only [ho] at q2
      cases ob with
      | ins c fs =>
        simp only at q2
        by_cases hc : c ∈ cs ∧ fs.length < 1000
        · rw [if_pos hc] at q2
          obtain ⟨dx, gs, rf, hH⟩ := s2.ob _ _ _ ho hb
          obtain ⟨s5, e5⟩ := s2.write (ho := .ins (C c) dx (L2.putF f w gs)) (o := .ins c (L2.putF f v fs)) ho rfl rfl hb ⟨dx, _, rf.put f (r1.ext e2), upd_same⟩
          exact ⟨b, C c, dx, gs, rfl, hH, (hf c hc.1).1, (hf c hc.1).2, by rw [← Paired.len rf]; exact hc.2, q2 ad2 _ σ e5 s5 ((r.ext e1).ext e2)⟩
        · rw [if_neg hc] at q2; exact q2.elim
      | _ => exact q2.elim
  | _ => exact q2.elim
/-- o[i] = v -/
theorem xs_seti {i value : PySem.Expr} {pos' : Pos} {o : PySem.Expr} (ho : PE X o (tEv C W x)) (hi : PE X i (tEv C W y)) (hv : PE X value (tEv C W z)) (hs : swapsWithSole [.Subscript o i pos'] value pos.line X.env = pure false := by rfl) (hw : swappedStores [.Subscript o i pos'] value X.env = pure none := by rfl)
    (h1 : (assignEach [.Subscript o i pos'] X.env).map (·.2) = [assign (.Subscript o i pos') X.env] := by rfl)
    (ha : ∀ v, assign (.Subscript o i pos') X.env v = (do
      let ov ← holding [v] (eval o X.env)
      let iv ← holding [v, ov] (eval i X.env)
      standAt pos'
      holding [v, ov, iv] (setItem ov iv v)
      release [v, ov, iv] []) := by intro _; rfl) : PS X (.Assign [.Subscript o i pos'] value pos) (tEx C W (.seti x y z)) := by
  refine PS.imp (ps_asg hv (pg_sub ho hi set_list ha) hs hw h1) ?_
  rintro D σ H ⟨ad, S, ρ, s, r, q⟩
  unfold ex at q
  refine ⟨ad, S, ρ, s, r, (tM.toS (R := RV) r q).mono ?_⟩
  rintro w H1 ⟨ad1, S1, v, e1, s1, r1, q1⟩
  refine ⟨ad1, S1, ρ, s1, r.ext e1, (tM.toS (R := RV) (r.ext e1) q1).mono ?_⟩
  rintro u H2 ⟨ad2, S2, v2, e2, s2, r2, q2⟩
  refine ⟨ad2, S2, ρ, s2, (r.ext e1).ext e2, (tM.toS (R := RV) ((r.ext e1).ext e2) q2).mono ?_⟩
  rintro t H3 ⟨ad3, S3, v3, e3, s3, r3, q3⟩
  have r2' := r2.ext e3
  cases v2 with
  | ref n =>
    cases v3 with
    | int k =>
      cases RV.int r3
      obtain ⟨b, hb, rfl⟩ := r2'
      simp only at q3
      cases ho : S3[n]? with
      | none => simp only [ho] at q3; exact q3.elim
      | some ob =>
        simp only [ho] at q3
        cases ob with
        | lst xs =>
          simp only at q3
          cases hj : ixN xs.length k with
          | none => simp only [hj] at q3; exact q3.elim
          | some j =>
            simp only [hj] at q3
            obtain ⟨ws, rw', hH⟩ := s3.ob _ _ _ ho hb
            have rset : RVs ad3 (xs.set j v) (ws.set j w) := by
              have : ∀ {xs ws : List V} (j : Nat), RVs ad3 xs ws → RVs ad3 (xs.set j v) (ws.set j w) := by
                intro xs ws j r
                induction r generalizing j with
                | nil => exact .nil
                | cons r1' r2' ih =>
                  cases j with
                  | zero => exact .cons ((r1.ext e2).ext e3) r2'
                  | succ j => exact .cons r1' (ih j)
              exact this j rw'
            obtain ⟨s5, e5⟩ := s3.write (ho := .lst (ws.set j w)) (o := .lst (xs.set j v)) ho rfl rfl hb ⟨_, rset, upd_same⟩
            exact ⟨b, ws, k, j, rfl, rfl, hH, by rw [← Paired.len rw']; exact hj, q3 ad3 _ σ e5 s5 (((r.ext e1).ext e2).ext e3)⟩
        | _ => exact q3.elim
    | _ => exact q3.elim
  | _ => exact q3.elim

/-! ### list(range(n)), list(range(a, b)) -/
def rgL (a b : Int) : List V := (List.range (b - a).toNat).map fun i => V.int (a + (i : Nat))
def pListRg : Prim := fun vs S => match vs with
  | [.int n] => if -1000 < n ∧ n < 1000 then some (.val (.ref S.length) (S ++ [.lst (rgL 0 n)])) else none
  | [.int a, .int b] => if -1000 < a ∧ a < 1000 ∧ -1000 < b ∧ b < 1000 then some (.val (.ref S.length) (S ++ [.lst (rgL a b)])) else none
  | _ => none
theorem noX_listRg : NoX pListRg := by
  intro vs S c fs S' h
  unfold pListRg at h
  repeat' split at h
  all_goals cases h
theorem rgL_rv (a b : Int) : RVs ad (rgL a b) (rgL a b) := by
  have : ∀ (l : List Nat), RVs ad (l.map fun i => V.int (a + (i : Nat))) (l.map fun i => V.int (a + (i : Nat))) := by
    intro l
    induction l with
    | nil => exact .nil
    | cons n l ih => exact .cons rfl ih
  exact this _
theorem xe_listRg1 {p p2 pos2 : Pos} (hc : X.calm = true) (hg : Gl X "list") (hm : X.mg "list" = none) (hg2 : Gl X "range") (hm2 : X.mg "range" = none) (ha : PE X e (tEv C W x)) (na : starEach [e] X.env = (false, eval e X.env) :: starEach [] X.env := by rfl)
    (na2 : starEach [.Call (.Name "range" p2) [e] [] pos2] X.env = (false, eval (.Call (.Name "range" p2) [e] [] pos2) X.env) :: starEach [] X.env := by rfl) :
    PE X (.Call (.Name "list" p) [.Call (.Name "range" p2) [e] [] pos2] [] pos) (tEv C W (.pn pListRg (.cons x .nil))) := by
  refine PE.imp (pe_listRg hc hg hm (prg_1 hg2 hm2 ha na) na2) ?_
  rintro σ H Q ⟨ad, S, ρ, s, r, q⟩
  obtain ⟨ad, S, ρ, s, r, q⟩ := pn_one noX_listRg s r q
  refine ⟨ad, S, ρ, s, r, q.mono ?_⟩
  intro w H1 h1
  obtain ⟨ad1, S1, vs, v, S2, s1, r1, hf, k⟩ := rP.elim noX_listRg h1
  match vs, r1, hf with
  | [u], .cons ru .nil, hf =>
    unfold pListRg at hf
    split at hf
    · rename_i n he
      cases he
      cases RV.int ru
      split at hf
      · rename_i hb
        cases hf
        refine ⟨n, rfl, ?_, alloc_out s1 k (new_lst (rgL_rv 0 n))⟩
        unfold RgOk
        omega
      · cases hf
    · rename_i he; cases he
    · cases hf
end Nx

set_option Elab.async false
set_option linter.all false
set_option maxRecDepth 100000
set_option autoImplicit false
namespace Nx
open PySem L2 PySem.Spec PyProof.Rows
variable {C : CC} {ad ad1 ad' : List Addr} {H H1 H' : Hp} {S S1 S' : Sto} {a p : Addr}
variable {X : Cx} {W : WX} {e e1 e2 e3 o : PySem.Expr} {es : List PySem.Expr} {x y z : Ex} {xs : Exs} {pos : Pos}

/-! ### isinstance of built-in types -/
def tyN (S : Sto) : V → Option String
  | .non => some "NoneType"
  | .bl _ => some "bool"
  | .int _ => some "int"
  | .str _ => some "str"
  | .ref n => match S[n]? with
    | some (.lst _) => some "list"
    | some (.scr _) => some "list"
    | some (.tup _) => some "tuple"
    | some (.tpl _) => some "tuple"
    | _ => none
  | _ => none
theorem ty_of {K : PySem.W.Frag} {v w : V} {t : String} (s : Sim C ad S H) (r : RV ad v w) (h : tyN S v = some t) : TyX K H w (.type t) := by
  cases v with
  | non => cases h; cases r; exact .base (.non)
  | bl b => cases h; cases r; exact .base (.bl b)
  | int b => cases h; cases r; exact .base (.int b)
  | str b => cases h; cases r; exact .base (.str b)
  | ref n =>
    obtain ⟨b, hb, rfl⟩ := r
    simp only [tyN] at h
    cases ho : S[n]? with
    | none => simp only [ho] at h; cases h
    | some ob =>
      simp only [ho] at h
      cases ob with
      | lst xs => cases h; obtain ⟨ws, _, hw⟩ := s.ob _ _ _ ho hb; exact .base (.lst hw)
      | scr xs => cases h; obtain ⟨oo, ws, _, hw⟩ := s.ob _ _ _ ho hb; exact .base (.frz hw)
      | tup xs => cases h; obtain ⟨oo, ws, _, hw, _⟩ := s.ob _ _ _ ho hb; exact .fTuple hw
      | tpl xs => cases h; obtain ⟨ws, _, hw⟩ := s.ob _ _ _ ho hb; exact .base (.tup hw)
      | _ => cases h
  | _ => cases h
/-- isinstance(x, T): the answer among the few built-in types -/
def isTy (T t : String) : Bool := t == T || (T == "int" && t == "bool")
def gIsT (T : String) : V → Sto → Option V := fun a S => (tyN S a).map fun t => .bl (isTy T t)
theorem kit_few {K : PySem.W.Frag} (T t : String) (hT : T = "int" ∨ T = "bool" ∨ T = "str" ∨ T = "list" ∨ T = "tuple") (ht : t = "NoneType" ∨ t = "bool" ∨ t = "int" ∨ t = "str" ∨ t = "list" ∨ t = "tuple") : PySem.W.kitOne K (.type t) (.type T) = some (isTy T t) := by
  rcases hT with rfl | rfl | rfl | rfl | rfl <;> rcases ht with rfl | rfl | rfl | rfl | rfl | rfl <;> exact kit_ty (by decide +kernel)
theorem tyN_few {v : V} {t : String} (h : tyN S v = some t) : t = "NoneType" ∨ t = "bool" ∨ t = "int" ∨ t = "str" ∨ t = "list" ∨ t = "tuple" := by
  cases v with
  | non => cases h; simp
  | bl b => cases h; simp
  | int b => cases h; simp
  | str b => cases h; simp
  | ref n =>
    simp only [tyN] at h
    cases ho : S[n]? with
    | none => simp only [ho] at h; cases h
    | some ob =>
      simp only [ho] at h
      cases ob with
      | lst xs => cases h; simp
      | scr xs => cases h; simp
      | tup xs => cases h; simp
      | tpl xs => cases h; simp
      | _ => cases h
  | _ => cases h
theorem xe_isT {T : String} {n : Str} {p p2 : Pos} (hT : T = "int" ∨ T = "bool" ∨ T = "str" ∨ T = "list" ∨ T = "tuple") (hg : Gl X "isinstance") (hm : X.mg "isinstance" = none) (hgT : Gl X n) (hmT : X.mg n = none) (hv : bootBuiltins n = some (.type T)) (ha : PE X e (tEv C W x))
    (hn : n ≠ "__name__" := by decide) (hdb : (n == ("__debug__" : Str)) = false := by decide)
    (na : starEach [e, .Name n p2] X.env = (false, eval e X.env) :: starEach [.Name n p2] X.env := by rfl) (na2 : starEach [.Name n p2] X.env = (false, eval (.Name n p2) X.env) :: starEach [] X.env := by rfl) (hpl : (backTo pos (starEach [.Name n p2] X.env)).any (·.1) = false := by rfl) :
    PE X (.Call (.Name "isinstance" p) [e, .Name n p2] [] pos) (tEv C W (.pn (pv1 (gIsT T)) (.cons x .nil))) := by
  have hty : PE X (.Name n p2) (tC (.ty T)) := ⟨fun pins s σ H Q I h => ld_blt I hgT hmT hv ⟨.ty T, H, I, rfl, h⟩ hn hdb⟩
  refine PE.imp (pe_callB call_isi hg hm (by decide +kernel) (pa_cons ha (pa_cons hty pa_nil na2) na) (by decide) (by decide) na hpl) ?_
  rintro σ H Q ⟨ad, S, ρ, s, r, q⟩
  obtain ⟨ad, S, ρ, s, r, q⟩ := pn_one (noX_pv1 _) s r q
  refine ⟨ad, S, ρ, s, r, q.mono ?_⟩
  intro w H1 h1
  obtain ⟨ad1, S1, v, u, s1, rv, hg, k⟩ := P1.elim1 h1
  unfold gIsT at hg
  cases ht : tyN S1 v with
  | none => rw [ht] at hg; cases hg
  | some t =>
    rw [ht] at hg; cases hg
    exact ⟨w, .ty T, .type t, .type T, isTy T t, rfl, .ty T, ty_of s1 rv ht, kit_few T t hT (tyN_few ht), k _ rfl⟩

/-! ### own methods -/
def insC (c : Nat) (m : Str) : V → Sto → Bool := fun v S => match v with
  | .ref n => match S[n]? with
    | some (.ins d fs) => d == c && (fs.lookup m).isNone
    | _ => false
  | _ => false
theorem insC_at {c : Nat} {m : Str} {v w : V} (s : Sim C ad S H) (r : RV ad v w) (h : insC c m v S = true) : ∃ b dx gs, w = .ref b ∧ H b = some (.ins (C c) dx gs) ∧ gs.lookup m = none := by
  cases v with
  | ref n =>
    obtain ⟨b, hb, rfl⟩ := r
    simp only [insC] at h
    cases ho : S[n]? with
    | none => simp only [ho] at h; cases h
    | some ob =>
      simp only [ho] at h
      cases ob with
      | ins d fs =>
        simp only [Bool.and_eq_true, beq_iff_eq, Option.isNone_iff_eq_none] at h
        obtain ⟨rfl, hn⟩ := h
        obtain ⟨dx, gs, rf, hH⟩ := s.ob _ _ _ ho hb
        exact ⟨b, dx, gs, rfl, hH, rf.look_none m hn⟩
      | _ => cases h
  | _ => cases h
/-- the receiver, the arguments, the def's promise: for a wish that hangs on the slots -/
theorem ps_at {X : Cx} {W : WX} (tk : Takes X W) (σ : L2.St) : PassesAt (L2.CX X.prog X.w) X σ (fun cls d H => W cls d σ H) := passAt tk σ
theorem xe_meth {c : Nat} {m : Str} {f : Addr} {fd : FuncData} {k : Nat} {ps : List Str} {apos : Pos} {l mm : Nat} {b : Sxs} {pl : Sem Bool} (cl : Cls X.K (C c)) (hm : Meth X.K (C c) m f) (F : FnOk X.prog X.w X.K X.mg X.base (L2.CX X.prog X.w) k f fd ps (spD C mm (den l mm b))) (hr : Room k X.A) (hb : Binds X.K fd ps []) (tk : Takes X W)
    (ho : PE X o (tEv C W x)) (ha : PA X (e :: es) (tEvs C W xs)) (hst : starEach (e :: es) X.env = (false, eval e X.env) :: starEach es X.env := by rfl) (hpl : (backTo pos (starEach es X.env)).any (·.1) = false := by rfl)
    (ht : eval (.Call (.Attribute o m apos) (e :: es) [] pos) X.env = (do
      let ov ← eval o X.env
      standAt apos.atName
      let (f, first) ← holding [ov] (getMethod ov m pl)
      callWith pos f first (backTo pos (starEach (e :: es) X.env)) (backToKw pos (keywordEach [] X.env))) := by rfl) :
    PE X (.Call (.Attribute o m apos) (e :: es) [] pos) (tEv C W (.mc (insC c m) (den l mm b) x xs)) := by
  refine ⟨fun pins s σ H Q I q => ?_⟩
  obtain ⟨ad, S, ρ, sm, r, q⟩ := q
  unfold ev at q
  have q' := tM.bind (R := RV) q
  refine PySem.W.methodCall_KW (pl := pl) (thn (ho.run pins s σ H _ I ⟨ad, S, ρ, sm, r, q'⟩) ?_) ht
  rintro u s1 ⟨w, H1, I1, rw', ad1, S1, v, e1, sm1, r1, q1⟩
  cases hc : insC c m v S1 with
  | false => rw [hc] at q1; exact q1.elim
  | true =>
    rw [hc] at q1
    obtain ⟨bb, dx, gs, rfl, hH, hn⟩ := insC_at sm1 r1 hc
    have eu : u = Value.ref bb := rw'
    subst eu
    refine getmeth_ok I1 hH cl hm hn ?_
    have q2 := tM.bind (R := RVs) q1
    have A := ha.run pos pins s1 σ H1 _ I1 ⟨ad1, S1, ρ, sm1, r.ext e1, q2⟩
    refine PySem.W.callWith_K (first := [.ref bb]) (h₀ := X.base) I1.ok.mod.kin hm.kp (thn A ?_) hst hpl
    rintro us s2 ⟨ws, H2, I2, rws, ad2, S2, vs, e2, sm2, r2, q3⟩
    refine ⟨I2.kIn, ?_⟩
    refine run_fnS (E := fun σ cls d H => W cls d σ H) (us := .ref bb :: us) (vs := .ref bb :: ws) F hr hb (ps_at tk σ) I2 (.cons rfl rws) ?_
    cases hd : den l mm b (v :: vs) S2 with
    | none => rw [hd] at q3; exact q3.elim
    | some oo =>
      have hl : (v :: vs).length = mm := den_len _ _ _ hd
      refine ⟨by rw [← hl]; exact (Paired.len (PySem.Paired.cons (r1.ext e2) r2)).symm, ad2, S2, v :: vs, sm2, .cons (r1.ext e2) r2, ?_⟩
      rw [hd] at q3 ⊢
      cases oo with
      | val v S3 => exact q3
      | exc c fs S3 => exact q3
theorem xe_meth0 {c : Nat} {m : Str} {f : Addr} {fd : FuncData} {k : Nat} {ps : List Str} {apos : Pos} {l mm : Nat} {b : Sxs} {pl : Sem Bool} (cl : Cls X.K (C c)) (hm : Meth X.K (C c) m f) (F : FnOk X.prog X.w X.K X.mg X.base (L2.CX X.prog X.w) k f fd ps (spD C mm (den l mm b))) (hr : Room k X.A) (hb : Binds X.K fd ps []) (tk : Takes X W)
    (ho : PE X o (tEv C W x))
    (ht : eval (.Call (.Attribute o m apos) [] [] pos) X.env = (do
      let ov ← eval o X.env
      standAt apos.atName
      let (f, first) ← holding [ov] (getMethod ov m pl)
      callWith pos f first (backTo pos (starEach [] X.env)) (backToKw pos (keywordEach [] X.env))) := by rfl) :
    PE X (.Call (.Attribute o m apos) [] [] pos) (tEv C W (.mc (insC c m) (den l mm b) x .nil)) := by
  refine ⟨fun pins s σ H Q I q => ?_⟩
  obtain ⟨ad, S, ρ, sm, r, q⟩ := q
  unfold ev evs at q
  have q' := tM.bind (R := RV) q
  refine PySem.W.methodCall_KW (pl := pl) (thn (ho.run pins s σ H _ I ⟨ad, S, ρ, sm, r, q'⟩) ?_) ht
  rintro u s1 ⟨w, H1, I1, rw', ad1, S1, v, e1, sm1, r1, q1⟩
  cases hc : insC c m v S1 with
  | false => rw [hc] at q1; exact q1.elim
  | true =>
    rw [hc] at q1
    obtain ⟨bb, dx, gs, rfl, hH, hn⟩ := insC_at sm1 r1 hc
    have eu : u = Value.ref bb := rw'
    subst eu
    refine getmeth_ok I1 hH cl hm hn ?_
    refine PySem.W.callWith_K0 (first := [.ref bb]) I1.kIn hm.kp ?_
    refine run_fnS (E := fun σ cls d H => W cls d σ H) (us := [.ref bb]) (vs := [.ref bb]) F hr hb (ps_at tk σ) I1 (.cons rfl .nil) ?_
    simp only [M.bind] at q1
    cases hd : den l mm b [v] S1 with
    | none => rw [hd] at q1; exact q1.elim
    | some oo =>
      have hl : [v].length = mm := den_len _ _ _ hd
      refine ⟨by rw [← hl]; rfl, ad1, S1, [v], sm1, .cons r1 .nil, ?_⟩
      rw [hd] at q1 ⊢
      cases oo with
      | val v S3 => exact q1
      | exc c fs S3 => exact q1
/-! ### a new instance -/
def pMake (c : Nat) (d : Prim) : Prim := fun vs S => (d (.ref S.length :: vs) (S ++ [.ins c []])).bind fun v S' => match v with
  | .non => some (.val (.ref S.length) S')
  | _ => none
theorem xe_make {c : Nat} {n : Str} {f : Addr} {fd : FuncData} {k : Nat} {ps : List Str} {pf : Pos} {l mm : Nat} {b : Sxs} (Mk' : Mk X.K (C c) f) (F : FnOk X.prog X.w X.K X.mg X.base (L2.CX X.prog X.w) k f fd ps (spD C mm (den l mm b))) (hr : Room (k + 1) X.A) (hg : Gl X n) (hm : X.mg n = some (.ref (C c))) (hb : Binds X.K fd ps [])
    (hx : ∀ cls d σ H, W cls d σ H → W cls d [] H) (hx2 : ∀ cls d σ H, W cls d [] H → W cls d σ H) (tk : Takes X W)
    (ha : PA X (e :: es) (tEvs C W xs)) (hdb : (n == ("__debug__" : Str)) = false := by decide) (he : starEach (e :: es) X.env = (false, eval e X.env) :: starEach es X.env := by rfl) (hpl : (backTo pos (starEach es X.env)).any (·.1) = false := by rfl) :
    PE X (.Call (.Name n pf) (e :: es) [] pos) (tEv C W (.pn (pMake c (den l mm b)) xs)) := by
  refine PE.imp (pe_make (E := fun cls d H => W cls d [] H) (ds := []) (dvs := []) Mk' F hr hg hm hb .nil (passes_call tk fun cls d σ H h => hx2 cls d σ H h) ha hdb he hpl) ?_
  rintro σ H Q ⟨ad, S, ρ, s, r, q⟩
  unfold ev at q
  refine ⟨ad, S, ρ, s, r, (tM.bind (R := RVs) q).mono ?_⟩
  rintro ws H1 ⟨ad1, S1, vs, e1, s1, r1, q1⟩
  intro xx dx nx ndx nex
  -- the instance's own dict, then the instance
  have s1d : Sim C ad1 S1 (upd H1 dx (.own xx)) := ⟨s1.len, s1.nd, fun n o a h1 h2 => by
    have := (s1.ob n o a h1 h2).mono (H' := upd H1 dx (.own xx)) (fun u e => by rw [upd_ne (ne_of_none e ndx)]; exact e) []
    simpa using this⟩
  have nx' : upd H1 dx (.own xx) xx = none := by rw [upd_ne nex.symm]; exact nx
  obtain ⟨s2, e2⟩ := s1d.alloc (ho := .ins (C c) dx []) (o := .ins c []) nx' ⟨dx, [], .nil, upd_same⟩
  have e2' : Ext ad1 H1 (ad1 ++ [xx]) (upd (upd H1 dx (.own xx)) xx (.ins (C c) dx [])) := ⟨⟨[xx], rfl, by simpa using nx⟩, fun a o h n => e2.fr a o (by rw [upd_ne (ne_of_none h ndx)]; exact h) n, fun a h => by
    have := e2.dom a h
    by_cases e : a = dx
    · subst e; exact ndx
    · rw [upd_ne e] at this; exact this⟩
  have rx : RV (ad1 ++ [xx]) (.ref S1.length) (.ref xx) := ⟨xx, by rw [← s1.len, List.getElem?_append_right (Nat.le_refl _)]; simp, rfl⟩
  unfold pMake at q1
  cases hd : den l mm b (.ref S1.length :: vs) (S1 ++ [.ins c []]) with
  | none => rw [hd] at q1; exact q1.elim
  | some oo =>
    rw [hd] at q1
    have hl := den_len _ _ _ hd
    rw [List.append_nil]
    refine ⟨by rw [← hl]; exact (Paired.len (PySem.Paired.cons rx (r1.ext e2'))).symm, ad1 ++ [xx], S1 ++ [.ins c []], .ref S1.length :: vs, s2, .cons rx (r1.ext e2'), ?_⟩
    rw [hd]
    cases oo with
    | exc c2 fs S3 =>
      intro ad' H' dd gs x s r hdd
      exact hx _ _ _ _ (q1 ad' H' dd gs (e2'.trans x) s r hdd)
    | val v S3 =>
      intro ad' H' w x s rv
      cases v with
      | non =>
        cases rv
        exact ⟨rfl, q1 ad' H' _ (e2'.trans x) s (rx.ext x)⟩
      | _ => exact q1.elim
end Nx

set_option Elab.async false
set_option linter.all false
set_option maxRecDepth 100000
set_option autoImplicit false
namespace Nx
open PySem L2 PySem.Spec PyProof.Rows
variable {C : CC} {ad ad1 ad' : List Addr} {H H1 H' : Hp} {S S1 S' : Sto} {a p : Addr}
variable {X : Cx} {W : WX} {e e1 e2 e3 o : PySem.Expr} {es : List PySem.Expr} {x y z : Ex} {xs : Exs} {pos : Pos}

/-! ### len(set(t)), t a tuple of ints -/
def dd : List Int → List Int
  | [] => []
  | x :: r => if x ∈ r then dd r else x :: dd r
theorem mem_dd (k : Int) : ∀ l, k ∈ dd l ↔ k ∈ l
  | [] => Iff.rfl
  | x :: r => by
    unfold dd
    have ih := mem_dd k r
    split
    · rename_i h
      rw [ih, List.mem_cons]
      constructor
      · exact .inr
      · rintro (rfl | h2)
        · exact h
        · exact h2
    · rw [List.mem_cons, List.mem_cons, ih]
theorem nodup_dd : ∀ l, (dd l).Nodup
  | [] => .nil
  | x :: r => by
    unfold dd
    split
    · exact nodup_dd r
    · rename_i h
      rw [List.nodup_cons]
      exact ⟨fun z => h ((mem_dd x r).mp z), nodup_dd r⟩
theorem setR_size {w : World} {h : Heap} {a : Addr} {ns : List Int} {c : Nat} (R : SetR w h a (fun j => decide (j ∈ ns)) c) : c = (dd ns).length := by
  obtain ⟨o, es, ep, t, _, _, _, _, nd, hm, _, _, hc, _⟩ := R
  have p : (es.toList.map keyOf).Perm (dd ns) := by
    rw [List.perm_ext_iff_of_nodup nd (nodup_dd ns)]
    intro k
    rw [← hm k, mem_dd]
    exact decide_eq_true_iff
  have := p.length_eq
  rw [List.length_map, Array.length_toList] at this
  omega
def gLenSet : V → Sto → Option V := fun a S => match (tupOf S a).bind intsOf with
  | some ns => if ns.length ≤ 1000 then some (.int (dd ns).length) else none
  | none => none
theorem xe_lenSet {pp p2 q : Pos} (hc : X.calm = true) (hg : Gl X "len") (hm : X.mg "len" = none) (hg2 : Gl X "set") (hm2 : X.mg "set" = none) (ha : PE X e (tEv C W x))
    (na : starEach [e] X.env = (false, eval e X.env) :: starEach [] X.env := by rfl) : PE X (.Call (.Name "len" pp) [.Call (.Name "set" p2) [e] [] q] [] pos) (tEv C W (.pn (pv1 gLenSet) (.cons x .nil))) := by
  refine ⟨fun pins s σ H Q I h => ?_⟩
  obtain ⟨ad, S, ρ, sm, r, h⟩ := h
  obtain ⟨ad, S, ρ, sm, r, h⟩ := pn_one (noX_pv1 gLenSet) sm r h
  have A := ha.run pins s σ H _ I ⟨ad, S, ρ, sm, r, h⟩
  refine Call_ (ld_blt I hg hm boot_len ?_)
  refine PyProof.Rows.callWith_builtin1 (PyProof.Rows.args_cons ?_ rfl) rfl rfl
  refine Call_ (ld_blt I hg2 hm2 boot_set ?_)
  refine PyProof.Rows.callWith_type1 (PyProof.Rows.args_cons (thn A ?_) na) na rfl
  rintro v s1 ⟨w, H1, I1, r1, h1⟩
  obtain ⟨ad1, S1, v', u, sm1, rv, hg', k⟩ := P1.elim1 h1
  unfold gLenSet at hg'
  cases ht : tupOf S1 v' with
  | none => simp only [ht] at hg'; cases hg'
  | some vs =>
    simp only [ht, Option.bind_some] at hg'
    cases hi : intsOf vs with
    | none => simp only [hi] at hg'; cases hg'
    | some ns =>
      simp only [hi] at hg'
      split at hg'
      · rename_i hl
        cases hg'
        obtain ⟨b, ws, rfl, rw', hs⟩ := tup_of (K := X.K) sm1 ht rv
        have ew := ints_rv hi rw'
        subst ew
        cases r1
        obtain ⟨its, rvs, pt, hz⟩ := I1.tuple hs
        refine PyProof.Rows.args_nil (call_set_tupI ns (I1.ok.hd hc) (show s1.heap.IsTuple b its.toArray from pt) (ints_of_vals rvs) (by unfold scanBound; omega) fun h' tk c R1 hcn kp => ?_)
        have hsz := setR_size R1
        obtain ⟨o, es, ep, t, ho, hex, hdt, g, nd, hm2', hb, hf, hn, hr, hl2⟩ := R1
        refine PyProof.Rows.args_nil ?_
        have I2 : Inv X pins σ H1 { s1 with heap := h', toks := tk } := I1.kept fun b o e => kp b o e
        refine call_len_set ho hex hdt hf (by rw [hn]; omega) ⟨.int (dd ns).length, H1, I2.tok _, ⟨_, by rw [hn, hsz]⟩, k _ rfl⟩
      · cases hg'

/-! ### xs.index(v), t.index(v) -/
def firstAt (y : V) : List V → Option Nat
  | [] => none
  | z :: r => if eqV z y then some 0 else (firstAt y r).map (· + 1)
theorem firstAt_some {y : V} : ∀ {l : List V} {j : Nat}, firstAt y l = some j → ∃ z, l[j]? = some z ∧ eqV z y = true ∧ ∀ (m : Nat) (z' : V), m < j → l[m]? = some z' → eqV z' y = false
  | [], j, h => by cases h
  | z :: r, j, h => by
    unfold firstAt at h
    split at h
    · rename_i c
      cases h
      exact ⟨z, by simp, c, fun m z' hm => absurd hm (Nat.not_lt_zero m)⟩
    · rename_i c
      cases q : firstAt y r with
      | none => rw [q] at h; cases h
      | some i =>
        rw [q] at h; cases h
        obtain ⟨z2, h1, h2, h3⟩ := firstAt_some q
        refine ⟨z2, by simpa using h1, h2, fun m z' hm hz => ?_⟩
        cases m with
        | zero => simp at hz; subst hz; simpa using c
        | succ m => exact h3 m z' (Nat.lt_of_succ_lt_succ hm) (by simpa using hz)
def pIndexL : Prim := fun vs S => match vs with
  | [a, y] => match lstOf S a with
    | some xs => if flatV y = true ∧ xs.all flatV = true then (match firstAt y xs with
      | some j => some (.val (.int (j : Nat)) S)
      | none => none) else none
    | none => none
  | _ => none
theorem noX_indexL : NoX pIndexL := by
  intro vs S c fs S' h
  unfold pIndexL at h
  repeat' split at h
  all_goals cases h
theorem m_indexL (hK : C.K = X.K) : MtR X "list.index" (MP C pIndexL) := by
  intro pins s σ H w ws v us Q I rw rws h
  obtain ⟨ad, S, v', vs, u, S', sm, r1, r2, hf, k⟩ := mp_lst noX_indexL h
  unfold pIndexL at hf
  split at hf
  · rename_i a y he
    cases he
    split at hf
    · rename_i xs hx
      split at hf
      · rename_i hfl
        split at hf
        · rename_i j hj
          cases hf
          cases r2 with
          | cons r3 r4 =>
          cases r4
          obtain ⟨b, zs, rfl, rz, hs⟩ := lst_of (K := X.K) hK sm hx r1
          have e1 := RVs.flat hfl.2 rz
          have e2 := RV.flat hfl.1 r3
          subst e1 e2
          obtain ⟨z, h1, h2, h3⟩ := firstAt_some hj
          exact mt_index pins s σ H _ _ v us Q I rw rws ⟨b, _, _, j, z, rfl, rfl, hs, hfl.1, hfl.2, h1, h2, h3, k ad H _ (Ext.refl sm) sm rfl⟩
        · cases hf
      · cases hf
    · cases hf
  · cases hf
def isTupB : V → Sto → Bool := fun v S => match v with
  | .ref n => match S[n]? with
    | some (.tup _) => true
    | _ => false
  | _ => false
theorem isTupB_at {v w : V} (s : Sim C ad S H) (r : RV ad v w) (h : isTupB v S = true) : ∃ b ob ws, w = .ref b ∧ H b = some (.frz ob (.tup ws)) ∧ ob.dict = none := by
  cases v with
  | ref n =>
    obtain ⟨b, hb, rfl⟩ := r
    simp only [isTupB] at h
    cases ho : S[n]? with
    | none => simp only [ho] at h; cases h
    | some o =>
      simp only [ho] at h
      cases o with
      | tup xs => obtain ⟨oo, ws, _, hw, hd⟩ := s.ob _ _ _ ho hb; exact ⟨b, oo, ws, rfl, hw, hd⟩
      | _ => cases h
  | _ => cases h
/-- t.index(k), t a tuple of ints -/
def pIndexT : Prim := fun vs S => match vs with
  | [a, .int k] => match (tupOf S a).bind intsOf with
    | some ns => if k ∈ ns then some (.val (.int (ns.idxOf k : Nat)) S) else none
    | none => none
  | _ => none
theorem noX_indexT : NoX pIndexT := by
  intro vs S c fs S' h
  unfold pIndexT at h
  repeat' split at h
  all_goals cases h
theorem xe_indexT {apos cpos : Pos} (ho : PE X o (tEv C W x)) (ha : PA X [e] (tEvs C W xs))
    (hbase : attributeBase o "index" X.env (eval o X.env) = eval o X.env := by rfl)
    (hfew : ((backTo cpos (starEach [e] X.env)).all (fun x => !x.1) && (backToKw cpos (keywordEach [] X.env)).all (fun x => x.1.isSome)
      && decide (([e] : List PySem.Expr).length + ([] : List Keyword).length + (if ([] : List Keyword).isEmpty then 0 else 1) < 30)) = true := by rfl)
    (hline : (apos.endLine == cpos.line) = true := by rfl) (hs : starEach [e] X.env = (false, eval e X.env) :: starEach [] X.env := by rfl) (hplain : (backTo cpos (starEach [] X.env)).any (·.1) = false := by rfl) :
    PE X (.Call (.Attribute o "index" apos) [e] [] cpos) (tEv C W (.mc isTupB pIndexT x xs)) := by
  refine ⟨fun pins s σ H Q I h => ?_⟩
  obtain ⟨ad, S, ρ, sm, r, h⟩ := h
  obtain ⟨ad, S, ρ, sm, r, h⟩ := mc_step noX_indexT sm r h
  have A := ho.run pins s σ H _ I ⟨ad, S, ρ, sm, r, h⟩
  refine wpAny_Call_method_late hbase hfew hline rfl (thn A ?_)
  rintro v s1 ⟨w, H1, I1, r1, ad1, S1, v1, s1m, rv, hc, h2⟩
  obtain ⟨b, ob, ws1, rfl, hH1, hd1⟩ := isTupB_at s1m rv hc
  cases r1
  have hs1 : SqT X.K H1 b ws1 := .inl (.inr ⟨ob, hH1⟩)
  obtain ⟨its1, rvs1, pt1, hz1⟩ := I1.tuple hs1
  have hob : s1.heap.get? b = some ob := by
    have z : ObjOk X.prog X.w H1 s1.heap b (.frz ob (.tup ws1)) := I1.hok b _ hH1
    exact z.1
  have hty : s1.TypeIs (.ref b) "tuple" := by
    obtain ⟨o2, h1, h2', _⟩ := pt1
    exact ⟨o2, h1, h2'⟩
  refine ⟨"tuple", "tuple.index", PySem.F.plainAttrs_tuple, PySem.F.slot_tuple_index, PySem.F.type_tuple_index, hty, fun a ea => ?_, ?_⟩
  · cases ea
    exact ⟨ob, hob, hd1⟩
  · have B := ha.run cpos pins s1 σ H1 _ I1 h2
    rw [hs] at B ⊢
    refine Calls.callWith_builtin (by show (false || (backTo cpos (starEach [] X.env)).any (·.1)) = false; rw [hplain] <;> rfl) (Calls.evalArgs_plain (thn B ?_))
    rintro us s2 ⟨vs2, H2, I2, rvs, q2⟩
    obtain ⟨ad2, S2, v2, vs3, u, S3, sm2, r2, r3, hf, k⟩ := mp_lst noX_indexT q2
    unfold pIndexT at hf
    split at hf
    · rename_i a' kk he
      cases he
      cases hti : tupOf S2 v2 with
      | none => simp only [hti] at hf; cases hf
      | some ys =>
        simp only [hti, Option.bind_some] at hf
        cases hi : intsOf ys with
        | none => simp only [hi] at hf; cases hf
        | some ns =>
          simp only [hi] at hf
          split at hf
          · rename_i hk
            cases hf
            obtain ⟨b2, ws2, e2, rw2, hs2⟩ := tup_of (K := X.K) sm2 hti r2
            cases e2
            have ew := ints_rv hi rw2
            subst ew
            obtain ⟨its2, rvs2, pt2, hz2⟩ := I2.tuple hs2
            cases r3 with
            | cons r4 r5 =>
            cases r5
            cases RV.int r4
            cases rvs with
            | cons r6 r7 =>
            cases r7
            obtain ⟨t, rfl⟩ := r6
            exact SeqAt.tuple_index_ints (show s2.heap.IsTuple b its2.toArray from pt2) (by simpa using ints_of_vals rvs2) hk ⟨.int (ns.idxOf kk : Nat), H2, I2.tok _, ⟨_, rfl⟩, k ad2 H2 _ (Ext.refl sm2) sm2 rfl⟩
          · cases hf
    · cases hf
end Nx

set_option Elab.async false
set_option linter.all false
set_option maxRecDepth 100000
set_option autoImplicit false
namespace Nx
open PySem L2 PySem.Spec PyProof.Rows
variable {C : CC} {ad ad1 ad' : List Addr} {H H1 H' : Hp} {S S1 S' : Sto} {a p : Addr}
variable {X : Cx} {W : WX} {e e1 e2 e3 o : PySem.Expr} {es : List PySem.Expr} {x y z : Ex} {xs : Exs} {pos : Pos}

/-! ### *e in a display -/
theorem xa_star {p : Pos} (hK : C.K = X.K) (ha : PE X e (tEv C W x)) (hr : PA X es (tEvs C W xs)) (hs : starEach (.Starred e p :: es) X.env = (true, eval e X.env) :: starEach es X.env := by rfl) : PA X (.Starred e p :: es) (tEvs C W (.star x xs)) := by
  refine PA.imp (StX.pa_star ha hr hs) ?_
  rintro σ H Q ⟨ad, S, ρ, s, r, q⟩
  unfold evs at q
  refine ⟨ad, S, ρ, s, r, (tM.bind (R := RV) q).mono ?_⟩
  rintro w H1 ⟨ad1, S1, v, e1, s1, r1, q1⟩
  cases hx : seqOf S1 v with
  | none => simp only [hx] at q1; exact q1.elim
  | some us =>
    simp only [hx] at q1
    obtain ⟨b, ws, rfl, rw', hq⟩ := seq_of (K := X.K) hK s1 hx r1
    refine ⟨b, ws, rfl, hq.symm, ad1, S1, ρ, s1, r.ext e1, (tM.bind (R := RVs) q1).mono ?_⟩
    rintro zs H2 ⟨ad2, S2, vs, e2, s2, r2, q2⟩
    exact q2 ad2 H2 _ (Ext.refl s2) s2 ((rw'.ext e2).append r2)
/-! ### constants of a module -/
theorem xe_gint {n : Str} {i : Int} (hg : Gl X n) (hm : ∃ t, X.mg n = some (.int i t)) (hd : (n == ("__debug__" : Str)) = false := by decide) : PE X (.Name n pos) (tEv C W (.cst (.int i))) := xe_cst (let ⟨t, h⟩ := hm; pe_glob hg h ⟨t, rfl⟩ hd) fun _ => rfl
/-- x in T, T a written tuple of the module -/
def gInK (neg : Bool) (ys : List V) : V → Sto → Option V := fun a _ => if flatV a = true ∧ ys.all flatV = true then some (.bl (if neg then !inV a ys else inV a ys)) else none
theorem o_inK {ys : List V} {b : Addr} {n : Str} {pos2 : Pos} (hq : ∀ H, SqT X.K H b ys) (hg : Gl X n) (hm : X.mg n = some (.ref b)) (ha : PE X e (tEv C W x)) (hd : (n == ("__debug__" : Str)) = false := by decide) (hmk : behindInMarks .In (.Name n pos2) = false := by rfl) :
    PE X (.Compare e [.In] [.Name n pos2] pos) (tEv C W (.pn (pv1 (gInK false ys)) (.cons x .nil))) := by
  refine PE.imp (pe_cmpR op_in_seq ha (pe_glob (v := .ref b) hg hm rfl hd) hmk) ?_
  rintro σ H Q ⟨ad, S, ρ, s, r, q⟩
  obtain ⟨ad, S, ρ, s, r, q⟩ := pn_one (noX_pv1 _) s r q
  refine ⟨ad, S, ρ, s, r, q.mono ?_⟩
  intro w H1 h1
  obtain ⟨ad1, S1, v, u, s1, rv, hg', k⟩ := P1.elim1 h1
  unfold gInK at hg'
  split at hg'
  · rename_i hf
    cases hg'
    have e := RV.flat hf.1 rv
    subst e
    exact ⟨b, ys, rfl, .inr (hq H1), hf.1, hf.2, k _ rfl⟩
  · cases hg'
theorem t_inK {ys : List V} {b : Addr} {n : Str} {pos2 : Pos} (hq : ∀ H, SqT X.K H b ys) (hg : Gl X n) (hm : X.mg n = some (.ref b)) (ha : PE X e (tEv C W x)) (hd : (n == ("__debug__" : Str)) = false := by decide) (hmk : behindInMarks .In (.Name n pos2) = false := by rfl) :
    PT X (.Compare e [.In] [.Name n pos2] pos) (tTs C W (.pn (pv1 (gInK false ys)) (.cons x .nil))) := by
  refine PT.imp (pt_cmpR op_in_seq ha (pe_glob (v := .ref b) hg hm rfl hd) hmk) ?_
  rintro σ H Q ⟨ad, S, ρ, s, r, q⟩
  obtain ⟨ad, S, ρ, s, r, q⟩ := pn_one (noX_pv1 _) s r q
  refine ⟨ad, S, ρ, s, r, q.mono ?_⟩
  intro w H1 h1
  obtain ⟨ad1, S1, v, u, s1, rv, hg', k⟩ := P1.elim1 h1
  unfold gInK at hg'
  split at hg'
  · rename_i hf
    cases hg'
    have e := RV.flat hf.1 rv
    subst e
    exact ⟨b, ys, rfl, .inr (hq H1), hf.1, hf.2, k _ rfl⟩
  · cases hg'
/-! ### Room -/
theorem hu64 {k : Nat} (hr : Room k X.A) : X.A.units + 64 < cLine := by have := hr.un; omega
theorem hu65 {k : Nat} (hr : Room k X.A) : X.A.units + 65 < cLine := by have := hr.un; omega

/-! ### the end of a law -/
/-- what is shown of a law's denotation -/
def LawTrue (d : Prim) : Prop := ∀ ns : List Int, ns.length ≤ 63 → ∀ o : Ob, (o = .scr (ns.map V.int) ∨ o = .kon (ns.map V.int)) → ∃ S', d [.ref 0] [o] = some (.val (.bl true) S')
theorem ints_self : ∀ (ns : List Int), RVs ad (ns.map V.int) (ns.map V.int)
  | [] => .nil
  | n :: ns => .cons rfl (ints_self ns)
def spLaw (K : PySem.W.Frag) : Sp := fun vs H Q _ => ∃ (a : Addr) (ns : List Int), vs = [.ref a] ∧ SqL K H a (ns.map V.int) ∧ ns.length ≤ 63 ∧ Only H ∧ ∀ H', Q (.bl true) H'
theorem law_imp {d : Prim} (hl : LawTrue d) (C : CC) : ∀ vs H Q E, spLaw C.K vs H Q E → spD C 1 d vs H Q E := by
  rintro vs H Q E ⟨a, ns, rfl, hS, hlen, hO, k⟩
  refine ⟨rfl, ?_⟩
  have one : ∀ o : Ob, (o = .scr (ns.map V.int) ∨ o = .kon (ns.map V.int)) → ObR C [a] H a o → ∃ ad S vs, Sim C ad S H ∧ RVs ad vs [.ref a] ∧ match d vs S with
      | none => False
      | some (.val v S') => ∀ ad' H' w, Ext ad H ad' H' → Sim C ad' S' H' → RV ad' v w → Q w H'
      | some (.exc c fs S') => ∀ ad' H' dd gs, Ext ad H ad' H' → Sim C ad' S' H' → RF ad' fs gs → XD H' dd gs → E (.ref (C c)) dd H' := fun o ho hob => by
    refine ⟨[a], [o], [.ref 0], ⟨rfl, fun n m b u v h1 h2 _ _ _ _ => ?_, fun n u b h1 h2 => ?_⟩, .cons ⟨a, rfl, rfl⟩ .nil, ?_⟩
    · have l1 := (List.getElem?_eq_some_iff.mp h1).1
      have l2 := (List.getElem?_eq_some_iff.mp h2).1
      simp at l1 l2; omega
    · have l1 := (List.getElem?_eq_some_iff.mp h1).1
      simp at l1; subst l1
      simp at h1 h2; subst h1 h2
      exact hob
    · obtain ⟨S', hd⟩ := hl ns hlen o ho
      rw [hd]
      intro ad' H' w _ _ rv
      cases RV.bl rv
      exact k H'
  rcases hS with hS | hS
  · rcases hO a with h0 | ⟨o, xs, h1⟩
    · rcases hS with z | ⟨_, z⟩ <;> rw [h0] at z <;> cases z
    · rcases hS with z | ⟨o2, z⟩
      · rw [h1] at z; cases z
      · rw [h1] at z; cases z
        exact one (.scr (ns.map V.int)) (.inl rfl) ⟨_, _, ints_self ns, h1⟩
  · exact one (.kon (ns.map V.int)) (.inr rfl) ⟨_, ints_self ns, fun H' => .inr hS⟩
theorem walk {l : PySem.W.OpenLaw} {q : Program} {loose : List Str} {XP : (Str → Option Value) → Heap → Prop} {YP : World → Heap → Prop} {d : DefRec} {K : Params → PySem.W.Frag} {k : Nat} (hk : k ≤ 100) (hn : l.most = some 63) (hdf : d.params.defaults = [])
    (hY : ∀ (w : World) (h : Heap), YP w h → (K w.params).In h)
    (F : ∀ (w : World) (mg : Str → Option Value) (fa : Addr) (h : Heap), (K w.params).In h → h.Ns mainGlobals mg → mg d.name = some (.ref fa) →
      ∃ fd : FuncData, (∀ (s : Shared) (u : Value), BindsTo s fd ⟨[u], []⟩ [("script", u)]) ∧ ∀ base : Heap, (K w.params).In base → base.Ns mainGlobals mg → FnOk l.prog w (K w.params) mg base (L2.CX l.prog w) k fa fd ["script"] (spLaw (K w.params))) :
    PySem.W.WalkO q loose XP YP l.row.toRowW d [] (fun f vs => PySem.call f vs) :=
  L2.walk_of (n := 63) (k := k) (x := "script") (CX := fun w => L2.CX l.prog w) (sp := fun w => spLaw (K w.params)) hn (by decide) hdf (Room.mono (k := 100) ⟨rfl, by decide, by decide⟩ hk) hY F (fun _ H a ns hl hO hS => ⟨a, ns, rfl, hS, hl, hO, fun _ => rfl⟩) fun w H s e s' z => by
    obtain ⟨_, _, _, _, _, _, _, _, _, _, _, _, f⟩ := z
    exact f
end Nx

set_option Elab.async false
set_option linter.all false
set_option maxRecDepth 100000
set_option autoImplicit false
namespace Nx
open PySem L2 PySem.Spec PyProof.Rows
variable {C : CC} {ad ad1 ad' : List Addr} {H H1 H' : Hp} {S S1 S' : Sto} {a b p : Addr}
variable {X : Cx} {W : WX} {e e1 e2 e3 : PySem.Expr} {es : List PySem.Expr} {x y : Ex} {xs : Exs} {pos : Pos}

/-! ### zip of a list or tuple with a list or tuple (true: a list) -/
def SqB (K : PySem.W.Frag) : Bool → Hp → Addr → List V → Prop
  | true, H, a, xs => SqL K H a xs
  | false, H, a, xs => SqT K H a xs
def HasB : Bool → Heap → Addr → Array Value → Prop
  | true, h, a, xs => h.IsList a xs
  | false, h, a, xs => h.IsTuple a xs
def OnB : Bool → Heap → Addr → Addr → Nat → Prop
  | true, h, i, a, n => h.IsListIter i a n
  | false, h, i, a, n => h.IsTupleIter i a n
def itB : Bool → Addr → Obj
  | true, a => { cls := .type "list_iterator", data := .fields #[.ref a, .int 0 0] }
  | false, a => { cls := .type "tuple_iterator", data := .fields #[.ref a, .int 0 0] }
theorem drB {P : Program} {w : World} {A : Around} (hh : A.handled = none) (k : Bool) {i a : Addr} (hn : a ≠ i) (us : Array Value) :
    Draws P w A i [i, a] us.size (fun j v => us[j]? = some v) (fun j h => OnB k h i a j ∧ HasB k h a us) := by
  cases k
  · exact Draws.tuple hh i a hn us
  · exact Draws.list hh i a hn us
theorem beB (k : Bool) (a : Addr) (us : Array Value) : Begins (.ref a) (itB k a) (fun h => HasB k h a us) := by
  cases k
  · exact begins_tuple a us
  · exact begins_list a us
theorem OnB.obj {k : Bool} {h : Heap} {i a : Addr} {n : Nat} (x : OnB k h i a n) : ∃ o, h.get? i = some o ∧ ∀ v, o.data ≠ .cell v := by
  cases k
  · obtain ⟨o, e, _, d⟩ := x; exact ⟨o, e, fun v z => by rw [d] at z; cases z⟩
  · obtain ⟨o, e, _, d⟩ := x; exact ⟨o, e, fun v z => by rw [d] at z; cases z⟩
theorem OnB.keep {k : Bool} {h h' : Heap} {i a : Addr} {n : Nat} (x : OnB k h i a n) (q : ∀ o, h.get? i = some o → h'.get? i = some o) : OnB k h' i a n := by
  cases k
  · obtain ⟨o, e, r⟩ := x; exact ⟨o, q o e, r⟩
  · obtain ⟨o, e, r⟩ := x; exact ⟨o, q o e, r⟩
theorem OnB.new {k : Bool} {h : Heap} {i a : Addr} (x : h.get? i = some (itB k a)) : OnB k h i a 0 := by
  cases k
  · exact ⟨_, x, rfl, rfl⟩
  · exact ⟨_, x, rfl, rfl⟩
theorem sqB_at {pins : List (Addr × Obj)} {σ : L2.St} {s : Shared} {k : Bool} {vs : List V} (I : Inv X pins σ H s) (h : SqB X.K k H a vs) :
    ∃ us : List Value, Vals vs us ∧ HasB k s.heap a us.toArray ∧ vs.length ≤ sizeLine ∧ a < s.heap.objs.size := by
  cases k
  · obtain ⟨us, r, t, z⟩ := I.tuple h
    obtain ⟨o, e, _⟩ := id t
    exact ⟨us, r, t, z, Heap.lt_size e⟩
  · obtain ⟨us, r, t, z⟩ := I.list h
    exact ⟨us, r, t.isList, z, t.lt⟩
theorem sqB_inj {pins : List (Addr × Obj)} {σ : L2.St} {s : Shared} {k : Bool} {vs ws : List V} (I : Inv X pins σ H s) (h : SqB X.K k H a vs) (h' : SqB X.K k H a ws) : vs = ws := by
  cases k
  · exact I.tuple_inj h h'
  · exact I.list_inj h h'
def Izb (K : PySem.W.Frag) (k l : Bool) (a b : Addr) : It where
  go := fun i H => ∃ (vs ws : List V) (v w : V), SqB K k H a vs ∧ SqB K l H b ws ∧ vs[i]? = some v ∧ ws[i]? = some w
  yld := fun i H t H' => ∃ T v w, t = .ref T ∧ H T = none ∧ H' = upd H T (.tup [v, w]) ∧ (∀ vs, SqB K k H a vs → vs[i]? = some v) ∧ ∀ ws, SqB K l H b ws → ws[i]? = some w
  stop := fun i H => ∃ vs ws : List V, SqB K k H a vs ∧ SqB K l H b ws ∧ i ≤ vs.length ∧ i ≤ ws.length ∧ (i = vs.length ∨ i = ws.length)
structure ZAt (k l : Bool) (a b z t u i j : Addr) (n : Nat) (h : Heap) : Prop where
  hz : IsZip h z t u .none
  hi : IsTupOf2 h t (.ref i) (.ref j)
  ho : ∃ v w, IsTupOf2 h u v w
  h1 : OnB k h i a n
  h2 : OnB l h j b n
theorem in5 {z t u i j c : Addr} (h : c ∈ [z, t, u, i, j]) : c = z ∨ c = t ∨ c = u ∨ c = i ∨ c = j := by simpa using h
theorem turn_zb {P : Program} {w : World} {K : PySem.W.Frag} {elts : List PySem.Expr} {kk : Nat} {tpos : Pos} {k l : Bool} {z t u i j : Addr} (D : ZipSep2 z t u i j [i, a] [j, b]) (ha : a ≠ i) (hb : b ≠ j) :
    Turn P w K (.Tuple elts kk tpos) (Izb K k l a b) [z, t, u, i, j] z (fun n h => ZAt k l a b z t u i j n h) where
  mem := by simp
  obj := fun n h st c hc => by
    obtain ⟨v, w, ho⟩ := st.ho
    rcases in5 hc with q | q | q | q | q
    · rw [q]; exact ⟨_, st.hz, fun v q => nomatch q⟩
    · rw [q]; exact ⟨_, st.hi, fun v q => nomatch q⟩
    · rw [q]; exact ⟨_, ho, fun v q => nomatch q⟩
    · rw [q]; exact st.h1.obj
    · rw [q]; exact st.h2.obj
  keep := fun n h h' st q => by
    obtain ⟨v, w, ho⟩ := st.ho
    exact ⟨q z (by simp) _ st.hz, q t (by simp) _ st.hi, ⟨v, w, q u (by simp) _ ho⟩, st.h1.keep (q i (by simp)), st.h2.keep (q j (by simp))⟩
  item := by
    intro X hP hw hK hc n pins s σ H E I hf st hg
    subst hP hw hK
    obtain ⟨v0, w0, ho⟩ := st.ho
    obtain ⟨vs, ws, v, w, hv, hw, ev, ew⟩ := hg
    obtain ⟨us, r1, t1, _, _⟩ := sqB_at I hv
    obtain ⟨os, r2, t2, _, _⟩ := sqB_at I hw
    obtain ⟨c, hc1, rc⟩ := r1.get ev
    obtain ⟨d, hd1, rd⟩ := r2.get ew
    have hzl : z < s.heap.objs.size := Heap.lt_size st.hz
    refine wpAny_pyNext_zipD2_item D (drB (P := X.prog) (w := X.w) (A := X.A.in1) (I.ok.hd hc) k ha us.toArray) (drB (P := X.prog) (w := X.w) (A := X.A.in1) (I.ok.hd hc) l hb os.toArray) st.hz st.hi ho ⟨st.h1, t1⟩ ⟨st.h2, t2⟩
      (by simpa using (List.getElem?_eq_some_iff.mp hc1).1) (by simpa using (List.getElem?_eq_some_iff.mp hd1).1) fun x1 x2 h' tk e1 e2 z' u' o1 o2 hT hsz hk => ?_
    have e1' : us[n]? = some x1 := by simpa using e1
    have e2' : os[n]? = some x2 := by simpa using e2
    rw [hc1] at e1'; cases e1'
    rw [hd1] at e2'; cases e2'
    refine ⟨_, rfl, wpAny_letOwnedTupleGo_zip (s := { s with heap := h', toks := tk }) z' fun h'' z'' sb => ?_⟩
    have hT2 : IsTupOf2 h'' s.heap.objs.size c d := (sb.2 _ (Nat.ne_of_gt hzl)).trans hT
    have new : ObjOk X.prog X.w (upd H s.heap.objs.size (.tup [v, w])) h'' s.heap.objs.size (.tup [v, w]) :=
      ⟨by show 2 ≤ sizeLine; decide, [c, d], .cons rc (.cons rd .nil), ⟨_, hT2, rfl, _, rfl⟩⟩
    have I1 : Inv X pins σ (upd H s.heap.objs.size (.tup [v, w])) { s with heap := h'', toks := tk } :=
      I.turnedNew (t' := tk) (ch := [z, t, u, i, j]) (fun c o hb q => by
        simp only [List.mem_cons, List.not_mem_nil, or_false, not_or] at hb
        exact (sb.2 c hb.1).trans (hk c o hb.1 hb.2.2.1 hb.2.2.2.1 hb.2.2.2.2 q)) hf (Nat.le_refl _) new
    refine ⟨.ref s.heap.objs.size, _, I1, rfl, ⟨_, v, w, rfl, I.hok.fresh (Nat.le_refl _), rfl, fun l hl => by rw [sqB_inj I hl hv]; exact ev, fun l hl => by rw [sqB_inj I hl hw]; exact ew⟩, ⟨z'', ?_, ⟨c, d, ?_⟩, ?_, ?_⟩, fun c hcm => ?_⟩
    · exact (sb.2 _ D.TIz).trans (hk _ _ D.TIz D.TITO D.TIi1 D.TIi2 st.hi)
    · exact (sb.2 _ D.TOz).trans u'
    · exact o1.1.keep fun o q => (sb.2 _ D.zi1.symm).trans q
    · exact o2.1.keep fun o q => (sb.2 _ D.zi2.symm).trans q
    · obtain ⟨o, ho'⟩ : ∃ o, s.heap.get? c = some o := by
        rcases in5 hcm with q | q | q | q | q
        · rw [q]; exact ⟨_, st.hz⟩
        · rw [q]; exact ⟨_, st.hi⟩
        · rw [q]; exact ⟨_, ho⟩
        · rw [q]; obtain ⟨o, e, _⟩ := st.h1.obj; exact ⟨o, e⟩
        · rw [q]; obtain ⟨o, e, _⟩ := st.h2.obj; exact ⟨o, e⟩
      rw [upd_ne (Nat.ne_of_lt (Heap.lt_size ho'))]
      exact (hf c hcm).1
  done := by
    intro X hP hw hK hc n pins s σ H E I hf st hg
    subst hP hw hK
    obtain ⟨v0, w0, ho⟩ := st.ho
    obtain ⟨vs, ws, hv, hw, l1, l2, l3⟩ := hg
    obtain ⟨us, r1, t1, _, _⟩ := sqB_at I hv
    obtain ⟨os, r2, t2, _, _⟩ := sqB_at I hw
    have z1 : us.toArray.size = vs.length := by simpa using r1.length.symm
    have z2 : os.toArray.size = ws.length := by simpa using r2.length.symm
    refine wpAny_pyNext_zipD2_end D (drB (P := X.prog) (w := X.w) (A := X.A.in1) (I.ok.hd hc) k ha us.toArray) (drB (P := X.prog) (w := X.w) (A := X.A.in1) (I.ok.hd hc) l hb os.toArray) st.hz st.hi ho ⟨st.h1, t1⟩ ⟨st.h2, t2⟩
      (by omega) (by omega) (by omega) fun h' tk hk => ⟨rfl, I.turnedL (t' := tk) (ch := [z, t, u, i, j]) (fun c o hb q => by
        simp only [List.mem_cons, List.not_mem_nil, or_false, not_or] at hb
        exact hk c o hb.1 hb.2.2.1 hb.2.2.2.1 hb.2.2.2.2 q) hf⟩
  self := fun A n s Q E st h => wpAny_pyIter_zip st.hz h

/-! ### the iteration of the compact bodies -/
def kindOf (S : Sto) : V → Option Bool
  | .ref n => match S[n]? with
    | some (.lst _) => some true
    | some (.scr _) => some true
    | some (.kon _) => some true
    | some (.tup _) => some false
    | some (.tpl _) => some false
    | _ => none
  | _ => none
def sqOf (S : Sto) : Bool → V → Option (List V)
  | true, v => lstOf S v
  | false, v => tupOf S v
theorem sq_of {K : PySem.W.Frag} (hK : C.K = K) {k : Bool} {v w : V} {vs : List V} (s : Sim C ad S H) (h : sqOf S k v = some vs) (r : RV ad v w) : ∃ b ws, w = .ref b ∧ RVs ad vs ws ∧ SqB K k H b ws := by
  cases k
  · exact tup_of s h r
  · exact lst_of hK s h r
def itZip2 : ItR where
  start := fun vs S => match vs with
    | [u, v] => match kindOf S u, kindOf S v with
      | some k, some l => match sqOf S k u, sqOf S l v with
        | some _, some _ => some [u, v, .bl k, .bl l]
        | _, _ => none
      | _, _ => none
    | _ => none
  next := fun st i S => match st with
    | [u, v, .bl k, .bl l] => match sqOf S k u, sqOf S l v with
      | some xs, some ys => match xs[i]?, ys[i]? with
        | some a, some b => some (some (.ref S.length, S ++ [.tpl [a, b]]))
        | _, _ => if i ≤ xs.length ∧ i ≤ ys.length then some none else none
      | _, _ => none
    | _ => none
theorem itok_zb {K : PySem.W.Frag} (hK : C.K = K) {ad0 : List Addr} {k l : Bool} {u v : V} (hu : RV ad0 u (.ref a)) (hv : RV ad0 v (.ref b)) : ItOk C ad0 itZip2.next [u, v, .bl k, .bl l] (Izb K k l a b) := by
  refine ⟨fun ad i S H more hm s h => ?_, fun ad i S H more t S' hm s h => ?_⟩
  · simp only [itZip2] at h
    split at h
    · rename_i xs ys q1 q2
      obtain ⟨_, ws, e, rw1, hs1⟩ := sq_of (K := K) hK s q1 (by rw [hm]; exact hu.pre)
      cases e
      obtain ⟨_, zs, e, rw2, hs2⟩ := sq_of (K := K) hK s q2 (by rw [hm]; exact hv.pre)
      cases e
      have l1 := Paired.len rw1
      have l2 := Paired.len rw2
      split at h
      · cases h
      · rename_i hno
        split at h
        · rename_i hb
          refine ⟨ws, zs, hs1, hs2, by omega, by omega, ?_⟩
          by_cases c1 : i < xs.length
          · by_cases c2 : i < ys.length
            · exact absurd (List.getElem?_eq_getElem c2) (hno _ _ (List.getElem?_eq_getElem c1))
            · omega
          · omega
        · cases h
    · cases h
  · simp only [itZip2] at h
    split at h
    · rename_i xs ys q1 q2
      obtain ⟨_, ws, e, rw1, hs1⟩ := sq_of (K := K) hK s q1 (by rw [hm]; exact hu.pre)
      cases e
      obtain ⟨_, zs, e, rw2, hs2⟩ := sq_of (K := K) hK s q2 (by rw [hm]; exact hv.pre)
      cases e
      split at h
      · rename_i c d hc hd
        cases h
        obtain ⟨w1, hw1, rv1⟩ := RVs.get rw1 hc
        obtain ⟨w2, hw2, rv2⟩ := RVs.get rw2 hd
        refine ⟨⟨ws, zs, w1, w2, hs1, hs2, hw1, hw2⟩, ?_⟩
        rintro w' H' ⟨T, y1, y2, rfl, hT, rfl, h1, h2⟩
        have e1 := h1 ws hs1
        have e2 := h2 zs hs2
        rw [hw1] at e1; cases e1
        rw [hw2] at e2; cases e2
        exact s.allocT hT (.cons rv1 (.cons rv2 .nil))
      · split at h <;> cases h
    · cases h
def iZb (K : PySem.W.Frag) (ta : TA) : TI := fun σ H R => ta σ H fun vs H1 => ∃ a b k l xs ys, vs = [.ref a, .ref b] ∧ SqB K k H1 a xs ∧ SqB K l H1 b ys ∧ R (Izb K k l a b) H1
theorem sep5 {N : Nat} {a b : Addr} (ha : a < N) (hb : b < N) : ZipSep2 (N + 4) (N + 2) (N + 3) N (N + 1) [N, a] [N + 1, b] :=
  zip_sep2 (by simpa using ha) (by simpa using hb)
theorem new5 {pins : List (Addr × Obj)} {σ : L2.St} {s : Shared} (I : Inv X pins σ H s) :
    ∀ c, c ∈ [s.heap.objs.size + 4, s.heap.objs.size + 2, s.heap.objs.size + 3, s.heap.objs.size, s.heap.objs.size + 1] → FpOk X pins H c := fun c hm => by
  have hle : s.heap.objs.size ≤ c := by
    rcases in5 hm with z | z | z | z | z
    · rw [z]; exact Nat.le_add_right _ _
    · rw [z]; exact Nat.le_add_right _ _
    · rw [z]; exact Nat.le_add_right _ _
    · rw [z]; exact Nat.le_refl _
    · rw [z]; exact Nat.le_add_right _ _
  exact I.fpOk hle (I.hok.fresh hle)
theorem pi_zb {tpos : Pos} {elts : List PySem.Expr} {kk : Nat} {pp : Pos} {ta : TA} (hg : Gl X "zip") (hm : X.mg "zip" = none) (ha : PA X [e1, e2] ta)
    (hs : starEach [e1, e2] X.env = (false, eval e1 X.env) :: starEach [e2] X.env := by rfl) (hpl : (backTo pos (starEach [e2] X.env)).any (·.1) = false := by rfl) :
    PI X (.Tuple elts kk tpos) (.Call (.Name "zip" pp) [e1, e2] [] pos) (iZb X.K ta) := by
  refine ⟨fun pins s σ H R I h => ?_⟩
  refine Call_ (ld_blt I hg hm boot_zip (callWith_type1 (thn (ha.run pos pins s σ H _ I h) fun us s1 ⟨vs, H1, I1, r1, q1⟩ => ?_) hs hpl))
  obtain ⟨a, b, k, l, xs, ys, ex, hx, hy, q⟩ := q1
  subst ex
  cases r1 with
  | cons r rr =>
    cases rr with
    | cons r' rr =>
      cases rr; cases r; cases r'
      obtain ⟨cs, rv, p1, _, la⟩ := sqB_at I1 hx
      obtain ⟨ds, rv2, p2, _, lb⟩ := sqB_at I1 hy
      refine zip_begins2 (beB k a cs.toArray) (beB l b ds.toArray) p1 p2 fun h' hz hT hO g1 g2 hsz hk => wpAny_pyIter_zip hz ?_
      exact ⟨_, _, _, _, H1, rfl, I1.kept (t' := s1.toks) hk, turn_zb (sep5 la lb) (Nat.ne_of_lt la) (Nat.ne_of_lt (Nat.lt_succ_of_lt lb)), ⟨hz, hT, ⟨_, _, hO⟩, .new g1, .new g2⟩, new5 I1, q⟩
theorem xi_zip2 (hK : C.K = X.K) {tpos : Pos} {elts : List PySem.Expr} {kk : Nat} {pp : Pos} (hg : Gl X "zip") (hm : X.mg "zip" = none) (ha : PA X [e1, e2] (tEvs C W xs)) (hs : starEach [e1, e2] X.env = (false, eval e1 X.env) :: starEach [e2] X.env := by rfl) (hpl : (backTo pos (starEach [e2] X.env)).any (·.1) = false := by rfl) :
    PI X (.Tuple elts kk tpos) (.Call (.Name "zip" pp) [e1, e2] [] pos) (tIt C W itZip2 xs) := by
  refine PI.of fun pins s σ H R I q => ⟨_, pi_zb hg hm ha hs hpl, ?_⟩
  obtain ⟨ad, S, ρ, sm, r, q⟩ := q
  refine ⟨ad, S, ρ, sm, r, ?_⟩
  cases hx : evs xs ρ S with
  | none => rw [hx] at q; exact q.elim
  | some o =>
    rw [hx] at q
    cases o with
    | exc c fs S' => exact q
    | val vs S' =>
      obtain ⟨st, hst, k⟩ := q
      intro ad' H' ws e' s' rv
      simp only [itZip2] at hst
      split at hst
      · rename_i u v
        split at hst
        · rename_i k l _ _
          split at hst
          · rename_i xs ys q1 q2
            cases hst
            cases rv with
            | cons r1 r2 =>
              cases r2 with
              | cons r2 r3 =>
              cases r3
              obtain ⟨b, zs, rfl, rw', hs⟩ := sq_of (K := X.K) hK s' q1 r1
              obtain ⟨b2, zs2, rfl, rw2, hs2⟩ := sq_of (K := X.K) hK s' q2 r2
              exact ⟨b, b2, _, _, zs, zs2, rfl, hs, hs2, k ad' H' _ e' s' (.cons r1 (.cons r2 .nil)) _ (itok_zb hK r1 r2)⟩
          · cases hst
        · cases hst
      · cases hst
end Nx

set_option Elab.async false
set_option linter.all false
set_option maxRecDepth 100000
set_option autoImplicit false
namespace Nx
open PySem L2 PySem.Spec PyProof.Rows
variable {C : CC} {ad ad1 ad' : List Addr} {H H1 H' : Hp} {S S1 S' : Sto} {a b p : Addr}
variable {X : Cx} {W : WX} {e e1 e2 e3 : PySem.Expr} {es : List PySem.Expr} {x y : Ex} {xs : Exs} {pos : Pos}

/-! ### list(zip(v, w)): the zip gives out tuples that stay -/
structure ZOut (k l : Bool) (a b z t u i j : Addr) (n : Nat) (h : Heap) : Prop where
  hz : ∃ T f o, IsZipHeld h z t u T f ∧ h.get? T = some o
  hi : IsTupOf2 h t (.ref i) (.ref j)
  ho : ∃ o, h.get? u = some o
  h1 : OnB k h i a n
  h2 : OnB l h j b n
def ZSt (k l : Bool) (a b z t u i j : Addr) (n : Nat) (h : Heap) : Prop := ZAt k l a b z t u i j n h ∨ ZOut k l a b z t u i j n h
theorem ZSt.typ {k l : Bool} {z t u i j : Addr} {n : Nat} {s : Shared} (st : ZSt k l a b z t u i j n s.heap) : s.TypeIs (.ref z) "zip" := by
  rcases st with q | q
  · exact ⟨_, q.hz, rfl⟩
  · obtain ⟨_, _, _, q, _⟩ := q.hz; exact ⟨_, q, rfl⟩
theorem ZSt.iter {k l : Bool} {z t u i j : Addr} {n : Nat} {P : Program} {w : World} {A : Around} {s : Shared} {Q : Value → Shared → Prop} {E : Value → Shared → Prop} (st : ZSt k l a b z t u i j n s.heap) (q : Q (.ref z) s) : wpAny (model P w) A (pyIter (.ref z)) Q E s := by
  have ty := st.typ
  refine wpAny_pyIter_slot ty F.slot_zip_iter (wpAny_call_entry F.slot_zip_iter ty F.entry_zip_iter (wpAny_pure ⟨.ref z, rfl, "zip", _, ty, F.slot_zip_next.lookup, q⟩) (F.args_zip_iter_1 _))
/-- what stood before and is none of the zip's own cells stands -/
def Old5 (z t u i j : Addr) (h h' : Heap) : Prop := ∀ c o, c ∉ [z, t, u, i, j] → h.get? c = some o → h'.get? c = some o
theorem no5 {z t u i j c : Addr} (h : c ∉ [z, t, u, i, j]) : c ≠ z ∧ c ≠ t ∧ c ≠ u ∧ c ≠ i ∧ c ≠ j := by simpa using h

section
variable {P : Program} {w : World} {A : Around} {E : Value → Shared → Prop} {s : Shared} {k l : Bool} {z t u i j : Addr} {n : Nat} {us os : Array Value} {c d : Value}
theorem out_next {Q : Value → Shared → Prop} (hh : A.handled = none) (Z : ZipSep2 z t u i j [i, a] [j, b]) (ha : a ≠ i) (hb : b ≠ j) (st : ZOut k l a b z t u i j n s.heap) (t1 : HasB k s.heap a us) (t2 : HasB l s.heap b os) (hc : us[n]? = some c) (hd : os[n]? = some d)
    (hQ : ∀ h' tk, ZOut k l a b z t u i j (n + 1) h' → IsTupOf2 h' s.heap.objs.size c d → h'.objs.size = s.heap.objs.size + 1 → Old5 z t u i j s.heap h' → Q (.ref s.heap.objs.size) { s with heap := h', toks := tk }) :
    wpAny (model P w) A (Builtin.«zip.__next__» ⟨[.ref z], []⟩) (fun f s' => ∃ v, f = .done (.ret v) ∧ Q v s') E s := by
  obtain ⟨T, f, oT, hz, hT⟩ := st.hz
  have hi := st.hi
  obtain ⟨ou, hu⟩ := st.ho
  have D1 := drB (P := P) (w := w) (A := A) hh k ha us
  have D2 := drB (P := P) (w := w) (A := A) hh l hb os
  have n1 : n < us.size := (Array.getElem?_eq_some_iff.mp hc).1
  have n2 : n < os.size := (Array.getElem?_eq_some_iff.mp hd).1
  have g1 : OnB k s.heap i a n ∧ HasB k s.heap a us := ⟨st.h1, t1⟩
  have g2 : OnB l s.heap j b n ∧ HasB l s.heap b os := ⟨st.h2, t2⟩
  clear st t1 t2
  obtain ⟨h0, gg, dd, tk0, ss⟩ := s
  show wpAny (model P w) _ (field (Value.ref z) 2 >>= _) _ _ _
  refine wpAny_bind (wpAny_field hz rfl (x := Value.bool false) rfl ?_)
  show wpAny (model P w) _ (field (Value.ref z) 3 >>= _) _ _ _
  refine wpAny_bind (wpAny_field hz rfl (x := Value.ref t) rfl (wpAny_bind (wpAny_seqItems hi rfl ?_)))
  show wpAny (model P w) _ (Builtin.SmallTypes.ownedTupleIsFree (Value.ref z) >>= _) _ _ _
  refine wpAny_bind (wpAny_tupleHeld_zip hz hT fun a1 z1 b1 => ?_)
  replace b1 : Heap.SameBut z h0 a1 := b1
  simp only [Bool.false_eq_true, if_false]
  refine wpAny_bind ?_
  rw [← Array.forIn_toList]
  simp only [List.forIn_cons, List.forIn_nil]
  refine wpAny_bind (wpAny_bind (wpAny_holding ?_))
  show wpAny (model P w) _ (Builtin.SmallTypes.nextOf (Value.ref i) >>= _) _ _ ⟨a1, gg, dd, tk0, ss⟩
  refine wpAny_bind (D1.item n _ _ _ n1 (D1.over g1 b1 Z.zf1) fun v1 a2 tk1 e1 g1' b2 => wpAny_pure (wpAny_pure ?_))
  replace b2 : Heap.SameBut i a1 a2 := b2
  have e1' : v1 = c := by rw [hc] at e1; cases e1; rfl
  subst e1'
  refine wpAny_bind (wpAny_bind (wpAny_holding ?_))
  show wpAny (model P w) _ (Builtin.SmallTypes.nextOf (Value.ref j) >>= _) _ _ ⟨a2, gg, dd, tk1, ss⟩
  refine wpAny_bind (D2.item n _ _ _ n2 (D2.over (D2.over g2 b1 Z.zf2) b2 Z.sep1_2) fun v2 a3 tk2 e2 g2' b3 => wpAny_pure (wpAny_pure (wpAny_pure ?_)))
  replace b3 : Heap.SameBut j a2 a3 := b3
  have e2' : v2 = d := by rw [hd] at e2; cases e2; rfl
  subst e2'
  show wpAny (model P w) _ (newTuple [v1, v2] >>= _) _ _ _
  have hsz : a3.objs.size = h0.objs.size := by rw [b3.1, b2.1, b1.1]
  have hz3 : IsZipHeld a3 z t u T true := b3.extBut _ _ Z.zi2 (b2.extBut _ _ Z.zi1 z1)
  have old : Old5 z t u i j h0 a3 := fun c o q e => by
    obtain ⟨q1, _, _, q4, q5⟩ := no5 q
    exact b3.extBut c o q5 (b2.extBut c o q4 (b1.extBut c o q1 e))
  refine wpAny_bind (wpAny_newTuple (wpAny_pure ⟨_, rfl, ?_⟩))
  have hp : IsTupOf2 (a3.push { cls := .type "tuple", data := .seq #[v1, v2] }) a3.objs.size v1 v2 := Heap.get?_push_size _ rfl
  have hp2 : (a3.push { cls := .type "tuple", data := .seq #[v1, v2] }).objs.size = a3.objs.size + 1 := Heap.size_push ..
  show Q (.ref a3.objs.size) ⟨a3.push { cls := .type "tuple", data := .seq #[v1, v2] }, gg, dd, tk2, ss⟩
  have hTn : T ∉ [z, t, u, i, j] ∨ True := .inr trivial
  rw [hsz] at hp hp2 ⊢
  refine hQ (a3.push { cls := .type "tuple", data := .seq #[v1, v2] }) tk2 ⟨⟨T, true, ?_⟩, ?_, ⟨ou, Heap.get?_push_of_some _ (b3.extBut _ _ Z.Ti2 (b2.extBut _ _ Z.Ti1 (b1.extBut _ _ Z.TOz hu)))⟩, ?_, ?_⟩ hp hp2 fun c o q e => Heap.get?_push_of_some _ (old c o q e)
  · -- T is alive still: the three writes leave every cell some object
    have alive : ∀ {q : Addr} {g g' : Heap}, Heap.SameBut q g g' → (∃ o, g.get? T = some o) → (q = T → ∃ o, g'.get? T = some o) → ∃ o, g'.get? T = some o := fun {q g g'} sb ⟨o, e⟩ k => by
      by_cases hq : q = T
      · exact k hq
      · exact ⟨o, sb.extBut T o (Ne.symm hq) e⟩
    have l1 := alive b1 ⟨_, hT⟩ fun e => by rw [← e]; exact ⟨_, z1⟩
    have l2 := alive b2 l1 fun e => by rw [← e]; obtain ⟨o, e, _⟩ := g1'.1.obj; exact ⟨o, e⟩
    have l3 := alive b3 l2 fun e => by rw [← e]; obtain ⟨o, e, _⟩ := g2'.1.obj; exact ⟨o, e⟩
    obtain ⟨o, l3⟩ := l3
    exact ⟨o, Heap.get?_push_of_some _ hz3, Heap.get?_push_of_some _ l3⟩
  · exact Heap.get?_push_of_some _ (b3.extBut _ _ Z.TIi2 (b2.extBut _ _ Z.TIi1 (b1.extBut _ _ Z.TIz hi)))
  · exact g1'.1.keep fun o e => Heap.get?_push_of_some _ (b3.extBut _ _ (fun q => Z.sep1_2 (by rw [q]; simp)) e)
  · exact g2'.1.keep fun o e => Heap.get?_push_of_some _ e
theorem out_done {Q : Fin → Shared → Prop} (hh : A.handled = none) (Z : ZipSep2 z t u i j [i, a] [j, b]) (ha : a ≠ i) (hb : b ≠ j) (st : ZOut k l a b z t u i j n s.heap) (t1 : HasB k s.heap a us) (t2 : HasB l s.heap b os) (l1 : n ≤ us.size) (l2 : n ≤ os.size) (l3 : n = us.size ∨ n = os.size)
    (hE : ∀ h' tk e, Old5 z t u i j s.heap h' → (∃ o, h'.get? e = some o ∧ o.cls = .type "StopIteration") → E (.ref e) { s with heap := h', toks := tk }) :
    wpAny (model P w) A (Builtin.«zip.__next__» ⟨[.ref z], []⟩) Q E s := by
  obtain ⟨T, f, oT, hz, hT⟩ := st.hz
  have hi := st.hi
  have D1 := drB (P := P) (w := w) (A := A) hh k ha us
  have D2 := drB (P := P) (w := w) (A := A) hh l hb os
  have g1 : OnB k s.heap i a n ∧ HasB k s.heap a us := ⟨st.h1, t1⟩
  have g2 : OnB l s.heap j b n ∧ HasB l s.heap b os := ⟨st.h2, t2⟩
  clear st t1 t2
  obtain ⟨h0, gg, dd, tk0, ss⟩ := s
  show wpAny (model P w) _ (field (Value.ref z) 2 >>= _) _ _ _
  refine wpAny_bind (wpAny_field hz rfl (x := Value.bool false) rfl ?_)
  show wpAny (model P w) _ (field (Value.ref z) 3 >>= _) _ _ _
  refine wpAny_bind (wpAny_field hz rfl (x := Value.ref t) rfl (wpAny_bind (wpAny_seqItems hi rfl ?_)))
  show wpAny (model P w) _ (Builtin.SmallTypes.ownedTupleIsFree (Value.ref z) >>= _) _ _ _
  refine wpAny_bind (wpAny_tupleHeld_zip hz hT fun a1 z1 b1 => ?_)
  replace b1 : Heap.SameBut z h0 a1 := b1
  simp only [Bool.false_eq_true, if_false]
  refine wpAny_bind ?_
  rw [← Array.forIn_toList]
  simp only [List.forIn_cons, List.forIn_nil]
  refine wpAny_bind (wpAny_bind (wpAny_holding ?_))
  show wpAny (model P w) _ (Builtin.SmallTypes.nextOf (Value.ref i) >>= _) _ _ ⟨a1, gg, dd, tk0, ss⟩
  by_cases c1 : n < us.size
  · refine wpAny_bind (D1.item n _ _ _ c1 (D1.over g1 b1 Z.zf1) fun v1 a2 tk1 e1 g1' b2 => wpAny_pure (wpAny_pure ?_))
    replace b2 : Heap.SameBut i a1 a2 := b2
    refine wpAny_bind (wpAny_bind (wpAny_holding ?_))
    show wpAny (model P w) _ (Builtin.SmallTypes.nextOf (Value.ref j) >>= _) _ _ ⟨a2, gg, dd, tk1, ss⟩
    have hn : n = os.size := by omega
    refine wpAny_bind (D2.done _ _ _ (by rw [← hn]; exact D2.over (D2.over g2 b1 Z.zf2) b2 Z.sep1_2) fun a3 e b3 he => ?_)
    replace b3 : Heap.ExtBut j a2 a3 := b3
    exact hE a3 tk1 e (fun c o q z => by
      obtain ⟨q1, _, _, q4, q5⟩ := no5 q
      exact b3 c o q5 (b2.extBut c o q4 (b1.extBut c o q1 z))) he
  · have hn : n = us.size := by omega
    refine wpAny_bind (D1.done _ _ _ (by rw [← hn]; exact D1.over g1 b1 Z.zf1) fun a2 e b2 he => ?_)
    replace b2 : Heap.ExtBut i a1 a2 := b2
    exact hE a2 tk0 e (fun c o q z => by
      obtain ⟨q1, _, _, q4, q5⟩ := no5 q
      exact b2 c o q4 (b1.extBut c o q1 z)) he
theorem zs_next {Q : Option Value → Shared → Prop} (hh : A.handled = none) (Z : ZipSep2 z t u i j [i, a] [j, b]) (ha : a ≠ i) (hb : b ≠ j) (st : ZSt k l a b z t u i j n s.heap) (t1 : HasB k s.heap a us) (t2 : HasB l s.heap b os) (hc : us[n]? = some c) (hd : os[n]? = some d)
    (hQ : ∀ h' tk, ZSt k l a b z t u i j (n + 1) h' → IsTupOf2 h' s.heap.objs.size c d → h'.objs.size = s.heap.objs.size + 1 → Old5 z t u i j s.heap h' → Q (some (.ref s.heap.objs.size)) { s with heap := h', toks := tk }) :
    wpAny (model P w) A (pyNext (.ref z)) Q E s := by
  rcases st with st | st
  · obtain ⟨v, w, ho⟩ := st.ho
    refine wpAny_pyNext_zipD2_item Z (drB (P := P) (A := A.in1) hh k ha us) (drB (P := P) (A := A.in1) hh l hb os) st.hz st.hi ho ⟨st.h1, t1⟩ ⟨st.h2, t2⟩
      (Array.getElem?_eq_some_iff.mp hc).1 (Array.getElem?_eq_some_iff.mp hd).1 fun x1 x2 h' tk e1 e2 z' u' o1 o2 hT hsz hk => ?_
    rw [hc] at e1; cases e1
    rw [hd] at e2; cases e2
    refine hQ h' tk (.inr ⟨⟨_, false, _, z', hT⟩, hk _ _ Z.TIz Z.TITO Z.TIi1 Z.TIi2 st.hi, ⟨_, u'⟩, o1.1, o2.1⟩) hT hsz fun c o q e => ?_
    obtain ⟨q1, _, q3, q4, q5⟩ := no5 q
    exact hk c o q1 q3 q4 q5 e
  · have ty : s.TypeIs (.ref z) "zip" := ZSt.typ (.inr st)
    unfold pyNext
    exact wpAny_bind (wpAny_attempt (wpAny_callSpecial?_slot (name := Str.ofString "__next__") ty F.slot_zip_next (wpAny_call_entry F.slot_zip_next ty F.entry_zip_next
      (out_next (A := A.in1) hh Z ha hb st t1 t2 hc hd fun h' tk a1 a2 a3 a4 => wpAny_pure (hQ h' tk (.inr a1) a2 a3 a4)) (F.args_zip_next_1 _))))
theorem zs_done {Q : Option Value → Shared → Prop} (hh : A.handled = none) (Z : ZipSep2 z t u i j [i, a] [j, b]) (ha : a ≠ i) (hb : b ≠ j) (st : ZSt k l a b z t u i j n s.heap) (t1 : HasB k s.heap a us) (t2 : HasB l s.heap b os) (l1 : n ≤ us.size) (l2 : n ≤ os.size) (l3 : n = us.size ∨ n = os.size)
    (hQ : ∀ h' tk, Old5 z t u i j s.heap h' → Q none { s with heap := h', toks := tk }) : wpAny (model P w) A (pyNext (.ref z)) Q E s := by
  rcases st with st | st
  · obtain ⟨v, w, ho⟩ := st.ho
    refine wpAny_pyNext_zipD2_end Z (drB (P := P) (A := A.in1) hh k ha us) (drB (P := P) (A := A.in1) hh l hb os) st.hz st.hi ho ⟨st.h1, t1⟩ ⟨st.h2, t2⟩ l1 l2 l3 fun h' tk hk => hQ h' tk fun c o q e => ?_
    obtain ⟨q1, _, q3, q4, q5⟩ := no5 q
    exact hk c o q1 q3 q4 q5 e
  · have ty : s.TypeIs (.ref z) "zip" := ZSt.typ (.inr st)
    unfold pyNext
    refine wpAny_bind (wpAny_attempt (wpAny_callSpecial?_slot (name := Str.ofString "__next__") ty F.slot_zip_next (wpAny_call_entry F.slot_zip_next ty F.entry_zip_next
      (out_done (A := A.in1) hh Z ha hb st t1 t2 l1 l2 l3 fun h' tk e a1 a2 => ?_) (F.args_zip_next_1 _))))
    obtain ⟨o, ho, hc⟩ := a2
    exact wpAny_bind (wpAny_isInstance (T := "StopIteration") (b := true) ⟨o, ho, hc⟩ isSubtype_stop (wpAny_pure (hQ h' tk a1)))
end
end Nx

set_option Elab.async false
set_option linter.all false
set_option maxRecDepth 100000
set_option autoImplicit false
namespace Nx
open PySem L2 PySem.Spec PyProof.Rows
variable {C : CC} {ad ad1 ad' : List Addr} {H H1 H' : Hp} {S S1 S' : Sto} {a b p : Addr}
variable {X : Cx} {W : WX} {e e1 e2 e3 : PySem.Expr} {es : List PySem.Expr} {x y : Ex} {xs : Exs} {pos : Pos}

/-- the store behind n turns of list(zip(xs, ys)) -/
def zst (S : Sto) (xs ys : List V) (n : Nat) : Sto :=
  S ++ (.lst ((List.range n).map fun i => V.ref (S.length + 1 + i)) :: ((xs.zip ys).take n).map fun q => Ob.tpl [q.1, q.2])
def pListZip : Prim := fun vs S => match vs with
  | [u, v] => match kindOf S u, kindOf S v with
    | some k, some l => match sqOf S k u, sqOf S l v with
      | some xs, some ys => some (.val (.ref S.length) (zst S xs ys (min xs.length ys.length)))
      | _, _ => none
    | _, _ => none
  | _ => none
theorem zst_len {xs ys : List V} {n : Nat} (h : n ≤ min xs.length ys.length) : (zst S xs ys n).length = S.length + 1 + n := by
  simp [zst, List.length_zip]; omega
theorem zst_step {xs ys : List V} {n : Nat} {v w : V} (h1 : xs[n]? = some v) (h2 : ys[n]? = some w) :
    List.set ((zst S xs ys n) ++ [Ob.tpl [v, w]]) S.length (Ob.lst ((List.range n).map (fun i => V.ref (S.length + 1 + i)) ++ [V.ref (S.length + 1 + n)])) = zst S xs ys (n + 1) := by
  have hz : (xs.zip ys)[n]? = some (v, w) := by rw [List.getElem?_zip_eq_some]; exact ⟨h1, h2⟩
  unfold zst
  rw [List.append_assoc, List.set_append_right _ _ (Nat.le_refl _), Nat.sub_self, List.cons_append, List.set_cons_zero, List.range_succ, List.map_append, List.take_add_one, hz]
  simp
theorem zst_at {xs ys : List V} {n : Nat} : (zst S xs ys n)[S.length]? = some (.lst ((List.range n).map fun i => V.ref (S.length + 1 + i))) := by
  unfold zst
  rw [List.getElem?_append_right (Nat.le_refl _), Nat.sub_self]; rfl
theorem Old5.hasB {k : Bool} {z t u i j : Addr} {h h' : Heap} {us : Array Value} (q : Old5 z t u i j h h') (na : a ∉ [z, t, u, i, j]) (x : HasB k h a us) : HasB k h' a us := by
  cases k
  · obtain ⟨o, e, r⟩ := x; exact ⟨o, q _ _ na e, r⟩
  · obtain ⟨o, e, r⟩ := x; exact ⟨o, q _ _ na e, r⟩
theorem HasB.up {k : Bool} {h h' : Heap} {us : Array Value} (x : HasB k h a us) (q : ∀ o, h.get? a = some o → h'.get? a = some o) : HasB k h' a us := by
  cases k
  · obtain ⟨o, e, r⟩ := x; exact ⟨o, q _ e, r⟩
  · obtain ⟨o, e, r⟩ := x; exact ⟨o, q _ e, r⟩
theorem ZSt.up {k l : Bool} {z t u i j D : Addr} {n : Nat} {h h' : Heap} (st : ZSt k l a b z t u i j n h) (nD : D ∉ [z, t, u, i, j]) (q : ∀ c o, c ≠ D → h.get? c = some o → h'.get? c = some o) (al : ∃ o, h'.get? D = some o) : ZSt k l a b z t u i j n h' := by
  obtain ⟨n1, n2, n3, n4, n5⟩ := no5 nD
  rcases st with st | st
  · obtain ⟨v, w, ho⟩ := st.ho
    exact .inl ⟨q _ _ n1.symm st.hz, q _ _ n2.symm st.hi, ⟨v, w, q _ _ n3.symm ho⟩, st.h1.keep fun o => q _ o n4.symm, st.h2.keep fun o => q _ o n5.symm⟩
  · obtain ⟨T, f, o, hz, hT⟩ := st.hz
    obtain ⟨ou, hu⟩ := st.ho
    refine .inr ⟨?_, q _ _ n2.symm st.hi, ⟨ou, q _ _ n3.symm hu⟩, st.h1.keep fun o => q _ o n4.symm, st.h2.keep fun o => q _ o n5.symm⟩
    by_cases e : T = D
    · obtain ⟨o', e'⟩ := al
      exact ⟨T, f, o', q _ _ n1.symm hz, by rw [e]; exact e'⟩
    · exact ⟨T, f, o, q _ _ n1.symm hz, q _ _ e hT⟩
theorem fpTo {pins : List (Addr × Obj)} {c : Addr} (h : FpOk X pins H c) (h' : H' c = none) : FpOk X pins H' c := ⟨h', h.2⟩

structure ZLoop (C : CC) (X : Cx) (pins : List (Addr × Obj)) (σ : L2.St) (k l : Bool) (a b z t u i j D : Addr) (S : Sto) (xs ys : List V) (us os : List Value) (n : Nat) (s : Shared) (H : Hp) (ad : List Addr) : Prop where
  I : Inv X pins σ H s
  fp : ∀ c ∈ [z, t, u, i, j], FpOk X pins H c
  ex : ∀ c ∈ [z, t, u, i, j], ∃ o, s.heap.get? c = some o
  st : ZSt k l a b z t u i j n s.heap
  t1 : HasB k s.heap a us.toArray
  t2 : HasB l s.heap b os.toArray
  rx : ∃ vs, RVs ad xs vs ∧ Vals vs us
  ry : ∃ ws, RVs ad ys ws ∧ Vals ws os
  sm : Sim C ad (zst S xs ys n) H
  at_ : ad[S.length]? = some D
theorem vals_at {xs vs : List V} {us : List Value} {v : V} {n : Nat} (r : RVs ad xs vs) (q : Vals vs us) (h : xs[n]? = some v) : ∃ w c, us[n]? = some c ∧ RV ad v w ∧ RelV w c := by
  obtain ⟨w, hw, rw'⟩ := RVs.get r h
  obtain ⟨c, hc, rc⟩ := q.get hw
  exact ⟨w, c, hc, rw', rc⟩
theorem zl_loop {pins : List (Addr × Obj)} {σ : L2.St} {k l : Bool} {z t u i j D : Addr} {us os : List Value} {vx vy : List V} {A : Around} {R : Result → Shared → Prop} (hh : A.handled = none) (Z : ZipSep2 z t u i j [i, a] [j, b]) (ha : a ≠ i) (hb : b ≠ j)
    (nD : D ∉ [z, t, u, i, j]) (na : a ∉ [z, t, u, i, j]) (nb : b ∉ [z, t, u, i, j]) (Da : a ≠ D) (Db : b ≠ D) (hz : vx.length ≤ sizeLine) :
    ∀ (m n : Nat) (s : Shared) (H : Hp) (ad : List Addr), min vx.length vy.length - n = m → n ≤ min vx.length vy.length → ZLoop C X pins σ k l a b z t u i j D S vx vy us os n s H ad →
    (∀ s' H' ad', Inv X pins σ H' s' → Ext ad H ad' H' → Sim C ad' (zst S vx vy (min vx.length vy.length)) H' → ad'[S.length]? = some D → R (.ok (.ret .none)) s') →
    codeAny (model X.prog X.w) A (.builtin "list.extend.loop" ⟨[.ref D, .ref z, .none], []⟩) R s := by
  intro m
  induction m with
  | zero =>
    intro n s H ad hm hn L hR
    obtain ⟨vs, rv, r1⟩ := L.rx
    obtain ⟨ws, rw', r2⟩ := L.ry
    have z1 : us.toArray.size = vx.length := by simp; rw [← r1.length]; exact (Paired.len rv).symm
    have z2 : os.toArray.size = vy.length := by simp; rw [← r2.length]; exact (Paired.len rw').symm
    have e : n = min vx.length vy.length := by omega
    refine codeAny_builtin F.entry_extend_loop ?_
    rw [Around.under_plainId F.plain_extend_loop _]
    show wpAny _ A.in1 (pyNext (Value.ref z) >>= _) _ _ s
    refine wpAny_bind (zs_done (A := A.in1) hh Z ha hb L.st L.t1 L.t2 (by omega) (by omega) (by omega) fun h' tk old => ?_)
    have I' : Inv X pins σ H { s with heap := h', toks := tk } := L.I.turnedL (t' := tk) (ch := [z, t, u, i, j]) (fun c o hc q => old c o hc q) L.fp
    have sm := L.sm
    rw [e] at sm
    exact wpAny_pure (hR _ H ad I' (Ext.refl sm) sm L.at_)
  | succ m ih =>
    intro n s H ad hm hn L hR
    obtain ⟨vs, rv, r1⟩ := L.rx
    obtain ⟨ws, rw', r2⟩ := L.ry
    have c1 : n < vx.length := by omega
    have c2 : n < vy.length := by omega
    have hx : vx[n]? = some vx[n] := List.getElem?_eq_getElem c1
    have hy : vy[n]? = some vy[n] := List.getElem?_eq_getElem c2
    obtain ⟨v, c, hc, rc, rc'⟩ := vals_at rv r1 hx
    obtain ⟨w, d, hd, rd, rd'⟩ := vals_at rw' r2 hy
    have nT : ∀ q o, s.heap.get? q = some o → q ≠ s.heap.objs.size := fun q o e => Nat.ne_of_lt (Heap.lt_size e)
    refine codeAny_builtin F.entry_extend_loop ?_
    rw [Around.under_plainId F.plain_extend_loop _]
    show wpAny _ A.in1 (pyNext (Value.ref z) >>= _) _ _ s
    refine wpAny_bind (zs_next (A := A.in1) hh Z ha hb L.st L.t1 L.t2 (c := c) (d := d) (by simpa using hc) (by simpa using hd) fun h' tk st' hT hsz old => ?_)
    have hT0 : H s.heap.objs.size = none := L.I.hok.fresh (Nat.le_refl _)
    have new : ObjOk X.prog X.w (upd H s.heap.objs.size (.tup [v, w])) h' s.heap.objs.size (.tup [v, w]) :=
      ⟨by show 2 ≤ sizeLine; decide, [c, d], .cons rc' (.cons rd' .nil), ⟨_, hT, rfl, _, rfl⟩⟩
    have I1 : Inv X pins σ (upd H s.heap.objs.size (.tup [v, w])) { s with heap := h', toks := tk } := L.I.turnedNew (t' := tk) (ch := [z, t, u, i, j]) (fun c o hb q => old c o hb q) L.fp (Nat.le_refl _) new
    obtain ⟨ad1, ex1, sm1, rT⟩ := L.sm.allocT hT0 (.cons rc (.cons rd .nil))
    obtain ⟨more, rfl, hmore⟩ := ex1.pre
    have at1 : (ad ++ more)[S.length]? = some D := get_pre L.at_
    have len0 : (zst S vx vy n).length = S.length + 1 + n := zst_len hn
    have atS : ((zst S vx vy n) ++ [Ob.tpl [vx[n], vy[n]]])[S.length]? = some (.lst ((List.range n).map fun i => V.ref (S.length + 1 + i))) := by
      rw [List.getElem?_append_left (by rw [len0]; omega)]; exact zst_at
    obtain ⟨rs, rrs, hD⟩ := sm1.ob _ _ _ atS at1
    obtain ⟨_, its, q, rits, lits, hDo⟩ := I1.lstM hD
    have lrs : rs.length = n := by rw [← Paired.len rrs]; simp
    have nl : its.length = n := by rw [← lits]; exact lrs
    show wpAny _ A.in1 (updateSeq D (fun l => l.push (Value.ref s.heap.objs.size)) >>= _) _ _ _
    refine wpAny_bind (wpAny_updateSeq (s := { s with heap := h', toks := tk }) hDo rfl ?_ (by simp; omega) (by simp; omega))
    have rl : Vals (rs ++ [V.ref s.heap.objs.size]) (its ++ [Value.ref s.heap.objs.size]) := rits.append (.cons rfl .nil)
    have I2 := I1.lset (t' := tk) (ys := rs ++ [V.ref s.heap.objs.size]) (its' := its ++ [Value.ref s.heap.objs.size]) (f := fun l => l.push (Value.ref s.heap.objs.size)) hD hDo (by simp) rl (by simp; omega)
    have rT' : RV (ad ++ more) (.ref (S.length + 1 + n)) (.ref s.heap.objs.size) := by rw [← len0]; exact rT
    obtain ⟨sm2, ex2⟩ := sm1.write (ho := .lst (rs ++ [V.ref s.heap.objs.size])) (o := .lst ((List.range n).map (fun i => V.ref (S.length + 1 + i)) ++ [.ref (S.length + 1 + n)])) atS rfl rfl at1 ⟨_, rrs.append (.cons rT' .nil), upd_same⟩
    rw [zst_step hx hy] at sm2
    have keepD : ∀ c o, c ≠ D → h'.get? c = some o → (h'.update D (Obj.mapSeq fun l => l.push (Value.ref s.heap.objs.size))).get? c = some o := fun c o hc e => (Heap.get?_update_other _ _ (Ne.symm hc)).trans e
    have stillD : ∃ o, (h'.update D (Obj.mapSeq fun l => l.push (Value.ref s.heap.objs.size))).get? D = some o := ⟨_, Heap.get?_update_self _ hDo rfl⟩
    have none5 : ∀ c ∈ [z, t, u, i, j], upd (upd H s.heap.objs.size (.tup [v, w])) D (.lst (rs ++ [V.ref s.heap.objs.size])) c = none := fun c hc => by
      obtain ⟨o, e⟩ := L.ex c hc
      rw [upd_ne (fun z => nD (by rw [← z]; exact hc)), upd_ne (nT c o e)]
      exact (L.fp c hc).1
    have ex5 : ∀ c ∈ [z, t, u, i, j], ∃ o, h'.get? c = some o := fun c hc => by
      rcases st' with q | q
      · obtain ⟨_, _, ho⟩ := q.ho
        rcases in5 hc with e | e | e | e | e
        · rw [e]; exact ⟨_, q.hz⟩
        · rw [e]; exact ⟨_, q.hi⟩
        · rw [e]; exact ⟨_, ho⟩
        · rw [e]; obtain ⟨o, e, _⟩ := q.h1.obj; exact ⟨o, e⟩
        · rw [e]; obtain ⟨o, e, _⟩ := q.h2.obj; exact ⟨o, e⟩
      · obtain ⟨_, _, _, hz', _⟩ := q.hz
        rcases in5 hc with e | e | e | e | e
        · rw [e]; exact ⟨_, hz'⟩
        · rw [e]; exact ⟨_, q.hi⟩
        · rw [e]; exact q.ho
        · rw [e]; obtain ⟨o, e, _⟩ := q.h1.obj; exact ⟨o, e⟩
        · rw [e]; obtain ⟨o, e, _⟩ := q.h2.obj; exact ⟨o, e⟩
    refine wpAny_pure ⟨plainId_quiet F.plain_extend_loop _, ih (n + 1) _ _ (ad ++ more) (by omega) (by omega) ⟨I2, fun c hc => fpTo (L.fp c hc) (none5 c hc), fun c hc => ?_, st'.up nD keepD stillD, ?_, ?_, ⟨vs, rv.pre, r1⟩, ⟨ws, rw'.pre, r2⟩, sm2, at1⟩ fun s' H' ad' I' ex' sm' at' => hR s' H' ad' I' (ex1.trans (ex2.trans ex')) sm' at'⟩
    · obtain ⟨o, e⟩ := ex5 c hc
      exact ⟨o, keepD c o (fun z => nD (by rw [← z]; exact hc)) e⟩
    · exact (old.hasB na L.t1).up fun o => keepD _ o Da
    · exact (old.hasB nb L.t2).up fun o => keepD _ o Db
theorem zip_len0 : typeLookup (.type "zip") "__len__" = pure Option.none := by rw [typeLookup_type, builtinLookup_eq_fast]; kernel_rfl
theorem zip_hint0 : typeLookup (.type "zip") "__length_hint__" = pure Option.none := by rw [typeLookup_type, builtinLookup_eq_fast]; kernel_rfl
theorem zip_type0 : (Value.type "zip" == Value.type "list") = false ∧ (Value.type "zip" == Value.type "tuple") = false := by decide
theorem noX_listZip : NoX pListZip := by
  intro vs S c fs S' z
  unfold pListZip at z
  split at z
  · split at z
    · split at z <;> cases z
    · cases z
  · cases z
theorem call_listZip {pins : List (Addr × Obj)} {σ : L2.St} {s : Shared} {E : Value → Shared → Prop} {k l : Bool} {z t u i j : Addr} {us os : List Value} {vx vy : List V} {Q : Value → Shared → Prop} (hh : X.A.handled = none) (Z : ZipSep2 z t u i j [i, a] [j, b]) (ha : a ≠ i) (hb : b ≠ j)
    (na : a ∉ [z, t, u, i, j]) (nb : b ∉ [z, t, u, i, j]) (hz : vx.length ≤ sizeLine) (I : Inv X pins σ H s) (fp : ∀ c ∈ [z, t, u, i, j], FpOk X pins H c) (ex : ∀ c ∈ [z, t, u, i, j], ∃ o, s.heap.get? c = some o) (st : ZSt k l a b z t u i j 0 s.heap)
    (t1 : HasB k s.heap a us.toArray) (t2 : HasB l s.heap b os.toArray) (rx : ∃ vs, RVs ad vx vs ∧ Vals vs us) (ry : ∃ ws, RVs ad vy ws ∧ Vals ws os) (sm : Sim C ad S H)
    (hQ : ∀ s' H' ad', Inv X pins σ H' s' → Ext ad H ad' H' → Sim C ad' (zst S vx vy (min vx.length vy.length)) H' → RV ad' (.ref S.length) (.ref s.heap.objs.size) → Q (.ref s.heap.objs.size) s') :
    wpAny (model X.prog X.w) X.A (call (.type "list") [.ref z]) Q E s := by
  refine callType_codes (Q₁ := fun v s2 => v = Value.ref s.heap.objs.size ∧ s2 = { s with heap := s.heap.push { cls := .type "list", data := .seq #[] } }) F.called_list (F.typeCall_list_1 _) F.entry_list_init (code_list_new _ ⟨rfl, rfl⟩) ?_
  rintro v s2 ⟨rfl, rfl⟩
  have up : ∀ c o, s.heap.get? c = some o → (s.heap.push { cls := .type "list", data := .seq #[] }).get? c = some o := fun c o e => Heap.get?_push_of_some _ e
  have hD : (s.heap.push { cls := .type "list", data := .seq #[] }).get? s.heap.objs.size = some { cls := .type "list", data := .seq #[] } := Heap.get?_push_size _ rfl
  have ne : ∀ c o, s.heap.get? c = some o → c ≠ s.heap.objs.size := fun c o e => Nat.ne_of_lt (Heap.lt_size e)
  have nD : s.heap.objs.size ∉ [z, t, u, i, j] := fun hm => by
    obtain ⟨o, e⟩ := ex _ hm
    exact ne _ _ e rfl
  have aD : a ≠ s.heap.objs.size := by cases k <;> (obtain ⟨o, e, _⟩ := t1; exact ne _ _ e)
  have bD : b ≠ s.heap.objs.size := by cases l <;> (obtain ⟨o, e, _⟩ := t2; exact ne _ _ e)
  have H0 : H s.heap.objs.size = none := I.hok.fresh (Nat.le_refl _)
  have I1 := I.lnew (t' := s.toks) (ys := []) (its := []) .nil (Nat.zero_le _)
  obtain ⟨sm1, ex1⟩ := sm.alloc (ho := .lst []) (o := .lst []) H0 (new_lst .nil _ H0)
  refine ⟨⟨_, hD, rfl⟩, F.args_list_init_2 _ _, ?_⟩
  show wpAny _ _ (do let l0 ← Builtin.List.listItems (Value.ref s.heap.objs.size); Builtin.List.listUpdate (Value.ref s.heap.objs.size) (fun _ => #[]); letGo l0.toList.reverse; Builtin.List.listExtendWith (Value.ref s.heap.objs.size) (Value.ref z) Value.none) _ _ _
  refine wpAny_bind ?_
  unfold Builtin.List.listItems
  refine wpAny_bind (wpAny_seqItems hD rfl (wpAny_pure ?_))
  refine wpAny_bind ?_
  show wpAny _ _ (updateSeq s.heap.objs.size (fun _ => #[])) _ _ _
  refine wpAny_updateSeq hD rfl ?_
  have d2 := Heap.get?_update_self (Obj.mapSeq (fun _ => (#[] : Array Value))) hD rfl
  have I2 := I1.lset (t' := s.toks) (ys := []) (its := []) (its' := []) (f := fun _ => #[]) upd_same hD rfl .nil (Nat.zero_le _)
  refine wpAny_bind (wpAny_letGo ?_)
  unfold Builtin.List.listExtendWith
  have keep2 : ∀ c o, c ≠ s.heap.objs.size → (s.heap.push { cls := .type "list", data := .seq #[] }).get? c = some o → ((s.heap.push { cls := .type "list", data := .seq #[] }).update s.heap.objs.size (Obj.mapSeq (fun _ => (#[] : Array Value)))).get? c = some o := fun c o hc e => (Heap.get?_update_other _ _ (Ne.symm hc)).trans e
  have keep2' : ∀ c o, c ≠ s.heap.objs.size → s.heap.get? c = some o → ((s.heap.push { cls := .type "list", data := .seq #[] }).update s.heap.objs.size (Obj.mapSeq (fun _ => (#[] : Array Value)))).get? c = some o := fun c o hc e => keep2 c o hc (up c o e)
  have st2 := st.up nD keep2' ⟨_, d2⟩
  have ty := ZSt.typ (s := { s with heap := (s.heap.push { cls := .type "list", data := .seq #[] }).update s.heap.objs.size (Obj.mapSeq (fun _ => (#[] : Array Value))) }) st2
  refine wpAny_bind (wpAny_typeOf ty ?_)
  have nz : Builtin.List.listSameRef (.ref s.heap.objs.size) (.ref z) = false := by
    have : s.heap.objs.size ≠ z := fun e => nD (by rw [e]; simp)
    simp [Builtin.List.listSameRef, this]
  simp only [nz, zip_type0.1, zip_type0.2, Bool.or_false, Bool.false_eq_true, if_false]
  refine wpAny_bind (ZSt.iter (s := { s with heap := (s.heap.push { cls := .type "list", data := .seq #[] }).update s.heap.objs.size (Obj.mapSeq (fun _ => (#[] : Array Value))) }) st2 (wpAny_bind (wpAny_holding ?_)))
  unfold Builtin.List.listLengthHint
  refine wpAny_bind (wpAny_specialOf ty zip_len0 ?_)
  show wpAny _ _ (specialOf (.ref z) (Str.ofString "__length_hint__") >>= _) _ _ _
  refine wpAny_bind (wpAny_specialOf ty zip_hint0 (wpAny_pure ?_))
  show wpAny _ _ (rule "list.extend.makes-room" >>= fun _ => Builtin.List.listTouch (.ref s.heap.objs.size) >>= fun _ => again (.builtin "list.extend.loop" ⟨[Value.ref s.heap.objs.size, Value.ref z, Value.none], []⟩)) _ _ _
  refine wpAny_bind (wpAny_rule (wpAny_bind ?_))
  show wpAny _ _ (updateSeq s.heap.objs.size (fun l => l.push Value.none) >>= fun _ => updateSeq s.heap.objs.size (fun l => l.pop)) _ _ _
  refine wpAny_bind (wpAny_updateSeq d2 rfl ?_)
  have d3 := Heap.get?_update_self (Obj.mapSeq (fun l => l.push Value.none)) d2 rfl
  have I3 := I2.lset (t' := s.toks) (ys := [.non]) (its := []) (its' := [Value.none]) (f := fun l => l.push Value.none) upd_same d2 rfl (.cons rfl .nil) (by decide)
  refine wpAny_updateSeq (hz := by seq_fits) d3 rfl ?_
  have d4 := Heap.get?_update_self (Obj.mapSeq (fun l : Array Value => l.pop)) d3 rfl
  have I4 := I3.lset (t' := s.toks) (ys := []) (its := [Value.none]) (its' := []) (f := fun l => l.pop) upd_same d3 rfl .nil (Nat.zero_le _)
  have eH : upd (upd (upd (upd H s.heap.objs.size (.lst [])) s.heap.objs.size (.lst [])) s.heap.objs.size (.lst [.non])) s.heap.objs.size (.lst []) = upd H s.heap.objs.size (.lst []) := by
    rw [upd_upd, upd_upd, upd_upd]
  rw [eH] at I4
  have keep4 : ∀ c o, c ≠ s.heap.objs.size → s.heap.get? c = some o → ((((s.heap.push { cls := .type "list", data := .seq #[] }).update s.heap.objs.size (Obj.mapSeq (fun _ => (#[] : Array Value)))).update s.heap.objs.size (Obj.mapSeq (fun l => l.push Value.none))).update s.heap.objs.size (Obj.mapSeq (fun l : Array Value => l.pop))).get? c = some o := fun c o hc e =>
    (Heap.get?_update_other _ _ (Ne.symm hc)).trans ((Heap.get?_update_other _ _ (Ne.symm hc)).trans (keep2' c o hc e))
  have st4 := st.up nD keep4 ⟨_, d4⟩
  have z0 : zst S vx vy 0 = S ++ [Ob.lst []] := by simp [zst]
  obtain ⟨vs, rv, r1⟩ := rx
  obtain ⟨ws, rw', r2⟩ := ry
  have atS : (ad ++ [s.heap.objs.size])[S.length]? = some s.heap.objs.size := by rw [← sm.len, List.getElem?_append_right (Nat.le_refl _)]; simp
  refine wpAny_pure ⟨plainId_quiet F.plain_extend_loop _, zl_loop (A := X.A.in1) (R := wants (fun r s2 => r = Value.none ∧ Q (Value.ref s.heap.objs.size) s2) E) (C := C) (S := S) (X := X) (vx := vx) (vy := vy) (us := us) (os := os) (σ := σ) (pins := pins) (k := k) (l := l) (a := a) (b := b) hh Z ha hb nD na nb aD bD hz _ 0 _ _ (ad ++ [s.heap.objs.size]) rfl (Nat.zero_le _)
    ⟨I4, fun c hc => fpTo (fp c hc) (by rw [upd_ne (fun e => nD (by rw [← e]; exact hc))]; exact (fp c hc).1), fun c hc => ?_, st4, t1.up fun o => keep4 _ o aD, t2.up fun o => keep4 _ o bD, ⟨vs, rv.pre, r1⟩, ⟨ws, rw'.pre, r2⟩, by rw [z0]; exact sm1, atS⟩ fun s' H' ad' I' ex' sm' at' => ⟨rfl, hQ s' H' ad' I' (ex1.trans ex') sm' ⟨_, at', rfl⟩⟩⟩
  obtain ⟨o, e⟩ := ex c hc
  exact ⟨o, keep4 c o (ne c o e) e⟩
theorem xe_listZip (hK : C.K = X.K) (hc : X.calm = true) {pp p2 pos2 : Pos} (hg : Gl X "list") (hm : X.mg "list" = none) (hg2 : Gl X "zip") (hm2 : X.mg "zip" = none) (ha : PA X [e1, e2] (tEvs C W xs))
    (hs : starEach [e1, e2] X.env = (false, eval e1 X.env) :: starEach [e2] X.env := by rfl) (hpl : (backTo pos2 (starEach [e2] X.env)).any (·.1) = false := by rfl)
    (hs2 : starEach [.Call (.Name "zip" p2) [e1, e2] [] pos2] X.env = (false, eval (.Call (.Name "zip" p2) [e1, e2] [] pos2) X.env) :: starEach [] X.env := by rfl) :
    PE X (.Call (.Name "list" pp) [.Call (.Name "zip" p2) [e1, e2] [] pos2] [] pos) (tEv C W (.pn pListZip xs)) := by
  refine ⟨fun pins s σ H Q I ⟨ad, S, ρ, sm, r, q⟩ => ?_⟩
  have q := pn_args noX_listZip sm r q
  refine Call_ (ld_blt I hg hm boot_list (callWith_type1 (args_cons (Call_ (ld_blt I hg2 hm2 boot_zip (callWith_type1 (thn (ha.run pos2 pins s σ H _ I q) fun us s1 ⟨vs, H1, I1, r1, q1⟩ => ?_) hs hpl))) hs2) hs2 rfl))
  clear q
  obtain ⟨ad, S, vs', sm, rv, q⟩ := q1
  unfold pListZip at q
  split at q
  · rename_i v w
    split at q
    · rename_i k l _ _
      split at q
      · rename_i vx vy h1 h2
        cases rv with
        | cons ru rv =>
        cases rv with
        | cons rw' rv =>
        cases rv
        obtain ⟨a, xw, rfl, rx, sx⟩ := sq_of (K := X.K) hK sm h1 ru
        obtain ⟨b, yw, rfl, ry, sy⟩ := sq_of (K := X.K) hK sm h2 rw'
        cases r1 with
        | cons r1 rr =>
        cases rr with
        | cons r2 rr =>
        cases rr; cases r1; cases r2
        obtain ⟨cs, c1, p1, z1, la⟩ := sqB_at I1 sx
        obtain ⟨ds, c2, p2, z2, lb⟩ := sqB_at I1 sy
        refine zip_begins2 (beB k a cs.toArray) (beB l b ds.toArray) p1 p2 fun h' hz hT hO g1 g2 hsz hk => args_nil ?_
        have I2 : Inv X pins σ H1 { s1 with heap := h' } := I1.kept (t' := s1.toks) hk
        have la5 : ∀ c, c < s1.heap.objs.size → c ∉ [s1.heap.objs.size + 4, s1.heap.objs.size + 2, s1.heap.objs.size + 3, s1.heap.objs.size, s1.heap.objs.size + 1] := fun c hc hm => by
          have hl : (c : Nat) < (s1.heap.objs.size : Nat) := hc
          have key : (s1.heap.objs.size : Nat) ≤ (c : Nat) := by
            rcases in5 hm with z | z | z | z | z
            · rw [z]; exact Nat.le_add_right _ _
            · rw [z]; exact Nat.le_add_right _ _
            · rw [z]; exact Nat.le_add_right _ _
            · rw [z]; exact Nat.le_refl _
            · rw [z]; exact Nat.le_add_right _ _
          omega
        have he : ∀ c ∈ [s1.heap.objs.size + 4, s1.heap.objs.size + 2, s1.heap.objs.size + 3, s1.heap.objs.size, s1.heap.objs.size + 1], ∃ o, h'.get? c = some o := fun c hm => by
          rcases in5 hm with z | z | z | z | z
          · rw [z]; exact ⟨_, hz⟩
          · rw [z]; exact ⟨_, hT⟩
          · rw [z]; exact ⟨_, hO⟩
          · rw [z]; exact ⟨_, g1⟩
          · rw [z]; exact ⟨_, g2⟩
        have pa : HasB k h' a cs.toArray := p1.up fun o e => hk _ o e
        have pb : HasB l h' b ds.toArray := p2.up fun o e => hk _ o e
        refine call_listZip (C := C) (S := S) (us := cs) (os := ds) (vx := vx) (vy := vy) (I1.ok.hd hc) (sep5 la lb) (Nat.ne_of_lt la) (Nat.ne_of_lt (Nat.lt_succ_of_lt lb)) (la5 a la) (la5 b lb) (by rw [Paired.len rx]; exact z1) I2 (new5 I1) he (.inl ⟨hz, hT, ⟨_, _, hO⟩, .new g1, .new g2⟩) pa pb ⟨_, rx, c1⟩ ⟨_, ry, c2⟩ sm fun s' H' ad' I' ex' sm' rv' => ?_
        exact ⟨.ref _, H', I', rfl, q ad' H' _ ex' sm' rv'⟩
      · exact q.elim
    · exact q.elim
  · exact q.elim
end Nx

set_option Elab.async false
set_option linter.all false
set_option maxRecDepth 100000
set_option autoImplicit false
namespace Nx
open PySem L2 PySem.Spec PyProof.Rows
variable {C : CC} {ad ad1 ad' : List Addr} {H H1 H' : Hp} {S S1 S' : Sto} {a b p : Addr}
variable {X : Cx} {W : WX}
/-- len(x), where instances of the class c have an own length -/
def pLen (c : Nat) (d : Prim) : Prim := fun vs S => match vs with
  | [.ref n] => match S[n]? with
    | some (.ins c' _) => if c' = c then (match d [.ref n] S with
      | some (.val (.int i) S') => if 0 ≤ i ∧ i < 9223372036854775808 then some (.val (.int i) S') else none
      | _ => none) else none
    | _ => pv1 gLen [.ref n] S
  | _ => none
theorem noX_len (c : Nat) (d : Prim) : NoX (pLen c d) := by
  intro vs S cc fs S' h
  unfold pLen at h
  split at h
  · split at h
    · split at h
      · split at h
        · split at h <;> cases h
        · cases h
      · cases h
    · exact noX_pv1 _ _ _ _ _ _ h
  · cases h
theorem c_lenOwn {c l k : Nat} {body : Sxs} {f : Addr} {fd : FuncData} {ps : List Str} (hK : C.K = X.K) (me : Meth X.K (C c) "__len__" f) (F : FnOk X.prog X.w X.K X.mg X.base (L2.CX X.prog X.w) k f fd ps (spD C 1 (den l 1 body))) (hr : Room k X.A.in1) (hb : Binds X.K fd ps []) :
    CallR X (.builtin "len") (rP C (pLen c (den l 1 body))) := by
  intro pins s σ H ws us Q I r h
  obtain ⟨ad, S, vs, v, S', sm, ra, hf, k1⟩ := rP.elim (noX_len _ _) h
  unfold pLen at hf
  split at hf
  · rename_i n
    cases ra with
    | cons r1 rr =>
    cases rr
    obtain ⟨a, ha, rfl⟩ := r1
    cases r with
    | cons r2 rr =>
    cases rr
    cases r2
    split at hf
    · rename_i c' fs hx
      split at hf
      · rename_i hc
        subst hc
        split at hf
        · rename_i i S2 hd
          split at hf
          · rename_i hi
            cases hf
            obtain ⟨dx, gs, rf, hH⟩ := sm.ob _ _ _ hx ha
            obtain ⟨mA, J, _⟩ := ins_get I.hok hH
            obtain ⟨od, J, _⟩ := J.look
            obtain ⟨m, hF⟩ := I.fr
            refine PySem.W.len_K hF I.ok.mod.kin J me.at_ me.fn ?_
            have hsp : spD C 1 (den l 1 body) [V.ref a] H (fun w H' => w = .int i ∧ Q (.int i) H') (fun _ _ _ => False) := by
              refine ⟨rfl, ad, S, [.ref n], sm, .cons ⟨a, ha, rfl⟩ .nil, ?_⟩
              rw [hd]
              intro ad' H' w e s' rw'
              have ew : w = V.int i := rw'
              exact ⟨ew, k1 ad' H' _ e s' rfl⟩
            have hl := F.len _ _ _ _ hsp
            have bt := hb s [Value.ref a] I.kIn (by simpa using hl)
            refine wpAny_call (codeAny_mono (F.run X.A.in1 X.stack s H ⟨[Value.ref a], []⟩ [Value.ref a] [V.ref a] _ _ hr I.env0.in1 (by simpa using bt) (.cons rfl .nil) hsp) fun r s' hq => ?_)
            cases r with
            | error e =>
              obtain ⟨_, _, _, _, _, _, _, _, _, _, _, _, q⟩ := (show L2.CX X.prog X.w X.stack H s (fun _ _ _ => False) e s' from hq)
              exact q.elim
            | ok fl =>
              cases fl with
              | ret w =>
                obtain ⟨z, H', I', rz, ez, q⟩ := I.after hq
                subst ez
                obtain ⟨t, rfl⟩ := rz
                exact ⟨⟨hi.1, hi.2⟩, .int i, H', I'.tok _, ⟨_, rfl⟩, q⟩
              | next => exact hq.elim
              | brk => exact hq.elim
              | cont => exact hq.elim
          · cases hf
        · cases hf
      · cases hf
    · exact c_len hK pins s σ H [V.ref a] [Value.ref a] Q I (.cons rfl .nil) ⟨ad, S, [V.ref n], sm, .cons (show RV ad (.ref n) (.ref a) from ⟨a, ha, rfl⟩) .nil, by rw [hf]; exact k1⟩
  · cases hf
end Nx

set_option Elab.async false
set_option linter.all false
set_option maxRecDepth 100000
set_option autoImplicit false
namespace Nx
open PySem L2

/-! ## What a compact body does: conditions read off it -/
def Ok {α : Type} (m : M α) (Q : α → Sto → Prop) : Prop := ∃ v S, m = some (.val v S) ∧ Q v S
section
variable {α β : Type} {Q : α → Sto → Prop} {S : Sto}
theorem ok_val {v : α} : Ok (some (.val v S)) Q ↔ Q v S := ⟨fun ⟨_, _, e, q⟩ => by cases e; exact q, fun q => ⟨_, _, rfl, q⟩⟩
theorem ok_none : Ok (none : M α) Q ↔ False := ⟨fun ⟨_, _, e, _⟩ => (by cases e), False.elim⟩
theorem ok_exc {c : Nat} {fs : List (Str × V)} : Ok (some (.exc c fs S) : M α) Q ↔ False := ⟨fun ⟨_, _, e, _⟩ => (by cases e), False.elim⟩
theorem ok_bind {m : M β} {k : β → Sto → M α} : Ok (M.bind m k) Q ↔ Ok m fun v S => Ok (k v S) Q := by
  unfold M.bind
  split
  · rw [ok_none, ok_none]
  · rw [ok_val]
  · rw [ok_exc, ok_exc]
theorem ok_map {o : Option α} : Ok (o.map fun v => Out.val v S) Q ↔ ∃ v, o = some v ∧ Q v S := by
  cases o
  · simp [ok_none]
  · simp [ok_val]
theorem Ok.mono {m : M α} {Q' : α → Sto → Prop} (h : Ok m Q) (k : ∀ v S, Q v S → Q' v S) : Ok m Q' := let ⟨v, S, e, q⟩ := h; ⟨v, S, e, k v S q⟩
theorem ok_if {c : Prop} [Decidable c] {a b : M α} : Ok (if c then a else b) Q ↔ (c → Ok a Q) ∧ (¬ c → Ok b Q) := by
  by_cases h : c <;> simp [h]
end
def OkS (m : MS) (N : Rho → Sto → Prop) (R : V → Sto → Prop) : Prop := match m with
  | some (.nx ρ S) => N ρ S
  | some (.rt v S) => R v S
  | _ => False
section
variable {N : Rho → Sto → Prop} {R : V → Sto → Prop} {ρ : Rho} {S : Sto}
theorem oks_nx : OkS (some (.nx ρ S)) N R ↔ N ρ S := Iff.rfl
theorem oks_rt {v : V} : OkS (some (.rt v S)) N R ↔ R v S := Iff.rfl
theorem oks_none : OkS none N R ↔ False := Iff.rfl
theorem oks_toS {α : Type} {m : M α} {k : α → Sto → MS} : OkS (m.toS ρ k) N R ↔ Ok m fun v S => OkS (k v S) N R := by
  unfold M.toS
  split
  · rw [ok_none, oks_none]
  · rw [ok_val]
  · rw [ok_exc]; exact Iff.rfl
theorem oks_if {c : Prop} [Decidable c] {a b : MS} : OkS (if c then a else b) N R ↔ (c → OkS a N R) ∧ (¬ c → OkS b N R) := by
  by_cases h : c <;> simp [h]
theorem oks_nil : OkS (exs .nil ρ S) N R ↔ N ρ S := by unfold exs; exact Iff.rfl
theorem oks_cons {s : Sx} {ss : Sxs} : OkS (exs (.cons s ss) ρ S) N R ↔ OkS (ex s ρ S) (fun ρ' S' => OkS (exs ss ρ' S') N R) R := by
  rw [exs]
  cases ex s ρ S with
  | none => exact Iff.rfl
  | some o => cases o <;> exact Iff.rfl
theorem OkS.mono {m : MS} {N' : Rho → Sto → Prop} {R' : V → Sto → Prop} (h : OkS m N R) (k : ∀ ρ S, N ρ S → N' ρ S) (l : ∀ v S, R v S → R' v S) : OkS m N' R' := by
  cases m with
  | none => exact h
  | some o => cases o <;> first | exact k _ _ h | exact l _ _ h | exact h
theorem ok_den {n m : Nat} {b : Sxs} {vs : List V} {Q : V → Sto → Prop} (hl : vs.length = m) : Ok (den n m b vs S) Q ↔ OkS (exs b (vs.map some ++ List.replicate (n - m) none) S) (fun _ S => Q .non S) Q := by
  unfold den
  rw [if_pos hl]
  cases exs b (vs.map some ++ List.replicate (n - m) none) S with
  | none => rw [ok_none]; exact Iff.rfl
  | some o => cases o <;> first | exact ok_val | exact ok_none | exact ok_exc
/-- a for loop of n turns -/
theorem ok_for {it : ItP} {vs : List V} {p : Pat} {body : Rho → Sto → MS} (n : Nat) (Iv : Nat → Rho → Sto → Prop)
    (step : ∀ i ρ S, i < n → Iv i ρ S → ∃ x S1 ρ2, it vs i S = some (some (x, S1)) ∧ p.bind x ρ S1 = some ρ2 ∧ OkS (body ρ2 S1) (Iv (i + 1)) R)
    (stop : ∀ ρ S, Iv n ρ S → it vs n S = some none ∧ N ρ S) : ∀ (k i : Nat) (ρ : Rho) (S : Sto), i ≤ n → n < i + k → Iv i ρ S → OkS (forLoop it vs p body k i ρ S) N R := by
  intro k
  induction k with
  | zero => intro i ρ S h1 h2; omega
  | succ k ih =>
    intro i ρ S h1 h2 iv
    unfold forLoop
    by_cases c : i < n
    · obtain ⟨x, S1, ρ2, e1, e2, q⟩ := step i ρ S c iv
      rw [e1]
      simp only [e2]
      cases hb : body ρ2 S1 with
      | none => rw [hb] at q; exact q.elim
      | some o =>
        rw [hb] at q
        cases o with
        | nx ρ3 S2 => exact ih (i + 1) ρ3 S2 (by omega) (by omega) q
        | rt v S2 => exact q
        | _ => exact q.elim
    · have e : i = n := by omega
      subst e
      obtain ⟨e1, q⟩ := stop ρ S iv
      rw [e1]
      exact q
/-- a list comprehension of c turns, the list at n -/
theorem ok_lc {it : ItP} {vs : List V} {p : Pat} {ρw : Rho} {n : Nat} {t e : Rho → Sto → M V} (c : Nat) (Iv : Nat → List V → Sto → Prop) {Q : V → Sto → Prop}
    (step : ∀ i acc S, i < c → Iv i acc S → S[n]? = some (.lst acc) → ∃ x S1 ρ2, it vs i S = some (some (x, S1)) ∧ p.bind x ρw S1 = some ρ2 ∧
      Ok (t ρ2 S1) fun b S2 => (b = .bl false ∧ S2[n]? = some (.lst acc) ∧ Iv (i + 1) acc S2) ∨
        (b = .bl true ∧ Ok (e ρ2 S2) fun v S3 => S3[n]? = some (.lst acc) ∧ acc.length < 100000 ∧ Iv (i + 1) (acc ++ [v]) (S3.set n (.lst (acc ++ [v])))))
    (stop : ∀ acc S, Iv c acc S → S[n]? = some (.lst acc) → it vs c S = some none ∧ Q (.ref n) S) : ∀ (k i : Nat) (acc : List V) (S : Sto), i ≤ c → c < i + k → Iv i acc S → S[n]? = some (.lst acc) → Ok (compLoop it vs p ρw n t e k i S) Q := by
  intro k
  induction k with
  | zero => intro i acc S h1 h2; omega
  | succ k ih =>
    intro i acc S h1 h2 iv hn
    unfold compLoop
    by_cases h : i < c
    · obtain ⟨x, S1, ρ2, e1, e2, b, S2, e3, q⟩ := step i acc S h iv hn
      rw [e1]
      simp only [e2, e3]
      rcases q with ⟨rfl, hn2, iv2⟩ | ⟨rfl, v, S3, e4, hn3, hl, iv3⟩
      · exact ih (i + 1) acc S2 (by omega) (by omega) iv2 hn2
      · simp only [e4, hn3, if_pos hl]
        refine ih (i + 1) _ _ (by omega) (by omega) iv3 ?_
        rw [List.getElem?_set_self (List.getElem?_eq_some_iff.mp hn3).1]
    · have e : i = c := by omega
      subst e
      obtain ⟨e1, q⟩ := stop acc S iv hn
      rw [e1]
      exact ok_val.mpr q
end

/-! ## Stores that grow -/
/-- what is below S and none of P stands -/
structure Ag (P : Nat → Prop) (S S' : Sto) : Prop where
  len : S.length ≤ S'.length
  at_ : ∀ i o, ¬ P i → S[i]? = some o → S'[i]? = some o
section
variable {P P' : Nat → Prop} {S S' S'' : Sto}
theorem Ag.refl : Ag P S S := ⟨Nat.le_refl _, fun _ _ _ h => h⟩
theorem Ag.trans (a : Ag P S S') (b : Ag P S' S'') : Ag P S S'' := ⟨Nat.le_trans a.len b.len, fun i o n h => b.at_ i o n (a.at_ i o n h)⟩
theorem Ag.mono (a : Ag P S S') (h : ∀ i, P i → P' i) : Ag P' S S' := ⟨a.len, fun i o n e => a.at_ i o (fun z => n (h i z)) e⟩
theorem Ag.push {o : Ob} : Ag P S (S ++ [o]) := ⟨by simp, fun i o _ h => by rw [List.getElem?_append_left (List.getElem?_eq_some_iff.mp h).1]; exact h⟩
theorem Ag.app {os : List Ob} : Ag P S (S ++ os) := ⟨by simp, fun i o _ h => by rw [List.getElem?_append_left (List.getElem?_eq_some_iff.mp h).1]; exact h⟩
theorem Ag.set {n : Nat} {o : Ob} (h : P n) : Ag P S (S.set n o) := ⟨by simp, fun i u hi e => by rw [List.getElem?_set_ne (fun z => hi (by rw [← z]; exact h))]; exact e⟩
/-- a write above S -/
theorem Ag.setHi {n : Nat} {o : Ob} (a : Ag P S S') (h : S.length ≤ n) : Ag P S (S'.set n o) := ⟨by simpa using a.len, fun i u hi e => by
  have l : i < S.length := (List.getElem?_eq_some_iff.mp e).1
  rw [List.getElem?_set_ne (by omega)]; exact a.at_ i u hi e⟩
theorem at_push {o : Ob} : (S ++ [o])[S.length]? = some o := by simp
theorem at_low {o u : Ob} {i : Nat} (h : S[i]? = some u) : (S ++ [o])[i]? = some u := by rw [List.getElem?_append_left (List.getElem?_eq_some_iff.mp h).1]; exact h
theorem at_set {o u : Ob} {i : Nat} (h : S[i]? = some u) : (S.set i o)[i]? = some o := by rw [List.getElem?_set_self (List.getElem?_eq_some_iff.mp h).1]
theorem at_ne {o u : Ob} {i n : Nat} (h : S[i]? = some u) (hn : n ≠ i) : (S.set n o)[i]? = some u := by rw [List.getElem?_set_ne hn]; exact h
end
def NoP : Nat → Prop := fun _ => False

/-! ## Shapes of data -/
section
variable {P P' : Nat → Prop} {S S' S'' : Sto}
/-- a tuple of integers -/
def TupI (P : Nat → Prop) (S : Sto) (v : V) (xs : List Int) : Prop := ∃ n, v = .ref n ∧ ¬ P n ∧ S[n]? = some (.tup (xs.map V.int))
def LstI (P : Nat → Prop) (S : Sto) (v : V) (xs : List Int) : Prop := ∃ n, v = .ref n ∧ ¬ P n ∧ S[n]? = some (.lst (xs.map V.int))
theorem TupI.ag {v : V} {xs : List Int} (h : TupI P S v xs) (a : Ag P S S') : TupI P S' v xs := let ⟨n, e, hn, q⟩ := h; ⟨n, e, hn, a.at_ _ _ hn q⟩
theorem LstI.ag {v : V} {xs : List Int} (h : LstI P S v xs) (a : Ag P S S') : LstI P S' v xs := let ⟨n, e, hn, q⟩ := h; ⟨n, e, hn, a.at_ _ _ hn q⟩
theorem TupI.weak {v : V} {xs : List Int} (h : TupI P S v xs) (k : ∀ i, P' i → P i) : TupI P' S v xs := let ⟨n, e, hn, q⟩ := h; ⟨n, e, fun z => hn (k n z), q⟩
theorem LstI.weak {v : V} {xs : List Int} (h : LstI P S v xs) (k : ∀ i, P' i → P i) : LstI P' S v xs := let ⟨n, e, hn, q⟩ := h; ⟨n, e, fun z => hn (k n z), q⟩
theorem TupI.seq {v : V} {xs : List Int} (h : TupI P S v xs) : seqOf S v = some (xs.map V.int) := by obtain ⟨n, rfl, _, q⟩ := h; simp [seqOf, q]
theorem LstI.seq {v : V} {xs : List Int} (h : LstI P S v xs) : seqOf S v = some (xs.map V.int) := by obtain ⟨n, rfl, _, q⟩ := h; simp [seqOf, q]
theorem TupI.tup {v : V} {xs : List Int} (h : TupI P S v xs) : tupOf S v = some (xs.map V.int) := by obtain ⟨n, rfl, _, q⟩ := h; simp [tupOf, q]
theorem LstI.lst {v : V} {xs : List Int} (h : LstI P S v xs) : lstOf S v = some (xs.map V.int) := by obtain ⟨n, rfl, _, q⟩ := h; simp [lstOf, q]
theorem LstI.noTup {v : V} {xs : List Int} (h : LstI P S v xs) : tupOf S v = none := by obtain ⟨n, rfl, _, q⟩ := h; simp [tupOf, q]
theorem ints_map : ∀ (xs : List Int), intsOf (xs.map V.int) = some xs
  | [] => rfl
  | x :: r => by simp [intsOf, ints_map r]
/-- lists with each item related -/
inductive F2 {α β : Type} (R : α → β → Prop) : List α → List β → Prop
  | nil : F2 R [] []
  | cons {a : α} {b : β} {as : List α} {bs : List β} (h : R a b) (t : F2 R as bs) : F2 R (a :: as) (b :: bs)
theorem F2.mono {α β : Type} {R R' : α → β → Prop} {as : List α} {bs : List β} (h : F2 R as bs) (k : ∀ a b, R a b → R' a b) : F2 R' as bs := by
  induction h with
  | nil => exact .nil
  | cons h _ ih => exact .cons (k _ _ h) ih
theorem F2.len {α β : Type} {R : α → β → Prop} {as : List α} {bs : List β} (h : F2 R as bs) : as.length = bs.length := by
  induction h with
  | nil => rfl
  | cons _ _ ih => simp [ih]
theorem F2.get {α β : Type} {R : α → β → Prop} {as : List α} {bs : List β} (h : F2 R as bs) {i : Nat} {b : β} (e : bs[i]? = some b) : ∃ a, as[i]? = some a ∧ R a b := by
  induction h generalizing i with
  | nil => simp at e
  | cons h _ ih => cases i with
    | zero => simp at e; subst e; exact ⟨_, rfl, h⟩
    | succ i => exact ih (by simpa using e)
theorem F2.snoc {α β : Type} {R : α → β → Prop} {as : List α} {bs : List β} {a : α} {b : β} (h : F2 R as bs) (q : R a b) : F2 R (as ++ [a]) (bs ++ [b]) := by
  induction h with
  | nil => exact .cons q .nil
  | cons h _ ih => exact .cons h ih
theorem F2.app {α β : Type} {R : α → β → Prop} {as as' : List α} {bs bs' : List β} (h : F2 R as bs) (q : F2 R as' bs') : F2 R (as ++ as') (bs ++ bs') := by
  induction h with
  | nil => exact q
  | cons h _ ih => exact .cons h ih
theorem F2.ints : ∀ (xs : List Int), F2 (fun (v : V) x => v = V.int x) (xs.map V.int) xs
  | [] => .nil
  | x :: r => .cons rfl (F2.ints r)
theorem F2.ints_eq {vs : List V} {xs : List Int} (h : F2 (fun (v : V) x => v = V.int x) vs xs) : vs = xs.map V.int := by
  induction h with
  | nil => rfl
  | cons h _ ih => rw [h, ih]; rfl
end
end Nx

set_option Elab.async false
set_option linter.all false
set_option maxRecDepth 100000
set_option autoImplicit false
namespace Nx
open PySem L2

section
variable {P P' : Nat → Prop} {S S' S'' : Sto}
/-! ### the simple words at known data -/
theorem eqV_int (a b : Int) : eqV (.int a) (.int b) = decide (a = b) := by
  show (a == b) = _
  rw [Bool.eq_iff_iff]; simp
theorem eqV_str (a b : Str) : eqV (.str a) (.str b) = decide (a = b) := by
  show (a == b) = _
  rw [Bool.eq_iff_iff]; simp
theorem inV_ints (m : Int) (xs : List Int) : inV (.int m) (xs.map V.int) = decide (m ∈ xs) := by
  unfold inV
  induction xs with
  | nil => simp
  | cons x r ih =>
    rw [List.map_cons, List.any_cons, ih, eqV_int]
    by_cases h1 : x = m
    · subst h1; simp
    · by_cases h2 : m ∈ r
      · simp [h1, h2]
      · have h3 : ¬ m = x := fun e => h1 e.symm
        simp [h1, h2, h3]
theorem all_flat_ints (xs : List Int) : (xs.map V.int).all flatV = true := by
  induction xs with
  | nil => rfl
  | cons x r ih => simp [flatV]
theorem gIn_ints {neg : Bool} {m : Int} {b : V} {xs : List Int} (h : seqOf S b = some (xs.map V.int)) : gIn neg (.int m) b S = some (.bl (if neg then !decide (m ∈ xs) else decide (m ∈ xs))) := by
  unfold gIn
  rw [h]
  simp only [all_flat_ints, inV_ints, flatV, and_self, if_true]
theorem gEq_int {neg : Bool} {a b : Int} : gEq neg (.int a) (.int b) S = some (.bl (if neg then !decide (a = b) else decide (a = b))) := by
  have e : PyData.eqv (.int a) (.int b) = decide (a = b) := by
    rw [Bool.eq_iff_iff]; simp [PyData.eqv]
  simp only [gEq, rd, e]
  rw [if_pos ⟨rfl, rfl⟩]
theorem gEq_bl {neg : Bool} {a b : Bool} : gEq neg (.bl a) (.bl b) S = some (.bl (if neg then !decide (a = b) else decide (a = b))) := by
  have e : PyData.eqv (.bool a) (.bool b) = decide (a = b) := by
    rw [Bool.eq_iff_iff]; simp [PyData.eqv]
  simp only [gEq, rd, e]
  rw [if_pos ⟨rfl, rfl⟩]
theorem gEq_str {neg : Bool} {a b : Str} (ha : PyData.strOk a = true) (hb : PyData.strOk b = true) : gEq neg (.str a) (.str b) S = some (.bl (if neg then !decide (a = b) else decide (a = b))) := by
  have e : PyData.eqv (.str a) (.str b) = decide (a = b) := by
    rw [Bool.eq_iff_iff]; simp [PyData.eqv]
  have s1 : SeqAt.shaped (.str a) = true := by simp [SeqAt.shaped, PyData.canLay0, ha, PyData.depth]
  have s2 : SeqAt.shaped (.str b) = true := by simp [SeqAt.shaped, PyData.canLay0, hb, PyData.depth]
  simp only [gEq, rd, e]
  rw [if_pos ⟨s1, s2⟩]
theorem rds_ints : ∀ (k : Nat) (xs : List Int), rds S k (xs.map V.int) = some (xs.map PyData.int)
  | k, [] => by simp [rds]
  | k, x :: r => by simp [rds, rd, rds_ints k r]
theorem TupI.rd {v : V} {xs : List Int} {k : Nat} (h : TupI P S v xs) : Nx.rd S (k + 1) v = some (.tuple (xs.map PyData.int)) := by
  obtain ⟨n, rfl, _, q⟩ := h
  simp [Nx.rd, q, rds_ints]
theorem LstI.rd {v : V} {xs : List Int} {k : Nat} (h : LstI P S v xs) : Nx.rd S (k + 1) v = some (.list (xs.map PyData.int)) := by
  obtain ⟨n, rfl, _, q⟩ := h
  simp [Nx.rd, q, rds_ints]
theorem lay_ints : ∀ (xs : List Int), PyData.canLayAll0 (xs.map PyData.int) = true
  | [] => rfl
  | x :: r => by simp [PyData.canLayAll0, PyData.canLay0, lay_ints r]
theorem dep_ints : ∀ (xs : List Int), PyData.depthAll (xs.map PyData.int) = 0
  | [] => rfl
  | x :: r => by simp [PyData.depthAll, PyData.depth, dep_ints r]
theorem eqv_ints : ∀ (xs ys : List Int), PyData.eqvAll (xs.map PyData.int) (ys.map PyData.int) = decide (xs = ys)
  | [], [] => by simp [PyData.eqvAll]
  | [], y :: s => by simp [PyData.eqvAll]
  | x :: r, [] => by simp [PyData.eqvAll]
  | x :: r, y :: s => by
    rw [List.map_cons, List.map_cons, PyData.eqvAll, eqv_ints r s]
    rw [Bool.eq_iff_iff]; simp [PyData.eqv]
theorem shaped_li (xs : List Int) : SeqAt.shaped (.list (xs.map PyData.int)) = true := by simp [SeqAt.shaped, PyData.canLay0, lay_ints, PyData.depth, dep_ints]
theorem gEq_lints {neg : Bool} {a b : V} {xs ys : List Int} (ha : LstI P S a xs) (hb : LstI P' S b ys) : gEq neg a b S = some (.bl (if neg then !decide (xs = ys) else decide (xs = ys))) := by
  have e : PyData.eqv (.list (xs.map PyData.int)) (.list (ys.map PyData.int)) = decide (xs = ys) := by
    rw [PyData.eqv]; exact eqv_ints xs ys
  simp only [gEq, deep, ha.rd, hb.rd, e]
  rw [if_pos ⟨shaped_li xs, shaped_li ys⟩]
/-- pictures -/
def PicD (p : List Int × List Int) : PyData := .tuple [.tuple (p.1.map PyData.int), .tuple (p.2.map PyData.int)]
theorem eqv_pic (p q : List Int × List Int) : PyData.eqv (PicD p) (PicD q) = decide (p = q) := by
  unfold PicD
  rw [Bool.eq_iff_iff]
  simp only [PyData.eqv, PyData.eqvAll, eqv_ints, Bool.and_true, Bool.and_eq_true, decide_eq_true_eq]
  exact ⟨fun h => Prod.ext h.1 h.2, fun h => by rw [h]; exact ⟨rfl, rfl⟩⟩
theorem shaped_pic (p : List Int × List Int) : SeqAt.shaped (PicD p) = true := by
  simp [PicD, SeqAt.shaped, PyData.canLay0, PyData.canLayAll0, lay_ints, PyData.depth, PyData.depthAll, dep_ints]
def Pic (P : Nat → Prop) (S : Sto) (v : V) (p : List Int × List Int) : Prop := ∃ n d q, v = .ref n ∧ ¬ P n ∧ S[n]? = some (.tup [d, q]) ∧ TupI P S d p.1 ∧ TupI P S q p.2
theorem Pic.ag {v : V} {p : List Int × List Int} (h : Pic P S v p) (a : Ag P S S') : Pic P S' v p := let ⟨n, d, q, e, hn, x, h1, h2⟩ := h; ⟨n, d, q, e, hn, a.at_ _ _ hn x, h1.ag a, h2.ag a⟩
theorem Pic.weak {v : V} {p : List Int × List Int} (h : Pic P S v p) (k : ∀ i, P' i → P i) : Pic P' S v p := let ⟨n, d, q, e, hn, x, h1, h2⟩ := h; ⟨n, d, q, e, fun z => hn (k n z), x, h1.weak k, h2.weak k⟩
theorem Pic.rd {v : V} {p : List Int × List Int} {k : Nat} (h : Pic P S v p) : Nx.rd S (k + 2) v = some (PicD p) := by
  obtain ⟨n, d, q, rfl, _, x, h1, h2⟩ := h
  rw [show k + 2 = (k + 1) + 1 from rfl]
  unfold Nx.rd
  rw [x]
  simp [rds, h1.rd, h2.rd, PicD]
theorem gEq_pic {neg : Bool} {a b : V} {p q : List Int × List Int} (ha : Pic P S a p) (hb : Pic P' S b q) : gEq neg a b S = some (.bl (if neg then !decide (p = q) else decide (p = q))) := by
  simp only [gEq, deep, ha.rd, hb.rd, eqv_pic]
  rw [if_pos ⟨shaped_pic p, shaped_pic q⟩]
theorem gIx_seq {a v : V} {vs : List V} {i : Int} (h : seqOf S a = some vs) (e : atI vs i = some v) : gIx a (.int i) S = some v := by
  unfold gIx; rw [h]; exact e
theorem atI_nat {α : Type} {xs : List α} {i : Nat} {x : α} (h : xs[i]? = some x) : atI xs (i : Int) = some x := by
  have l := (List.getElem?_eq_some_iff.mp h).1
  unfold atI ixN
  rw [if_pos (by omega), if_pos (by omega)]
  simpa using h
end
end Nx

set_option Elab.async false
set_option linter.all false
set_option maxRecDepth 100000
set_option autoImplicit false
namespace Nx
open PySem L2
theorem ok_pv1 {g : V → Sto → Option V} {a : V} {S : Sto} {Q : V → Sto → Prop} : Ok (pv1 g [a] S) Q ↔ ∃ v, g a S = some v ∧ Q v S := ok_map
theorem ok_pv2 {g : V → V → Sto → Option V} {a b : V} {S : Sto} {Q : V → Sto → Prop} : Ok (pv2 g [a, b] S) Q ↔ ∃ v, g a b S = some v ∧ Q v S := ok_map
theorem ok_pTup {vs : List V} {S : Sto} {Q : V → Sto → Prop} (h : vs.length ≤ 100000) : Ok (pTup vs S) Q ↔ Q (.ref S.length) (S ++ [.tup vs]) := by unfold pTup; rw [if_pos h]; exact ok_val
theorem ok_pLst {vs : List V} {S : Sto} {Q : V → Sto → Prop} (h : vs.length ≤ 100000) : Ok (pLst vs S) Q ↔ Q (.ref S.length) (S ++ [.lst vs]) := by unfold pLst; rw [if_pos h]; exact ok_val
theorem ok_pNot {b : Bool} {S : Sto} {Q : V → Sto → Prop} : Ok (pNot [.bl b] S) Q ↔ Q (.bl (!b)) S := by
  cases b <;> exact ok_val
theorem gE {α : Type} {o : Option α} {w : α} {R : α → Prop} (h : o = some w) : (∃ v, o = some v ∧ R v) ↔ R w := ⟨fun ⟨v, e, r⟩ => by rw [h] at e; cases e; exact r, fun r => ⟨w, h, r⟩⟩
section
variable {N : Rho → Sto → Prop} {R : V → Sto → Prop} {Q : V → Sto → Prop} {ρ : Rho} {S : Sto}
theorem bl_ex {x : Bool} {T : Bool → Prop} : (∃ b, V.bl x = V.bl b ∧ T b) ↔ T x := ⟨fun ⟨b, e, t⟩ => by cases e; exact t, fun t => ⟨x, rfl, t⟩⟩
theorem ref_ex {x : Nat} {T : Nat → Prop} : (∃ b, V.ref x = V.ref b ∧ T b) ↔ T x := ⟨fun ⟨b, e, t⟩ => by cases e; exact t, fun t => ⟨x, rfl, t⟩⟩
theorem x_ite {c : Ex} {x y : Sxs} : OkS (ex (.ite c x y) ρ S) N R ↔ Ok (ev c ρ S) fun v S1 => ∃ b, v = .bl b ∧ (b = true → OkS (exs x ρ S1) N R) ∧ (b = false → OkS (exs y ρ S1) N R) := by
  unfold ex
  rw [oks_toS]
  constructor
  · rintro ⟨v, S1, e, q⟩
    refine ⟨v, S1, e, ?_⟩
    split at q
    · exact ⟨true, rfl, fun _ => q, fun h => by cases h⟩
    · exact ⟨false, rfl, (fun h => by cases h), fun _ => q⟩
    · exact q.elim
  · rintro ⟨v, S1, e, b, rfl, q1, q2⟩
    refine ⟨_, S1, e, ?_⟩
    cases b
    · exact q2 rfl
    · exact q1 rfl
theorem e_ite {c x y : Ex} : Ok (ev (.ite c x y) ρ S) Q ↔ Ok (ev c ρ S) fun v S1 => ∃ b, v = .bl b ∧ (b = true → Ok (ev x ρ S1) Q) ∧ (b = false → Ok (ev y ρ S1) Q) := by
  rw [ev, ok_bind]
  constructor
  · rintro ⟨v, S1, e, q⟩
    refine ⟨v, S1, e, ?_⟩
    split at q
    · exact ⟨true, rfl, fun _ => q, fun h => by cases h⟩
    · exact ⟨false, rfl, (fun h => by cases h), fun _ => q⟩
    · exact (ok_none.mp q).elim
  · rintro ⟨v, S1, e, b, rfl, q1, q2⟩
    refine ⟨_, S1, e, ?_⟩
    cases b
    · exact q2 rfl
    · exact q1 rfl
theorem e_and {c x : Ex} : Ok (ev (.and c x) ρ S) Q ↔ Ok (ev c ρ S) fun v S1 => ∃ b, v = .bl b ∧ (b = true → Ok (ev x ρ S1) Q) ∧ (b = false → Q (.bl false) S1) := by
  rw [ev, ok_bind]
  constructor
  · rintro ⟨v, S1, e, q⟩
    refine ⟨v, S1, e, ?_⟩
    split at q
    · exact ⟨true, rfl, fun _ => q, fun h => by cases h⟩
    · exact ⟨false, rfl, (fun h => by cases h), fun _ => ok_val.mp q⟩
    · exact (ok_none.mp q).elim
  · rintro ⟨v, S1, e, b, rfl, q1, q2⟩
    refine ⟨_, S1, e, ?_⟩
    cases b
    · exact ok_val.mpr (q2 rfl)
    · exact q1 rfl
theorem e_or {c x : Ex} : Ok (ev (.or c x) ρ S) Q ↔ Ok (ev c ρ S) fun v S1 => ∃ b, v = .bl b ∧ (b = true → Q (.bl true) S1) ∧ (b = false → Ok (ev x ρ S1) Q) := by
  rw [ev, ok_bind]
  constructor
  · rintro ⟨v, S1, e, q⟩
    refine ⟨v, S1, e, ?_⟩
    split at q
    · exact ⟨true, rfl, fun _ => ok_val.mp q, fun h => by cases h⟩
    · exact ⟨false, rfl, (fun h => by cases h), fun _ => q⟩
    · exact (ok_none.mp q).elim
  · rintro ⟨v, S1, e, b, rfl, q1, q2⟩
    refine ⟨_, S1, e, ?_⟩
    cases b
    · exact q2 rfl
    · exact ok_val.mpr (q1 rfl)
theorem e_chain {f g : Prim} {a b c : Ex} : Ok (ev (.chain f g a b c) ρ S) Q ↔ Ok (ev a ρ S) fun u S1 => Ok (ev b ρ S1) fun v S2 => Ok (f [u, v] S2) fun k S3 => ∃ t, k = .bl t ∧ (t = true → Ok (ev c ρ S3) fun w S4 => Ok (g [v, w] S4) Q) ∧ (t = false → Q (.bl false) S3) := by
  rw [ev, ok_bind]
  constructor
  · intro h
    refine h.mono fun u S1 h => ?_
    rw [ok_bind] at h
    refine h.mono fun v S2 h => ?_
    rw [ok_bind] at h
    refine h.mono fun k S3 q => ?_
    split at q
    · exact ⟨true, rfl, fun _ => ok_bind.mp q, fun h => by cases h⟩
    · exact ⟨false, rfl, (fun h => by cases h), fun _ => ok_val.mp q⟩
    · exact (ok_none.mp q).elim
  · intro h
    refine h.mono fun u S1 h => ?_
    rw [ok_bind]
    refine h.mono fun v S2 h => ?_
    rw [ok_bind]
    refine h.mono fun k S3 q => ?_
    obtain ⟨b, rfl, q1, q2⟩ := q
    cases b
    · exact ok_val.mpr (q2 rfl)
    · exact ok_bind.mpr (q1 rfl)
theorem e_mc {chk : V → Sto → Bool} {f : Prim} {o : Ex} {es : Exs} : Ok (ev (.mc chk f o es) ρ S) Q ↔ Ok (ev o ρ S) fun v S1 => chk v S1 = true ∧ Ok (evs es ρ S1) fun vs S2 => Ok (f (v :: vs) S2) Q := by
  rw [ev, ok_bind]
  constructor
  · intro h
    refine h.mono fun v S1 q => ?_
    split at q
    · rename_i h; exact ⟨h, ok_bind.mp q⟩
    · exact (ok_none.mp q).elim
  · intro h
    refine h.mono fun v S1 q => ?_
    rw [q.1]
    exact ok_bind.mpr q.2
theorem e_var {i : Nat} : Ok (ev (.var i) ρ S) Q ↔ ∃ v, ρ[i]? = some (some v) ∧ Q v S := by
  rw [ev]
  split
  · rename_i v h; rw [ok_val]; exact ⟨fun q => ⟨v, h, q⟩, fun ⟨w, e, q⟩ => by rw [h] at e; cases e; exact q⟩
  · rename_i h; rw [ok_none]; exact ⟨False.elim, fun ⟨w, e, q⟩ => h w e⟩
theorem e_cst {v : V} : Ok (ev (.cst v) ρ S) Q ↔ Q v S := by rw [ev]; exact ok_val
theorem e_pn {f : Prim} {es : Exs} : Ok (ev (.pn f es) ρ S) Q ↔ Ok (evs es ρ S) fun vs S1 => Ok (f vs S1) Q := by rw [ev]; exact ok_bind
theorem es_nil {Q : List V → Sto → Prop} : Ok (evs .nil ρ S) Q ↔ Q [] S := by rw [evs]; exact ok_val
theorem es_cons {Q : List V → Sto → Prop} {e : Ex} {es : Exs} : Ok (evs (.cons e es) ρ S) Q ↔ Ok (ev e ρ S) fun v S1 => Ok (evs es ρ S1) fun vs S2 => Q (v :: vs) S2 := by
  rw [evs, ok_bind]
  simp only [ok_bind, ok_val]
theorem es_star {Q : List V → Sto → Prop} {e : Ex} {es : Exs} : Ok (evs (.star e es) ρ S) Q ↔ Ok (ev e ρ S) fun v S1 => ∃ us, seqOf S1 v = some us ∧ Ok (evs es ρ S1) fun vs S2 => Q (us ++ vs) S2 := by
  rw [evs, ok_bind]
  constructor
  · intro h
    refine h.mono fun v S1 q => ?_
    split at q
    · exact (ok_none.mp q).elim
    · rename_i us h; simp only [ok_bind, ok_val] at q; exact ⟨us, h, q⟩
  · intro h
    refine h.mono fun v S1 q => ?_
    obtain ⟨us, h, q⟩ := q
    rw [h]
    simp only [ok_bind, ok_val]; exact q
theorem e_lc {elt : Ex} {p : Pat} {ws : List Nat} {it : ItR} {es : Exs} {t : Ex} : Ok (ev (.lc elt p ws it es t) ρ S) Q ↔ Ok (evs es ρ S) fun vs S1 => ∃ st, it.start vs S1 = some st ∧ Ok (compLoop it.next st p (wipeR ρ ws) S1.length (ev t) (ev elt) fuel 0 (S1 ++ [.lst []])) Q := by
  rw [ev, ok_bind]
  constructor
  · intro h
    refine h.mono fun v S1 q => ?_
    split at q
    · exact (ok_none.mp q).elim
    · rename_i st h; exact ⟨st, h, q⟩
  · intro h
    refine h.mono fun v S1 q => ?_
    obtain ⟨st, h, q⟩ := q
    rw [h]; exact q
theorem x_asg {p : Pat} {e : Ex} : OkS (ex (.asg p e) ρ S) N R ↔ Ok (ev e ρ S) fun v S1 => ∃ ρ', p.bind v ρ S1 = some ρ' ∧ N ρ' S1 := by
  rw [ex, oks_toS]
  constructor
  · intro h
    refine h.mono fun v S1 q => ?_
    split at q
    · rename_i r h; exact ⟨r, h, q⟩
    · exact q.elim
  · intro h
    refine h.mono fun v S1 q => ?_
    obtain ⟨r, h, q⟩ := q
    rw [h]; exact q
theorem x_par {i j : Nat} {a b : Ex} : OkS (ex (.par i j a b) ρ S) N R ↔ Ok (ev a ρ S) fun v S1 => Ok (ev b ρ S1) fun w S2 => N ((ρ.set i (some v)).set j (some w)) S2 := by
  rw [ex, oks_toS]
  simp only [es_cons, es_nil]
  exact Iff.rfl
theorem x_expr {e : Ex} : OkS (ex (.expr e) ρ S) N R ↔ Ok (ev e ρ S) fun _ S1 => N ρ S1 := by rw [ex, oks_toS]; exact Iff.rfl
theorem x_ret {e : Ex} : OkS (ex (.ret e) ρ S) N R ↔ Ok (ev e ρ S) R := by rw [ex, oks_toS]; exact Iff.rfl
theorem x_for {p : Pat} {it : ItR} {es : Exs} {b : Sxs} : OkS (ex (.for_ p it es b) ρ S) N R ↔ Ok (evs es ρ S) fun vs S1 => ∃ st, it.start vs S1 = some st ∧ OkS (forLoop it.next st p (exs b) fuel 0 ρ S1) N R := by
  rw [ex, oks_toS]
  constructor
  · intro h
    refine h.mono fun v S1 q => ?_
    split at q
    · exact q.elim
    · rename_i st h; exact ⟨st, h, q⟩
  · intro h
    refine h.mono fun v S1 q => ?_
    obtain ⟨st, h, q⟩ := q
    rw [h]; exact q
theorem x_setf {cs : List Nat} {f : Str} {o v : Ex} : OkS (ex (.setf cs f o v) ρ S) N R ↔ Ok (ev v ρ S) fun w S1 => Ok (ev o ρ S1) fun u S2 => ∃ n, u = .ref n ∧ ∃ c fs, S2[n]? = some (.ins c fs) ∧ c ∈ cs ∧ fs.length < 1000 ∧ N ρ (S2.set n (.ins c (L2.putF f w fs))) := by
  rw [ex, oks_toS]
  constructor
  · intro h
    refine h.mono fun w S1 h => ?_
    rw [oks_toS] at h
    refine h.mono fun u S2 q => ?_
    split at q
    · rename_i n
      split at q
      · rename_i c fs hx
        split at q
        · rename_i hc; exact ⟨n, rfl, c, fs, hx, hc.1, hc.2, q⟩
        · exact q.elim
      · exact q.elim
    · exact q.elim
  · intro h
    refine h.mono fun w S1 h => ?_
    rw [oks_toS]
    refine h.mono fun u S2 q => ?_
    obtain ⟨n, rfl, c, fs, hx, h1, h2, q⟩ := q
    simp only [hx, if_pos (And.intro h1 h2)]
    exact q
end

/-! ### walking -/
def obB : Bool → List V → Ob
  | true, vs => .lst vs
  | false, vs => .tup vs
section
variable {S : Sto} {k : Bool} {n : Nat} {vs : List V}
theorem it_start (h : S[n]? = some (obB k vs)) : itSeq.start [.ref n] S = some [.ref n, .bl k] := by
  cases k <;> (simp only [obB] at h; simp [itSeq, h])
theorem it_next (h : S[n]? = some (obB k vs)) (i : Nat) : itSeq.next [.ref n, .bl k] i S = some ((vs[i]?).map fun v => (v, S)) := by
  cases k <;> (simp only [obB] at h; simp [itSeq, lstOf, tupOf, h])
theorem rg_start {a : Int} (h : a < 100000 ∧ -100000 < a) : itRange.start [.int a] S = some [.int 0, .int a] := by
  simp [itRange, h]
theorem rg_next {a : Nat} {i : Nat} (h : i < a) : itRange.next [.int 0, .int a] i S = some (some (.int i, S)) := by
  simp [itRange, h]
theorem rg_stop {a : Nat} : itRange.next [.int 0, .int a] a S = some none := by
  simp [itRange]
theorem for_sq {p : Pat} {body : Rho → Sto → MS} {ρ : Rho} {N : Rho → Sto → Prop} {R : V → Sto → Prop} (Iv : Nat → Rho → Sto → Prop) (hl : vs.length < fuel) (keep : ∀ i ρ S', Iv i ρ S' → S'[n]? = some (obB k vs))
    (step : ∀ i ρ S' x, vs[i]? = some x → Iv i ρ S' → ∃ ρ2, p.bind x ρ S' = some ρ2 ∧ OkS (body ρ2 S') (Iv (i + 1)) R) (stop : ∀ ρ S', Iv vs.length ρ S' → N ρ S') (h0 : Iv 0 ρ S) :
    OkS (forLoop itSeq.next [.ref n, .bl k] p body fuel 0 ρ S) N R := by
  refine ok_for vs.length Iv (fun i ρ S' hi iv => ?_) (fun ρ S' iv => ?_) _ 0 _ _ (Nat.zero_le _) (by omega) h0
  · obtain ⟨ρ2, e, q⟩ := step i ρ S' vs[i] (List.getElem?_eq_getElem hi) iv
    exact ⟨_, _, ρ2, by rw [it_next (keep _ _ _ iv), List.getElem?_eq_getElem hi]; rfl, e, q⟩
  · refine ⟨?_, stop ρ S' iv⟩
    rw [it_next (keep _ _ _ iv), List.getElem?_eq_none (Nat.le_refl _)]; rfl
theorem for_rg {a : Nat} {p : Pat} {body : Rho → Sto → MS} {ρ : Rho} {N : Rho → Sto → Prop} {R : V → Sto → Prop} (Iv : Nat → Rho → Sto → Prop) (hl : a < fuel)
    (step : ∀ i ρ S', i < a → Iv i ρ S' → ∃ ρ2, p.bind (.int i) ρ S' = some ρ2 ∧ OkS (body ρ2 S') (Iv (i + 1)) R) (stop : ∀ ρ S', Iv a ρ S' → N ρ S') (h0 : Iv 0 ρ S) :
    OkS (forLoop itRange.next [.int 0, .int a] p body fuel 0 ρ S) N R := by
  refine ok_for a Iv (fun i ρ S' hi iv => ?_) (fun ρ S' iv => ⟨rg_stop, stop ρ S' iv⟩) _ 0 _ _ (Nat.zero_le _) (by omega) h0
  obtain ⟨ρ2, e, q⟩ := step i ρ S' hi iv
  exact ⟨_, _, ρ2, rg_next hi, e, q⟩
/-- what one turn of a comprehension owes: the list at m keeps, or gets one item more -/
def Lc (m : Nat) (t e : Rho → Sto → M V) (ρ : Rho) (S : Sto) (acc : List V) (Iv : List V → Sto → Prop) : Prop :=
  Ok (t ρ S) fun b S2 => (b = .bl false ∧ S2[m]? = some (.lst acc) ∧ Iv acc S2) ∨ (b = .bl true ∧ Ok (e ρ S2) fun v S3 => S3[m]? = some (.lst acc) ∧ Iv (acc ++ [v]) (S3.set m (.lst (acc ++ [v]))))
theorem lc_sq {m : Nat} {p : Pat} {ρw : Rho} {t e : Rho → Sto → M V} {Q : V → Sto → Prop} (Iv : Nat → List V → Sto → Prop) (hl : vs.length < fuel) (keep : ∀ i acc S', Iv i acc S' → S'[n]? = some (obB k vs) ∧ acc.length ≤ i)
    (step : ∀ i acc S' x, vs[i]? = some x → Iv i acc S' → S'[m]? = some (.lst acc) → ∃ ρ2, p.bind x ρw S' = some ρ2 ∧ Lc m t e ρ2 S' acc (Iv (i + 1)))
    (stop : ∀ acc S', Iv vs.length acc S' → S'[m]? = some (.lst acc) → Q (.ref m) S') (h0 : Iv 0 [] S) (hm : S[m]? = some (.lst [])) :
    Ok (compLoop itSeq.next [.ref n, .bl k] p ρw m t e fuel 0 S) Q := by
  have hf : fuel = 100000 := rfl
  refine ok_lc vs.length Iv (fun i acc S' hi iv hn => ?_) (fun acc S' iv hn => ?_) _ 0 [] _ (Nat.zero_le _) (by omega) h0 hm
  · obtain ⟨ρ2, e2, q⟩ := step i acc S' vs[i] (List.getElem?_eq_getElem hi) iv hn
    obtain ⟨kp, la⟩ := keep _ _ _ iv
    refine ⟨_, _, ρ2, by rw [it_next kp, List.getElem?_eq_getElem hi]; rfl, e2, q.mono ?_⟩
    rintro b S2 (h | ⟨h1, h2⟩)
    · exact .inl h
    · exact .inr ⟨h1, h2.mono fun v S3 q => ⟨q.1, by omega, q.2⟩⟩
  · refine ⟨?_, stop acc S' iv hn⟩
    rw [it_next (keep _ _ _ iv).1, List.getElem?_eq_none (Nat.le_refl _)]; rfl
theorem lc_rg {a m : Nat} {p : Pat} {ρw : Rho} {t e : Rho → Sto → M V} {Q : V → Sto → Prop} (Iv : Nat → List V → Sto → Prop) (hl : a < fuel) (keep : ∀ i acc S', Iv i acc S' → acc.length ≤ i)
    (step : ∀ i acc S', i < a → Iv i acc S' → S'[m]? = some (.lst acc) → ∃ ρ2, p.bind (.int i) ρw S' = some ρ2 ∧ Lc m t e ρ2 S' acc (Iv (i + 1)))
    (stop : ∀ acc S', Iv a acc S' → S'[m]? = some (.lst acc) → Q (.ref m) S') (h0 : Iv 0 [] S) (hm : S[m]? = some (.lst [])) :
    Ok (compLoop itRange.next [.int 0, .int a] p ρw m t e fuel 0 S) Q := by
  have hf : fuel = 100000 := rfl
  refine ok_lc a Iv (fun i acc S' hi iv hn => ?_) (fun acc S' iv hn => ⟨rg_stop, stop acc S' iv hn⟩) _ 0 [] _ (Nat.zero_le _) (by omega) h0 hm
  obtain ⟨ρ2, e2, q⟩ := step i acc S' hi iv hn
  have la := keep _ _ _ iv
  refine ⟨_, _, ρ2, rg_next hi, e2, q.mono ?_⟩
  rintro b S2 (h | ⟨h1, h2⟩)
  · exact .inl h
  · exact .inr ⟨h1, h2.mono fun v S3 q => ⟨q.1, by omega, q.2⟩⟩
/-- the same, over zip of two: each pair is a new plain tuple -/
theorem z_start {l : Bool} {n' : Nat} {us : List V} (h : S[n]? = some (obB k vs)) (h' : S[n']? = some (obB l us)) : itZip2.start [.ref n, .ref n'] S = some [.ref n, .ref n', .bl k, .bl l] := by
  cases k <;> cases l <;> (simp only [obB] at h h'; simp [itZip2, kindOf, sqOf, lstOf, tupOf, h, h'])
theorem z_next {l : Bool} {n' : Nat} {us : List V} {i : Nat} {x y : V} (h : S[n]? = some (obB k vs)) (h' : S[n']? = some (obB l us)) (hx : vs[i]? = some x) (hy : us[i]? = some y) : itZip2.next [.ref n, .ref n', .bl k, .bl l] i S = some (some (.ref S.length, S ++ [.tpl [x, y]])) := by
  cases k <;> cases l <;> (simp only [obB] at h h'; simp [itZip2, sqOf, lstOf, tupOf, h, h', hx, hy])
theorem z_stop {l : Bool} {n' : Nat} {us : List V} (h : S[n]? = some (obB k vs)) (h' : S[n']? = some (obB l us)) (hl : vs.length = us.length) : itZip2.next [.ref n, .ref n', .bl k, .bl l] vs.length S = some none := by
  have e1 : vs[us.length]? = none := List.getElem?_eq_none (by omega)
  cases k <;> cases l <;> (simp only [obB] at h h'; simp [itZip2, sqOf, lstOf, tupOf, h, h', hl, e1])
theorem lc_z {l : Bool} {m n' : Nat} {us : List V} {p : Pat} {ρw : Rho} {t e : Rho → Sto → M V} {Q : V → Sto → Prop} (Iv : Nat → List V → Sto → Prop) (hl : vs.length < fuel) (hu : vs.length = us.length)
    (keep : ∀ i acc S', Iv i acc S' → S'[n]? = some (obB k vs) ∧ S'[n']? = some (obB l us) ∧ acc.length ≤ i)
    (step : ∀ i acc S' x y, vs[i]? = some x → us[i]? = some y → Iv i acc S' → S'[m]? = some (.lst acc) → ∃ ρ2, p.bind (.ref S'.length) ρw (S' ++ [.tpl [x, y]]) = some ρ2 ∧ Lc m t e ρ2 (S' ++ [.tpl [x, y]]) acc (Iv (i + 1)))
    (stop : ∀ acc S', Iv vs.length acc S' → S'[m]? = some (.lst acc) → Q (.ref m) S') (h0 : Iv 0 [] S) (hm : S[m]? = some (.lst [])) :
    Ok (compLoop itZip2.next [.ref n, .ref n', .bl k, .bl l] p ρw m t e fuel 0 S) Q := by
  have hf : fuel = 100000 := rfl
  refine ok_lc vs.length Iv (fun i acc S' hi iv hn => ?_) (fun acc S' iv hn => ?_) _ 0 [] _ (Nat.zero_le _) (by omega) h0 hm
  · obtain ⟨k1, k2, la⟩ := keep _ _ _ iv
    have hi' : i < us.length := by omega
    obtain ⟨ρ2, e2, q⟩ := step i acc S' vs[i] us[i] (List.getElem?_eq_getElem hi) (List.getElem?_eq_getElem hi') iv hn
    refine ⟨_, _, ρ2, z_next k1 k2 (List.getElem?_eq_getElem hi) (List.getElem?_eq_getElem hi'), e2, q.mono ?_⟩
    rintro b S2 (h | ⟨h1, h2⟩)
    · exact .inl h
    · exact .inr ⟨h1, h2.mono fun v S3 q => ⟨q.1, by omega, q.2⟩⟩
  · obtain ⟨k1, k2, _⟩ := keep _ _ _ iv
    exact ⟨z_stop k1 k2 hu, stop acc S' iv hn⟩
theorem for_z {l : Bool} {n' : Nat} {us : List V} {p : Pat} {body : Rho → Sto → MS} {ρ : Rho} {N : Rho → Sto → Prop} {R : V → Sto → Prop} (Iv : Nat → Rho → Sto → Prop) (hl : vs.length < fuel) (hu : vs.length = us.length)
    (keep : ∀ i ρ S', Iv i ρ S' → S'[n]? = some (obB k vs) ∧ S'[n']? = some (obB l us))
    (step : ∀ i ρ S' x y, vs[i]? = some x → us[i]? = some y → Iv i ρ S' → ∃ ρ2, p.bind (.ref S'.length) ρ (S' ++ [.tpl [x, y]]) = some ρ2 ∧ OkS (body ρ2 (S' ++ [.tpl [x, y]])) (Iv (i + 1)) R)
    (stop : ∀ ρ S', Iv vs.length ρ S' → N ρ S') (h0 : Iv 0 ρ S) : OkS (forLoop itZip2.next [.ref n, .ref n', .bl k, .bl l] p body fuel 0 ρ S) N R := by
  refine ok_for vs.length Iv (fun i ρ S' hi iv => ?_) (fun ρ S' iv => ?_) _ 0 _ _ (Nat.zero_le _) (by omega) h0
  · obtain ⟨k1, k2⟩ := keep _ _ _ iv
    have hi' : i < us.length := by omega
    obtain ⟨ρ2, e2, q⟩ := step i ρ S' vs[i] us[i] (List.getElem?_eq_getElem hi) (List.getElem?_eq_getElem hi') iv
    exact ⟨_, _, ρ2, z_next k1 k2 (List.getElem?_eq_getElem hi) (List.getElem?_eq_getElem hi'), e2, q⟩
  · obtain ⟨k1, k2⟩ := keep _ _ _ iv
    exact ⟨z_stop k1 k2 hu, stop ρ S' iv⟩
end
section
variable {S : Sto} {ρ ρ' : Rho} {n i : Nat} {x v : V} {xs : List V} {p : Pat} {ps : Pats}
theorem pb_nm : (Pat.nm i).bind v ρ S = some (ρ.set i (some v)) := by rw [Pat.bind]
theorem pb_tup (h : S[n]? = some (.tup xs)) : (Pat.tp ps).bind (.ref n) ρ S = ps.binds xs ρ S := by rw [Pat.bind, h]
theorem pb_tpl (h : S[n]? = some (.tpl xs)) : (Pat.tp ps).bind (.ref n) ρ S = ps.binds xs ρ S := by rw [Pat.bind, h]
theorem pb_lst (h : S[n]? = some (.lst xs)) : (Pat.tp ps).bind (.ref n) ρ S = ps.binds xs ρ S := by rw [Pat.bind, h]
theorem pbs_nil : Pats.nil.binds [] ρ S = some ρ := by rw [Pats.binds]
theorem pbs_nm : (Pats.cons (.nm i) ps).binds (x :: xs) ρ S = ps.binds xs (ρ.set i (some x)) S := by rw [Pats.binds, pb_nm]
theorem pbs_tp {qs : Pats} (h : (Pat.tp qs).bind x ρ S = some ρ') : (Pats.cons (.tp qs) ps).binds (x :: xs) ρ S = ps.binds xs ρ' S := by rw [Pats.binds, h]
end
theorem atI0 {α : Type} {x : α} {xs : List α} : atI (x :: xs) 0 = some x := by
  have := atI_nat (xs := x :: xs) (i := 0) (x := x) rfl
  simpa using this
theorem atI1 {α : Type} {x y : α} {xs : List α} : atI (x :: y :: xs) 1 = some y := by
  have := atI_nat (xs := x :: y :: xs) (i := 1) (x := y) rfl
  simpa using this
theorem TupI.isTup {P : Nat → Prop} {S : Sto} {v : V} {xs : List Int} (h : TupI P S v xs) : isTupB v S = true := by
  obtain ⟨n, rfl, _, q⟩ := h; simp [isTupB, q]
theorem get_int {xs : List Int} {i : Nat} {x : V} (h : (xs.map V.int)[i]? = some x) : ∃ m, xs[i]? = some m ∧ x = .int m := by
  rw [List.getElem?_map] at h
  cases q : xs[i]? with
  | none => rw [q] at h; cases h
  | some m => rw [q] at h; cases h; exact ⟨m, rfl, rfl⟩
theorem take_snoc {α : Type} {xs : List α} {i : Nat} {x : α} (h : xs[i]? = some x) : xs.take (i + 1) = xs.take i ++ [x] := by
  rw [List.take_add_one, h]; rfl
theorem filter_snoc {α : Type} {xs : List α} {i : Nat} {x : α} {p : α → Bool} (h : xs[i]? = some x) : (xs.take (i + 1)).filter p = if p x = true then (xs.take i).filter p ++ [x] else (xs.take i).filter p := by
  rw [take_snoc h, List.filter_append]
  by_cases c : p x = true <;> simp [c]
theorem zst_tpl {S : Sto} {xs ys : List V} {i n : Nat} {x y : V} (h : i < n) (hx : xs[i]? = some x) (hy : ys[i]? = some y) : (zst S xs ys n)[S.length + 1 + i]? = some (.tpl [x, y]) := by
  have hz : (xs.zip ys)[i]? = some (x, y) := by rw [List.getElem?_zip_eq_some]; exact ⟨hx, hy⟩
  unfold zst
  rw [List.getElem?_append_right (by omega), show S.length + 1 + i - S.length = i + 1 by omega, List.getElem?_cons_succ, List.getElem?_map, List.getElem?_take_of_lt h, hz]; rfl
theorem ok_listZip {S : Sto} {k l : Bool} {n m : Nat} {vs us : List V} {Q : V → Sto → Prop} (h : S[n]? = some (obB k vs)) (h' : S[m]? = some (obB l us)) (hl : vs.length = us.length) :
    Ok (pListZip [.ref n, .ref m]  S) Q ↔ Q (.ref S.length) (zst S vs us vs.length) := by
  have e : min vs.length us.length = vs.length := by omega
  unfold pListZip
  cases k <;> cases l <;> (simp only [obB] at h h'; simp only [kindOf, sqOf, lstOf, tupOf, h, h', e]; exact ok_val)
theorem ag_zst {P : Nat → Prop} {S : Sto} {vs us : List V} {n : Nat} : Ag P S (zst S vs us n) := Ag.app
theorem Ag.any {P : Nat → Prop} {S S' : Sto} (a : Ag NoP S S') : Ag P S S' := a.mono fun _ h => h.elim
end Nx

set_option Elab.async false
set_option linter.all false
set_option maxRecDepth 100000
set_option autoImplicit false
namespace Nx
open PySem L2 PySem.Spec PyProof.Rows
variable {C : CC} {ad ad1 ad' : List Addr} {H H1 H' : Hp} {S S1 S' : Sto} {a b p : Addr}
variable {X : Cx} {W : WX} {e e1 e2 e3 : PySem.Expr} {es : List PySem.Expr} {x y : Ex} {xs : Exs} {ss : Sxs} {pos : Pos}

/-! ### while -/
theorem xs_while {c : PySem.Expr} {body : List Stmt} (hp : PassesOwn (model X.prog X.w) X.A X.env X.xe) (hc : PT X c (tTs C W x)) (hb : PSs X body (tExs C W ss)) : PS X (.While c body [] pos) (tEx C W (.while_ x ss)) := by
  refine PS.imp (ps_while hp hc hb) ?_
  rintro D σ H ⟨ad, S, ρ, s, r, q⟩
  unfold ex at q
  refine ⟨fun m σ H => ∃ ad S ρ, Sim C ad S H ∧ EnvR ad ρ σ ∧ tSO C W D ad H (whileLoop (ev x) (exs ss) m ρ S), ⟨fuel, ad, S, ρ, s, r, q⟩, ?_⟩
  rintro m σ H ⟨ad, S, ρ, s, r, q⟩
  cases m with
  | zero => exact q.elim
  | succ k =>
    unfold whileLoop at q
    refine ⟨ad, S, ρ, s, r, (tM.toS (R := RV) r q).mono ?_⟩
    rintro w H1 ⟨ad1, S1, v, e1, s1, r1, q1⟩
    cases v with
    | bl b =>
      cases RV.bl r1
      refine ⟨b, rfl, ?_⟩
      cases b with
      | true =>
        rw [if_pos rfl]
        refine ⟨fun σ' H' => ∃ ad S ρ, Sim C ad S H' ∧ EnvR ad ρ σ' ∧ tSO C W D ad H' (whileLoop (ev x) (exs ss) k ρ S), fun σ' H' h => ⟨k, Nat.lt_succ_self k, h⟩, ad1, S1, ρ, s1, r.ext e1, ?_⟩
        simp only at q1
        cases ho : exs ss ρ S1 with
        | none => simp only [ho] at q1; exact q1.elim
        | some so =>
          simp only [ho] at q1
          cases so with
          | nx ρ3 S3 => intro ad3 H3 σ3 e3 s3 r3; exact ⟨ad3, S3, ρ3, s3, r3, q1.step e3⟩
          | ct ρ3 S3 => intro ad3 H3 σ3 e3 s3 r3; exact ⟨ad3, S3, ρ3, s3, r3, q1.step e3⟩
          | bk ρ3 S3 => intro ad3 H3 σ3 e3 s3 r3; exact q1 ad3 H3 σ3 e3 s3 r3
          | rt v S3 => exact q1
          | exc c fs ρ3 S3 => exact q1
      | false =>
        rw [if_neg (by decide)]
        exact q1 ad1 H1 σ (Ext.refl s1) s1 (r.ext e1)
    | _ => exact q1.elim
/-! ### truth -/
def gTru : V → Sto → Option V := fun a S => match a with
  | .bl b => some (.bl b)
  | .int i => some (.bl (i != 0))
  | .non => some (.bl false)
  | .ref n => (seqOf S (.ref n)).map fun xs => .bl (!xs.isEmpty)
  | _ => none
theorem tru_of (hK : C.K = X.K) {v w : V} {k : V} (s : Sim C ad S H) (r : RV ad v w) (h : gTru v S = some k) : ∃ b, k = .bl b ∧ TruV X.K w H b := by
  cases v with
  | bl b => cases h; cases RV.bl r; exact ⟨b, rfl, rfl⟩
  | int i => cases h; cases RV.int r; exact ⟨_, rfl, rfl⟩
  | non => cases h; cases (show w = .non from r); exact ⟨_, rfl, rfl⟩
  | ref n =>
    unfold gTru at h
    simp only at h
    cases q : seqOf S (.ref n) with
    | none => rw [q] at h; cases h
    | some vs =>
      rw [q] at h; cases h
      obtain ⟨b, ws, rfl, rw', hs⟩ := seq_of (K := X.K) hK s q r
      have hl := Paired.len rw'
      have e : (!ws.isEmpty) = !vs.isEmpty := by
        cases rw' <;> rfl
      refine ⟨_, rfl, ?_⟩
      rcases hs with hs | hs
      · exact .inl ⟨ws, hs, e.symm⟩
      · exact .inr (.inl ⟨ws, hs, e.symm⟩)
  | _ => cases h
theorem xt_tru (hK : C.K = X.K) (h : PE X e (tEv C W x)) (he : ∀ whole, isTrue e X.env whole = (do let v ← whole; standAt e.pos; holding [v] (truthy v)) := by intro _; rfl) : PT X e (tTs C W (.pn (pv1 gTru) (.cons x .nil))) := by
  refine PT.imp (pt_truth h he) ?_
  rintro σ H Q ⟨ad, S, ρ, s, r, q⟩
  obtain ⟨ad, S, ρ, s, r, q⟩ := pn_one (noX_pv1 _) s r q
  refine ⟨ad, S, ρ, s, r, q.mono ?_⟩
  intro w H1 h1
  obtain ⟨ad1, S1, v, u, s1, rv, hg, k⟩ := P1.elim1 h1
  obtain ⟨b, rfl, ht⟩ := tru_of hK s1 rv hg
  refine ⟨b, ht, ?_⟩
  obtain ⟨k2, e2, q2⟩ := k _ rfl
  cases e2
  exact q2
/-! ### x += e, x -= e of ints -/
def gAddI := gInt fun i j => some (.int (i + j))
theorem ex_aug {i : Nat} {g : Prim} {ρ : Rho} {S : Sto} : ex (.asg (.nm i) (.pn g (.cons (.var i) (.cons x .nil)))) ρ S = (match ρ[i]? with
    | some (some v) => (M.bind (ev x ρ S) fun u S1 => g [v, u] S1).toS ρ fun v S1 => some (.nx (ρ.set i (some v)) S1)
    | _ => none) := by
  have h1 : ev (.var i) ρ S = match ρ[i]? with
    | some (some v) => some (.val v S)
    | _ => none := by
    rw [ev]
    all_goals (cases ρ[i]? <;> first | rfl | (rename_i o; cases o <;> rfl))
  have h3 : ∀ S, evs (.cons x .nil) ρ S = M.bind (ev x ρ S) fun v S1 => some (.val [v] S1) := fun S => by
    rw [evs]
    have : ∀ S, evs .nil ρ S = some (.val [] S) := fun S => by rw [evs]
    simp only [this, M.bind]
  have h2 : evs (.cons (.var i) (.cons x .nil)) ρ S = M.bind (ev (.var i) ρ S) fun v S1 => M.bind (evs (.cons x .nil) ρ S1) fun vs S2 => some (.val (v :: vs) S2) := by rw [evs]
  rw [ex, ev, h2, h1]
  cases ρ[i]? with
  | none => rfl
  | some o =>
    cases o with
    | none => rfl
    | some v =>
      simp only [M.bind, h3]
      cases ev x ρ S with
      | none => rfl
      | some oo => cases oo <;> rfl
theorem aug_imp {i : Nat} {f : Int → Int → Int} {D : Ends} {σ : L2.St} {H : Hp} (h : tEx C W (.asg (.nm i) (.pn (pv2 (gInt fun a b => some (.int (f a b)))) (.cons (.var i) (.cons x .nil)))) D σ H) : tAug i (tEv C W x) (ipI f) D σ H := by
  obtain ⟨ad, S, ρ, s, r, q⟩ := h
  rw [ex_aug] at q
  cases hv : ρ[i]? with
  | none => simp only [hv] at q; exact q.elim
  | some o =>
    cases o with
    | none => simp only [hv] at q; exact q.elim
    | some v =>
      obtain ⟨w, hw, rw'⟩ := r.2 i v hv
      refine ⟨w, hw, ad, S, ρ, s, r, ?_⟩
      simp only [hv] at q
      cases hx : ev x ρ S with
      | none => simp only [hx, M.bind, M.toS] at q; exact q.elim
      | some oo =>
        cases oo with
        | exc c fs S' =>
          simp only [hx, M.bind, M.toS] at q
          exact fun ad' H' d gs e s r' hd => q ad' H' σ d gs e s (r.ext e) r' hd
        | val u S1 =>
          simp only [hx, M.bind] at q
          intro ad1 H1 w2 e1 s1 r1
          cases v with
          | int a =>
            cases u with
            | int b =>
              cases RV.int rw'
              cases RV.int r1
              refine ⟨a, b, rfl, rfl, ?_⟩
              simp only [pv2, gInt, Option.map_some, M.toS] at q
              exact q ad1 H1 _ e1 s1 ((r.ext e1).set i rfl)
            | _ => simp only [pv2, gInt, Option.map_none, M.toS] at q; exact q.elim
          | _ => simp only [pv2, gInt, Option.map_none, M.toS] at q; exact q.elim
theorem xs_augAdd {i : Nat} {n : Str} {pos' : Pos} (hN : X.N.Nodup) (hi : X.N[i]? = some n) (hx : Loc X.env.scope n) (he : PE X e (tEv C W x)) (hf : X.fn n = true ∨ X.env.scope.names.lookup n = some .local := by first | exact .inl rfl | exact .inr rfl) :
    PS X (.AugAssign (.Name n pos') .Add e pos) (tEx C W (.asg (.nm i) (.pn (pv2 gAddI) (.cons (.var i) (.cons x .nil))))) :=
  PS.imp (ps_aug hN hi hx he ip_add hf) fun _ _ _ h => aug_imp (f := fun a b => a + b) h
theorem xs_augSub {i : Nat} {n : Str} {pos' : Pos} (hN : X.N.Nodup) (hi : X.N[i]? = some n) (hx : Loc X.env.scope n) (he : PE X e (tEv C W x)) (hf : X.fn n = true ∨ X.env.scope.names.lookup n = some .local := by first | exact .inl rfl | exact .inr rfl) :
    PS X (.AugAssign (.Name n pos') .Sub e pos) (tEx C W (.asg (.nm i) (.pn (pv2 gSub) (.cons (.var i) (.cons x .nil))))) :=
  PS.imp (ps_aug hN hi hx he ip_sub hf) fun _ _ _ h => aug_imp (f := fun a b => a - b) h
/-! ### xs.extend(ys), ys a list -/
def pExtend : Prim := fun vs S => match vs with
  | [.ref n, .ref m] => match S[n]?, S[m]? with
    | some (.lst xs), some (.lst ys) => if xs.length + ys.length ≤ 100000 then some (.val .non (S.set n (.lst (xs ++ ys)))) else none
    | _, _ => none
  | _ => none
theorem noX_extend : NoX pExtend := by
  intro vs S c fs S' h
  unfold pExtend at h
  repeat' split at h
  all_goals cases h
theorem m_extend : MtR X "list.extend" (MP C pExtend) := by
  intro pins s σ H w ws v us Q I rw rws h
  obtain ⟨ad, S, v', vs, u, S', sm, r1, r2, hf, k⟩ := mp_lst noX_extend h
  unfold pExtend at hf
  split at hf
  · rename_i n m he
    cases he
    split at hf
    · rename_i xs ys hx hy
      split at hf
      · rename_i hl
        cases hf
        obtain ⟨b, hb, rfl⟩ := r1
        cases r2 with
        | cons r3 r4 =>
        cases r4
        obtain ⟨c, hc, rfl⟩ := r3
        obtain ⟨zs, rz, hz⟩ := sm.ob _ _ _ hx hb
        obtain ⟨qs, rq, hq⟩ := sm.ob _ _ _ hy hc
        obtain ⟨s5, e5⟩ := sm.write (ho := .lst (zs ++ qs)) (o := .lst (xs ++ ys)) hx rfl rfl hb ⟨_, rz.append rq, upd_same⟩
        exact mt_extend pins s σ H _ _ v us Q I rw rws ⟨b, c, zs, qs, rfl, rfl, hz, hq, by rw [← Paired.len rz, ← Paired.len rq]; exact line_of hl, k ad _ .non e5 s5 rfl⟩
      · cases hf
    · cases hf
  · cases hf
end Nx

set_option Elab.async false
set_option linter.all false
set_option maxRecDepth 100000
set_option autoImplicit false
/-! itertools.combinations(range(n), r), at the library's level, and list(..) of it -/
namespace Cmb
open PySem PySem.Spec PyProof.Rows
open Sem (wp)
theorem mro_c : mroOf (.type "itertools.combinations") = pure [.type "itertools.combinations", .type "object"] := by rw [mroOf_type]; kernel_rfl
theorem lookup_c_new : typeLookup (.type "itertools.combinations") "__new__" = pure (some (.builtin "itertools.combinations.__new__")) := by rw [typeLookup_type, builtinLookup_eq_fast]; kernel_rfl
theorem slot_c_init : Slot "itertools.combinations" "__init__" "object.__init__" :=
  .of (owner := "object") (n := "__init__") (by rw [typeLookup_type, builtinLookup_eq_fast]; kernel_rfl) (by decide +kernel) (by decide +kernel) (by decide +kernel)
    (by first | exact .inl (by decide +kernel) | exact .inr (by decide +kernel)) (by rw [isSubtype_type]; kernel_rfl)
theorem sub_c : isSubtype (.type "itertools.combinations") (.type "itertools.combinations") = pure true := by rw [isSubtype_type]; kernel_rfl
theorem called_c : TypeCalled "itertools.combinations" "itertools.combinations.__new__" "object.__init__" :=
  ⟨by decide +kernel, by decide +kernel, ⟨_, _, mro_c⟩, madeBy_type mro_c lookup_c_new (by decide +kernel), by decide +kernel, sub_c, slot_c_init⟩
theorem typeCall_c (a b : Value) : checkTypeCall "itertools.combinations" ⟨[a, b], []⟩ = pure () := by kernel_rfl
theorem newCall_c (a b : Value) : checkBuiltinCall "itertools.combinations.__new__" ⟨[.type "itertools.combinations", a, b], []⟩ = pure () := by kernel_rfl
theorem entry_c_new : entryFor table "itertools.combinations.__new__" = some Builtin.«itertools.combinations.__new__» := entryFor_of_tree (by kernel_rfl)
theorem slot_c_iter : Slot "itertools.combinations" "__iter__" "itertools.combinations.__iter__" :=
  .of (owner := "itertools.combinations") (n := "__iter__") (by rw [typeLookup_type, builtinLookup_eq_fast]; kernel_rfl) (by decide +kernel) (by decide +kernel) (by decide +kernel)
    (by first | exact .inl (by decide +kernel) | exact .inr (by decide +kernel)) sub_c
theorem slot_c_next : Slot "itertools.combinations" "__next__" "itertools.combinations.__next__" :=
  .of (owner := "itertools.combinations") (n := "__next__") (by rw [typeLookup_type, builtinLookup_eq_fast]; kernel_rfl) (by decide +kernel) (by decide +kernel) (by decide +kernel)
    (by first | exact .inl (by decide +kernel) | exact .inr (by decide +kernel)) sub_c
theorem entry_c_iter : entryFor table "itertools.combinations.__iter__" = some Builtin.«dict_keyiterator.__iter__» :=
  entryFor_alias (id' := "dict_keyiterator.__iter__") (by kernel_rfl) (by first | rfl | decide +kernel | (unfold String.splitOn; simp +decide [String.splitOnAux])) (by decide +kernel) (by kernel_rfl)
theorem entry_c_next : entryFor table "itertools.combinations.__next__" = some Builtin.«itertools.combinations.__next__» := entryFor_of_tree (by kernel_rfl)
theorem owner_c : Manifest.owners.lookup (String.ofList ['s', 'n', 'o', 'i', 't', 'a', 'n', 'i', 'b', 'm', 'o', 'c', '.', 's', 'l', 'o', 'o', 't', 'r', 'e', 't', 'i'].reverse) = some Manifest.sig_itertools_combinations := by kernel_rfl
theorem args_c_iter (a : Value) : argsOk "itertools.combinations.__iter__" ⟨[a], []⟩ := by
  unfold argsOk; rw [signature?_of (id := "itertools.combinations.__iter__") (n := ['_', '_', 'r', 'e', 't', 'i', '_', '_']) (o := ['s', 'n', 'o', 'i', 't', 'a', 'n', 'i', 'b', 'm', 'o', 'c', '.', 's', 'l', 'o', 'o', 't', 'r', 'e', 't', 'i']) (by kernel_rfl) owner_c]; kernel_rfl
theorem args_c_next (a : Value) : argsOk "itertools.combinations.__next__" ⟨[a], []⟩ := by
  unfold argsOk; rw [signature?_of (id := "itertools.combinations.__next__") (n := ['_', '_', 't', 'x', 'e', 'n', '_', '_']) (o := ['s', 'n', 'o', 'i', 't', 'a', 'n', 'i', 'b', 'm', 'o', 'c', '.', 's', 'l', 'o', 'o', 't', 'r', 'e', 't', 'i']) (by kernel_rfl) owner_c]; kernel_rfl
theorem noDict_c : typeHasDict (.type "itertools.combinations") = false := by decide +kernel
theorem len0_c : typeLookup (.type "itertools.combinations") "__len__" = pure Option.none := by rw [typeLookup_type, builtinLookup_eq_fast]; kernel_rfl
theorem hint0_c : typeLookup (.type "itertools.combinations") "__length_hint__" = pure Option.none := by rw [typeLookup_type, builtinLookup_eq_fast]; kernel_rfl
theorem type0_c : (Value.type "itertools.combinations" == Value.type "list") = false ∧ (Value.type "itertools.combinations" == Value.type "tuple") = false := by decide
/-- the next row of indices -/
def nextC (n : Nat) (indices : List Nat) : Option (List Nat) :=
  let r := indices.length
  match (List.range r).reverse.find? fun i => indices.getD i 0 != i + n - r with
  | none => none
  | some i => some (indices.take i ++ (List.range (r - i)).map (indices.getD i 0 + 1 + ·))
/-- a combinations object: its pool, how far it is, what it handed out last, its indices -/
abbrev IsC (h : Heap) (z P : Addr) (st : Int) (L : Value) (idx : List Nat) : Prop :=
  h.get? z = some { cls := .type "itertools.combinations", dict := none, data := .fields (Value.ref P :: rawInt st :: L :: idx.map fun (n : Nat) => rawInt n).toArray, slots := #[] }
abbrev IsP (h : Heap) (P : Addr) (us : List Value) : Prop := h.get? P = some { cls := .type "tuple", data := .seq us.toArray }
def pickV (us : List Value) (idx : List Nat) : List Value := idx.map fun i => us.getD i .none
section
variable {P : Program} {w : World} {A : Around} {E : Value → Shared → Prop} {s : Shared} {z p : Addr} {us : List Value} {idx : List Nat} {L : Value}
theorem iter_c {st : Int} {Q : Value → Shared → Prop} (hz : IsC s.heap z p st L idx) (h : Q (.ref z) s) : wpAny (model P w) A (pyIter (.ref z)) Q E s := by
  have hT : s.TypeIs (.ref z) "itertools.combinations" := ⟨_, hz, rfl⟩
  refine wpAny_pyIter_slot hT slot_c_iter (wpAny_call_entry slot_c_iter hT entry_c_iter ?_ (args_c_iter _))
  show wpAny _ _ (ret (.ref z)) _ _ s
  exact wpAny_pure ⟨_, rfl, "itertools.combinations", _, hT, slot_c_next.lookup, h⟩
end
end Cmb

set_option Elab.async false
set_option linter.all false
set_option maxRecDepth 100000
set_option autoImplicit false
namespace Cmb
open PySem PySem.Spec PyProof.Rows
section
variable {P : Program} {w : World} {A : Around} {E : Value → Shared → Prop} {s : Shared} {z p : Addr} {us : List Value} {idx : List Nat} {L : Value}
theorem nums_of (p : Addr) (st : Int) (L : Value) (idx : List Nat) : (((Value.ref p :: rawInt st :: L :: idx.map fun (n : Nat) => rawInt n).toArray.toList.drop 3).map fun | .int n _ => n.toNat | _ => 0) = idx := by
  simp only [List.drop_succ_cons, List.drop_zero, List.map_map]
  induction idx with
  | nil => rfl
  | cons n r ih => rw [List.map_cons, ih]; simp [rawInt]
theorem nums {st : Int} {Q : List Nat → Shared → Prop} (hz : IsC s.heap z p st L idx) (h : Q idx s) : wpAny (model P w) A (Builtin.Itertools.itNumbersFrom (.ref z) 3) Q E s := by
  unfold Builtin.Itertools.itNumbersFrom
  refine wpAny_bind (wpAny_load hz (wpAny_pure ?_))
  exact Eq.mpr (congrArg (fun l => Q l s) (nums_of p st L idx)) h
theorem set1 (p : Addr) (st st' : Int) (L : Value) (l : List Value) : (Value.ref p :: rawInt st :: L :: l).toArray.setIfInBounds 1 (rawInt st') = (Value.ref p :: rawInt st' :: L :: l).toArray := by simp
theorem set2 (p : Addr) (st : Int) (L L' : Value) (l : List Value) : (Value.ref p :: rawInt st :: L :: l).toArray.setIfInBounds 2 L' = (Value.ref p :: rawInt st :: L' :: l).toArray := by simp
/-- what stood and is not z stands; one tuple more -/
theorem hand_out {st : Int} {Q : Fin → Shared → Prop} (hne : p ≠ z) (hz : IsC s.heap z p st L idx) (hp : IsP s.heap p us) (hs : idx.length ≤ sizeLine)
    (hQ : ∀ h', IsC h' z p st (.ref s.heap.objs.size) idx → IsP h' s.heap.objs.size (pickV us idx) → h'.objs.size = s.heap.objs.size + 1 → (∀ c o, c ≠ z → s.heap.get? c = some o → h'.get? c = some o) → Q (.done (.ret (.ref s.heap.objs.size))) { s with heap := h' }) :
    wpAny (model P w) A ((do
      let result ← (do
        let items ← Builtin.Itertools.itPoolItems (.ref p)
        newTuple (idx.map fun i => items.getD i .none))
      let before ← field (.ref z) 2
      setField (.ref z) 2 result
      letGo [before] [result]
      ret result) : Sem Fin) Q E s := by
  unfold Builtin.Itertools.itPoolItems
  have e : (idx.map fun i => us.toArray.getD i .none) = pickV us idx := by
    unfold pickV
    refine List.map_congr_left fun i _ => ?_
    simp [Array.getD_eq_getD_getElem?, List.getD_eq_getElem?_getD]
  refine wpAny_bind ?_
  refine wpAny_bind ?_
  refine wpAny_bind (wpAny_seqItems hp rfl (wpAny_pure ?_))
  rw [e]
  refine wpAny_newObj_type ?_ (by show (pickV us idx).toArray.size ≤ sizeLine; simpa [pickV] using hs)
  have hz1 : IsC (s.heap.push { cls := .type "tuple", data := .seq (pickV us idx).toArray }) z p st L idx := Heap.get?_push_of_some _ hz
  refine wpAny_bind (wpAny_field hz1 rfl (x := L) rfl ?_)
  refine wpAny_bind (wpAny_setField hz1 rfl (by simp) ?_)
  refine wpAny_bind (wpAny_letGo ?_)
  have hz2 := Heap.get?_update_self (Obj.mapFields (·.setIfInBounds 2 (.ref s.heap.objs.size))) hz1 rfl
  have zl : z < s.heap.objs.size := Heap.lt_size hz
  refine wpAny_pure (hQ _ ?_ ?_ ?_ ?_)
  · show _ = _
    rw [hz2]
    show some _ = some _
    simp only [Obj.mapFields]
    rw [set2]
  · exact (Heap.get?_update_other _ _ (Nat.ne_of_lt zl)).trans (Heap.get?_push_size _ rfl)
  · simp [Heap.size_push]
  · exact fun c o hc e => (Heap.get?_update_other _ _ (Ne.symm hc)).trans (Heap.get?_push_of_some _ e)
theorem next0 {Q : Fin → Shared → Prop} (hne : p ≠ z) (hz : IsC s.heap z p 0 L idx) (hp : IsP s.heap p us) (hs : idx.length ≤ sizeLine)
    (hQ : ∀ h', IsC h' z p 1 (.ref s.heap.objs.size) idx → IsP h' s.heap.objs.size (pickV us idx) → h'.objs.size = s.heap.objs.size + 1 → (∀ c o, c ≠ z → s.heap.get? c = some o → h'.get? c = some o) → Q (.done (.ret (.ref s.heap.objs.size))) { s with heap := h' }) :
    wpAny (model P w) A (Builtin.«itertools.combinations.__next__» ⟨[.ref z], []⟩) Q E s := by
  show wpAny (model P w) A (field (.ref z) 0 >>= _) _ _ s
  refine wpAny_bind (wpAny_field hz rfl (x := Value.ref p) rfl ?_)
  show wpAny (model P w) A (Builtin.Itertools.itNumbersFrom (.ref z) 3 >>= _) _ _ s
  refine wpAny_bind (nums hz ?_)
  show wpAny (model P w) A ((field (.ref z) 1 >>= _) >>= _) _ _ s
  refine wpAny_bind (wpAny_bind (wpAny_field hz rfl (x := rawInt 0) rfl (wpAny_pure ?_)))
  show wpAny (model P w) A (setField (.ref z) 1 (rawInt 1) >>= _) _ _ s
  refine wpAny_bind (wpAny_setField hz rfl (by simp) ?_)
  have hz2 := Heap.get?_update_self (Obj.mapFields (·.setIfInBounds 1 (rawInt 1))) hz rfl
  have hz3 : IsC (s.heap.update z (Obj.mapFields (·.setIfInBounds 1 (rawInt 1)))) z p 1 L idx := by
    show _ = _
    rw [hz2]
    show some _ = some _
    simp only [Obj.mapFields]
    rw [set1]
  have hp3 : IsP (s.heap.update z (Obj.mapFields (·.setIfInBounds 1 (rawInt 1)))) p us := (Heap.get?_update_other _ _ (Ne.symm hne)).trans hp
  refine hand_out (s := { s with heap := s.heap.update z (Obj.mapFields (·.setIfInBounds 1 (rawInt 1))) }) hne hz3 hp3 hs ?_
  have e : (s.heap.update z (Obj.mapFields (·.setIfInBounds 1 (rawInt 1)))).objs.size = s.heap.objs.size := by simp
  rw [e]
  exact fun h' a1 a2 a3 a4 => hQ h' a1 a2 a3 fun c o hc q => a4 c o hc ((Heap.get?_update_other _ _ (Ne.symm hc)).trans q)
theorem next1 {Q : Fin → Shared → Prop} {j : List Nat} (hne : p ≠ z) (hz : IsC s.heap z p 1 L idx) (hp : IsP s.heap p us) (hs : j.length ≤ sizeLine) (hj : nextC us.length idx = some j)
    (hQ : ∀ h', IsC h' z p 1 (.ref s.heap.objs.size) j → IsP h' s.heap.objs.size (pickV us j) → h'.objs.size = s.heap.objs.size + 1 → (∀ c o, c ≠ z → s.heap.get? c = some o → h'.get? c = some o) → Q (.done (.ret (.ref s.heap.objs.size))) { s with heap := h' }) :
    wpAny (model P w) A (Builtin.«itertools.combinations.__next__» ⟨[.ref z], []⟩) Q E s := by
  show wpAny (model P w) A (field (.ref z) 0 >>= _) _ _ s
  refine wpAny_bind (wpAny_field hz rfl (x := Value.ref p) rfl ?_)
  show wpAny (model P w) A (Builtin.Itertools.itNumbersFrom (.ref z) 3 >>= _) _ _ s
  refine wpAny_bind (nums hz ?_)
  show wpAny (model P w) A ((field (.ref z) 1 >>= _) >>= _) _ _ s
  refine wpAny_bind (wpAny_bind (wpAny_field hz rfl (x := rawInt 1) rfl (wpAny_pure ?_)))
  show wpAny (model P w) A ((seqItems? (.ref p) >>= _) >>= _) _ _ s
  refine wpAny_bind (wpAny_bind (wpAny_seqItems hp rfl (wpAny_pure ?_)))
  have hj' : nextC us.toArray.size idx = some j := by simpa using hj
  show wpAny (model P w) A (match nextC us.toArray.size idx with
    | some next => _
    | none => _) _ _ s
  rw [hj']
  show wpAny (model P w) A (updateFields z (fun fs => fs.extract 0 3 ++ (j.map fun (n : Nat) => rawInt n).toArray) >>= _) _ _ s
  refine wpAny_bind (wpAny_updateFields hz rfl ?_ (by simp; omega))
  have hz2 := Heap.get?_update_self (Obj.mapFields (fun fs => fs.extract 0 3 ++ (j.map fun (n : Nat) => rawInt n).toArray)) hz rfl
  have hz3 : IsC (s.heap.update z (Obj.mapFields (fun fs => fs.extract 0 3 ++ (j.map fun (n : Nat) => rawInt n).toArray))) z p 1 L j := by
    show _ = _
    rw [hz2]
    show some _ = some _
    simp only [Obj.mapFields]
    congr 1
    simp
  have hp3 : IsP (s.heap.update z (Obj.mapFields (fun fs => fs.extract 0 3 ++ (j.map fun (n : Nat) => rawInt n).toArray))) p us := (Heap.get?_update_other _ _ (Ne.symm hne)).trans hp
  refine hand_out (s := { s with heap := s.heap.update z (Obj.mapFields (fun fs => fs.extract 0 3 ++ (j.map fun (n : Nat) => rawInt n).toArray)) }) hne hz3 hp3 hs ?_
  have e : (s.heap.update z (Obj.mapFields (fun fs => fs.extract 0 3 ++ (j.map fun (n : Nat) => rawInt n).toArray))).objs.size = s.heap.objs.size := by simp
  rw [e]
  exact fun h' a1 a2 a3 a4 => hQ h' a1 a2 a3 fun c o hc q => a4 c o hc ((Heap.get?_update_other _ _ (Ne.symm hc)).trans q)
theorem stop_c {α : Type} {h0 : Heap} {Q : α → Shared → Prop} (hh : A.handled = none) (hQ : ∀ e h', CpRep.StopE e h' → (∀ c o, h0.get? c = some o → h'.get? c = some o) → E e { s with heap := h' }) : wpAny (model P w) A (Builtin.Itertools.itStop (α := α)) Q E { s with heap := h0 } := by
  unfold Builtin.Itertools.itStop
  refine wpAny_bind ?_
  simp only [newExc, newTuple]
  refine wpAny_bind (wpAny_newObj_type ?_ (by size_fits))
  refine wpAny_bind (m := firstArgMember _ _) (wpAny_of_eq (a := Value.none) (by first | rfl | (simp only [firstArgMember]; rfl)) ?_)
  refine wpAny_newObj_type ?_ (by size_fits)
  simp only [raiseNew]
  refine wpAny_bind (wpAny_handled ?_)
  first | rw [show A.in1.handled = none from hh] | rw [hh]
  refine wpAny_bind (wpAny_pure (wpAny_throw ?_))
  exact hQ _ _ ⟨_, _, _, rfl, Heap.get?_push_size _ rfl, rfl, rfl, rfl⟩ fun c o e => Heap.get?_push_of_some _ (Heap.get?_push_of_some _ e)
theorem nextE {Q : Fin → Shared → Prop} (hh : A.handled = none) (hne : p ≠ z) (hz : IsC s.heap z p 1 L idx) (hp : IsP s.heap p us) (hj : nextC us.length idx = none)
    (hQ : ∀ e h', CpRep.StopE e h' → (∀ c o, c ≠ z → s.heap.get? c = some o → h'.get? c = some o) → E e { s with heap := h' }) :
    wpAny (model P w) A (Builtin.«itertools.combinations.__next__» ⟨[.ref z], []⟩) Q E s := by
  show wpAny (model P w) A (field (.ref z) 0 >>= _) _ _ s
  refine wpAny_bind (wpAny_field hz rfl (x := Value.ref p) rfl ?_)
  show wpAny (model P w) A (Builtin.Itertools.itNumbersFrom (.ref z) 3 >>= _) _ _ s
  refine wpAny_bind (nums hz ?_)
  show wpAny (model P w) A ((field (.ref z) 1 >>= _) >>= _) _ _ s
  refine wpAny_bind (wpAny_bind (wpAny_field hz rfl (x := rawInt 1) rfl (wpAny_pure ?_)))
  show wpAny (model P w) A ((seqItems? (.ref p) >>= _) >>= _) _ _ s
  refine wpAny_bind (wpAny_bind (wpAny_seqItems hp rfl (wpAny_pure ?_)))
  have hj' : nextC us.toArray.size idx = none := by simpa using hj
  show wpAny (model P w) A (match nextC us.toArray.size idx with
    | some next => _
    | none => _) _ _ s
  rw [hj']
  show wpAny (model P w) A (setField (.ref z) 1 (rawInt 2) >>= _) _ _ s
  refine wpAny_bind (wpAny_setField hz rfl (by simp) ?_)
  exact stop_c hh fun e h' a1 a2 => hQ e h' a1 fun c o hc q => a2 c o ((Heap.get?_update_other _ _ (Ne.symm hc)).trans q)
/-- a pool that is too short -/
theorem next2 {Q : Fin → Shared → Prop} (hh : A.handled = none) (hz : IsC s.heap z p 2 L idx) (hp : IsP s.heap p us)
    (hQ : ∀ e h', CpRep.StopE e h' → (∀ c o, c ≠ z → s.heap.get? c = some o → h'.get? c = some o) → E e { s with heap := h' }) :
    wpAny (model P w) A (Builtin.«itertools.combinations.__next__» ⟨[.ref z], []⟩) Q E s := by
  show wpAny (model P w) A (field (.ref z) 0 >>= _) _ _ s
  refine wpAny_bind (wpAny_field hz rfl (x := Value.ref p) rfl ?_)
  show wpAny (model P w) A (Builtin.Itertools.itNumbersFrom (.ref z) 3 >>= _) _ _ s
  refine wpAny_bind (nums hz ?_)
  show wpAny (model P w) A ((field (.ref z) 1 >>= _) >>= _) _ _ s
  refine wpAny_bind (wpAny_bind (wpAny_field hz rfl (x := rawInt 2) rfl (wpAny_pure ?_)))
  show wpAny (model P w) A (rule "itertools.combinations.ended" >>= _) _ _ s
  refine wpAny_bind (wpAny_rule ?_)
  exact stop_c (h0 := s.heap) hh fun e h' a1 a2 => hQ e h' a1 fun c o hc q => a2 c o q
end
end Cmb

set_option Elab.async false
set_option linter.all false
set_option maxRecDepth 100000
set_option autoImplicit false
namespace Cmb
open PySem PySem.Spec PyProof.Rows
section
variable {P : Program} {w : World} {A : Around} {E : Value → Shared → Prop} {s : Shared} {z p : Addr} {us : List Value} {idx : List Nat} {L : Value}
theorem pn_item {Q : Option Value → Shared → Prop} {st : Int} {T : Value} (hz : IsC s.heap z p st L idx)
    (h : wpAny (model P w) A.in1 (Builtin.«itertools.combinations.__next__» ⟨[.ref z], []⟩) (fun f s' => ∃ v, f = .done (.ret v) ∧ Q (some v) s') (fun e s' => (∃ o, (∃ a, e = .ref a ∧ s'.heap.get? a = some o) ∧ o.cls = .type "StopIteration") ∧ Q none s') s) :
    wpAny (model P w) A (pyNext (.ref z)) Q E s := by
  have ty : s.TypeIs (.ref z) "itertools.combinations" := ⟨_, hz, rfl⟩
  unfold pyNext
  refine wpAny_bind (wpAny_attempt (wpAny_callSpecial?_slot (name := Str.ofString "__next__") ty slot_c_next (wpAny_call_entry slot_c_next ty entry_c_next (wpAny_mono h (fun f s' h' => ?_) (fun e s' h' => ?_)) (args_c_next _))))
  · obtain ⟨v, e, q⟩ := h'
    exact ⟨v, e, wpAny_pure q⟩
  · obtain ⟨⟨o, ho, hc⟩, q⟩ := h'
    obtain ⟨a, rfl, ha⟩ := ho
    exact wpAny_bind (wpAny_isInstance (T := "StopIteration") (b := true) ⟨o, ha, hc⟩ isSubtype_stop (wpAny_pure q))
end
section
variable {P : Program} {w : World} {A : Around} {E : Value → Shared → Prop} {s : Shared} {r : Addr} {a b : Int} {t u v : Tok} {n : Nat}
theorem class_rest (x y : Value) : Builtin.Itertools.itClassAndRest "combinations" ⟨[.type "itertools.combinations", x, y], []⟩ = pure (.type "itertools.combinations", [x, y]) := by kernel_rfl
theorem bind_named (x y : Value) : Builtin.Itertools.itBindNamed "combinations" ["iterable", "r"] 2 2 [x, y] [] = pure [some x, some y] := by kernel_rfl
theorem ssize (k : Int) (tk : Tok) (h0 : 0 ≤ k) (h1 : k < 1000) {Q : Int → Shared → Prop} (h : Q k s) : wpAny (model P w) A (Builtin.Itertools.itSsizeArg (.int k tk)) Q E s := by
  unfold Builtin.Itertools.itSsizeArg
  refine wpAny_bind (wpAny_of_eq (a := k) (by rfl) ?_)
  have e1 : decide (k < -2 ^ 63) = false := decide_eq_false (by omega)
  have e2 : decide (k ≥ 2 ^ 63) = false := decide_eq_false (by omega)
  simp only [e1, e2, Bool.or_false, Bool.false_eq_true, if_false]
  exact wpAny_pure h
theorem plain_c_new : plainId "itertools.combinations.__new__" = true := by decide +kernel
theorem code_c_new {k : Int} {tk0 : Tok} {Q₁ : Value → Shared → Prop} (hh : A.handled = none) (hr : IsRange s.heap r a b 1 t u v) (hsmall : Builtin.Range.small a b 1 = true) (hn : Builtin.Range.rangeSize a b 1 = n) (hlen : n ≤ 1000) (h0 : 0 ≤ k) (h1 : k < 1000)
    (h : ∀ (h' : Heap) (tk : Nat) (acc : Array Value), (∀ b o, s.heap.get? b = some o → h'.get? b = some o) → ItemsOf (fun i v => ∃ t, v = .int (a + i * 1) t) acc n →
      Q₁ (.ref (h'.objs.size + 1)) { s with heap := (h'.push { cls := .type "tuple", data := .seq acc }).push { cls := .type "itertools.combinations", data := .fields (Value.ref h'.objs.size :: rawInt (if k.toNat > n then 2 else 0) :: Value.none :: (List.range k.toNat).map fun (i : Nat) => rawInt i).toArray }, toks := tk }) :
    codeAny (model P w) A (.call (.builtin "itertools.combinations.__new__") ⟨[.type "itertools.combinations", .ref r, .int k tk0], []⟩) (wants Q₁ E) s := by
  refine codeAny_of_tree ?_
  show wpAny _ A.in1 (do checkBuiltinCall "itertools.combinations.__new__" ⟨[.type "itertools.combinations", .ref r, .int k tk0], []⟩; again (.builtin "itertools.combinations.__new__" ⟨[.type "itertools.combinations", .ref r, .int k tk0], []⟩)) _ _ s
  refine wpAny_bind (wpAny_of_eq (newCall_c _ _) (wpAny_pure ⟨plainId_quiet plain_c_new _, codeAny_builtin entry_c_new ?_⟩))
  rw [Around.under_plainId plain_c_new _]
  show wpAny (model P w) A.in1 ((Builtin.Itertools.itClassAndRest "combinations" ⟨[.type "itertools.combinations", .ref r, .int k tk0], []⟩ >>= _) >>= _) _ _ s
  refine wpAny_bind (wpAny_bind (wpAny_of_eq (class_rest _ _) ?_))
  show wpAny (model P w) A.in1 (Builtin.Itertools.itBindNamed "combinations" ["iterable", "r"] 2 2 [.ref r, .int k tk0] [] >>= _) _ _ s
  refine wpAny_bind (wpAny_of_eq (bind_named _ _) ?_)
  show wpAny (model P w) A.in1 (Builtin.Itertools.itSsizeArg (.int k tk0) >>= _) _ _ s
  refine wpAny_bind (ssize k tk0 h0 h1 ?_)
  show wpAny (model P w) A.in1 (collect (.ref r) >>= _) _ _ s
  refine wpAny_bind (L2.collect_range (A := A.in1) hh hr hsmall hn (by omega) fun h' tk acc hk hacc => ?_)
  have g1 : ¬ k < 0 := by omega
  have g2 : Builtin.Itertools.itTooMany k = false := by
    unfold Builtin.Itertools.itTooMany
    exact decide_eq_false (by omega)
  have al : acc.toList.length = n := by rw [Array.length_toList]; exact hacc.1
  simp only [if_neg g1, g2, Bool.false_eq_true, if_false]
  refine wpAny_bind (wpAny_newObj_type ?_ (by show acc.toList.toArray.size ≤ sizeLine; rw [List.size_toArray, al, sizeLine_eq]; omega))
  refine wpAny_pure ?_
  show wpAny (model P w) A.in1 (Builtin.Itertools.itNewRecord (.type "itertools.combinations") _ >>= fun r => ret r) _ _ _
  unfold Builtin.Itertools.itNewRecord
  rw [noDict_c, al]
  have sz : ([Value.ref h'.objs.size, rawInt (if k.toNat > n then 2 else 0), Value.none] ++ List.map (fun (i : Nat) => rawInt i) (List.range k.toNat)).toArray.size ≤ sizeLine + 2 := by
    rw [sizeLine_eq]; simp; omega
  simp only [Bool.not_false, if_true]
  refine wpAny_bind ?_
  refine wpAny_newObj_type ?_ (by exact sz)
  refine wpAny_pure ?_
  have e : acc.toList.toArray = acc := by simp
  rw [e, Heap.size_push]
  exact h h' tk acc hk hacc
theorem call_c {k : Int} {tk0 : Tok} {Q : Value → Shared → Prop} (hh : A.handled = none) (hr : IsRange s.heap r a b 1 t u v) (hsmall : Builtin.Range.small a b 1 = true) (hn : Builtin.Range.rangeSize a b 1 = n) (hlen : n ≤ 1000) (h0 : 0 ≤ k) (h1 : k < 1000)
    (hQ : ∀ (h' : Heap) (tk : Nat) (acc : Array Value), (∀ b o, s.heap.get? b = some o → h'.get? b = some o) → ItemsOf (fun i v => ∃ t, v = .int (a + i * 1) t) acc n →
      Q (.ref (h'.objs.size + 1)) { s with heap := (h'.push { cls := .type "tuple", data := .seq acc }).push { cls := .type "itertools.combinations", data := .fields (Value.ref h'.objs.size :: rawInt (if k.toNat > n then 2 else 0) :: Value.none :: (List.range k.toNat).map fun (i : Nat) => rawInt i).toArray }, toks := tk }) :
    wpAny (model P w) A (call (.type "itertools.combinations") [.ref r, .int k tk0]) Q E s := by
  refine callType_codes (Q₁ := fun obj s₁ => s₁.TypeIs obj "itertools.combinations" ∧ Q obj s₁) called_c (typeCall_c _ _) F.entry_object_init
    (code_c_new (A := A.in1) hh hr hsmall hn hlen h0 h1 fun h' tk acc hk hacc => ⟨⟨_, by rw [← Heap.size_push]; exact Heap.get?_push_size _ rfl, rfl⟩, hQ h' tk acc hk hacc⟩) fun obj s₁ h₁ => ?_
  exact ⟨h₁.1, F.args_object_init_3 obj _ _, object_init_meets called_c.init.lookup called_c.made (by decide) P w A.in1 _ s₁ ⟨h₁.1, rfl, h₁.2⟩⟩
end
end Cmb

set_option Elab.async false
set_option linter.all false
set_option maxRecDepth 100000
set_option autoImplicit false
namespace Nx
open PySem L2 PySem.Spec PyProof.Rows Cmb
variable {C : CC} {ad ad1 ad' : List Addr} {H H1 H' : Hp} {S S1 S' : Sto} {a b p : Addr}
variable {X : Cx} {W : WX} {e e1 e2 e3 : PySem.Expr} {es : List PySem.Expr} {x y : Ex} {xs : Exs} {pos : Pos}

/-! ### list(combinations(range(n), k)) -/
def combF (n : Nat) : Nat → List Nat → Option (List (List Nat))
  | 0, _ => none
  | f + 1, idx => match nextC n idx with
    | none => some [idx]
    | some j => match combF n f j with
      | some r => some (idx :: r)
      | none => none
def combs (n k : Nat) : Option (List (List Nat)) := if k > n then some [] else combF n 1000 (List.range k)
def rowC (n : Nat) (idx : List Nat) : List V := idx.map fun i => if i < n then V.int (i : Nat) else V.non
/-- the store behind the rows handed out -/
def cst (S : Sto) (rows : List (List V)) : Sto := S ++ (.lst ((List.range rows.length).map fun i => V.ref (S.length + 1 + i)) :: rows.map Ob.tpl)
theorem cst_len {rows : List (List V)} : (cst S rows).length = S.length + 1 + rows.length := by
  simp [cst]; omega
theorem cst_at {rows : List (List V)} : (cst S rows)[S.length]? = some (.lst ((List.range rows.length).map fun i => V.ref (S.length + 1 + i))) := by
  unfold cst
  rw [List.getElem?_append_right (Nat.le_refl _), Nat.sub_self]; rfl
theorem cst_step {rows : List (List V)} {r : List V} :
    List.set ((cst S rows) ++ [Ob.tpl r]) S.length (Ob.lst ((List.range rows.length).map (fun i => V.ref (S.length + 1 + i)) ++ [V.ref (S.length + 1 + rows.length)])) = cst S (rows ++ [r]) := by
  unfold cst
  rw [List.append_assoc, List.set_append_right _ _ (Nat.le_refl _), Nat.sub_self, List.cons_append, List.set_cons_zero, List.length_append, List.length_singleton, List.range_succ, List.map_append, List.map_append]
  simp
def pListComb : Prim := fun vs S => match vs with
  | [.int n, .int k] => if 0 ≤ n ∧ n < 1000 ∧ 0 ≤ k ∧ k < 1000 then (match combs n.toNat k.toNat with
      | some cs => if cs.length < 100000 then some (.val (.ref S.length) (cst S (cs.map (rowC n.toNat)))) else none
      | none => none) else none
  | _ => none
theorem noX_listComb : NoX pListComb := by
  intro vs S c fs S' h
  unfold pListComb at h
  repeat' split at h
  all_goals cases h
structure CLp (C : CC) (X : Cx) (pins : List (Addr × Obj)) (σ : L2.St) (z p D : Addr) (S : Sto) (us : List Value) (rows : List (List V)) (s : Shared) (H : Hp) (ad : List Addr) : Prop where
  I : Inv X pins σ H s
  fp : FpOk X pins H z
  hp : IsP s.heap p us
  sm : Sim C ad (cst S rows) H
  at_ : ad[S.length]? = some D
theorem cl_turn {pins : List (Addr × Obj)} {σ : L2.St} {z p D : Addr} {us : List Value} {rows : List (List V)} {A : Around} {R : Result → Shared → Prop} {s : Shared} {st0 : Int} {L0 : Value} {idx0 j : List Nat} {r : List V}
    (ne : p ≠ z) (nDz : D ≠ z) (nDp : D ≠ p) (hl : rows.length < 100000) (hjl : j.length ≤ 1000) (L : CLp C X pins σ z p D S us rows s H ad) (hz : IsC s.heap z p st0 L0 idx0)
    (hN : ∀ (Q : PySem.Fin → Shared → Prop) (E : Value → Shared → Prop), (∀ h', IsC h' z p 1 (.ref s.heap.objs.size) j → IsP h' s.heap.objs.size (pickV us j) → h'.objs.size = s.heap.objs.size + 1 → (∀ c o, c ≠ z → s.heap.get? c = some o → h'.get? c = some o) → Q (.done (.ret (.ref s.heap.objs.size))) { s with heap := h' }) →
      wpAny (model X.prog X.w) A.in1.in1 (Builtin.«itertools.combinations.__next__» ⟨[.ref z], []⟩) Q E s)
    (hr : Vals r (pickV us j)) (rr : ∀ ad, RVs ad r r)
    (k : ∀ s' H' ad', Ext ad H ad' H' → CLp C X pins σ z p D S us (rows ++ [r]) s' H' ad' → IsC s'.heap z p 1 (.ref s.heap.objs.size) j → codeAny (model X.prog X.w) A (.builtin "list.extend.loop" ⟨[.ref D, .ref z, .none], []⟩) R s') :
    codeAny (model X.prog X.w) A (.builtin "list.extend.loop" ⟨[.ref D, .ref z, .none], []⟩) R s := by
  refine codeAny_builtin F.entry_extend_loop ?_
  rw [Around.under_plainId F.plain_extend_loop _]
  show wpAny _ A.in1 (pyNext (Value.ref z) >>= _) _ _ s
  refine wpAny_bind (pn_item (A := A.in1) (T := .none) hz (hN _ _ fun h' a1 a2 a3 a4 => ⟨_, rfl, ?_⟩))
  have zl : z < s.heap.objs.size := Heap.lt_size hz
  have hT0 : H s.heap.objs.size = none := L.I.hok.fresh (Nat.le_refl _)
  have new : ObjOk X.prog X.w (upd H s.heap.objs.size (.tup r)) h' s.heap.objs.size (.tup r) :=
    ⟨by rw [hr.length]; simp [pickV]; rw [sizeLine_eq]; omega, pickV us j, hr, ⟨_, a2, rfl, _, rfl⟩⟩
  have I1 : Inv X pins σ (upd H s.heap.objs.size (.tup r)) { s with heap := h' } := L.I.turnedNew (t' := s.toks) (ch := [z]) (fun c o hb q => a4 c o (by simpa using hb) q) (fun c hc => by simp at hc; subst hc; exact L.fp) (Nat.le_refl _) new
  obtain ⟨ad1, ex1, sm1, rT⟩ := L.sm.allocT hT0 (rr ad)
  obtain ⟨more, rfl, hmore⟩ := ex1.pre
  have at1 : (ad ++ more)[S.length]? = some D := get_pre L.at_
  have len0 : (cst S rows).length = S.length + 1 + rows.length := cst_len
  have atS : ((cst S rows) ++ [Ob.tpl r])[S.length]? = some (.lst ((List.range rows.length).map fun i => V.ref (S.length + 1 + i))) := by
    rw [List.getElem?_append_left (by rw [len0]; omega)]; exact cst_at
  obtain ⟨rs, rrs, hD⟩ := sm1.ob _ _ _ atS at1
  obtain ⟨_, its, q, rits, lits, hDo⟩ := I1.lstM hD
  have lrs : rs.length = rows.length := by rw [← Paired.len rrs]; simp
  have nl : its.length = rows.length := by rw [← lits]; exact lrs
  show wpAny _ A.in1 (updateSeq D (fun l => l.push (Value.ref s.heap.objs.size)) >>= _) _ _ _
  have sL : (100000 : Nat) < sizeLine := by rw [sizeLine_eq]; decide
  refine wpAny_bind (wpAny_updateSeq (s := { s with heap := h' }) hDo rfl ?_ (by simp; omega) (by simp; omega))
  have rl : Vals (rs ++ [V.ref s.heap.objs.size]) (its ++ [Value.ref s.heap.objs.size]) := rits.append (.cons rfl .nil)
  have I2 := I1.lset (t' := s.toks) (ys := rs ++ [V.ref s.heap.objs.size]) (its' := its ++ [Value.ref s.heap.objs.size]) (f := fun l => l.push (Value.ref s.heap.objs.size)) hD hDo (by simp) rl (by simp; omega)
  have rT' : RV (ad ++ more) (.ref (S.length + 1 + rows.length)) (.ref s.heap.objs.size) := by rw [← len0]; exact rT
  obtain ⟨sm2, ex2⟩ := sm1.write (ho := .lst (rs ++ [V.ref s.heap.objs.size])) (o := .lst ((List.range rows.length).map (fun i => V.ref (S.length + 1 + i)) ++ [.ref (S.length + 1 + rows.length)])) atS rfl rfl at1 ⟨_, rrs.append (.cons rT' .nil), upd_same⟩
  rw [cst_step] at sm2
  have keepD : ∀ c o, c ≠ D → h'.get? c = some o → (h'.update D (Obj.mapSeq fun l => l.push (Value.ref s.heap.objs.size))).get? c = some o := fun c o hc e => (Heap.get?_update_other _ _ (Ne.symm hc)).trans e
  have z0 : upd (upd H s.heap.objs.size (.tup r)) D (.lst (rs ++ [V.ref s.heap.objs.size])) z = none := by
    rw [upd_ne (Ne.symm nDz), upd_ne (Nat.ne_of_lt zl)]
    exact L.fp.1
  refine wpAny_pure ⟨plainId_quiet F.plain_extend_loop _, k _ _ _ (ex1.trans ex2) ⟨I2, fpTo L.fp z0, keepD p _ (Ne.symm nDp) (a4 p _ ne L.hp), sm2, at1⟩ (keepD z _ (Ne.symm nDz) a1)⟩
theorem cl_done {pins : List (Addr × Obj)} {σ : L2.St} {z p D : Addr} {us : List Value} {rows : List (List V)} {A : Around} {R : Result → Shared → Prop} {s : Shared} {st0 : Int} {L0 : Value} {idx0 : List Nat}
    (L : CLp C X pins σ z p D S us rows s H ad) (hz : IsC s.heap z p st0 L0 idx0)
    (hN : ∀ (Q : PySem.Fin → Shared → Prop) (E : Value → Shared → Prop), (∀ e h', CpRep.StopE e h' → (∀ c o, c ≠ z → s.heap.get? c = some o → h'.get? c = some o) → E e { s with heap := h' }) → wpAny (model X.prog X.w) A.in1.in1 (Builtin.«itertools.combinations.__next__» ⟨[.ref z], []⟩) Q E s)
    (hR : ∀ s' H' ad', Inv X pins σ H' s' → Ext ad H ad' H' → Sim C ad' (cst S rows) H' → ad'[S.length]? = some D → R (.ok (.ret .none)) s') :
    codeAny (model X.prog X.w) A (.builtin "list.extend.loop" ⟨[.ref D, .ref z, .none], []⟩) R s := by
  refine codeAny_builtin F.entry_extend_loop ?_
  rw [Around.under_plainId F.plain_extend_loop _]
  show wpAny _ A.in1 (pyNext (Value.ref z) >>= _) _ _ s
  refine wpAny_bind (pn_item (A := A.in1) (T := .none) hz (hN _ _ fun e h' a1 a2 => ?_))
  obtain ⟨a, o, vs, he, ho, hc, _⟩ := a1
  refine ⟨⟨o, ⟨a, he, ho⟩, hc⟩, ?_⟩
  have I' : Inv X pins σ H { s with heap := h' } := L.I.turnedL (t' := s.toks) (ch := [z]) (fun c o hb q => a2 c o (by simpa using hb) q) (fun c hc => by simp at hc; subst hc; exact L.fp)
  exact wpAny_pure (hR _ H ad I' (Ext.refl L.sm) L.sm L.at_)
theorem combF_head {n : Nat} : ∀ {f : Nat} {idx : List Nat} {cs : List (List Nat)}, combF n f idx = some cs → ∃ t, cs = idx :: t
  | 0, idx, cs, h => by cases h
  | f + 1, idx, cs, h => by
    unfold combF at h
    cases q : nextC n idx with
    | none => rw [q] at h; cases h; exact ⟨[], rfl⟩
    | some j =>
      rw [q] at h
      simp only at h
      cases q2 : combF n f j with
      | none => rw [q2] at h; cases h
      | some r => rw [q2] at h; cases h; exact ⟨r, rfl⟩
theorem nextC_len {n : Nat} {idx j : List Nat} (h : nextC n idx = some j) : j.length = idx.length := by
  unfold nextC at h
  simp only at h
  split at h
  · cases h
  · rename_i i hi
    cases h
    have := List.mem_of_find?_eq_some hi
    simp at this
    simp; omega
structure IntsP (us : List Value) (n : Nat) : Prop where
  len : us.length = n
  at_ : ∀ i, i < n → ∃ t, us[i]? = some (.int (i : Int) t)
theorem row_vals {us : List Value} {n : Nat} (h : IntsP us n) : ∀ j : List Nat, Vals (rowC n j) (pickV us j)
  | [] => .nil
  | i :: j => by
    unfold rowC pickV
    rw [List.map_cons, List.map_cons]
    refine .cons ?_ (row_vals h j)
    by_cases c : i < n
    · obtain ⟨t, ht⟩ := h.at_ i c
      rw [if_pos c, List.getD_eq_getElem?_getD, ht]
      exact ⟨t, rfl⟩
    · rw [if_neg c, List.getD_eq_getElem?_getD, List.getElem?_eq_none (by rw [h.len]; omega)]
      rfl
theorem row_rv (n : Nat) (ad : List Addr) : ∀ j : List Nat, RVs ad (rowC n j) (rowC n j)
  | [] => .nil
  | i :: j => by
    unfold rowC
    rw [List.map_cons]
    refine .cons ?_ (row_rv n ad j)
    by_cases c : i < n
    · rw [if_pos c]; exact rfl
    · rw [if_neg c]; exact rfl
theorem cl_loop {pins : List (Addr × Obj)} {σ : L2.St} {z p D : Addr} {us : List Value} {n : Nat} {A : Around} {R : Result → Shared → Prop} (hh : A.handled = none)
    (ne : p ≠ z) (nDz : D ≠ z) (nDp : D ≠ p) (hu : IntsP us n) :
    ∀ (f : Nat) (idx : List Nat) (cs : List (List Nat)) (rows : List (List V)) (s : Shared) (H : Hp) (ad : List Addr) (L0 : Value), combF n f idx = some cs → rows.length + cs.length ≤ 100001 → idx.length ≤ 1000 → CLp C X pins σ z p D S us rows s H ad → IsC s.heap z p 1 L0 idx →
    (∀ s' H' ad', Inv X pins σ H' s' → Ext ad H ad' H' → Sim C ad' (cst S (rows ++ cs.tail.map (rowC n))) H' → ad'[S.length]? = some D → R (.ok (.ret .none)) s') →
    codeAny (model X.prog X.w) A (.builtin "list.extend.loop" ⟨[.ref D, .ref z, .none], []⟩) R s
  | 0, idx, cs, rows, s, H, ad, L0, h, hl, hi, L, hz, hR => by cases h
  | f + 1, idx, cs, rows, s, H, ad, L0, h, hl, hi, L, hz, hR => by
    unfold combF at h
    cases q : nextC n idx with
    | none =>
      rw [q] at h; cases h
      refine cl_done L hz (fun Q E hq => nextE (A := A.in1.in1) hh ne hz L.hp (by rw [hu.len]; exact q) hq) fun s' H' ad' I' x sm at' => hR s' H' ad' I' x (by simpa using sm) at'
    | some j =>
      rw [q] at h
      simp only at h
      cases q2 : combF n f j with
      | none => rw [q2] at h; cases h
      | some r =>
        rw [q2] at h; cases h
        obtain ⟨t, rfl⟩ := combF_head q2
        have jl := nextC_len q
        simp only [List.length_cons] at hl
        refine cl_turn (j := j) ne nDz nDp (by omega) (by omega) L hz (fun Q E hq => next1 (A := A.in1.in1) ne hz L.hp (by rw [sizeLine_eq]; omega) (by rw [hu.len]; exact q) hq) (row_vals hu j) (fun ad => row_rv n ad j) fun s' H' ad' x L' hz' => ?_
        refine cl_loop hh ne nDz nDp hu f j (j :: t) (rows ++ [rowC n j]) s' H' ad' _ q2 (by simp; omega) (by omega) L' hz' fun s2 H2 ad2 I2 x2 sm2 at2 => hR s2 H2 ad2 I2 (x.trans x2) ?_ at2
        simpa using sm2
theorem call_listC {pins : List (Addr × Obj)} {σ : L2.St} {s : Shared} {E : Value → Shared → Prop} {z p : Addr} {us : List Value} {st0 : Int} {L0 : Value} {idx : List Nat} {rows : List (List V)} {Q : Value → Shared → Prop} (hh : X.A.handled = none)
    (I : Inv X pins σ H s) (fp : FpOk X pins H z) (hz : IsC s.heap z p st0 L0 idx) (hp : IsP s.heap p us) (sm : Sim C ad S H)
    (go : ∀ (A : Around) (R : Result → Shared → Prop) (s' : Shared) (H' : Hp) (ad' : List Addr) (D : Addr), A.handled = none → D ≠ z → D ≠ p → CLp C X pins σ z p D S us [] s' H' ad' → IsC s'.heap z p st0 L0 idx →
      (∀ s2 H2 ad2, Inv X pins σ H2 s2 → Ext ad' H' ad2 H2 → Sim C ad2 (cst S rows) H2 → ad2[S.length]? = some D → R (.ok (.ret .none)) s2) → codeAny (model X.prog X.w) A (.builtin "list.extend.loop" ⟨[.ref D, .ref z, .none], []⟩) R s')
    (hQ : ∀ s' H' ad', Inv X pins σ H' s' → Ext ad H ad' H' → Sim C ad' (cst S rows) H' → RV ad' (.ref S.length) (.ref s.heap.objs.size) → Q (.ref s.heap.objs.size) s') :
    wpAny (model X.prog X.w) X.A (call (.type "list") [.ref z]) Q E s := by
  refine callType_codes (Q₁ := fun v s2 => v = Value.ref s.heap.objs.size ∧ s2 = { s with heap := s.heap.push { cls := .type "list", data := .seq #[] } }) F.called_list (F.typeCall_list_1 _) F.entry_list_init (code_list_new _ ⟨rfl, rfl⟩) ?_
  rintro v s2 ⟨rfl, rfl⟩
  have up : ∀ c o, s.heap.get? c = some o → (s.heap.push { cls := .type "list", data := .seq #[] }).get? c = some o := fun c o e => Heap.get?_push_of_some _ e
  have hD : (s.heap.push { cls := .type "list", data := .seq #[] }).get? s.heap.objs.size = some { cls := .type "list", data := .seq #[] } := Heap.get?_push_size _ rfl
  have ne : ∀ c o, s.heap.get? c = some o → c ≠ s.heap.objs.size := fun c o e => Nat.ne_of_lt (Heap.lt_size e)
  have nz0 : s.heap.objs.size ≠ z := fun e => ne _ _ hz e.symm
  have np0 : s.heap.objs.size ≠ p := fun e => ne _ _ hp e.symm
  have H0 : H s.heap.objs.size = none := I.hok.fresh (Nat.le_refl _)
  have I1 := I.lnew (t' := s.toks) (ys := []) (its := []) .nil (Nat.zero_le _)
  obtain ⟨sm1, ex1⟩ := sm.alloc (ho := .lst []) (o := .lst []) H0 (new_lst .nil _ H0)
  refine ⟨⟨_, hD, rfl⟩, F.args_list_init_2 _ _, ?_⟩
  show wpAny _ _ (do let l0 ← Builtin.List.listItems (Value.ref s.heap.objs.size); Builtin.List.listUpdate (Value.ref s.heap.objs.size) (fun _ => #[]); letGo l0.toList.reverse; Builtin.List.listExtendWith (Value.ref s.heap.objs.size) (Value.ref z) Value.none) _ _ _
  refine wpAny_bind ?_
  unfold Builtin.List.listItems
  refine wpAny_bind (wpAny_seqItems hD rfl (wpAny_pure ?_))
  refine wpAny_bind ?_
  show wpAny _ _ (updateSeq s.heap.objs.size (fun _ => #[])) _ _ _
  refine wpAny_updateSeq hD rfl ?_
  have d2 := Heap.get?_update_self (Obj.mapSeq (fun _ => (#[] : Array Value))) hD rfl
  have I2 := I1.lset (t' := s.toks) (ys := []) (its := []) (its' := []) (f := fun _ => #[]) upd_same hD rfl .nil (Nat.zero_le _)
  refine wpAny_bind (wpAny_letGo ?_)
  unfold Builtin.List.listExtendWith
  have keep2 : ∀ c o, c ≠ s.heap.objs.size → (s.heap.push { cls := .type "list", data := .seq #[] }).get? c = some o → ((s.heap.push { cls := .type "list", data := .seq #[] }).update s.heap.objs.size (Obj.mapSeq (fun _ => (#[] : Array Value)))).get? c = some o := fun c o hc e => (Heap.get?_update_other _ _ (Ne.symm hc)).trans e
  have keep2' : ∀ c o, c ≠ s.heap.objs.size → s.heap.get? c = some o → ((s.heap.push { cls := .type "list", data := .seq #[] }).update s.heap.objs.size (Obj.mapSeq (fun _ => (#[] : Array Value)))).get? c = some o := fun c o hc e => keep2 c o hc (up c o e)
  have z2 := keep2' z _ (Ne.symm nz0) hz
  have ty : Shared.TypeIs { s with heap := (s.heap.push { cls := .type "list", data := .seq #[] }).update s.heap.objs.size (Obj.mapSeq (fun _ => (#[] : Array Value))) } (.ref z) "itertools.combinations" := ⟨_, z2, rfl⟩
  refine wpAny_bind (wpAny_typeOf ty ?_)
  have nz : Builtin.List.listSameRef (.ref s.heap.objs.size) (.ref z) = false := by
    simp [Builtin.List.listSameRef, nz0]
  simp only [nz, type0_c.1, type0_c.2, Bool.or_false, Bool.false_eq_true, if_false]
  refine wpAny_bind (iter_c (s := { s with heap := (s.heap.push { cls := .type "list", data := .seq #[] }).update s.heap.objs.size (Obj.mapSeq (fun _ => (#[] : Array Value))) }) z2 (wpAny_bind (wpAny_holding ?_)))
  unfold Builtin.List.listLengthHint
  refine wpAny_bind (wpAny_specialOf ty len0_c ?_)
  show wpAny _ _ (specialOf (.ref z) (Str.ofString "__length_hint__") >>= _) _ _ _
  refine wpAny_bind (wpAny_specialOf ty hint0_c (wpAny_pure ?_))
  show wpAny _ _ (rule "list.extend.makes-room" >>= fun _ => Builtin.List.listTouch (.ref s.heap.objs.size) >>= fun _ => again (.builtin "list.extend.loop" ⟨[Value.ref s.heap.objs.size, Value.ref z, Value.none], []⟩)) _ _ _
  refine wpAny_bind (wpAny_rule (wpAny_bind ?_))
  show wpAny _ _ (updateSeq s.heap.objs.size (fun l => l.push Value.none) >>= fun _ => updateSeq s.heap.objs.size (fun l => l.pop)) _ _ _
  refine wpAny_bind (wpAny_updateSeq d2 rfl ?_)
  have d3 := Heap.get?_update_self (Obj.mapSeq (fun l => l.push Value.none)) d2 rfl
  have I3 := I2.lset (t' := s.toks) (ys := [.non]) (its := []) (its' := [Value.none]) (f := fun l => l.push Value.none) upd_same d2 rfl (.cons rfl .nil) (by decide)
  refine wpAny_updateSeq (hz := by seq_fits) d3 rfl ?_
  have d4 := Heap.get?_update_self (Obj.mapSeq (fun l : Array Value => l.pop)) d3 rfl
  have I4 := I3.lset (t' := s.toks) (ys := []) (its := [Value.none]) (its' := []) (f := fun l => l.pop) upd_same d3 rfl .nil (Nat.zero_le _)
  have eH : upd (upd (upd (upd H s.heap.objs.size (.lst [])) s.heap.objs.size (.lst [])) s.heap.objs.size (.lst [.non])) s.heap.objs.size (.lst []) = upd H s.heap.objs.size (.lst []) := by
    rw [upd_upd, upd_upd, upd_upd]
  rw [eH] at I4
  have keep4 : ∀ c o, c ≠ s.heap.objs.size → s.heap.get? c = some o → ((((s.heap.push { cls := .type "list", data := .seq #[] }).update s.heap.objs.size (Obj.mapSeq (fun _ => (#[] : Array Value)))).update s.heap.objs.size (Obj.mapSeq (fun l => l.push Value.none))).update s.heap.objs.size (Obj.mapSeq (fun l : Array Value => l.pop))).get? c = some o := fun c o hc e =>
    (Heap.get?_update_other _ _ (Ne.symm hc)).trans ((Heap.get?_update_other _ _ (Ne.symm hc)).trans (keep2' c o hc e))
  have z00 : cst S [] = S ++ [Ob.lst []] := by simp [cst]
  have atS : (ad ++ [s.heap.objs.size])[S.length]? = some s.heap.objs.size := by rw [← sm.len, List.getElem?_append_right (Nat.le_refl _)]; simp
  refine wpAny_pure ⟨plainId_quiet F.plain_extend_loop _, go X.A.in1 (wants (fun r s2 => r = Value.none ∧ Q (Value.ref s.heap.objs.size) s2) E) _ _ (ad ++ [s.heap.objs.size]) s.heap.objs.size hh nz0 np0
    ⟨I4, fpTo fp (by rw [upd_ne (Ne.symm nz0)]; exact fp.1), keep4 p _ (Ne.symm np0) hp, by rw [z00]; exact sm1, atS⟩ (keep4 z _ (Ne.symm nz0) hz) fun s' H' ad' I' ex' sm' at' => ⟨rfl, hQ s' H' ad' I' (ex1.trans ex') sm' ⟨_, at', rfl⟩⟩⟩
end Nx

set_option Elab.async false
set_option linter.all false
set_option maxRecDepth 100000
set_option autoImplicit false
namespace Nx
open PySem L2 PySem.Spec PyProof.Rows Cmb
variable {C : CC} {ad ad1 ad' : List Addr} {H H1 H' : Hp} {S S1 S' : Sto} {a b p : Addr}
variable {X : Cx} {W : WX} {e e1 e2 e3 : PySem.Expr} {es : List PySem.Expr} {x y : Ex} {xs : Exs} {pos : Pos}
/-- x is True, x is not True: of bools -/
def gIsB (neg : Bool) : V → V → Sto → Option V := fun a b _ => match a, b with
  | .bl i, .bl j => some (.bl (if neg then !decide (i = j) else decide (i = j)))
  | _, _ => none
theorem isB_out {neg : Bool} {u w : V} {Q : VK} (h : P2 C (pv2 (gIsB neg)) u w H Q) : ∃ i j : Bool, u = .bl i ∧ w = .bl j ∧ Q (.bl (if neg then !decide (i = j) else decide (i = j))) H := by
  obtain ⟨ad, S, a, b, v', sm, ra, rb, hg, q⟩ := P2.elim2 h
  unfold gIsB at hg
  split at hg
  · cases hg
    cases RV.bl ra
    cases RV.bl rb
    exact ⟨_, _, rfl, rfl, q _ rfl⟩
  · cases hg
theorem o_isB : OpR X (compareOp .Is) (P2 C (pv2 (gIsB false))) := by
  intro pins s σ H x y v u Q I rx ry h
  obtain ⟨i, j, e1, e2, q⟩ := isB_out h
  exact op_isBl pins s σ H _ _ v u Q I rx ry ⟨i, j, e1, e2, q⟩
theorem o_notB : OpR X (compareOp .IsNot) (P2 C (pv2 (gIsB true))) := by
  intro pins s σ H x y v u Q I rx ry h
  obtain ⟨i, j, e1, e2, q⟩ := isB_out h
  exact op_notBl pins s σ H _ _ v u Q I rx ry ⟨i, j, e1, e2, q⟩
def gAsI : V → Sto → Option V := fun a _ => match a with
  | .int i => some (.int i)
  | _ => none
theorem Inv.addPin {pins : List (Addr × Obj)} {σ : L2.St} {s : Shared} {r : Addr} {o : Obj} (I : Inv X pins σ H s) (e : s.heap.get? r = some o) (h : H r = none) (n1 : r ≠ X.env.locals) (n2 : r ∉ X.fs) (n3 : ∀ v, o.data ≠ .cell v) : Inv X ((r, o) :: pins) σ H s :=
  { I with
    pin := fun q hq => by
      rcases List.mem_append.mp hq with hq | hq
      · exact I.pin q (List.mem_append_left _ hq)
      · rcases List.mem_cons.mp hq with rfl | hq
        · exact ⟨e, h, n1, n2, n3⟩
        · exact I.pin q (List.mem_append_right _ hq) }
theorem Inv.dropPin {pins : List (Addr × Obj)} {σ : L2.St} {s : Shared} {q : Addr × Obj} (I : Inv X (q :: pins) σ H s) : Inv X pins σ H s :=
  { I with
    pin := fun r hr => I.pin r (by
      rcases List.mem_append.mp hr with hr | hr
      · exact List.mem_append_left _ hr
      · exact List.mem_append_right _ (List.mem_cons_of_mem _ hr)) }
theorem range_small {n : Int} (h0 : 0 ≤ n) (h1 : n < 1000) : Builtin.Range.small 0 n 1 = true ∧ Builtin.Range.rangeSize 0 n 1 = n.toNat := by
  refine ⟨small_one (by decide) (by decide) (by omega) (by omega), ?_⟩
  unfold Builtin.Range.rangeSize
  rw [if_pos (by decide)]
  split
  · rw [Int.ediv_one]; omega
  · omega
theorem items_ints {acc : Array Value} {n : Nat} (h : ItemsOf (fun i v => ∃ t, v = .int (0 + i * 1) t) acc n) : IntsP acc.toList n := by
  refine ⟨by rw [Array.length_toList]; exact h.1, fun i hi => ?_⟩
  have hl : i < acc.size := by rw [h.1]; exact hi
  obtain ⟨t, e⟩ := h.2 i acc[i] (Array.getElem?_eq_getElem hl)
  refine ⟨t, ?_⟩
  rw [Array.getElem?_toList, Array.getElem?_eq_getElem hl, e]
  simp
theorem prg_pin {e : PySem.Expr} {te : TE} {p3 pos3 : Pos} (hg : Gl X "range") (hm : X.mg "range" = none) (ha : PE X e te) (na : starEach [e] X.env = (false, eval e X.env) :: starEach [] X.env := by rfl)
    {pins : List (Addr × Obj)} {s : Shared} {σ : L2.St} {H : Hp} {Q : Int → Hp → Prop} (I : Inv X pins σ H s) (h : te σ H fun x H1 => ∃ n, x = .int n ∧ Q n H1) :
    wpAny (model X.prog X.w) X.A (eval (.Call (.Name "range" p3) [e] [] pos3) X.env) (fun x s' => ∃ r n t u v o H', x = .ref r ∧ (IsRange s'.heap r 0 n 1 t u v ∧ s'.heap.get? r = some o) ∧ Inv X ((r, o) :: pins) σ H' s' ∧ Q n H') X.xe s := by
  refine Call_ (ld_blt I hg hm boot_range (PyProof.Rows.callWith_type1 (one_arg ha I h (fun v s2 x H2 I2 r q => ?_) na) na))
  obtain ⟨n, rfl, q⟩ := q
  obtain ⟨t, rfl⟩ := r
  refine call_range_1 ⟨s2.heap.objs.size, n, _, _, _, _, H2, rfl, ⟨IsRange.new _ _ _ _ _ _ _, Heap.get?_push_size _ rfl⟩, ?_, q⟩
  have I3 : Inv X pins σ H2 { s2 with heap := s2.heap.push { cls := .type "range", data := .fields #[.int 0 s2.toks, .int n t, .int 1 (s2.toks + 1)] }, toks := s2.toks + 1 + 1 } := I2.kept fun b u e => Heap.get?_push_of_some _ e
  exact Inv.addPin I3 (Heap.get?_push_size _ rfl) (I2.hok.fresh (Nat.le_refl _)) (Nat.ne_of_gt I2.lt) (I2.nofs (Nat.le_refl _)) (fun v z => by cases z)
theorem xe_listComb (hK : C.K = X.K) (hc : X.calm = true) {pp p2 p3 pos2 pos3 : Pos} (hg : Gl X "list") (hm : X.mg "list" = none) (hgc : Gl X "combinations") (hmc : X.mg "combinations" = some (.type "itertools.combinations")) (hgr : Gl X "range") (hmr : X.mg "range" = none)
    (ha : PE X e1 (tEv C W x)) (hb : PE X e2 (tEv C W y))
    (hs1 : starEach [e1] X.env = (false, eval e1 X.env) :: starEach [] X.env := by rfl)
    (hs2 : starEach [.Call (.Name "range" p3) [e1] [] pos3, e2] X.env = (false, eval (.Call (.Name "range" p3) [e1] [] pos3) X.env) :: starEach [e2] X.env := by rfl)
    (hs3 : starEach [e2] X.env = (false, eval e2 X.env) :: starEach [] X.env := by rfl) (hpl : (backTo pos2 (starEach [e2] X.env)).any (·.1) = false := by rfl)
    (hs4 : starEach [.Call (.Name "combinations" p2) [.Call (.Name "range" p3) [e1] [] pos3, e2] [] pos2] X.env = (false, eval (.Call (.Name "combinations" p2) [.Call (.Name "range" p3) [e1] [] pos3, e2] [] pos2) X.env) :: starEach [] X.env := by rfl) :
    PE X (.Call (.Name "list" pp) [.Call (.Name "combinations" p2) [.Call (.Name "range" p3) [e1] [] pos3, e2] [] pos2] [] pos) (tEv C W (.pn pListComb (.cons (.pn (pv1 gAsI) (.cons x .nil)) (.cons y .nil)))) := by
  refine ⟨fun pins s σ H Q I ⟨ad, S, ρ, sm, r, q⟩ => ?_⟩
  have h0 := pn_two noX_listComb sm r q
  have h1 : tEv C W x σ H fun u H1 => ∃ n, u = .int n ∧ tEv C W y σ H1 fun w H2 => P2 C pListComb (.int n) w H2 Q := by
    obtain ⟨ad, S, ρ, sm, r, q⟩ := h0
    obtain ⟨ad, S, ρ, sm, r, q⟩ := pn_one (noX_pv1 _) sm r q
    refine ⟨ad, S, ρ, sm, r, q.mono ?_⟩
    intro w H1 h1
    obtain ⟨ad1, S1, v, u, s1, rv, hg', k⟩ := P1.elim1 h1
    unfold gAsI at hg'
    split at hg'
    · cases hg'
      cases RV.int rv
      exact ⟨_, rfl, k _ rfl⟩
    · cases hg'
  refine Call_ (ld_blt I hg hm boot_list (callWith_type1 (args_cons (Call_ (ld_glob I hgc hmc (callWith_type1 (args_cons (thn (prg_pin hgr hmr ha hs1 I h1) fun v s1 hv => ?_) hs2) hs2 hpl))) hs4) hs4 rfl))
  obtain ⟨ra, n, t, u, v', o, H1, rfl, ⟨hr, hro⟩, I1, q1⟩ := hv
  refine one_arg hb I1 q1 (fun w s2 yv H2 I2 r2 q2 => ?_) hs3
  have hr2 : s2.heap.get? ra = some o := (I2.pin (ra, o) (List.mem_append_right _ List.mem_cons_self)).1
  have e0 : some o = _ := hro.symm.trans hr
  have hR : IsRange s2.heap ra 0 n 1 t u v' := hr2.trans e0
  have I3 := Inv.dropPin I2
  obtain ⟨ad, S, vs, v, S', sm, rv, hf, k⟩ := rP.elim noX_listComb q2
  unfold pListComb at hf
  split at hf
  · rename_i n' kk
    cases rv with
    | cons ru rv =>
    cases rv with
    | cons rw' rv =>
    cases rv
    cases RV.int ru
    cases RV.int rw'
    obtain ⟨tk, rfl⟩ := r2
    split at hf
    · rename_i hb
      obtain ⟨b0, b1, b2, b3⟩ := hb
      split at hf
      · rename_i cs hcs
        split at hf
        · rename_i hl
          cases hf
          obtain ⟨z1, z2⟩ := range_small b0 b1
          refine call_c (n := n.toNat) (I3.ok.hd hc) hR z1 z2 (by omega) b2 b3 fun h' tk' acc hk hacc => args_nil ?_
          have hu := items_ints hacc
          have sz : (h'.push { cls := .type "tuple", data := .seq acc }).objs.size = h'.objs.size + 1 := Heap.size_push ..
          have I4 : Inv X pins σ H2 { s2 with heap := (h'.push { cls := .type "tuple", data := .seq acc }).push { cls := .type "itertools.combinations", data := .fields (Value.ref h'.objs.size :: rawInt (if kk.toNat > n.toNat then 2 else 0) :: Value.none :: (List.range kk.toNat).map fun (i : Nat) => rawInt i).toArray }, toks := tk' } :=
            I3.kept (t' := tk') fun b o e => Heap.get?_push_of_some _ (Heap.get?_push_of_some _ (hk b o e))
          have I5 : Inv X pins σ H2 { s2 with heap := h', toks := tk' } := I3.kept (t' := tk') hk
          have hz : IsC ((h'.push { cls := .type "tuple", data := .seq acc }).push { cls := .type "itertools.combinations", data := .fields (Value.ref h'.objs.size :: rawInt (if kk.toNat > n.toNat then 2 else 0) :: Value.none :: (List.range kk.toNat).map fun (i : Nat) => rawInt i).toArray }) (h'.objs.size + 1) h'.objs.size (if kk.toNat > n.toNat then 2 else 0) .none (List.range kk.toNat) := by
            show _ = _
            rw [← sz]; exact Heap.get?_push_size _ rfl
          have hp : IsP ((h'.push { cls := .type "tuple", data := .seq acc }).push { cls := .type "itertools.combinations", data := .fields (Value.ref h'.objs.size :: rawInt (if kk.toNat > n.toNat then 2 else 0) :: Value.none :: (List.range kk.toNat).map fun (i : Nat) => rawInt i).toArray }) h'.objs.size acc.toList := by
            show _ = _
            have e : acc.toList.toArray = acc := by simp
            rw [e]
            exact Heap.get?_push_of_some _ (Heap.get?_push_size _ rfl)
          have ne : h'.objs.size ≠ h'.objs.size + 1 := Nat.ne_of_lt (Nat.lt_succ_self _)
          refine call_listC (C := C) (S := S) (us := acc.toList) (rows := cs.map (rowC n.toNat)) (I4.ok.hd hc) I4 (I5.fpOk (Nat.le_succ _) (I5.hok.fresh (Nat.le_succ _))) hz hp sm ?_ fun s' H' ad' I' x' sm' rv' => ⟨.ref _, H', I', rfl, k ad' H' _ x' sm' rv'⟩
          intro A R s' H' ad' D hh nDz nDp L hz' hR
          unfold combs at hcs
          by_cases c : kk.toNat > n.toNat
          · rw [if_pos c] at hcs; cases hcs
            rw [if_pos c] at hz'
            exact cl_done L hz' (fun Q E hq => next2 (A := A.in1.in1) hh hz' L.hp hq) fun s2 H2 ad2 I2 x2 sm2 at2 => hR s2 H2 ad2 I2 x2 sm2 at2
          · rw [if_neg c] at hcs
            rw [if_neg c] at hz'
            obtain ⟨tt, rfl⟩ := combF_head hcs
            have hln : (List.range kk.toNat).length ≤ 1000 := by rw [List.length_range]; omega
            simp only [List.length_cons] at hl
            refine cl_turn (j := List.range kk.toNat) ne nDz nDp (by simp) hln L hz' (fun Q E hq => next0 (A := A.in1.in1) ne hz' L.hp (by rw [sizeLine_eq]; omega) hq) (row_vals hu _) (fun ad => row_rv _ ad _) fun s2 H2 ad2 x2 L2' hz2 => ?_
            exact cl_loop hh ne nDz nDp hu 1000 _ _ _ s2 H2 ad2 _ hcs (by simp; omega) hln L2' hz2 fun s3 H3 ad3 I3 x3 sm3 at3 => hR s3 H3 ad3 I3 (x2.trans x3) (by simpa using sm3) at3
        · cases hf
      · cases hf
    · cases hf
  · cases hf
end Nx

set_option Elab.async false
set_option linter.all false
set_option maxRecDepth 100000
set_option autoImplicit false
namespace Nx
open PySem L2 PySem.Spec PyProof.Rows
variable {C : CC} {ad ad1 ad' : List Addr} {H H1 H' : Hp} {S S1 S' : Sto} {a b p : Addr}
variable {X : Cx} {W : WX} {e e1 e2 e3 : PySem.Expr} {es : List PySem.Expr} {x y : Ex} {xs ys zs : Exs} {pos : Pos}
/-! ### calls with keywords of defs that raise nothing -/
def Exs.app : Exs → Exs → Exs
  | .nil, ys => ys
  | .cons e es, ys => .cons e (Exs.app es ys)
  | .star e es, ys => .star e (Exs.app es ys)
theorem evs_app : ∀ (xs ys : Exs) (ρ : Rho) (S : Sto), evs (Exs.app xs ys) ρ S = M.bind (evs xs ρ S) fun vs S1 => M.bind (evs ys ρ S1) fun zs S2 => some (.val (vs ++ zs) S2)
  | .nil, ys, ρ, S => by
    have h1 : evs .nil ρ S = some (.val [] S) := by rw [evs]
    rw [h1]
    show evs ys ρ S = _
    simp only [M.bind, List.nil_append]
    cases evs ys ρ S with
    | none => rfl
    | some o => cases o <;> rfl
  | .cons e es, ys, ρ, S => by
    have h2 : ∀ zs, evs (.cons e zs) ρ S = M.bind (ev e ρ S) fun v S1 => M.bind (evs zs ρ S1) fun vs S2 => some (.val (v :: vs) S2) := fun zs => by rw [evs]
    show evs (.cons e (Exs.app es ys)) ρ S = _
    rw [h2, h2]
    cases ev e ρ S with
    | none => rfl
    | some o =>
      cases o with
      | exc c fs S1 => rfl
      | val v S1 =>
        simp only [M.bind]
        rw [evs_app es ys ρ S1]
        cases evs es ρ S1 with
        | none => rfl
        | some o2 =>
          cases o2 with
          | exc c fs S2 => rfl
          | val vs S2 =>
            simp only [M.bind]
            cases evs ys ρ S2 with
            | none => rfl
            | some o3 => cases o3 <;> rfl
  | .star e es, ys, ρ, S => by
    have h2 : ∀ zs, evs (.star e zs) ρ S = M.bind (ev e ρ S) fun v S1 => match seqOf S1 v with
        | none => none
        | some us => M.bind (evs zs ρ S1) fun vs S2 => some (.val (us ++ vs) S2) := fun zs => by rw [evs] <;> rfl
    show evs (.star e (Exs.app es ys)) ρ S = _
    rw [h2, h2]
    cases ev e ρ S with
    | none => rfl
    | some o =>
      cases o with
      | exc c fs S1 => rfl
      | val v S1 =>
        simp only [M.bind]
        cases seqOf S1 v with
        | none => rfl
        | some us =>
          simp only
          rw [evs_app es ys ρ S1]
          cases evs es ρ S1 with
          | none => rfl
          | some o2 =>
            cases o2 with
            | exc c fs S2 => rfl
            | val vs S2 =>
              simp only [M.bind]
              cases evs ys ρ S2 with
              | none => rfl
              | some o3 => cases o3 <;> simp [M.bind, List.append_assoc]
def pNX (d : Prim) : Prim := fun vs S => match d vs S with
  | some (.val v S') => some (.val v S')
  | _ => none
theorem noX_nx (d : Prim) : NoX (pNX d) := by
  intro vs S c fs S' h
  unfold pNX at h
  split at h <;> cases h
theorem kw_step {d : Prim} {m n j : Nat} {σ : L2.St} {Q : VK} {ρ : Rho} {E : XK} (hlen : ∀ vs S o, d vs S = some o → vs.length = m) (s : Sim C ad S H) (r : EnvR ad ρ σ) (q : tM C W RV ad H σ Q (ev (.pn (pNX d) (Exs.app xs ys)) ρ S))
    (hx : ∀ ρ S vs S', evs xs ρ S = some (.val vs S') → vs.length = n) (hy : ∀ ρ S vs S', evs ys ρ S = some (.val vs S') → vs.length = j) :
    tCallN n j (spD C m d) (fun vs zs => vs ++ zs) E (tEvs C W xs) (tEvs C W ys) σ H Q := by
  have e0 : ev (.pn (pNX d) (Exs.app xs ys)) ρ S = M.bind (evs (Exs.app xs ys) ρ S) (pNX d) := by rw [ev]
  rw [e0, evs_app] at q
  refine ⟨ad, S, ρ, s, r, ?_⟩
  cases h1 : evs xs ρ S with
  | none => rw [h1] at q; exact q.elim
  | some o =>
    rw [h1] at q
    cases o with
    | exc c fs S' => exact q
    | val vs S1 =>
      intro ad1 H1 ws e1 s1 r1
      have q1 := q.step e1
      simp only [M.bind] at q1
      refine ⟨ad1, S1, ρ, s1, r.ext e1, ?_⟩
      cases h2 : evs ys ρ S1 with
      | none => rw [h2] at q1; exact q1.elim
      | some o2 =>
        rw [h2] at q1
        cases o2 with
        | exc c fs S' => exact q1
        | val us S2 =>
          intro ad2 H2 ts e2 s2 r2
          have q2 := q1.step e2
          simp only [M.bind] at q2
          refine ⟨(Paired.len r1).symm.trans (hx _ _ _ _ h1), (Paired.len r2).symm.trans (hy _ _ _ _ h2), ?_⟩
          have rr : RVs ad2 (vs ++ us) (ws ++ ts) := (r1.ext e2).append r2
          unfold pNX at q2
          cases hd : d (vs ++ us) S2 with
          | none => rw [hd] at q2; exact q2.elim
          | some o3 =>
            rw [hd] at q2
            cases o3 with
            | exc c fs S3 => exact q2.elim
            | val v S3 =>
              refine ⟨(Paired.len rr).symm.trans (hlen _ _ _ hd), ad2, S2, vs ++ us, s2, rr, ?_⟩
              rw [hd]
              exact q2
/-- how many values a list of parts without stars gives -/
def Exs.cnt : Exs → Option Nat
  | .nil => some 0
  | .cons _ es => (Exs.cnt es).map (· + 1)
  | .star _ _ => none
theorem evs_cnt : ∀ (xs : Exs) {n : Nat} {ρ : Rho} {S S' : Sto} {vs : List V}, xs.cnt = some n → evs xs ρ S = some (.val vs S') → vs.length = n
  | .nil, n, ρ, S, S', vs, h, e => by
    have h1 : evs .nil ρ S = some (.val [] S) := by rw [evs]
    rw [h1] at e; cases e; cases h; rfl
  | .cons x es, n, ρ, S, S', vs, h, e => by
    have h2 : evs (.cons x es) ρ S = M.bind (ev x ρ S) fun v S1 => M.bind (evs es ρ S1) fun vs S2 => some (.val (v :: vs) S2) := by rw [evs]
    rw [h2] at e
    unfold Exs.cnt at h
    cases hc : es.cnt with
    | none => rw [hc] at h; cases h
    | some k =>
      rw [hc] at h; cases h
      cases h3 : ev x ρ S with
      | none => rw [h3] at e; cases e
      | some o =>
        rw [h3] at e
        cases o with
        | exc c fs S1 => cases e
        | val v S1 =>
          simp only [M.bind] at e
          cases h4 : evs es ρ S1 with
          | none => rw [h4] at e; cases e
          | some o2 =>
            rw [h4] at e
            cases o2 with
            | exc c fs S2 => cases e
            | val us S2 => cases e; simp [evs_cnt es hc h4]
  | .star _ _, n, ρ, S, S', vs, h, e => by cases h
theorem PK.imp {kws : List Keyword} {t t' : TA} (h : PK X kws t) (k : ∀ σ H Q, t' σ H Q → t σ H Q) : PK X kws t' := ⟨fun ps pins s σ H Q I q => h.run ps pins s σ H Q I (k σ H Q q)⟩
theorem xk_nil : PK X [] (tEvs C W .nil) := by
  refine PK.imp pk_nil ?_
  rintro σ H Q ⟨ad, S, ρ, s, r, q⟩
  unfold evs at q
  exact q ad H [] (Ext.refl s) s .nil
theorem xk_cons {kws : List Keyword} {nm : Option Str} {kpos : Pos} (ha : PE X e (tEv C W x)) (hr : PK X kws (tEvs C W xs)) : PK X (⟨nm, e, kpos⟩ :: kws) (tEvs C W (.cons x xs)) := by
  refine PK.imp (pk_cons ha hr) ?_
  rintro σ H Q ⟨ad, S, ρ, s, r, q⟩
  unfold evs at q
  refine ⟨ad, S, ρ, s, r, (tM.bind (R := RV) q).mono ?_⟩
  rintro w H1 ⟨ad1, S1, v, e1, s1, r1, q1⟩
  refine ⟨ad1, S1, ρ, s1, r.ext e1, (tM.bind (R := RVs) q1).mono ?_⟩
  rintro ws H2 ⟨ad2, S2, vs, e2, s2, r2, q2⟩
  exact q2 ad2 H2 _ (Ext.refl s2) s2 (.cons (r1.ext e2) r2)
theorem xe_callKW {f : Addr} {fd : FuncData} {k : Nat} {ps ks : List Str} {n : Str} {pf : Pos} {l m np : Nat} {b : Sxs} {kws : List Keyword} (F : FnOk X.prog X.w X.K X.mg X.base (L2.CX X.prog X.w) k f fd ps (spD C m (den l m b))) (hr : Room k X.A) (hg : Gl X n) (hm : X.mg n = some (.ref f)) (hk : PySem.W.keepIn X.K (.ref f) = true)
    (hb : KBn X.K fd ps np ks (fun us ws => us ++ ws) (fun vs zs => vs ++ zs)) (tk : Takes X W)
    (ha : PA X (e :: es) (tEvs C W xs)) (hkw : PK X kws (tEvs C W ys)) (hx : xs.cnt = some np) (hy : ys.cnt = some ks.length) (hz : zs = Exs.app xs ys)
    (hall : (backToKw pos (keywordEach kws X.env)).all (·.1.isSome) = true := by rfl) (hks : (backToKw pos (keywordEach kws X.env)).filterMap (·.1) = ks := by rfl)
    (hdb : (n == ("__debug__" : Str)) = false := by decide) (he : starEach (e :: es) X.env = (false, eval e X.env) :: starEach es X.env := by rfl)
    (hpl : ((backTo pos (starEach (e :: es) X.env)).any (·.1) || (backToKw pos (keywordEach kws X.env)).any (·.1.isNone)) = false := by rfl) :
    PE X (.Call (.Name n pf) (e :: es) kws pos) (tEv C W (.pn (pNX (den l m b)) zs)) := by
  subst hz
  refine PE.imp (pe_callN (E := fun _ _ _ => False) F hr hg hm hk hb (fun _ _ _ _ e s' I c => tk e s' (XE.of_call I (fun _ _ _ h => h.elim) c)) ha hkw hall hks hdb he hpl) ?_
  rintro σ H Q ⟨ad, S, ρ, s, r, q⟩
  exact kw_step den_len s r q (fun _ _ _ _ h => evs_cnt xs hx h) (fun _ _ _ _ h => evs_cnt ys hy h)
theorem kbn_mk {K : PySem.W.Frag} {fd : FuncData} {ps ks : List Str} {n : Nat} (h : ∀ (s : Shared) (us ws : List Value), us.length = n → ws.length = ks.length → BindsTo s fd ⟨us, ks.zip ws⟩ (ps.zip (us ++ ws))) : KBn K fd ps n ks (fun us ws => us ++ ws) (fun vs zs => vs ++ zs) :=
  ⟨fun s us ws _ h1 h2 => h s us ws h1 h2, fun r1 r2 => r1.append r2⟩
end Nx

set_option Elab.async false
set_option linter.all false
set_option maxRecDepth 100000
set_option maxHeartbeats 3200000
set_option autoImplicit false
/-! set(xs), xs a list of ints; sorted of it -/
namespace SetL
open PySem PySem.Spec PyProof.Rows L2
section
variable {P : Program} {w : World} {A : Around} {E : Value → Shared → Prop} {s : Shared}
def setOb (w : World) : Obj := { cls := .type "set", dict := none, data := .set #[] 0 (.fresh 0 0 (!w.params.followText "set-order")) }
def Made (w : World) (s : Shared) (ns : List Int) (s2 : Shared) : Prop :=
  ∃ (h2 : Heap) (t2 c2 : Nat), s2 = { s with heap := h2, toks := t2 } ∧ SetR w h2 s.heap.objs.size (fun z => decide (z ∈ ns)) c2 ∧
    c2 ≤ ns.length ∧ ∀ x ob, s.heap.get? x = some ob → h2.get? x = some ob
def Ends (w : World) (s : Shared) (ns : List Int) (E : Value → Shared → Prop) : Result → Shared → Prop :=
  wants (fun v s2 => v = .none ∧ Made w s ns s2) E
theorem set_run {l : Addr} {us : List Value} (ns : List Int) {Q : Value → Shared → Prop} (hh : A.handled = none) (hl : s.heap.IsList l us.toArray)
    (hi : IntsAre us ns) (hb : ns.length + 1 < scanBound)
    (hq : ∀ s2, Made w s ns s2 → Q (.ref s.heap.objs.size) s2) :
    wpAny (model P w) A (call (.type "set") [.ref l]) Q E s := by
  have len : us.toArray.size = ns.length := by
    have := IntsAre.length hi
    rw [List.size_toArray]; exact this
  obtain ⟨q1, q2, order⟩ := F.called_set.mro
  have a1 := F.called_set.made
  have a2 := F.called_set.sub
  have a3 := F.called_set.notType
  have a4 := F.called_set.canCreate
  have a5 := F.typeCall_set_1 (.ref l)
  refine wpAny_call (codeAny_of_tree ?_)
  show wpAny _ _ (callAny (.type "set") _) _ _ _
  refine wpAny_pure ⟨Code.quiet_builtin _ (by decide +kernel), ?_⟩
  refine codeAny_builtin F.entry_type_call ?_
  rw [Around.under_plain (weight_type_call_type "set" [.ref l] []) rfl]
  repeat (any_goals (first | assumption | wp_step))
  refine codeAny_mono (code_set_led1 (.ref l) (E := E)
    (Q₁ := fun v s1 => v = .ref s.heap.objs.size ∧ s1 = { s with heap := s.heap.push (setOb w) }) ⟨rfl, rfl⟩) fun res s1 hres => ?_
  cases res with
  | error _ => exact hres
  | ok fl =>
    cases fl with
    | ret v =>
      obtain ⟨rfl, rfl⟩ := hres
      have here : (s.heap.push (setOb w)).get? s.heap.objs.size = some (setOb w) := Heap.get?_push_size _ rfl
      have ty : Shared.TypeIs { s with heap := s.heap.push (setOb w) } (.ref s.heap.objs.size) "set" := ⟨_, here, rfl⟩
      have b1 := F.called_set.init.lookup
      have b2 := F.called_set.init.bind (.ref s.heap.objs.size)
      repeat (any_goals (first | assumption | wp_step))
      refine codeAny_mono (codeAny_call_builtin (R := Ends w s ns E) F.called_set.init.plain F.entry_set_init
        (check_set_init_1 ty ?_)) fun res2 s2 hres2 => ?_
      · obtain ⟨ol, hol, hcl, nl, hdl⟩ := hl
        obtain ⟨c1, d1, e1, f1⟩ := ol
        simp only at hcl hdl
        subst hcl; subst hdl
        have hol2 : (s.heap.push (setOb w)).get? l = some { cls := .type "list", dict := d1, data := .seq us.toArray nl, slots := f1 } := Heap.get?_push_of_some _ hol
        have lst : (s.heap.push (setOb w)).IsList l us.toArray := ⟨_, hol2, rfl, nl, rfl⟩
        have s1 := F.sub_list_set
        have s2 := F.sub_list_frozenset
        have s3 : (Value.type "list" == Value.type "dict") = false := by decide
        unfold Builtin.«set.__init__» noKeywords Builtin.Frozenset.updateFrom
        generalize hI : pyIter = I0
        wp_walk
        subst hI
        refine wpAny_pyIter_list lst ?_
        refine wpAny_bind (wpAny_runValue ?_)
        have lb : l < s.heap.objs.size := Heap.lt_size hol
        have hh3 : A.in1.in1.in1.handled = none := by simp [hh]
        have sz : (s.heap.push (setOb w)).objs.size = s.heap.objs.size + 1 := Heap.size_push ..
        have ne : l ≠ (s.heap.push (setOb w)).objs.size := by
          rw [sz]; exact Nat.ne_of_lt (Nat.lt_succ_of_lt lb)
        have nin : s.heap.objs.size ∉ [(s.heap.push (setOb w)).objs.size, l] := by
          rw [sz]
          simp only [List.mem_cons, List.not_mem_nil, or_false, not_or]
          exact ⟨Nat.ne_of_lt (Nat.lt_succ_self _), Nat.ne_of_gt lb⟩
        have vals : ∀ (i : Nat) (v : Value), us.toArray[i]? = some v → ∃ k t, ns[i]? = some k ∧ v = .int k t := fun i v hv => by
          have hi' : i < ns.length := by rw [← len]; exact (Array.getElem?_eq_some_iff.mp hv).1
          obtain ⟨t, e⟩ := PyProof.Rows.IntsAre.int_at hi i v (by simpa using hv)
          exact ⟨ns[i], t, List.getElem?_eq_getElem hi', by rw [e, List.getD_eq_getElem?_getD, List.getElem?_eq_getElem hi'] <;> rfl⟩
        refine set_update_ints ((Walks.list hh3 _ l ne us.toArray).toS) s.heap.objs.size nin ns len hb vals
          (us.toArray.size - 0) 0 _ (by omega) (Nat.zero_le _) ⟨⟨_, Heap.get?_push_size _ rfl, rfl, rfl⟩, (lst.push _)⟩ ?start ?fin
        case start => exact ⟨0, Nat.le_refl _, ((setR_fresh w).at fun o e => Heap.get?_push_of_some _ e).congr fun j => by simp⟩
        case fin =>
          intro s3 c3 mv hc hS
          obtain ⟨h3, g3, d3, t3, o3⟩ := s3
          have eg : g3 = s.gens := mv.gens
          have ed : d3 = s.drawn := mv.drawn
          have eo : o3 = s.os := mv.os
          subst eg; subst ed; subst eo
          refine wpAny_pure ?_
          show wpAny _ _ (ret Value.none) _ _ _
          refine wpAny_pure ⟨rfl, h3, t3, c3, rfl, hS, by rw [← len]; exact hc, fun x ob hx => ?_⟩
          have x1 : x ≠ s.heap.objs.size := Nat.ne_of_lt (Heap.lt_size hx)
          have x2 : x ≠ (s.heap.push (setOb w)).objs.size := by
            rw [sz]; exact Nat.ne_of_lt (Nat.lt_succ_of_lt (Heap.lt_size hx))
          refine mv.heap x ob ?_ (Heap.get?_push_of_some _ (Heap.get?_push_of_some _ hx))
          simp only [List.mem_cons, List.not_mem_nil, or_false, not_or]
          exact ⟨x1, x2⟩
      · cases res2 with
        | error _ => exact hres2
        | ok fl2 =>
          cases fl2 with
          | ret v2 =>
            obtain ⟨rfl, made⟩ := hres2
            repeat (any_goals (first | assumption | wp_step))
            exact hq _ made
          | next => exact False.elim hres2
          | brk => exact False.elim hres2
          | cont => exact False.elim hres2
    | next => exact False.elim hres
    | brk => exact False.elim hres
    | cont => exact False.elim hres
end
end SetL

namespace Nx
open PySem L2 PySem.Spec PyProof.Rows
variable {C : CC} {ad ad1 ad' : List Addr} {H H1 H' : Hp} {S S1 S' : Sto} {a b p : Addr}
variable {X : Cx} {W : WX} {e : PySem.Expr} {x : Ex} {pos : Pos}
def gSortSet : V → Sto → Option Ob := fun a S => match lstInts S a with
  | some ns => if ns.length < 60 then some (.lst ((sortI (dd ns)).map V.int)) else none
  | none => none
theorem lt_le {l : List Int} (h : l.Pairwise (· < ·)) : l.Pairwise (· ≤ ·) := h.imp fun h => Int.le_of_lt h
theorem lt_nodup {l : List Int} (h : l.Pairwise (· < ·)) : l.Nodup := h.imp fun h => Int.ne_of_lt h
theorem dd_len : ∀ l : List Int, (dd l).length ≤ l.length
  | [] => Nat.le_refl _
  | x :: r => by
    unfold dd
    have := dd_len r
    split
    · simp; omega
    · simp; omega
theorem xe_sortedSet (hK : C.K = X.K) {pp p2 q : Pos} (hc : X.calm = true) (hg : Gl X "sorted") (hm : X.mg "sorted" = none) (hg2 : Gl X "set") (hm2 : X.mg "set" = none) (ha : PE X e (tEv C W x))
    (na : starEach [e] X.env = (false, eval e X.env) :: starEach [] X.env := by rfl)
    (na2 : starEach [.Call (.Name "set" p2) [e] [] q] X.env = (false, eval (.Call (.Name "set" p2) [e] [] q) X.env) :: starEach [] X.env := by rfl) :
    PE X (.Call (.Name "sorted" pp) [.Call (.Name "set" p2) [e] [] q] [] pos) (tEv C W (.pn (pn1 gSortSet) (.cons x .nil))) := by
  refine ⟨fun pins s σ H Q I h => ?_⟩
  obtain ⟨ad, S, ρ, sm, r, h⟩ := h
  obtain ⟨ad, S, ρ, sm, r, h⟩ := pn_one (noX_pn1 gSortSet) sm r h
  have A := ha.run pins s σ H _ I ⟨ad, S, ρ, sm, r, h⟩
  refine Call_ (ld_blt (u := .builtin "sorted") I hg hm (by decide +kernel) ?_)
  refine PyProof.Rows.callWith_builtin1 (PyProof.Rows.args_cons ?_ na2) rfl rfl
  refine Call_ (ld_blt I hg2 hm2 boot_set ?_)
  refine PyProof.Rows.callWith_type1 (PyProof.Rows.args_cons (thn A ?_) na) na rfl
  rintro v s1 ⟨w, H1, I1, r1, h1⟩
  obtain ⟨ad1, S1, v', u, o, e1, sm1, rv, hg', k⟩ := rp_new1 h1
  cases e1
  unfold gSortSet at hg'
  cases hx : lstInts S1 v' with
  | none => simp only [hx] at hg'; cases hg'
  | some ns =>
    simp only [hx] at hg'
    split at hg'
    · rename_i hl
      cases hg'
      obtain ⟨b, rfl, hs⟩ := lst_ints (K := X.K) hK sm1 hx rv
      cases r1
      obtain ⟨its, rvs, pl, hz⟩ := I1.list hs
      have hi := rvs.ints
      refine PyProof.Rows.args_nil (SetL.set_run ns (I1.ok.hd hc) pl.isList hi (by unfold scanBound; omega) fun s2 made => ?_)
      obtain ⟨h2, t2, c2, rfl, R, hc2, keep⟩ := made
      refine PyProof.Rows.args_nil (sorted_set (s := { s1 with heap := h2, toks := t2 }) R (I1.ok.hd hc) (by omega) fun s3 p3 out c3 ms k3 g3 o3 hsz hget hms hlt hmem hlen => ?_)
      have I2 : Inv X pins σ H1 { s1 with heap := h2, toks := t2 } := I1.kept keep
      have hp3 : H1 p3 = none := I2.hok.fresh hsz
      obtain ⟨hh, gg, dd', tt, oo⟩ := s3
      simp only at g3 o3 hget k3
      have em : ms = sortI (dd ns) := by
        have n1 : ms.Nodup := lt_nodup hlt
        have n2 : (sortI (dd ns)).Nodup := (sortI_perm (dd ns)).nodup_iff.mpr (nodup_dd ns)
        refine sorted_unique ((List.perm_ext_iff_of_nodup n1 n2).mpr fun k => ?_) (lt_le hlt) (sortI_sorted _)
        rw [hmem k, (sortI_perm (dd ns)).mem_iff, mem_dd]
        exact decide_eq_true_iff
      subst em
      have ml : ((sortI (dd ns)).map V.int).length ≤ sizeLine := by
        rw [List.length_map, (sortI_perm _).length_eq, sizeLine_eq]
        have := dd_len ns
        omega
      have new : ObjOk X.prog X.w (upd H1 p3 (.lst ((sortI (dd ns)).map V.int))) hh p3 (.lst ((sortI (dd ns)).map V.int)) :=
        ⟨ml, out.toList, c3, vals_of_ints hms, by rw [Array.toArray_toList]; exact hget⟩
      have I3 : Inv X pins σ (upd H1 p3 (.lst ((sortI (dd ns)).map V.int))) { s1 with heap := hh, toks := tt } := I2.laid (t' := tt) k3 hsz new
      subst g3 o3
      have I4 : Inv X pins σ (upd H1 p3 (.lst ((sortI (dd ns)).map V.int))) { heap := hh, gens := s1.gens, drawn := dd', toks := tt, os := s1.os } :=
        ⟨I3.ok, I3.os, I3.bare, I3.base, I3.loc, I3.cell, I3.free, I3.freeC, I3.pin, I3.hok, I3.len⟩
      refine ⟨.ref p3, _, I4, rfl, alloc_out sm1 k (new_lst ?_) p3 hp3⟩
      have : ∀ ks : List Int, RVs ad1 (ks.map V.int) (ks.map V.int) := by
        intro ks
        induction ks with
        | nil => exact .nil
        | cons m ks ih => exact .cons rfl ih
      exact this _
    · cases hg'
end Nx

set_option Elab.async false
set_option linter.all false
set_option maxRecDepth 100000
set_option autoImplicit false
/-! own exceptions whose __init__ says super().__init__(text) and keeps one field -/
namespace Nx
open PySem L2 PySem.W PySem.Calls PyProof.Rows
section
variable {prog : Program} {w : World} {A : Around} {E : Value → Shared → Prop} {h : Heap} {g : Array GenState} {d : Drawn} {t : Nat} {os : OsState}
theorem call_mw {nm q : Str} {C N e u t0 : Addr} {bs bm : List Value} {hdct : Bool} {sn : List Str} {sub : List Value} {ab : Bool} {col : Option Bool} {dd : Option Addr} {k0 k1 k2 k3 k5 : Option Value} {rest : List Value} {Q : Value → Shared → Prop}
    (hC : h.get? C = some (excClassObj nm q C N bs bm hdct sn sub ab col dd k0 k1 k2 k3 k5 "ValueError.__new__")) (he : h.get? e = some (PySem.HandSPX.excO C t0)) (hu : h.get? u = some (kxs_mw "ValueError.__init__" e)) (hrest : rest.length ≤ sizeLine)
    (hq : ∀ h' t1, (∀ b o, b ≠ e → h.get? b = some o → h'.get? b = some o) → h'.get? e = some (PySem.HandSPX.excO C t1) → Q .none ⟨h', g, d, t, os⟩) :
    wpAny (model prog w) A (call (.ref u) rest) Q E ⟨h, g, d, t, os⟩ := by
  refine wpAny_call (codeAny_of_tree ?_)
  show wpAny _ A.in1 (callAny (.ref u) ⟨rest, []⟩) _ _ _
  simp only [callAny]
  refine wpAny_bind (wpAny_load hu ?_)
  simp only [kxs_mw, show (Value.type "method-wrapper" == Value.type "method" || Value.type "method-wrapper" == Value.type "builtin_function_or_method" || Value.type "method-wrapper" == Value.type "method-wrapper") = true by decide, if_true]
  refine PySem.W.KFB.if_so (by decide) ?_
  refine wpAny_bind (check_bound_init PySem.F.excBase_ValueError.toExcCallFacts hC he rfl ?_)
  refine wpAny_bind (wpAny_pure (wpAny_pure ?_))
  refine ⟨Code.quiet_builtin _ (by decide +kernel), codeAny_builtin PySem.F.excBase_ValueError.initEntry ?_⟩
  rw [Around.under_plainId PySem.F.excBase_ValueError.init.plain _]
  wp_walk
  refine hq _ h.objs.size (fun b o hb ho => ?_) ?_
  · rw [Heap.get?_update_other _ _ (Ne.symm hb)]
    exact Heap.get?_push_of_some _ ho
  · rw [Heap.get?_update_self _ (Heap.get?_push_of_some _ he) rfl]
    rfl
end
/-- what the written part says of such an __init__ -/
structure SupI (P : Program) (K : Frag) (C fI cc cda : Addr) (qual : Str) (params : Arguments) (scope : Scope) (sf fv f : Str) : Prop where
  par0 : (params.posonlyargs ++ params.args).head?.map (·.arg) = some sf
  sup : scope.names.lookup ("super" : Str) = some .globalImplicit
  cls : scope.names.lookup ("__class__" : Str) = some .free
  sl : scope.names.lookup sf = some .local
  fl : scope.names.lookup fv = some .local
  sd : (sf == ("__debug__" : Str)) = false
  fvd : (fv == ("__debug__" : Str)) = false
  nef : (fv == sf) = false
  nocell : ∀ x ∈ scope.names, x.2 ≠ .cell
  co : scope.isCoroutine = false
  gen : scope.isGenerator = false
  kind : scope.kind = .function
  code : codeIn K (.ref cda) qual = true
  file : ∃ ccl cdd vs ccs file tf, K.lookup cda = some ⟨ccl, cdd, .fields vs, ccs⟩ ∧ vs[2]? = some (.str file tf) ∧ ((P.main.file : Str) == file) = true
  cell : ∃ cl cld csl, K.lookup cc = some ⟨cl, cld, .cell (some (.ref C)), csl⟩
  sub : mroIn K C (.ref C) = some true
  glob : nsIn K mainGlobals "super" = some none
  top : (P.main.scope.names.lookup ("super" : Str)).isSome = false
  opq : nsIn K cStatics "thirdparty.any" = some none
  met : ks_superIn K C C "__init__" = some (some (.builtin "ValueError.__init__"))
  vErr : subIn K (.ref C) (.type "ValueError") = some true
  fd : findIn K (.ref C) f = some none
section
variable {P : Program} {w : World} {K : Frag} {mg : Str → Option Value} {base : Heap} {A : Around} {R : Result → Shared → Prop} {hq : Heap} {g : Array GenState} {d : Drawn} {t : Nat} {os : OsState}
variable {C fI cc cda e t0 : Addr} {name qual sf fv f txt : Str} {params : Arguments} {body : List Stmt} {scope : Scope} {dV kV doc pm ct oc u : Value} {an od : Option Addr} {osl : Array (Option Value)} {ck : Nat} {pa p0 p1 p2 p3 p4 p5 p6 p7 p8 : Pos}
theorem init_sup (Md : Mod K mg base) (bk : ∀ b o, base.get? b = some o → hq.get? b = some o) (T : OexC K C) (Z : SupI P K C fI cc cda qual params scope sf fv f)
    (he : hq.get? e = some (PySem.HandSPX.excO C t0)) (hbe : base.get? e = none) (lk : K.lookup fI = some ⟨oc, od, .func (ksFn name qual params [.Expr (.Call (.Attribute (.Call (.Name "super" p0) [] [] p1) "__init__" p2) [.Constant (.str txt) ck pa] [] p3) p4, .Assign [.Attribute (.Name sf p5) f p6] (.Name fv p7) p8] scope dV kV doc pm an (.ref cda) ct cc), osl⟩)
    (hroom : A.depth < recursionLimit)
    (hb : L2.Binds K (ksFn name qual params [.Expr (.Call (.Attribute (.Call (.Name "super" p0) [] [] p1) "__init__" p2) [.Constant (.str txt) ck pa] [] p3) p4, .Assign [.Attribute (.Name sf p5) f p6] (.Name fv p7) p8] scope dV kV doc pm an (.ref cda) ct cc) [sf, fv] [])
    (hev : ∀ env : Env, ∃ pl, eval (.Call (.Attribute (.Call (.Name "super" p0) [] [] p1) "__init__" p2) [.Constant (.str txt) ck pa] [] p3) env = (do
      let ov ← attributeBase (.Call (.Name "super" p0) [] [] p1) "__init__" env (eval (.Call (.Name "super" p0) [] [] p1) env)
      standAt p2.atName
      let (f, first) ← holding [ov] (getMethod ov "__init__" pl)
      callWith p3 f first (backTo p3 (starEach [.Constant (.str txt) ck pa] env)) []))
    (hsw : ∀ env : Env, swapsWith (.Call (.Attribute (.Call (.Name "super" p0) [] [] p1) "__init__" p2) [.Constant (.str txt) ck pa] [] p3) none p4.line env = pure false)
    (hsw2 : ∀ env : Env, swapsWith (.Name fv p7) (some (.Attribute (.Name sf p5) f p6)) p8.line env = pure false)
    (hR : ∀ h' tk dx t1, (∀ b o, b ≠ e → hq.get? b = some o → h'.get? b = some o) → hq.get? dx = none → dx ≠ e → h'.get? e = some { cls := .ref C, dict := some dx, data := .fields #[.ref t1, .none, .none, .none, .bool false, .none] } →
      h'.Ns1 dx (fun y => if y = f then some u else none) → R (.ok (.ret .none)) ⟨h', g, d, tk, os⟩) :
    codeAny (model P w) A (.call (.ref fI) ⟨[.ref e, u], []⟩) R ⟨hq, g, d, t, os⟩ := by
  obtain ⟨nm, q, N, bs, bm, sn, sub, ab, col, dd, k0, k1, k2, k3, k5, hC, hbm⟩ := T.cls
  have KX : K.In hq := Md.kin.keeps bk
  have hbind := hb ⟨hq, g, d, t, os⟩ [.ref e, u] KX rfl
  refine PySem.ks_codeAny_call_defAt (binds := [(sf, .ref e), (fv, u)]) hroom (KX _ _ lk) rfl (Md.nolimit.keeps bk) (codeRec_of KX Z.code) rfl hbind Z.nocell (fun y hy => ?_) (fun h₀ hns hk => ?_) Z.co Z.gen Z.kind
  · simp only [List.mem_cons, List.not_mem_nil, or_false] at hy
    rcases hy with rfl | rfl
    · exact Z.sl
    · exact Z.fl
  · have X0 : K.In h₀ := KX.keeps hk
    obtain ⟨mb, hmb, hmb2⟩ := Md.blt
    obtain ⟨ccl, cdd, vs, ccs, file, tf, hc1, hc2, hc3⟩ := Z.file
    obtain ⟨cl, cld, csl, hcell⟩ := Z.cell
    obtain ⟨ar, har, hsf⟩ : ∃ ar, (params.posonlyargs ++ params.args).head? = some ar ∧ ar.arg = sf := by
      have := Z.par0
      cases z : (params.posonlyargs ++ params.args).head? with
      | none => rw [z] at this; cases this
      | some ar => rw [z] at this; exact ⟨ar, rfl, Option.some.inj this⟩
    have hbm1 : ([(sf, Value.ref e), (fv, u)].reverse).lookup sf = some (.ref e) := by
      have := Z.nef
      simp only [List.reverse_cons, List.reverse_nil, List.nil_append, List.cons_append, List.lookup]
      rw [show (sf == fv) = false by rw [Bool.beq_comm]; exact this]
      simp
    have hbm2 : ([(sf, Value.ref e), (fv, u)].reverse).lookup fv = some u := by
      simp [List.lookup]
    have bk0 : ∀ b o, base.get? b = some o → h₀.get? b = some o := fun b o z => hk _ _ (bk _ _ z)
    have hin : interactive (ksEnv qual scope hq.objs.size fI (.ref cda) cc) = false := by
      show (scope.kind == ScopeKind.module && _) = false
      rw [Z.kind]; rfl
    obtain ⟨pl, hev⟩ := hev (ksEnv qual scope hq.objs.size fI (.ref cda) cc)
    refine PySem.ks_wpAt_execs_cons (PySem.ks_wpAt_Expr_any (PySem.ks_wpAt_MethodCall (pl := pl) ?_ hev) hin (hsw _))
    refine PySem.ks_wpAt_super_base (env := ksEnv qual scope hq.objs.size fI (.ref cda) cc) Z.sup Z.cls (by decide) rfl (X0 _ _ lk) rfl har rfl (X0 _ _ hc1) rfl hc2 hc3 Z.top ?_
    refine ks_loadName_global Z.kind Z.sup (loadGlobal_builtin (env := ksEnv qual scope hq.objs.size fI (.ref cda) cc) (Md.glob.keeps bk0) (mg_none_of Md.kin Md.glob Z.glob) (hmb.keeps bk0) ((hmb2 _ (by decide +kernel)).trans (by decide +kernel)) ⟨rfl, ?_⟩)
    refine wpAny_loadName_free Z.kind Z.cls rfl ⟨_, X0 _ _ hcell, rfl⟩ ?_
    refine wpAny_loadName_local Z.kind (by rw [hsf]; exact Z.sl) hns (v := .ref e) (by rw [hsf]; exact hbm1) ?_
    refine PySem.ks_wpAny_isType_cls (X0 _ _ hC) rfl ⟨rfl, ?_⟩
    refine PySem.ks_wpAny_call_super (X0 _ _ hC) rfl (hk _ _ he) rfl (fun c z => by cases z) (looks_mroIn X0 Z.sub) (fun h1 hso k1' => ?_)
    have X1 : K.In h1 := X0.keeps k1'
    have he1 : h1.get? e = some (PySem.HandSPX.excO C t0) := k1' _ _ (hk _ _ he)
    have hcl : clsIn K C = some { name := nm, bases := bs, mro := .ref C :: bm, ns := N, qualname := q, hasDict := true, slotNames := sn, subclasses := sub, abstract := ab, collection := col, hasDel := false } := by unfold clsIn; rw [hC] <;> rfl
    have hxC : e ≠ C := fun z => by
      have y := KX _ _ hC
      rw [← z, he] at y
      cases y
    have hI : Looks (model P w) h1 (isInstance (.ref e) (.type "ValueError")) true := (show InstAt h1 e (PySem.HandSPX.excO C t0) C none from ⟨he1, rfl, rfl, trivial⟩).type.andThen (looks_subIn X1 Z.vErr)
    have met := Z.met
    unfold ks_superIn at met
    rw [hcl] at met
    refine kxs_getMethod kxs_ValueError hso (looks_opaque X1 Z.opq) (l₀ := .ref C :: bm) (fun A Q E s k q => wpAny_bind ((looks_clsIn X1 hcl) A _ E s k (wpAny_pure q))) rfl X1 met hI hxC (by decide) ?_
    have k2 : ∀ b o, h1.get? b = some o → (h1.push (kxs_mw "ValueError.__init__" e)).get? b = some o := fun b o z => Heap.get?_push_of_some _ z
    have hmw : (h1.push (kxs_mw "ValueError.__init__" e)).get? h1.objs.size = some (kxs_mw "ValueError.__init__" e) := Heap.get?_push_at rfl rfl
    have X2 : K.In (h1.push (kxs_mw "ValueError.__init__" e)) := X1.keeps k2
    refine kxs_callWith (i := "ValueError.__init__") (x := e) rfl (evalArgs_plain (spliced_cons (wpAny_Constant_str (k := ck) (pos := pa) (Calls.spliced_nil ⟨hmw, ?_⟩))))
    refine call_mw (X2 _ _ hC) (k2 _ _ he1) hmw (by simp [sizeLine_eq]) (fun h3 t1 k3 he3 => ?_)
    have hLe : hq.objs.size ≠ e := fun z => absurd (Heap.lt_size he) (by rw [z]; exact Nat.lt_irrefl _)
    have hns3 : h3.Ns hq.objs.size (fun x => [(sf, Value.ref e), (fv, u)].reverse.lookup x) := hns.at fun o z => k3 _ _ hLe (k2 _ _ (k1' _ _ z))
    have X3 : K.In h3 := fun b o z => k3 _ _ (fun y => by
      have := Md.kin _ _ z
      rw [y, hbe] at this
      cases this) (X2 _ _ z)
    refine PySem.ks_wpAt_execs_cons (PySem.wpAt_of_wpAny (plainObj_wpAny_Assign_Attribute (wpAny_Name (wpAny_loadName_local Z.kind Z.fl hns3 hbm2 (wpAny_Name (wpAny_loadName_local Z.kind Z.sl hns3 hbm1 ?_) Z.sd)) Z.fvd) (hsw2 _)))
    refine set_plain X3 (ox := { cls := .ref C, dict := none, data := .fields #[.ref t1, .none, .none, .none, .bool false, .none] }) (od := none) ⟨he3, rfl, rfl, trivial⟩ T.sa ?_
    refine PySem.HandSPX.exc_osa X3 he3 hcl (show PySem.HandSPX.refsVE (.ref C :: bm) = true from hbm) rfl Z.fd (fun h4 tk4 dx k4 dn dne hx4 hn4 => ?_)
    refine PySem.wpAt_of_wpAny (wpAny_execs_nil ?_)
    refine hR h4 tk4 dx t1 (fun b o hb z => k4 _ _ hb (k3 _ _ hb (k2 _ _ (k1' _ _ (hk _ _ z))))) ?_ dne hx4 hn4
    cases z : hq.get? dx with
    | none => rfl
    | some o =>
      exact absurd (Heap.lt_size (k3 _ _ dne (k2 _ _ (k1' _ _ (hk _ _ z))))) (Nat.not_lt.mpr dn)
end
end Nx

set_option Elab.async false
set_option linter.all false
set_option maxRecDepth 100000
set_option autoImplicit false
namespace Nx
open PySem L2 PySem.W PySem.Calls PyProof.Rows
abbrev supB (sf fv f txt : Str) (ck : Nat) (pa p0 p1 p2 p3 p4 p5 p6 p7 p8 : Pos) : List Stmt :=
  [.Expr (.Call (.Attribute (.Call (.Name "super" p0) [] [] p1) "__init__" p2) [.Constant (.str txt) ck pa] [] p3) p4, .Assign [.Attribute (.Name sf p5) f p6] (.Name fv p7) p8]
/-- what is said of the text, whatever the frame -/
structure SupT (sf fv f txt : Str) (ck : Nat) (pa p0 p1 p2 p3 p4 p5 p6 p7 p8 : Pos) : Prop where
  ev : ∀ env : Env, ∃ pl, eval (.Call (.Attribute (.Call (.Name "super" p0) [] [] p1) "__init__" p2) [.Constant (.str txt) ck pa] [] p3) env = (do
      let ov ← attributeBase (.Call (.Name "super" p0) [] [] p1) "__init__" env (eval (.Call (.Name "super" p0) [] [] p1) env)
      standAt p2.atName
      let (f, first) ← holding [ov] (getMethod ov "__init__" pl)
      callWith p3 f first (backTo p3 (starEach [.Constant (.str txt) ck pa] env)) [])
  sw : ∀ env : Env, swapsWith (.Call (.Attribute (.Call (.Name "super" p0) [] [] p1) "__init__" p2) [.Constant (.str txt) ck pa] [] p3) none p4.line env = pure false
  sw2 : ∀ env : Env, swapsWith (.Name fv p7) (some (.Attribute (.Name sf p5) f p6)) p8.line env = pure false
/-- an own exception, made of one argument -/
def tMkS (C : Addr) (f : Str) (ta : TA) : L2.St → Hp → XK → Prop := fun σ H Q => ta σ H fun vs H1 => ∃ y, vs = [y] ∧ ∀ d, H1 d = none → Q (.ref C) (some d) (upd H1 d (.xd [(f, y)]))
section
variable {X : Cx} {C fI cc cda : Addr} {name qual sf fv f txt x : Str} {params : Arguments} {scope : Scope} {dV kV doc pm ct oc : Value} {an od : Option Addr} {osl : Array (Option Value)} {ck k : Nat} {pa p0 p1 p2 p3 p4 p5 p6 p7 p8 p pos : Pos} {e : Expr} {ta : TA}
theorem pmk_sup (T : OexC X.K C) (iC : findIn X.K (.ref C) "__init__" = some (some (.ref fI))) (tI : typeIn X.K (.ref fI) = some (.type "function")) (Z : SupI X.prog X.K C fI cc cda qual params scope sf fv f) (Y : SupT sf fv f txt ck pa p0 p1 p2 p3 p4 p5 p6 p7 p8)
    (lk : X.K.lookup fI = some ⟨oc, od, .func (ksFn name qual params (supB sf fv f txt ck pa p0 p1 p2 p3 p4 p5 p6 p7 p8) scope dV kV doc pm an (.ref cda) ct cc), osl⟩)
    (hb : L2.Binds X.K (ksFn name qual params (supB sf fv f txt ck pa p0 p1 p2 p3 p4 p5 p6 p7 p8) scope dV kV doc pm an (.ref cda) ct cc) [sf, fv] [])
    (hr : Room (k + 2) X.A) (hg : Gl X x) (hm : X.mg x = some (.ref C)) (ha : PA X [e] ta)
    (hdb : (x == ("__debug__" : Str)) = false := by decide) (he : starEach [e] X.env = (false, eval e X.env) :: starEach [] X.env := by rfl) (hpl : (backTo pos (starEach [] X.env)).any (·.1) = false := by rfl) :
    PMk X (.Call (.Name x p) [e] [] pos) (tMkS C f ta) := by
  intro pins s σ H Q I h
  obtain ⟨nm, q, N, bs, bm, sn, sub, ab, col, dd, k0, k1, k2, k3, k5, hC, hbm⟩ := T.cls
  refine wpAny_Call_Name_kw (ld_glob I hg hm ?_ hdb)
  refine callWith_K (h₀ := X.base) I.ok.mod.kin T.kC (thn (ha.run pos pins s σ H _ I h) fun us s1 ⟨vs, H1, I1, r1, q1⟩ => ⟨I1.kIn, ?_⟩) he hpl
  obtain ⟨y, rfl, q1⟩ := q1
  obtain ⟨u, ru, rfl⟩ : ∃ u, RelV y u ∧ us = [u] := by
    cases r1 with
    | cons a b => cases b; exact ⟨_, a, rfl⟩
  show wpAny _ _ (call (.ref C) [u]) _ _ _
  obtain ⟨hp, g, dr, tk, os⟩ := s1
  have kk : ∀ b o, hp.get? b = some o → ((hp.push (kdv_tup [u])).push (PySem.HandSPX.excO C hp.objs.size)).get? b = some o := fun b o e => Heap.get?_push_of_some _ (Heap.get?_push_of_some _ e)
  have hget : ((hp.push (kdv_tup [u])).push (PySem.HandSPX.excO C hp.objs.size)).get? (hp.objs.size + 1) = some (PySem.HandSPX.excO C hp.objs.size) := by heap_get
  have hne : hp.get? (hp.objs.size + 1) = none := by
    cases z : hp.get? (hp.objs.size + 1) with
    | none => rfl
    | some o => exact absurd (Heap.lt_size z) (Nat.not_lt.mpr (Nat.le_succ _))
  have hbe : X.base.get? (hp.objs.size + 1) = none := by
    cases z : X.base.get? (hp.objs.size + 1) with
    | none => rfl
    | some o =>
      have := (I1.bs _ _ z).1
      rw [hne] at this; cases this
  refine wpAny_call (PySem.HandSPX.call_own PySem.F.excBase_ValueError (fun Y => PySem.HandSPX.refsVE_contains Y bm hbm) (I1.kIn _ _ hC) (looks_findIn I1.kIn iC) (fun self => bind_fn I1.kIn self tI) (by simp [sizeLine_eq])
    (init_sup I1.ok.mod (fun b o z => kk _ _ (I1.bs b o z).1) T Z hget hbe lk (hr.make C [u] []).depth hb Y.ev Y.sw Y.sw2 fun h' tk' dx t1 kp nd ne hx hn => ⟨rfl, ?_⟩))
  obtain ⟨G, g1', g2'⟩ := restrict h' fun b => decide (b ≠ hp.objs.size + 1)
  have gk : ∀ b, b ≠ hp.objs.size + 1 → G.get? b = h'.get? b := fun b hb => g1' b (decide_eq_true hb)
  have ge : G.get? (hp.objs.size + 1) = none := g2' _ (by simp)
  have hd : hp.get? dx = none := by
    cases z : hp.get? dx with
    | none => rfl
    | some o => rw [kk _ _ z] at nd; cases nd
  have hnd : H1 dx = none := I1.hok.gone hd
  have kG : ∀ b o, hp.get? b = some o → G.get? b = some o := fun b o z => by
    have nb : b ≠ hp.objs.size + 1 := fun w => by rw [w, hne] at z; cases z
    rw [gk b nb]
    exact kp b o nb (kk b o z)
  have J : L2.Inv X pins σ (upd H1 dx (.xd [(f, y)])) ⟨G, g, dr, tk', os⟩ :=
    I1.laidN (t' := tk') kG hd hnd ⟨_, hn.at fun o z => (gk dx ne).trans z, relO_put (fs := []) ru fun _ => True.intro⟩
  refine ⟨hp.objs.size + 1, _, _, ⟨G, g, dr, tk', os⟩, _, .ref C, some dx, rfl, J, fun b o z => ?_, ge, hx, ⟨rfl, rfl⟩, rfl, rfl, ?_, rfl, I1.bare, raises_own T.exC T.tyC, q1 dx hnd⟩
  · by_cases hb : b = hp.objs.size + 1
    · rw [hb, ge] at z; cases z
    · exact (gk b hb).symm.trans z
  · rw [upd_ne (Ne.symm ne)]
    exact I1.hok.gone hne
end
end Nx

set_option Elab.async false
set_option linter.all false
set_option maxRecDepth 100000
set_option autoImplicit false
/-! raise C(e); try: .. except C as n: return e -/
namespace Nx
open PySem L2
variable {C : CC} {ad ad1 ad' : List Addr} {H H1 H' : Hp} {S S1 S' : Sto} {a p : Addr}
variable {X : Cx} {W : WX}
theorem Sim.fresh (s : Sim C ad S H) {o : HO} {d : Addr} (hd : H d = none) : Sim C ad S (upd H d o) ∧ Ext ad H ad (upd H d o) := by
  refine ⟨⟨s.len, s.nd, fun n u b hn hb => ?_⟩, ⟨[], by simp, by simp⟩, fun b u h _ => by rw [upd_ne (ne_of_none h hd)]; exact h, fun b h => ?_⟩
  · have q := (s.ob n u b hn hb).mono (H' := upd H d o) (fun u e => by rw [upd_ne (ne_of_none e hd)]; exact e) []
    simpa using q
  · by_cases e : b = d
    · subst e; exact hd
    · rw [upd_ne e] at h; exact h
theorem xs_raise {c : Nat} {f : Str} {x : Ex} {ec : PySem.Expr} {pos : Pos} (hc : X.calm = true) (tk : Takes X W) (mk : PMk X ec (tMkS (C c) f (tEvs C W (.cons x .nil)))) : PS X (.Raise (some ec) none pos) (tEx C W (.raise c [f] (.cons x .nil))) := by
  refine PS.imp (ps_raise hc tk mk) ?_
  rintro D σ H ⟨ad, S, ρ, s, r, q⟩
  unfold ex at q
  refine ⟨ad, S, ρ, s, r, (tM.toS (R := RVs) r q).mono ?_⟩
  rintro ws H1 ⟨ad1, S1, vs, e1, s1, r1, q1⟩
  by_cases hl : vs.length = [f].length
  · rw [if_pos hl] at q1
    cases r1 with
    | nil => cases hl
    | cons ra rb =>
      cases rb with
      | cons _ _ => simp at hl
      | nil =>
        rename_i v1 w1
        refine ⟨w1, rfl, fun d hd => ?_⟩
        obtain ⟨s2, e2⟩ := s1.fresh (o := .xd [(f, w1)]) hd
        exact q1 ad1 _ σ (some d) [(f, w1)] e2 s2 (r.ext e1) (.cons (a := (f, v1)) (b := (f, w1)) ⟨rfl, ra⟩ .nil) (.inl ⟨d, rfl, upd_same⟩)
  · rw [if_neg hl] at q1; exact q1.elim
/-- the value of a field -/
def xfld (f : Str) (fs : List (Str × V)) : Ex := match fs.lookup f with
  | some v => .cst v
  | none => .stuck
theorem RF.lookX {fs gs : List (Str × V)} (r : RF ad fs gs) (f : Str) {v : V} (h : fs.lookup f = some v) : ∃ w, gs.lookup f = some w ∧ RV ad v w := by
  induction r with
  | nil => cases h
  | cons ra rb ih =>
    rename_i p q _ _
    obtain ⟨n, v1⟩ := p
    obtain ⟨n2, w1⟩ := q
    obtain ⟨e, rr⟩ := ra
    have e' : n = n2 := e
    subst e'
    rw [lookup_put] at h ⊢
    by_cases hf : f = n
    · rw [if_pos hf] at h ⊢; cases h; exact ⟨w1, rfl, rr⟩
    · rw [if_neg hf] at h ⊢; exact ih h
/-- try: body / except x as n: return er -/
theorem xs_try_ret {body : List Stmt} {bodyx : Sxs} {x n : Str} {i c : Nat} {subs : List Nat} {cv : Value} {er : PySem.Expr} {np pos pos' p4 : Pos} {hx : List (Str × V) → Ex} {te : Addr → Value → Option Addr → TE}
    (tk : Takes X W) (hs : X.stack = X.env :: X.outer) (hf : X.env.frame = some X.env.locals) (hN : X.N.Nodup) (hi : X.N[i]? = some n) (hln : X.env.kindOf n = some .local) (hc : Names X x cv)
    (hex : ∀ d, d = c ∨ d ∈ subs → PySem.W.exmOne X.K (.ref (C d)) cv = some true)
    (hb : ∀ (W : WX) (pn : List (Addr × Obj)) (xe : Value → Shared → Prop), Takes (X.tr pn xe) W → PassesOwn (model X.prog X.w) X.A X.env xe → PSs (X.tr pn xe) body (tExs C W bodyx))
    (hret : ∀ (a : Addr) (oe : Obj) (cls : Value) (d : Option Addr) (pn : List (Addr × Obj)), Zc cls d oe → (∃ vs, oe.data = .fields vs) → PE (X.suite a ((a, oe) :: pn)) er (te a cls d))
    (hstep : ∀ (a : Addr) (d : Option Addr) (cd : Nat) (fs gs : List (Str × V)) (ad : List Addr) (S : Sto) (ρ : Rho) (σ : L2.St) (H : Hp) (Q : VK), (cd = c ∨ cd ∈ subs) → i < σ.length → Sim C ad S H → EnvR ad ρ σ → RF ad fs gs → XD H d gs → tM C W RV ad H σ Q (ev (hx fs) ρ S) →
      te a (.ref (C cd)) d (σ.set i (some (.ref a))) H Q) :
    PS X (.Try body [.ExceptHandler (some (.Name x np)) (some n) [.Return (some er) p4] pos'] [] [] pos) (tEx C W (.try_ c subs i bodyx (fun fs => .cons (.ret (hx fs)) .nil))) := by
  refine PS.imp (ps_try_as (tb := fun W => tExs C W bodyx) (ts := fun a cls d => tSeq (tRet (te a cls d)) tNext) hs hf hN hi hln hc tk hb fun a oe cls d pn hz hd => pss_cons (ps_ret (hret a oe cls d pn hz hd)) pss_nil) ?_
  rintro D σ H ⟨ad, S, ρ, s, r, q⟩
  refine ⟨ad, S, ρ, s, r, ?_⟩
  unfold ex at q
  cases o : exs bodyx ρ S with
  | none => rw [o] at q; exact q
  | some so =>
    rw [o] at q
    cases so with
    | exc cd fs ρ' S' =>
      by_cases hd : (cd = c ∨ cd ∈ subs) ∧ i < ρ'.length
      · simp only [if_pos hd] at q
        intro ad' H' σ' d gs e1 s1 r1 rf hxd
        refine ⟨true, hex cd hd.1, fun _ a ha => ?_, fun z => by cases z⟩
        refine hstep a d cd fs gs ad' S' ρ' σ' H' _ hd.1 (by rw [← r1.1]; exact hd.2) s1 r1 rf hxd ?_
        unfold exs exs ex at q
        cases h : ev (hx fs) ρ' S' with
        | none => rw [h] at q; exact q.elim
        | some o2 =>
          rw [h] at q
          cases o2 with
          | exc c2 fs2 S2 => exact q.elim
          | val v S2 =>
            intro ad2 H2 w e2 s2 r2
            exact q ad2 H2 w (e1.trans e2) s2 r2
      · simp only [if_neg hd] at q; exact q.elim
    | nx ρ' S' => exact q
    | rt v S' => exact q
    | bk ρ' S' => exact q
    | ct ρ' S' => exact q
/-- er is n.f -/
theorem er_fld {n f : Str} {i : Nat} {cl : Addr} {p1 p2 : Pos} (T : XfC X.K cl) (hno : PySem.W.findIn X.K (.ref cl) f = some none) (hi : X.N[i]? = some n) (hv : Vis X.env.scope n) (a : Addr) (oe : Obj) (cls : Value) (d : Option Addr) (pn : List (Addr × Obj)) (hz : Zc cls d oe) (hd : ∃ vs, oe.data = .fields vs)
    (hb : attributeBase (.Name n p1) f X.env (eval (.Name n p1) X.env) = eval (.Name n p1) X.env := by rfl) (hdb : (n == ("__debug__" : Str)) = false := by decide) (hcd : (n == ("__classdict__" : Str)) = false := by decide) :
    PE (X.suite a ((a, oe) :: pn)) (.Attribute (.Name n p1) f p2) (tXf a cls d cl f (tVar i)) :=
  pe_xf T hno hz hd (pe_var (X := X.suite a ((a, oe) :: pn)) hi hv hdb hcd) hb
theorem st_fld {i c : Nat} {f : Str} (a : Addr) (d : Option Addr) (cd : Nat) (fs gs : List (Str × V)) (ad : List Addr) (S : Sto) (ρ : Rho) (σ : L2.St) (H : Hp) (Q : VK) (hcd : cd = c ∨ cd ∈ ([] : List Nat)) (hl : i < σ.length) (s : Sim C ad S H) (r : EnvR ad ρ σ) (rf : RF ad fs gs) (hxd : XD H d gs)
    (q : tM C W RV ad H σ Q (ev (xfld f fs) ρ S)) : tXf a (.ref (C cd)) d (C c) f (tVar i) (σ.set i (some (.ref a))) H Q := by
  obtain rfl : cd = c := by rcases hcd with h | h; exact h; cases h
  unfold xfld at q
  cases h : fs.lookup f with
  | none => rw [h] at q; exact q.elim
  | some v =>
    simp only [h] at q
    unfold ev at q
    obtain ⟨w, hw, rw'⟩ := rf.lookX f h
    rcases hxd with ⟨d', rfl, hxd⟩ | ⟨rfl, rfl⟩
    · exact ⟨.ref a, List.getElem?_set_self hl, rfl, rfl, d', gs, w, rfl, hxd, hw, q ad H w (Ext.refl s) s rw'⟩
    · cases hw
/-- er is (n.f,) -/
theorem er_tup {n f : Str} {i k : Nat} {cl : Addr} {p1 p2 p3 : Pos} (T : XfC X.K cl) (hno : PySem.W.findIn X.K (.ref cl) f = some none) (hi : X.N[i]? = some n) (hv : Vis X.env.scope n) (a : Addr) (oe : Obj) (cls : Value) (d : Option Addr) (pn : List (Addr × Obj)) (hz : Zc cls d oe) (hd : ∃ vs, oe.data = .fields vs)
    (hb : attributeBase (.Name n p1) f X.env (eval (.Name n p1) X.env) = eval (.Name n p1) X.env := by rfl) (hst : starEach [.Attribute (.Name n p1) f p2] X.env = (false, eval (.Attribute (.Name n p1) f p2) X.env) :: starEach [] X.env := by rfl)
    (hdb : (n == ("__debug__" : Str)) = false := by decide) (hcd : (n == ("__classdict__" : Str)) = false := by decide) :
    PE (X.suite a ((a, oe) :: pn)) (.Tuple [.Attribute (.Name n p1) f p2] k p3) (tTupF (tCons (tXf a cls d cl f (tVar i)) tNil)) :=
  pe_tupF (pa_cons (er_fld T hno hi hv a oe cls d pn hz hd hb hdb hcd) pa_nil hst)
theorem st_tup {i c : Nat} {f : Str} (a : Addr) (d : Option Addr) (cd : Nat) (fs gs : List (Str × V)) (ad : List Addr) (S : Sto) (ρ : Rho) (σ : L2.St) (H : Hp) (Q : VK) (hcd : cd = c ∨ cd ∈ ([] : List Nat)) (hl : i < σ.length) (s : Sim C ad S H) (r : EnvR ad ρ σ) (rf : RF ad fs gs) (hxd : XD H d gs)
    (q : tM C W RV ad H σ Q (ev (.pn pTup (.cons (xfld f fs) .nil)) ρ S)) : tTupF (tCons (tXf a (.ref (C cd)) d (C c) f (tVar i)) tNil) (σ.set i (some (.ref a))) H Q := by
  unfold ev at q
  have q1 := tM.bind (R := RVs) q
  cases h : fs.lookup f with
  | none =>
    unfold evs xfld at q1
    simp only [h] at q1
    unfold ev at q1
    exact q1.elim
  | some v =>
    obtain ⟨w, hw, rw'⟩ := rf.lookX f h
    have q2 : tM C W RV ad H σ Q (pTup [v] S) := by
      unfold evs evs xfld at q
      simp only [h] at q
      unfold ev at q
      exact q
    refine st_fld (W := W) (f := f) a d cd fs gs ad S ρ σ H _ hcd hl s r rf hxd ?_
    unfold xfld
    simp only [h]
    unfold ev
    intro ad2 H2 w2 e2 s2 r2
    have q3 := q2.step e2
    unfold pTup at q3
    rw [if_pos (by simp)] at q3
    exact ⟨by rw [sizeLine_eq]; simp, alloc_tup s2 (.cons r2 .nil) q3⟩
end Nx

set_option Elab.async false
set_option linter.all false
set_option maxRecDepth 100000
set_option autoImplicit false
/-! an own exception, as the head of a law tells it -/
namespace Nx
open PySem L2 PySem.W PySem.Calls PyProof.Rows
/-- an own exception with one field f, made by super().__init__ -/
structure ExK (P : Program) (K : Frag) (C : Addr) (f : Str) : Prop where
  ex : ∃ (fI cc cda : Addr) (name qual sf fv txt : Str) (params : Arguments) (scope : Scope) (dV kV doc pm ct oc : Value) (an od : Option Addr) (osl : Array (Option Value)) (ck : Nat) (pa p0 p1 p2 p3 p4 p5 p6 p7 p8 : Pos),
    OexC K C ∧ findIn K (.ref C) "__init__" = some (some (.ref fI)) ∧ typeIn K (.ref fI) = some (.type "function") ∧ SupI P K C fI cc cda qual params scope sf fv f ∧ SupT sf fv f txt ck pa p0 p1 p2 p3 p4 p5 p6 p7 p8 ∧
    K.lookup fI = some ⟨oc, od, .func (ksFn name qual params (supB sf fv f txt ck pa p0 p1 p2 p3 p4 p5 p6 p7 p8) scope dV kV doc pm an (.ref cda) ct cc), osl⟩ ∧
    L2.Binds K (ksFn name qual params (supB sf fv f txt ck pa p0 p1 p2 p3 p4 p5 p6 p7 p8) scope dV kV doc pm an (.ref cda) ct cc) [sf, fv] []
  xf : XfC K C
  no : findIn K (.ref C) f = some none
  me : exmOne K (.ref C) (.ref C) = some true
theorem ExK.pmk {X : Cx} {C : Addr} {f x : Str} {e : Expr} {ta : TA} {p pos : Pos} (T : ExK X.prog X.K C f) (hr : Room 2 X.A) (hg : Gl X x) (hm : X.mg x = some (.ref C)) (ha : PA X [e] ta)
    (hdb : (x == ("__debug__" : Str)) = false := by decide) (he : starEach [e] X.env = (false, eval e X.env) :: starEach [] X.env := by rfl) (hpl : (backTo pos (starEach [] X.env)).any (·.1) = false := by rfl) :
    PMk X (.Call (.Name x p) [e] [] pos) (tMkS C f ta) := by
  obtain ⟨fI, cc, cda, name, qual, sf, fv, txt, params, scope, dV, kV, doc, pm, ct, oc, an, od, osl, ck, pa, p0, p1, p2, p3, p4, p5, p6, p7, p8, h1, h2, h3, h4, h5, h6, h7⟩ := T.ex
  exact pmk_sup (k := 0) h1 h2 h3 h4 h5 h6 h7 hr hg hm ha hdb he hpl
theorem exk_mk {P : Program} {K : Frag} {C fI cc cda N : Addr} {nm q qual sf fv f txt file : Str} {bs bm : List Value} {sn : List Str} {sub : List Value} {ab : Bool} {col : Option Bool} {dd : Option Addr} {k0 k1 k2 k3 k5 : Option Value} {params : Arguments} {body : List Stmt} {scope : Scope}
    {dV kV doc pm ct oc ccl cl : Value} {an od cdd cld : Option Addr} {osl ccs csl : Array (Option Value)} {vs : Array Value} {tf : Tok} {ck : Nat} {pa p0 p1 p2 p3 p4 p5 p6 p7 p8 : Pos}
    (hxl : K.lookup C = some (excClassObj nm q C N bs bm true sn sub ab col dd k0 k1 k2 k3 k5 "ValueError.__new__")) (hxr : PySem.HandSPX.refsVE bm = true) (hxs : findIn K (.ref C) "__setattr__" = some (some (.builtin "object.__setattr__")))
    (hxe : subIn K (.ref C) (.type "BaseException") = some true) (hxt : typeIn K (.ref C) = some (.type "type")) (hxk : keepIn K (.ref C) = true) (hxi : findIn K (.ref C) "__init__" = some (some (.ref fI))) (hxf : typeIn K (.ref fI) = some (.type "function"))
    (hxF : K.lookup fI = some ⟨oc, od, .func (ksFn "__init__" qual params body scope dV kV doc pm an (.ref cda) ct cc), osl⟩) (hxc : codeIn K (.ref cda) qual = true) (hxC : K.lookup cda = some ⟨ccl, cdd, .fields vs, ccs⟩) (hxv : vs[2]? = some (.str file tf))
    (hxp : ((P.main.file : Str) == file) = true) (hxx : K.lookup cc = some ⟨cl, cld, .cell (some (.ref C)), csl⟩) (hxm : mroIn K C (.ref C) = some true) (hxu : nsIn K mainGlobals "super" = some none) (hxT : (P.main.scope.names.lookup ("super" : Str)).isSome = false)
    (hxo : nsIn K cStatics "thirdparty.any" = some none) (hxM : ks_superIn K C C "__init__" = some (some (.builtin "ValueError.__init__"))) (hxV : subIn K (.ref C) (.type "ValueError") = some true) (hxd : findIn K (.ref C) f = some none)
    (hxa : findIn K (.ref C) "__getattribute__" = some (some (.builtin "BaseException.__getattribute__"))) (hxb : findIn K (.ref C) "__getattr__" = some none) (hxD : hasDictIn K C = true) (hxy : exmOne K (.ref C) (.ref C) = some true)
    (hbody : body = supB sf fv f txt ck pa p0 p1 p2 p3 p4 p5 p6 p7 p8) (Y : SupT sf fv f txt ck pa p0 p1 p2 p3 p4 p5 p6 p7 p8)
    (hb : ∀ us : List Value, us.length = 2 → bindArgs (ksFn "__init__" qual params body scope dV kV doc pm an (.ref cda) ct cc) ⟨us, []⟩ = pure ([sf, fv].zip us))
    (par0 : (params.posonlyargs ++ params.args).head?.map (·.arg) = some sf) (sup : scope.names.lookup ("super" : Str) = some .globalImplicit) (cls : scope.names.lookup ("__class__" : Str) = some .free) (sl : scope.names.lookup sf = some .local) (fl : scope.names.lookup fv = some .local)
    (sd : (sf == ("__debug__" : Str)) = false) (fvd : (fv == ("__debug__" : Str)) = false) (nef : (fv == sf) = false) (nocell : ∀ x ∈ scope.names, x.2 ≠ .cell) (co : scope.isCoroutine = false) (gen : scope.isGenerator = false) (kind : scope.kind = .function) : ExK P K C f := by
  subst hbody
  exact ⟨⟨fI, cc, cda, "__init__", qual, sf, fv, txt, params, scope, dV, kV, doc, pm, ct, oc, an, od, osl, ck, pa, p0, p1, p2, p3, p4, p5, p6, p7, p8, ⟨⟨_, _, _, _, _, _, _, _, _, _, _, _, _, _, _, hxl, hxr⟩, hxs, hxe, hxt, hxk⟩, hxi, hxf,
    ⟨par0, sup, cls, sl, fl, sd, fvd, nef, nocell, co, gen, kind, hxc, ⟨_, _, _, _, _, _, hxC, hxv, hxp⟩, ⟨_, _, _, hxx⟩, hxm, hxu, hxT, hxo, hxM, hxV, hxd⟩, Y, hxF, L2.Binds.all hb⟩, ⟨hxa, hxb, hxe, hxD⟩, hxd, hxy⟩
end Nx

set_option Elab.async false
set_option linter.all false
set_option maxRecDepth 100000
set_option autoImplicit false
/-! enumerate(v), v a list or a tuple -/
namespace PySem
open Sem (wp)
open AutoSeq1 (wpAny_loadPart')
theorem meets_enumerate_newT (l : Addr) (items : Array Value) (o : Obj) :
    Meets (Builtin.«enumerate.__new__» ⟨[.type "enumerate", .ref l], []⟩) (fun _ R s => s.heap.get? l = some o ∧ s.heap.IsTuple l items ∧
      R (.ok (.ret (.ref (s.heap.push { cls := .type "tuple_iterator", data := .fields #[.ref l, .int 0 0] }).objs.size)))
        { s with heap := (s.heap.push { cls := .type "tuple_iterator", data := .fields #[.ref l, .int 0 0] }).push { cls := .type "enumerate", data := .fields #[.none, .bool false, .ref s.heap.objs.size, rawInt 0, .none, .none] } }) :=
  .of_wp fun prog w A R s h => by
    obtain ⟨hp, g, d, tk, os⟩ := s; obtain ⟨hl, hL, h⟩ := h
    have hsub := sub_enumerate
    wp_walk using wpAny_loadPart' hl
    refine wpAny_stack_any fun st => wpAny_pure ?_
    split
    · rename_i c _ _ _ _ _
      cases (c == Value.type "enumerate")
      · wp_walk using wpAny_loadPart' hl, wpAny_pyIter_tuple hL
        exact ⟨_, rfl, h⟩
      · wp_walk using wpAny_loadPart' hl, wpAny_pyIter_tuple hL
        exact ⟨_, rfl, h⟩
    · wp_walk using wpAny_loadPart' hl, wpAny_pyIter_tuple hL
      exact ⟨_, rfl, h⟩
section
variable {prog : Program} {w : World} {A : Around} {E : Value → Shared → Prop} {s : Shared}
theorem call_enumerate_tuple {l : Addr} {items : Array Value} {Q : Value → Shared → Prop} (hL : s.heap.IsTuple l items)
    (h : ∀ h', IsEnum h' (s.heap.objs.size + 1) s.heap.objs.size 0 .none → h'.IsTupleIter s.heap.objs.size l 0 → h'.objs.size = s.heap.objs.size + 2 →
      (∀ b o, s.heap.get? b = some o → h'.get? b = some o) → Q (.ref (s.heap.objs.size + 1)) { s with heap := h' }) :
    wpAny (model prog w) A (call (.type "enumerate") [.ref l]) Q E s := by
  obtain ⟨o, hl, _⟩ := id hL
  refine callType_new F.called_enumerate (by decide) (F.typeCall_enumerate_1 _) (F.newCall_enumerate_1 _) (fun obj => F.args_object_init_2 obj _) F.entry_enumerate_new
    (meets_enumerate_newT l items o) ⟨hl, hL, ?_⟩
  have hz : (s.heap.push { cls := .type "tuple_iterator", data := .fields #[.ref l, .int 0 0] }).objs.size = s.heap.objs.size + 1 := Heap.size_push ..
  show _ ∧ _
  rw [hz]
  have he : IsEnum ((s.heap.push { cls := .type "tuple_iterator", data := .fields #[.ref l, .int 0 0] }).push
      { cls := .type "enumerate", data := .fields #[.none, .bool false, .ref s.heap.objs.size, rawInt 0, .none, .none] }) (s.heap.objs.size + 1) s.heap.objs.size 0 .none := by
    have := Heap.get?_push_size (s.heap.push { cls := .type "tuple_iterator", data := .fields #[.ref l, .int 0 0] })
      (o := { cls := .type "enumerate", data := .fields #[.none, .bool false, .ref s.heap.objs.size, rawInt 0, .none, .none] }) rfl
    rw [hz] at this; exact this
  refine ⟨⟨_, he, rfl⟩, h _ he ⟨_, Heap.get?_push_of_some _ (Heap.get?_push_size _ rfl), rfl, rfl⟩ (by rw [Heap.size_push, hz]) fun b o x => Heap.get?_push_of_some _ (Heap.get?_push_of_some _ x)⟩
end
end PySem
namespace Nx
open PySem L2 PySem.Spec PyProof.Rows
variable {C : CC} {ad ad1 ad' : List Addr} {H H1 H' : Hp} {S S1 S' : Sto} {a b p : Addr}
variable {X : Cx} {W : WX} {e e1 e2 e3 : PySem.Expr} {es : List PySem.Expr} {x y : Ex} {xs : Exs} {pos : Pos}
theorem call_enum_B {prog : Program} {w : World} {A : Around} {E : Value → Shared → Prop} {s : Shared} (k : Bool) {l : Addr} {items : Array Value} {Q : Value → Shared → Prop} (hL : HasB k s.heap l items)
    (h : ∀ h', IsEnum h' (s.heap.objs.size + 1) s.heap.objs.size 0 .none → OnB k h' s.heap.objs.size l 0 → h'.objs.size = s.heap.objs.size + 2 →
      (∀ b o, s.heap.get? b = some o → h'.get? b = some o) → Q (.ref (s.heap.objs.size + 1)) { s with heap := h' }) :
    wpAny (model prog w) A (call (.type "enumerate") [.ref l]) Q E s := by
  cases k
  · exact call_enumerate_tuple hL h
  · exact call_enumerate_list hL h
def Ieb (K : PySem.W.Frag) (k : Bool) (a : Addr) : It where
  go := fun i H => ∃ (xs : List V) (x : V), SqB K k H a xs ∧ xs[i]? = some x
  yld := fun i H v H' => ∃ T x, v = .ref T ∧ H T = none ∧ H' = upd H T (.tup [.int (i : Nat), x]) ∧ ∀ xs, SqB K k H a xs → xs[i]? = some x
  stop := fun i H => ∃ xs : List V, SqB K k H a xs ∧ i = xs.length
theorem turn_eb {P : Program} {w : World} {K : PySem.W.Frag} {elts : List PySem.Expr} {kk : Nat} {tpos : Pos} {k : Bool} (a e it : Addr) (hne : e ≠ it) (hai : a ≠ it) (hea : e ≠ a) :
    Turn P w K (.Tuple elts kk tpos) (Ieb K k a) [e, it] e (fun i h => (∃ old, IsEnum h e it ((i : Nat) : Int) old) ∧ OnB k h it a i) where
  mem := by simp
  obj := fun i h st b hb => by
    obtain ⟨⟨old, he⟩, ho⟩ := st
    have e' : b = e ∨ b = it := by simpa using hb
    rcases e' with z | z
    · rw [z]; exact ⟨_, he, fun v q => nomatch q⟩
    · rw [z]; exact ho.obj
  keep := fun i h h' st q => by
    obtain ⟨⟨old, he⟩, ho⟩ := st
    exact ⟨⟨old, q e (by simp) _ he⟩, ho.keep (q it (by simp))⟩
  item := by
    intro X hP hw hK hc i pins s σ H E I hf st hg
    subst hP hw hK
    obtain ⟨⟨old, he⟩, hit⟩ := st
    obtain ⟨xs, x, hq, hx⟩ := hg
    obtain ⟨us, rv, t1, _, _⟩ := sqB_at I hq
    obtain ⟨u, hu, ru⟩ := rv.get hx
    have hel : e < s.heap.objs.size := Heap.lt_size he
    have hil : it < s.heap.objs.size := by obtain ⟨_, q, _⟩ := hit.obj; exact Heap.lt_size q
    refine wpAny_pyNext_enum_itemD (drB (P := X.prog) (w := X.w) (A := X.A.in1) (I.ok.hd hc) k hai us.toArray) he ⟨hit, t1⟩ (by simpa using (List.getElem?_eq_some_iff.mp hu).1) hne (by simp [hne, hea]) fun x1 h' tk e1 ho g1 hT hsz hk => ?_
    have e1' : us[i]? = some x1 := by simpa using e1
    rw [hu] at e1'; cases e1'
    refine ⟨_, rfl, wpAny_letOwnedTupleGo_enum (s := { s with heap := h', toks := tk + 1 }) ho fun h'' he' sb => ?_⟩
    have hT2 : h''.get? s.heap.objs.size = some { cls := .type "tuple", data := .seq #[.int i tk, u] } := (sb.2 _ (Nat.ne_of_gt hel)).trans hT
    have new : ObjOk X.prog X.w (upd H s.heap.objs.size (.tup [.int (i : Nat), x])) h'' s.heap.objs.size (.tup [.int (i : Nat), x]) :=
      ⟨by show 2 ≤ sizeLine; decide, [.int i tk, u], .cons ⟨_, rfl⟩ (.cons ru .nil), ⟨_, hT2, rfl, _, rfl⟩⟩
    have I1 : Inv X pins σ (upd H s.heap.objs.size (.tup [.int (i : Nat), x])) { s with heap := h'', toks := tk + 1 } :=
      I.turnedNew (t' := tk + 1) (ch := [e, it]) (fun b ob hb q => (sb.2 b (fun z => hb (by simp [z]))).trans (hk b ob (fun z => hb (by simp [z])) (fun z => hb (by simp [z])) q)) hf (Nat.le_refl _) new
    refine ⟨.ref s.heap.objs.size, _, I1, rfl, ⟨_, x, rfl, I.hok.fresh (Nat.le_refl _), rfl, fun ys hy => by rw [sqB_inj I hy hq]; exact hx⟩, ⟨⟨u, ?_⟩, g1.1.keep fun o q => (sb.2 it (Ne.symm hne)).trans q⟩, fun b hb => ?_⟩
    · have e1 : ((i + 1 : Nat) : Int) = (i : Int) + 1 := by omega
      rw [e1]; exact he'
    · have hb' : b < s.heap.objs.size := by
        have e' : b = e ∨ b = it := by simpa using hb
        rcases e' with z | z
        · rw [z]; exact hel
        · rw [z]; exact hil
      rw [upd_ne (Nat.ne_of_lt hb')]
      exact (hf b hb).1
  done := by
    intro X hP hw hK hc i pins s σ H E I hf st hg
    subst hP hw hK
    obtain ⟨⟨old, he⟩, hit⟩ := st
    obtain ⟨xs, hq, hx⟩ := hg
    obtain ⟨us, rv, t1, _, _⟩ := sqB_at I hq
    have z1 : us.toArray.size = xs.length := by simpa using rv.length.symm
    obtain ⟨f0, f1, f2, f3, f4, f5⟩ := hf it (by simp)
    exact wpAny_pyNext_enum_endD (drB (P := X.prog) (w := X.w) (A := X.A.in1) (I.ok.hd hc) k hai us.toArray) he (by rw [z1, ← hx]; exact ⟨hit, t1⟩) fun h' eb => ⟨rfl, I.turned (t' := s.toks) (fun b o hb q => eb b o hb q) f0 f1 f3 f4 f5⟩
  self := fun A i s Q E st h => let ⟨⟨_, he⟩, _⟩ := st; wpAny_pyIter_enum he h
def itEnumB : ItR where
  start := fun vs S => match vs with
    | [v] => match kindOf S v with
      | some k => match sqOf S k v with
        | some _ => some [v, .bl k]
        | none => none
      | none => none
    | _ => none
  next := fun st i S => match st with
    | [v, .bl k] => match sqOf S k v with
      | some xs => match xs[i]? with
        | some u => some (some (.ref S.length, S ++ [.tpl [.int i, u]]))
        | none => if i = xs.length then some none else none
      | none => none
    | _ => none
theorem itok_eb {K : PySem.W.Frag} (hK : C.K = K) {ad0 : List Addr} {v : V} {k : Bool} {a : Addr} (hn : RV ad0 v (.ref a)) : ItOk C ad0 itEnumB.next [v, .bl k] (Ieb K k a) := by
  refine ⟨fun ad i S H more hm s h => ?_, fun ad i S H more u S' hm s h => ?_⟩
  · simp only [itEnumB] at h
    split at h
    · rename_i xs q
      obtain ⟨b, ws, e, rw', hs⟩ := sq_of (K := K) hK s q (by rw [hm]; exact hn.pre)
      cases e
      split at h
      · cases h
      · split at h
        · rename_i hi
          exact ⟨ws, hs, by rw [hi]; exact Paired.len rw'⟩
        · cases h
    · cases h
  · simp only [itEnumB] at h
    split at h
    · rename_i xs q
      obtain ⟨b, ws, e, rw', hs⟩ := sq_of (K := K) hK s q (by rw [hm]; exact hn.pre)
      cases e
      split at h
      · rename_i t hx
        cases h
        obtain ⟨w, hw, rv⟩ := RVs.get rw' hx
        refine ⟨⟨ws, w, hs, hw⟩, ?_⟩
        rintro w' H' ⟨T, z, rfl, hT, rfl, hall⟩
        have e := hall ws hs
        rw [hw] at e; cases e
        exact s.allocT hT (.cons rfl (.cons rv .nil))
      · split at h <;> cases h
    · cases h
def iEnB (K : PySem.W.Frag) (ta : TA) : TI := fun σ H R => ta σ H fun vs H1 => ∃ a k xs, vs = [.ref a] ∧ SqB K k H1 a xs ∧ R (Ieb K k a) H1
theorem pi_eb {X : Cx} {e : PySem.Expr} {ta : TA} {p pos tpos : Pos} {elts : List PySem.Expr} {kk : Nat} (hg : Gl X "enumerate") (hm : X.mg "enumerate" = none) (ha : PA X [e] ta) (hs : starEach [e] X.env = [(false, eval e X.env)] := by rfl) :
    PI X (.Tuple elts kk tpos) (.Call (.Name "enumerate" p) [e] [] pos) (iEnB X.K ta) := by
  refine ⟨fun pins s σ H R I h => ?_⟩
  refine Call_ (ld_blt I hg hm boot_enumerate (PyProof.Rows.callWith_type1 (thn (ha.run pos pins s σ H _ I h) fun us s1 ⟨vs, H1, I1, r1, q1⟩ => ?_) hs rfl))
  obtain ⟨a, k, xs, ex, hq, q⟩ := q1
  subst ex
  cases r1 with
  | cons r rr =>
    cases rr
    cases r
    obtain ⟨its, rv, p', _, la⟩ := sqB_at I1 hq
    refine call_enum_B k p' fun h' he hit hsz hk => wpAny_pyIter_enum he ?_
    have I2 : Inv X pins σ H1 { s1 with heap := h' } := I1.kept (t' := s1.toks) hk
    refine ⟨s1.heap.objs.size + 1, [s1.heap.objs.size + 1, s1.heap.objs.size], _, _, H1, rfl, I2, turn_eb a (s1.heap.objs.size + 1) s1.heap.objs.size (Nat.succ_ne_self _) (Nat.ne_of_lt la) (Nat.ne_of_gt (Nat.lt_succ_of_lt la)), ⟨⟨.none, he⟩, hit⟩, fun b hb => ?_, q⟩
    have e' : b = s1.heap.objs.size + 1 ∨ b = s1.heap.objs.size := by simpa using hb
    have hle : s1.heap.objs.size ≤ b := by
      rcases e' with z | z
      · rw [z]; exact Nat.le_add_right _ _
      · rw [z]; exact Nat.le_refl _
    exact I1.fpOk hle (I1.hok.fresh hle)
theorem xi_enumB (hK : C.K = X.K) {tpos : Pos} {elts : List PySem.Expr} {kk : Nat} {p : Pos} (hg : Gl X "enumerate") (hm : X.mg "enumerate" = none) (ha : PA X [e] (tEvs C W (.cons x .nil))) (hs : starEach [e] X.env = [(false, eval e X.env)] := by rfl) :
    PI X (.Tuple elts kk tpos) (.Call (.Name "enumerate" p) [e] [] pos) (tIt C W itEnumB (.cons x .nil)) := by
  refine PI.of fun pins s σ H R I q => ⟨_, pi_eb hg hm ha hs, ?_⟩
  obtain ⟨ad, S, ρ, sm, r, q⟩ := q
  refine ⟨ad, S, ρ, sm, r, ?_⟩
  cases hx : evs (.cons x .nil) ρ S with
  | none => rw [hx] at q; exact q.elim
  | some o =>
    rw [hx] at q
    cases o with
    | exc c fs S' => exact q
    | val vs S' =>
      obtain ⟨st, hst, k⟩ := q
      intro ad' H' ws e' s' rv
      simp only [itEnumB] at hst
      split at hst
      · rename_i v
        split at hst
        · rename_i kb hkb
          split at hst
          · rename_i xs hl
            cases hst
            cases rv with
            | cons r1 r2 =>
              cases r2
              obtain ⟨b, zs, rfl, rw', hs⟩ := sq_of (K := X.K) hK s' hl r1
              exact ⟨b, kb, zs, rfl, hs, k ad' H' _ e' s' (.cons r1 .nil) _ (itok_eb hK r1)⟩
          · cases hst
        · cases hst
      · cases hst
end Nx

set_option Elab.async false
set_option linter.all false
set_option maxRecDepth 100000
set_option autoImplicit false
/-! try: .. except C as n: xs.append(n.f); [f, g][i](e, ..) -/
namespace Nx
open PySem L2
variable {C : CC} {ad ad1 ad' : List Addr} {H H1 H' : Hp} {S S1 S' : Sto} {a p : Addr}
variable {X : Cx} {W : WX}
/-- try: body / except x as n: er -/
theorem xs_try_expr {body : List Stmt} {bodyx : Sxs} {x n : Str} {i c : Nat} {subs : List Nat} {cv : Value} {er : PySem.Expr} {np pos pos' p4 : Pos} {hx : List (Str × V) → Ex} {te : Addr → Value → Option Addr → TE}
    (tk : Takes X W) (hs : X.stack = X.env :: X.outer) (hf : X.env.frame = some X.env.locals) (hN : X.N.Nodup) (hi : X.N[i]? = some n) (hln : X.env.kindOf n = some .local) (hc : Names X x cv)
    (hex : ∀ d, d = c ∨ d ∈ subs → PySem.W.exmOne X.K (.ref (C d)) cv = some true)
    (hb : ∀ (W : WX) (pn : List (Addr × Obj)) (xe : Value → Shared → Prop), Takes (X.tr pn xe) W → PassesOwn (model X.prog X.w) X.A X.env xe → PSs (X.tr pn xe) body (tExs C W bodyx))
    (hret : ∀ (a : Addr) (oe : Obj) (cls : Value) (d : Option Addr) (pn : List (Addr × Obj)), Zc cls d oe → (∃ vs, oe.data = .fields vs) → PE (X.suite a ((a, oe) :: pn)) er (te a cls d))
    (hstep : ∀ (a : Addr) (d : Option Addr) (cd : Nat) (fs gs : List (Str × V)) (ad : List Addr) (S : Sto) (ρ : Rho) (σ : L2.St) (H : Hp) (Q : VK), (cd = c ∨ cd ∈ subs) → i < σ.length → Sim C ad S H → EnvR ad ρ σ → RF ad fs gs → XD H d gs → tM C W RV ad H σ Q (ev (hx fs) ρ S) →
      te a (.ref (C cd)) d (σ.set i (some (.ref a))) H Q) (hsw : swapsWith er none p4.line X.env = pure false := by rfl) :
    PS X (.Try body [.ExceptHandler (some (.Name x np)) (some n) [.Expr er p4] pos'] [] [] pos) (tEx C W (.try_ c subs i bodyx (fun fs => .cons (.expr (hx fs)) .nil))) := by
  refine PS.imp (ps_try_as (tb := fun W => tExs C W bodyx) (ts := fun a cls d => tSeq (tDrop (te a cls d)) tNext) hs hf hN hi hln hc tk hb fun a oe cls d pn hz hd => pss_cons (ps_expr (hret a oe cls d pn hz hd) hsw) pss_nil) ?_
  rintro D σ H ⟨ad, S, ρ, s, r, q⟩
  refine ⟨ad, S, ρ, s, r, ?_⟩
  unfold ex at q
  cases o : exs bodyx ρ S with
  | none => rw [o] at q; exact q
  | some so =>
    rw [o] at q
    cases so with
    | exc cd fs ρ' S' =>
      by_cases hd : (cd = c ∨ cd ∈ subs) ∧ i < ρ'.length
      · simp only [if_pos hd] at q
        intro ad' H' σ' d gs e1 s1 r1 rf hxd
        refine ⟨true, hex cd hd.1, fun _ a ha => ?_, fun z => by cases z⟩
        refine hstep a d cd fs gs ad' S' ρ' σ' H' _ hd.1 (by rw [← r1.1]; exact hd.2) s1 r1 rf hxd ?_
        unfold exs exs ex at q
        cases h : ev (hx fs) ρ' S' with
        | none => rw [h] at q; exact q.elim
        | some o2 =>
          rw [h] at q
          cases o2 with
          | exc c2 fs2 S2 => exact q.elim
          | val v S2 =>
            intro ad2 H2 w e2 s2 r2
            show D.nx ((σ'.set i (some (.ref a))).set i none) H2
            rw [List.set_set]
            exact q ad2 H2 (σ'.set i none) (e1.trans e2) s2 ((r1.ext e2).del i none)
      · simp only [if_neg hd] at q; exact q.elim
    | nx ρ' S' => exact q
    | rt v S' => exact q
    | bk ρ' S' => exact q
    | ct ρ' S' => exact q
/-- er is m.append(n.f) -/
theorem er_app {m n f : Str} {i j : Nat} {cl : Addr} {p0 p1 p2 apos cpos : Pos} (T : XfC X.K cl) (hno : PySem.W.findIn X.K (.ref cl) f = some none) (hi : X.N[i]? = some n) (hv : Vis X.env.scope n) (hj : X.N[j]? = some m) (hvj : Vis X.env.scope m) (a : Addr) (oe : Obj) (cls : Value) (d : Option Addr) (pn : List (Addr × Obj)) (hz : Zc cls d oe) (hd : ∃ vs, oe.data = .fields vs)
    (hb : attributeBase (.Name n p1) f X.env (eval (.Name n p1) X.env) = eval (.Name n p1) X.env := by rfl) (hdb : (n == ("__debug__" : Str)) = false := by decide) (hcd : (n == ("__classdict__" : Str)) = false := by decide) (hdj : (m == ("__debug__" : Str)) = false := by decide) (hcj : (m == ("__classdict__" : Str)) = false := by decide)
    (hbase : attributeBase (.Name m p0) "append" X.env (eval (.Name m p0) X.env) = eval (.Name m p0) X.env := by rfl)
    (hfew : ((backTo cpos (starEach [.Attribute (.Name n p1) f p2] X.env)).all (fun x => !x.1) && (backToKw cpos (keywordEach [] X.env)).all (fun x => x.1.isSome)
      && decide (([.Attribute (.Name n p1) f p2] : List PySem.Expr).length + ([] : List Keyword).length + (if ([] : List Keyword).isEmpty then 0 else 1) < 30)) = true := by rfl)
    (hline : (apos.endLine == cpos.line) = true := by rfl) (hst : starEach [.Attribute (.Name n p1) f p2] X.env = (false, eval (.Attribute (.Name n p1) f p2) X.env) :: starEach [] X.env := by rfl) (hplain : (backTo cpos (starEach [] X.env)).any (·.1) = false := by rfl) :
    PE (X.suite a ((a, oe) :: pn)) (.Call (.Attribute (.Name m p0) "append" apos) [.Attribute (.Name n p1) f p2] [] cpos) (tBM X.K "list" (MP C pAppend) (tVar j) (tCons (tXf a cls d cl f (tVar i)) tNil)) :=
  pe_bm (X := X.suite a ((a, oe) :: pn)) PySem.F.plainAttrs_list PySem.F.slot_list_append PySem.F.type_list_append m_append (pe_var (X := X.suite a ((a, oe) :: pn)) hj hvj hdj hcj) (pa_cons (er_fld T hno hi hv a oe cls d pn hz hd hb hdb hcd) pa_nil hst) hbase hfew hline hst hplain
theorem st_app {i j c : Nat} {f : Str} (hij : i ≠ j) (hK : C.K = X.K) (a : Addr) (d : Option Addr) (cd : Nat) (fs gs : List (Str × V)) (ad : List Addr) (S : Sto) (ρ : Rho) (σ : L2.St) (H : Hp) (Q : VK) (hcd : cd = c ∨ cd ∈ ([] : List Nat)) (hl : i < σ.length) (s : Sim C ad S H) (r : EnvR ad ρ σ) (rf : RF ad fs gs) (hxd : XD H d gs)
    (q : tM C W RV ad H σ Q (ev (.mc isLst pAppend (.var j) (.cons (xfld f fs) .nil)) ρ S)) : tBM X.K "list" (MP C pAppend) (tVar j) (tCons (tXf a (.ref (C cd)) d (C c) f (tVar i)) tNil) (σ.set i (some (.ref a))) H Q := by
  unfold ev ev at q
  cases hv : ρ[j]? with
  | none => simp only [hv] at q; exact q.elim
  | some ov =>
    cases ov with
    | none => simp only [hv] at q; exact q.elim
    | some v =>
      simp only [hv, M.bind] at q
      obtain ⟨w, hw, rw'⟩ := r.2 j v hv
      refine ⟨w, by rw [List.getElem?_set_ne hij]; exact hw, ?_⟩
      cases hc : isLst v S with
      | false => rw [hc] at q; exact q.elim
      | true =>
        simp only [hc] at q
        refine ⟨isLst_ty s rw' hc, ?_⟩
        cases h : fs.lookup f with
        | none =>
          unfold evs xfld at q
          simp only [h] at q
          unfold ev at q
          exact q.elim
        | some v2 =>
          have q2 : tM C W RV ad H σ Q (pAppend [v, v2] S) := by
            unfold evs evs xfld at q
            simp only [h] at q
            unfold ev at q
            exact q
          refine st_fld (W := W) (f := f) a d cd fs gs ad S ρ σ H _ hcd hl s r rf hxd ?_
          unfold xfld
          simp only [h]
          unfold ev
          intro ad2 H2 w2 e2 s2 r2
          exact ⟨ad2, S, [v, v2], s2, .cons (rw'.ext e2) (.cons r2 .nil), (q2.step e2).noX (noX_append _ _)⟩
end Nx

set_option Elab.async false
set_option linter.all false
set_option maxRecDepth 100000
set_option autoImplicit false
/-! [f, g][i](e, ..) -/
namespace Nx
open PySem L2
variable {C : CC} {ad ad1 ad' : List Addr} {H H1 H' : Hp} {S S1 S' : Sto} {a p : Addr}
variable {X : Cx} {W : WX} {e : PySem.Expr} {es : List PySem.Expr} {xs : Exs} {pos : Pos}
def pIsI (n : Int) : Prim := fun vs S => match vs with
  | [.int i] => some (.val (.bl (decide (i = n))) S)
  | _ => none
/-- what is picked -/
def pick2 (j : Nat) (df dg : Prim) (xs : Exs) : Ex := .ite (.pn (pIsI 0) (.cons (.var j) .nil)) (.pn df xs) (.ite (.pn (pIsI 1) (.cons (.var j) .nil)) (.pn dg xs) .stuck)
theorem pick2_at {j : Nat} {df dg : Prim} {σ : L2.St} {Q : VK} {ρ : Rho} (q : tM C W RV ad H σ Q (ev (pick2 j df dg xs) ρ S)) :
    ∃ i : Int, ρ[j]? = some (some (.int i)) ∧ ((i = 0 ∧ tM C W RV ad H σ Q (ev (.pn df xs) ρ S)) ∨ (i = 1 ∧ tM C W RV ad H σ Q (ev (.pn dg xs) ρ S))) := by
  unfold pick2 at q
  rw [ev] at q
  have e1 : ∀ n : Int, ev (.pn (pIsI n) (.cons (.var j) .nil)) ρ S = match ρ[j]? with
      | some (some (.int i)) => some (.val (.bl (decide (i = n))) S)
      | _ => none := fun n => by
    simp only [ev, evs]
    cases hv : ρ[j]? with
    | none => rfl
    | some ov =>
      cases ov with
      | none => rfl
      | some v => cases v <;> rfl
  rw [e1] at q
  cases hv : ρ[j]? with
  | none => simp only [hv, M.bind] at q; exact q.elim
  | some ov =>
    cases ov with
    | none => simp only [hv, M.bind] at q; exact q.elim
    | some v =>
      cases v with
      | int i =>
        refine ⟨i, rfl, ?_⟩
        simp only [hv, M.bind] at q
        by_cases h0 : i = 0
        · refine .inl ⟨h0, ?_⟩
          rw [decide_eq_true h0] at q
          exact q
        · rw [decide_eq_false h0] at q
          simp only at q
          rw [ev, e1] at q
          simp only [hv, M.bind] at q
          by_cases h1 : i = 1
          · refine .inr ⟨h1, ?_⟩
            rw [decide_eq_true h1] at q
            exact q
          · rw [decide_eq_false h1] at q
            unfold ev at q
            exact q.elim
      | _ => simp only [hv, M.bind] at q; exact q.elim
theorem xe_pick2 {j : Nat} {f g : Addr} {fd gd : FuncData} {k k2 : Nat} {ps ps2 : List Str} {nf ng nj : Str} {p1 p2 p3 p4 p5 : Pos} {l m l2 m2 : Nat} {b b2 : Sxs}
    (F : FnOk X.prog X.w X.K X.mg X.base (L2.CX X.prog X.w) k f fd ps (spD C m (den l m b))) (hr : Room k X.A) (hgf : Gl X nf) (hmf : X.mg nf = some (.ref f)) (hkf : PySem.W.keepIn X.K (.ref f) = true) (hbf : Binds X.K fd ps [])
    (G : FnOk X.prog X.w X.K X.mg X.base (L2.CX X.prog X.w) k2 g gd ps2 (spD C m2 (den l2 m2 b2))) (hr2 : Room k2 X.A) (hgg : Gl X ng) (hmg : X.mg ng = some (.ref g)) (hkg : PySem.W.keepIn X.K (.ref g) = true) (hbg : Binds X.K gd ps2 [])
    (tk : Takes X W) (hN : X.N[j]? = some nj) (hv : Vis X.env.scope nj) (ha : PA X (e :: es) (tEvs C W xs)) (hs : PlainIx (.Name nj p4)) (hdf : (nf == ("__debug__" : Str)) = false := by decide) (hdg : (ng == ("__debug__" : Str)) = false := by decide)
    (hd : (nj == ("__debug__" : Str)) = false := by decide) (hcd : (nj == ("__classdict__" : Str)) = false := by decide) (hst2 : starEach [.Name nf p1, .Name ng p2] X.env = (false, eval (.Name nf p1) X.env) :: starEach [.Name ng p2] X.env := by rfl)
    (hst3 : starEach [.Name ng p2] X.env = (false, eval (.Name ng p2) X.env) :: starEach [] X.env := by rfl) (he : starEach (e :: es) X.env = (false, eval e X.env) :: starEach es X.env := by rfl) (hpl : (backTo pos (starEach es X.env)).any (·.1) = false := by rfl) :
    PE X (.Call (.Subscript (.List [.Name nf p1, .Name ng p2] p3) (.Name nj p4) p5) (e :: es) [] pos) (tEv C W (pick2 j (den l m b) (den l2 m2 b2) xs)) := by
  refine ⟨fun pins s σ H Q I h => ?_⟩
  obtain ⟨ad, S, ρ, sm, r, q⟩ := h
  obtain ⟨i, hj, hq⟩ := pick2_at q
  obtain ⟨w, hw, rw'⟩ := r.2 j _ hj
  obtain rfl : w = .int i := rw'
  have PF := pe_ix (X := X) (pos := p5) (r := rIxL X.K) ix_list (pe_lst (pos := p3) (pa_cons (pe_glob (pos := p1) hgf hmf (v := .ref f) rfl hdf) (pa_cons (pe_glob (pos := p2) hgg hmg (v := .ref g) rfl hdg) pa_nil hst3) hst2)) (pe_var (pos := p4) hN hv hd hcd) hs
  have hf : ∀ (z : Addr), (i = 0 ∧ z = f) ∨ (i = 1 ∧ z = g) → tOp (rIxL X.K) (tLst (tCons (tC (.ref f)) (tCons (tC (.ref g)) tNil))) (tVar j) σ H (fun v H1 => v = .ref z ∧ ∃ p o, H p = none ∧ H1 = upd H p o) := by
    intro z hz
    refine ⟨by rw [sizeLine_eq]; simp, fun p hp => ⟨.int i, hw, p, [.ref f, .ref g], i, .ref z, rfl, rfl, .inl (.of upd_same), ?_, rfl, p, _, hp, rfl⟩⟩
    rcases hz with ⟨rfl, rfl⟩ | ⟨rfl, rfl⟩ <;> rfl
  show wpAny _ _ (eval (.Subscript (.List [.Name nf p1, .Name ng p2] p3) (.Name nj p4) p5) X.env >>= fun fv => callWith pos fv [] (backTo pos (starEach (e :: es) X.env)) (backToKw pos (keywordEach [] X.env))) _ _ _
  rcases hq with ⟨hi, q⟩ | ⟨hi, q⟩
  · refine wpAny_bind (thn (PF.run pins s σ H _ I (hf f (.inl ⟨hi, rfl⟩))) fun u s1 ⟨v, H1, I1, r1, ev', p, o, hp, eH⟩ => ?_)
    subst ev'
    cases r1
    subst eH
    obtain ⟨sm1, e1⟩ := sm.fresh (o := o) hp
    refine PySem.W.callWith_K (h₀ := X.base) I1.ok.mod.kin hkf (thn (ha.run pos pins s1 σ _ _ I1 (call_step den_len sm1 (r.ext e1) (q.step e1))) fun us s2 ⟨vs, H2, I2, r2, q2⟩ => ⟨I2.kIn, ?_⟩) he hpl
    exact run_fnS F hr hbf (passAt tk σ) I2 r2 q2
  · refine wpAny_bind (thn (PF.run pins s σ H _ I (hf g (.inr ⟨hi, rfl⟩))) fun u s1 ⟨v, H1, I1, r1, ev', p, o, hp, eH⟩ => ?_)
    subst ev'
    cases r1
    subst eH
    obtain ⟨sm1, e1⟩ := sm.fresh (o := o) hp
    refine PySem.W.callWith_K (h₀ := X.base) I1.ok.mod.kin hkg (thn (ha.run pos pins s1 σ _ _ I1 (call_step den_len sm1 (r.ext e1) (q.step e1))) fun us s2 ⟨vs, H2, I2, r2, q2⟩ => ⟨I2.kIn, ?_⟩) he hpl
    exact run_fnS G hr2 hbg (passAt tk σ) I2 r2 q2
end Nx

set_option Elab.async false
set_option linter.all false
set_option maxRecDepth 100000
set_option autoImplicit false
namespace Nx
open PySem L2

/-! sorted(xs), sorted(xs, reverse=True): a list of data that can be compared place by place -/
/-- the items with their data -/
def rdz (S : Sto) : List V → Option (List (V × PyData))
  | [] => some []
  | x :: xs => match rd S deep x, rdz S xs with
    | some d, some r => some ((x, d) :: r)
    | _, _ => none
def alikes (ds : List PyData) : Bool := ds.all fun d => ds.all fun d' => PySem.W.alike d d'
def sortk (ds : List PyData) : Bool := ds.all (fun d => match d with | .tuple (_ :: _) => true | _ => false) || ds.all (fun d => match d with | .none => false | .tuple _ => false | _ => true)
def gSortD (rev : Bool) : V → Sto → Option Ob := fun a S => match lstOf S a with
  | some xs => match rdz S xs with
    | some bs => if bs.length < 100000 ∧ alikes (bs.map Prod.snd) = true ∧ sortk (bs.map Prod.snd) = true ∧ (bs.map Prod.snd).all (fun d => decide (d.depth ≤ 60)) = true then
        some (.lst ((bs.mergeSort (PySem.W.dataLe rev Prod.snd)).map Prod.fst)) else none
    | none => none
  | none => none
theorem alikes_ok {ds : List PyData} (h : alikes ds = true) : PySem.W.AllAlike ds := by
  intro d hd d' hd'
  unfold alikes at h
  rw [List.all_eq_true] at h
  have := h d hd
  rw [List.all_eq_true] at this
  exact this d' hd'
theorem sortk_ok {ds : List PyData} (h : sortk ds = true) : PySem.W.Sortable ds := by
  unfold sortk at h
  rw [Bool.or_eq_true, List.all_eq_true, List.all_eq_true] at h
  rcases h with h | h
  · refine .inl fun d hd => ?_
    have := h d hd
    split at this
    · exact ⟨_, _, rfl⟩
    · cases this
  · refine .inr fun d hd => ?_
    have := h d hd
    split at this
    · cases this
    · cases this
    · rename_i h1 h2
      exact ⟨h1, fun xs e => h2 xs e⟩
section
variable {C : CC} {W : WX} {X : Cx} {ad : List Addr} {H : Hp} {S : Sto} {e : Expr} {x : Ex} {pos : Pos}
/-- the items, what stands for them, their data -/
theorem rdz_each {K : PySem.W.Frag} (sm : Sim C ad S H) : ∀ {xs ws : List V} {bs : List (V × PyData)}, rdz S xs = some bs → RVs ad xs ws → ∃ ts : List (V × V × PyData), ts.map (fun t => (t.1, t.2.2)) = bs ∧ ts.map (fun t => t.2.1) = ws ∧ (∀ t ∈ ts, RV ad t.1 t.2.1 ∧ Dp K H t.2.1 t.2.2)
  | [], ws, bs, h, r => by unfold rdz at h; cases h; cases r; exact ⟨[], rfl, rfl, by simp⟩
  | x :: xs, ws, bs, h, r => by
    cases r with
    | @cons _ w _ ws' r1 r2 =>
      unfold rdz at h
      split at h
      · rename_i d r h1 h2
        cases h
        obtain ⟨ts, e1, e2, e3⟩ := rdz_each (K := K) sm h2 r2
        refine ⟨(x, w, d) :: ts, by simp [e1], by simp [e2], fun t ht => ?_⟩
        rcases List.mem_cons.mp ht with rfl | ht
        · exact ⟨r1, rd_dp sm _ _ _ _ h1 r1⟩
        · exact e3 t ht
      · cases h
theorem vals_each {β : Type} {f : β → V} : ∀ {ts : List β} {us : List Value}, Vals (ts.map f) us → PySem.W.EachIs (fun (u : Value) (t : β) => RelV (f t) u) us ts
  | [], us, h => by cases h; exact .nil
  | t :: ts, us, h => by
    cases h with
    | cons h1 h2 => exact .cons h1 (vals_each h2)
theorem each_vals {β : Type} {f : β → V} : ∀ {ts : List β} {us : List Value}, PySem.W.EachIs (fun (u : Value) (t : β) => RelV (f t) u) us ts → Vals (ts.map f) us
  | [], us, h => by cases h; exact .nil
  | t :: ts, us, h => by
    cases h with
    | cons h1 h2 => exact .cons h1 (each_vals h2)
theorem each_two {α β : Type} {R : α → β → Prop} : ∀ {as : List α} {bs : List β}, PySem.W.EachIs R as bs → ∀ {P : β → Prop}, (∀ b ∈ bs, P b) → PySem.W.EachIs (fun a b => R a b ∧ P b) as bs
  | _, _, .nil, _, _ => .nil
  | _, _, .cons h t, _, hp => .cons ⟨h, hp _ (List.mem_cons_self)⟩ (each_two t fun b hb => hp b (List.mem_cons_of_mem _ hb))
theorem rvs_ts {ts : List (V × V × PyData)} (h : ∀ t ∈ ts, RV ad t.1 t.2.1) : RVs ad (ts.map fun t => t.1) (ts.map fun t => t.2.1) := by
  induction ts with
  | nil => exact .nil
  | cons t ts ih => exact .cons (h t List.mem_cons_self) (ih fun t ht => h t (List.mem_cons_of_mem _ ht))
/-- what the sorted list is -/
theorem sortD_out {rev : Bool} {a w : V} {o : Ob} (hK : C.K = X.K) (sm : Sim C ad S H) (ra : RV ad a w) (hg : gSortD rev a S = some o) :
    ∃ (b : Addr) (ts : List (V × V × PyData)), w = .ref b ∧ SqL X.K H b (ts.map fun t => t.2.1) ∧ (∀ t ∈ ts, RV ad t.1 t.2.1 ∧ Dp X.K H t.2.1 t.2.2) ∧ ts.length < 100000 ∧ PySem.W.AllAlike (ts.map fun t => t.2.2) ∧ PySem.W.Sortable (ts.map fun t => t.2.2) ∧ (∀ t ∈ ts, t.2.2.depth ≤ 60) ∧
      o = .lst ((ts.mergeSort (PySem.W.dataLe rev fun t => t.2.2)).map fun t => t.1) := by
  unfold gSortD at hg
  split at hg
  · rename_i xs hx
    split at hg
    · rename_i bs hb
      split at hg
      · rename_i hc
        cases hg
        obtain ⟨b, ws, rfl, rw_, hs⟩ := lst_of (K := X.K) hK sm hx ra
        obtain ⟨ts, e1, e2, e3⟩ := rdz_each (K := X.K) sm hb rw_
        have e4 : bs.map Prod.snd = ts.map fun t => t.2.2 := by rw [← e1, List.map_map]; rfl
        have e5 : bs.length = ts.length := by rw [← e1, List.length_map]
        rw [e4] at hc
        refine ⟨b, ts, rfl, by rw [e2]; exact hs, e3, by rw [← e5]; exact hc.1, alikes_ok hc.2.1, sortk_ok hc.2.2.1, fun t ht => ?_, ?_⟩
        · have := hc.2.2.2
          rw [List.all_eq_true] at this
          exact of_decide_eq_true (this _ (List.mem_map.mpr ⟨t, ht, rfl⟩))
        · congr 1
          rw [← e1, ← List.map_mergeSort (r := PySem.W.dataLe rev fun t : V × V × PyData => t.2.2) (s := PySem.W.dataLe rev Prod.snd) (f := fun t : V × V × PyData => (t.1, t.2.2)) (fun a _ b _ => rfl), List.map_map]
          rfl
      · cases hg
    · cases hg
  · cases hg
theorem line_at {n : Nat} (h : n < 100000) : n ≤ sizeLine := line_of (by omega)
theorem sortD_run {rev : Bool} {pins : List (Addr × Obj)} {s : Shared} {σ : L2.St} {b : Addr} {ts : List (V × V × PyData)} {Q : VK} (hu : X.A.units + 64 < cLine) (I : Inv X pins σ H s) (hs : SqL X.K H b (ts.map fun t => t.2.1))
    (hr : ∀ t ∈ ts, RV ad t.1 t.2.1 ∧ Dp X.K H t.2.1 t.2.2) (hl : ts.length < 100000) (hA : PySem.W.AllAlike (ts.map fun t => t.2.2)) (hS : PySem.W.Sortable (ts.map fun t => t.2.2)) (hd : ∀ t ∈ ts, t.2.2.depth ≤ 60)
    (q : ∀ p, H p = none → Q (.ref p) (upd H p (.lst ((ts.mergeSort (PySem.W.dataLe rev fun t => t.2.2)).map fun t => t.2.1)))) :
    wpAny (model X.prog X.w) X.A (call (.builtin "sorted") [.ref b] [(Str.ofString "reverse", .bool rev)]) (EP X pins σ Q) X.xe s := by
  obtain ⟨its, rv, hpl, hz⟩ := I.list hs
  have ev := vals_each (f := fun t : V × V × PyData => t.2.1) rv
  have er : PySem.W.EachIs (fun (u : Value) (t : V × V × PyData) => ∃ as, Reads s.heap u t.2.2 as) its ts := (each_two ev (fun t ht => (hr t ht).2)).mono fun u t ⟨h1, h2⟩ => Dp.reads I _ _ _ h2 h1
  refine PySem.W.sorted_rev_data hpl.isList ev er hA hS (line_at hl) (fun t ht => by have := hd t ht; omega) fun out ho eo => ?_
  obtain ⟨ep, he⟩ := PyProof.Rows.sortedAll_at s.heap its out.toArray
  have ro := each_vals eo
  exact ⟨.ref _, upd H (s.heap.objs.size + 1) (.lst ((ts.mergeSort (PySem.W.dataLe rev fun t => t.2.2)).map fun t => t.2.1)), I.laid (t' := s.toks) (fun _ _ => PyProof.Rows.sortedAll_old) (Nat.le_succ _) ⟨by rw [List.length_map, List.length_mergeSort]; exact line_at hl, _, ep, ro, by simpa using he⟩, rfl, q _ (I.hok.fresh (Nat.le_succ _))⟩
theorem c_sortedRev {rev : Bool} (hK : C.K = X.K) (hu : X.A.units + 64 < cLine) : CallRK X (.builtin "sorted") [Str.ofString "reverse"] (fun vs zs H Q => zs = [V.bl rev] ∧ rP C (pn1 (gSortD rev)) vs H Q) := by
  intro pins s σ H ws zs us vs Q I r rz ⟨hz, h⟩
  subst hz
  obtain ⟨w1, rfl, e1⟩ := vals1 rz
  obtain rfl : w1 = Value.bool rev := e1
  obtain ⟨ad, S, a, u, o, rfl, sm, ra, hg, k⟩ := rp_new1 h
  obtain ⟨b, ts, rfl, h1, h2, h3, h4, h5, h6, rfl⟩ := sortD_out hK sm ra hg
  obtain rfl := Vals.ref1 r
  refine sortD_run hu I h1 h2 h3 h4 h5 h6 ?_
  exact alloc_out sm k (new_lst (rvs_ts fun t ht => (h2 t ((List.mergeSort_perm _ _).mem_iff.mp ht)).1))
theorem xe_sortedRev {e2 : Expr} {pf kp2 : Pos} (hK : C.K = X.K) (hu : X.A.units + 64 < cLine) (hg : Gl X "sorted") (hm : X.mg "sorted" = none) (ha : PE X e (tEv C W x)) (hb : PE X e2 (tEv C W (.cst (.bl true))))
    (he : starEach [e] X.env = (false, eval e X.env) :: starEach [] X.env) :
    PE X (.Call (.Name "sorted" pf) [e] [⟨some "reverse", e2, kp2⟩] pos) (tEv C W (.pn (pn1 (gSortD true)) (.cons x .nil))) := by
  refine PE.imp (pe_callBK (c_sortedRev (rev := true) hK hu) hg hm (by decide +kernel) (xa_cons ha xa_nil he) (xk_cons hb xk_nil) (by decide) (by decide) (by rw [he]; rfl) (by rw [he]; rfl)) ?_
  rintro σ H Q ⟨ad, S, ρ, s, r, q⟩
  unfold ev at q
  refine ⟨ad, S, ρ, s, r, (tM.bind (R := RVs) q).mono ?_⟩
  rintro ws H1 ⟨ad1, S1, vs, e1, s1, r1, q1⟩
  refine ⟨ad1, S1, ρ, s1, r.ext e1, ?_⟩
  have e0 : evs (.cons (.cst (.bl true)) .nil) ρ S1 = some (.val [.bl true] S1) := by unfold evs ev evs; rfl
  rw [e0]
  intro ad2 H2 ts e2 s2 r2
  refine ⟨?_, ad2, S1, vs, s2, r1.ext e2, (q1.noX (noX_pn1 _ vs S1)).step e2⟩
  cases r2 with
  | cons h1 h2 => cases h1; cases h2; rfl
/-- a comprehension in a comprehension -/
theorem blkOk_at {scope : Scope} {own : List (Str × Nat)} (h : blkC X.N X.env.scope scope own = true) : BlkOk X.N X.env.scope scope own := blkOk_by h
end
end Nx

set_option Elab.async false
set_option linter.all false
set_option maxRecDepth 100000
set_option autoImplicit false
/-! own exceptions whose __init__ says super().__init__(text) alone; try: .. except C: without a name -/
namespace Nx
open PySem L2 PySem.W PySem.Calls PyProof.Rows
/-- what the written part says of such an __init__ -/
structure SupI0 (P : Program) (K : Frag) (C fI cc cda : Addr) (qual : Str) (params : Arguments) (scope : Scope) (sf : Str) : Prop where
  par0 : (params.posonlyargs ++ params.args).head?.map (·.arg) = some sf
  sup : scope.names.lookup ("super" : Str) = some .globalImplicit
  cls : scope.names.lookup ("__class__" : Str) = some .free
  sl : scope.names.lookup sf = some .local
  sd : (sf == ("__debug__" : Str)) = false
  nocell : ∀ x ∈ scope.names, x.2 ≠ .cell
  co : scope.isCoroutine = false
  gen : scope.isGenerator = false
  kind : scope.kind = .function
  code : codeIn K (.ref cda) qual = true
  file : ∃ ccl cdd vs ccs file tf, K.lookup cda = some ⟨ccl, cdd, .fields vs, ccs⟩ ∧ vs[2]? = some (.str file tf) ∧ ((P.main.file : Str) == file) = true
  cell : ∃ cl cld csl, K.lookup cc = some ⟨cl, cld, .cell (some (.ref C)), csl⟩
  sub : mroIn K C (.ref C) = some true
  glob : nsIn K mainGlobals "super" = some none
  top : (P.main.scope.names.lookup ("super" : Str)).isSome = false
  opq : nsIn K cStatics "thirdparty.any" = some none
  met : ks_superIn K C C "__init__" = some (some (.builtin "ValueError.__init__"))
  vErr : subIn K (.ref C) (.type "ValueError") = some true
section
variable {P : Program} {w : World} {K : Frag} {mg : Str → Option Value} {base : Heap} {A : Around} {R : Result → Shared → Prop} {hq : Heap} {g : Array GenState} {d : Drawn} {t : Nat} {os : OsState}
variable {C fI cc cda e t0 : Addr} {name qual sf fv f txt : Str} {params : Arguments} {body : List Stmt} {scope : Scope} {dV kV doc pm ct oc u : Value} {an od : Option Addr} {osl : Array (Option Value)} {ck : Nat} {pa p0 p1 p2 p3 p4 p5 p6 p7 p8 : Pos}
theorem init_sup0 (Md : Mod K mg base) (bk : ∀ b o, base.get? b = some o → hq.get? b = some o) (T : OexC K C) (Z : SupI0 P K C fI cc cda qual params scope sf)
    (he : hq.get? e = some (PySem.HandSPX.excO C t0)) (hbe : base.get? e = none) (lk : K.lookup fI = some ⟨oc, od, .func (ksFn name qual params [.Expr (.Call (.Attribute (.Call (.Name "super" p0) [] [] p1) "__init__" p2) [.Constant (.str txt) ck pa] [] p3) p4] scope dV kV doc pm an (.ref cda) ct cc), osl⟩)
    (hroom : A.depth < recursionLimit)
    (hb : L2.Binds K (ksFn name qual params [.Expr (.Call (.Attribute (.Call (.Name "super" p0) [] [] p1) "__init__" p2) [.Constant (.str txt) ck pa] [] p3) p4] scope dV kV doc pm an (.ref cda) ct cc) [sf] [])
    (hev : ∀ env : Env, ∃ pl, eval (.Call (.Attribute (.Call (.Name "super" p0) [] [] p1) "__init__" p2) [.Constant (.str txt) ck pa] [] p3) env = (do
      let ov ← attributeBase (.Call (.Name "super" p0) [] [] p1) "__init__" env (eval (.Call (.Name "super" p0) [] [] p1) env)
      standAt p2.atName
      let (f, first) ← holding [ov] (getMethod ov "__init__" pl)
      callWith p3 f first (backTo p3 (starEach [.Constant (.str txt) ck pa] env)) []))
    (hsw : ∀ env : Env, swapsWith (.Call (.Attribute (.Call (.Name "super" p0) [] [] p1) "__init__" p2) [.Constant (.str txt) ck pa] [] p3) none p4.line env = pure false)
    (hR : ∀ h' tk t1, (∀ b o, b ≠ e → hq.get? b = some o → h'.get? b = some o) → h'.get? e = some (PySem.HandSPX.excO C t1) → R (.ok (.ret .none)) ⟨h', g, d, tk, os⟩) :
    codeAny (model P w) A (.call (.ref fI) ⟨[.ref e], []⟩) R ⟨hq, g, d, t, os⟩ := by
  obtain ⟨nm, q, N, bs, bm, sn, sub, ab, col, dd, k0, k1, k2, k3, k5, hC, hbm⟩ := T.cls
  have KX : K.In hq := Md.kin.keeps bk
  have hbind := hb ⟨hq, g, d, t, os⟩ [.ref e] KX rfl
  refine PySem.ks_codeAny_call_defAt (binds := [(sf, .ref e)]) hroom (KX _ _ lk) rfl (Md.nolimit.keeps bk) (codeRec_of KX Z.code) rfl hbind Z.nocell (fun y hy => ?_) (fun h₀ hns hk => ?_) Z.co Z.gen Z.kind
  · simp only [List.mem_cons, List.not_mem_nil, or_false] at hy
    subst hy
    exact Z.sl
  · have X0 : K.In h₀ := KX.keeps hk
    obtain ⟨mb, hmb, hmb2⟩ := Md.blt
    obtain ⟨ccl, cdd, vs, ccs, file, tf, hc1, hc2, hc3⟩ := Z.file
    obtain ⟨cl, cld, csl, hcell⟩ := Z.cell
    obtain ⟨ar, har, hsf⟩ : ∃ ar, (params.posonlyargs ++ params.args).head? = some ar ∧ ar.arg = sf := by
      have := Z.par0
      cases z : (params.posonlyargs ++ params.args).head? with
      | none => rw [z] at this; cases this
      | some ar => rw [z] at this; exact ⟨ar, rfl, Option.some.inj this⟩
    have hbm1 : ([(sf, Value.ref e)].reverse).lookup sf = some (.ref e) := by simp [List.lookup]
    have bk0 : ∀ b o, base.get? b = some o → h₀.get? b = some o := fun b o z => hk _ _ (bk _ _ z)
    have hin : interactive (ksEnv qual scope hq.objs.size fI (.ref cda) cc) = false := by
      show (scope.kind == ScopeKind.module && _) = false
      rw [Z.kind]; rfl
    obtain ⟨pl, hev⟩ := hev (ksEnv qual scope hq.objs.size fI (.ref cda) cc)
    refine PySem.ks_wpAt_execs_cons (PySem.ks_wpAt_Expr_any (PySem.ks_wpAt_MethodCall (pl := pl) ?_ hev) hin (hsw _))
    refine PySem.ks_wpAt_super_base (env := ksEnv qual scope hq.objs.size fI (.ref cda) cc) Z.sup Z.cls (by decide) rfl (X0 _ _ lk) rfl har rfl (X0 _ _ hc1) rfl hc2 hc3 Z.top ?_
    refine ks_loadName_global Z.kind Z.sup (loadGlobal_builtin (env := ksEnv qual scope hq.objs.size fI (.ref cda) cc) (Md.glob.keeps bk0) (mg_none_of Md.kin Md.glob Z.glob) (hmb.keeps bk0) ((hmb2 _ (by decide +kernel)).trans (by decide +kernel)) ⟨rfl, ?_⟩)
    refine wpAny_loadName_free Z.kind Z.cls rfl ⟨_, X0 _ _ hcell, rfl⟩ ?_
    refine wpAny_loadName_local Z.kind (by rw [hsf]; exact Z.sl) hns (v := .ref e) (by rw [hsf]; exact hbm1) ?_
    refine PySem.ks_wpAny_isType_cls (X0 _ _ hC) rfl ⟨rfl, ?_⟩
    refine PySem.ks_wpAny_call_super (X0 _ _ hC) rfl (hk _ _ he) rfl (fun c z => by cases z) (looks_mroIn X0 Z.sub) (fun h1 hso k1' => ?_)
    have X1 : K.In h1 := X0.keeps k1'
    have he1 : h1.get? e = some (PySem.HandSPX.excO C t0) := k1' _ _ (hk _ _ he)
    have hcl : clsIn K C = some { name := nm, bases := bs, mro := .ref C :: bm, ns := N, qualname := q, hasDict := true, slotNames := sn, subclasses := sub, abstract := ab, collection := col, hasDel := false } := by unfold clsIn; rw [hC] <;> rfl
    have hxC : e ≠ C := fun z => by
      have y := KX _ _ hC
      rw [← z, he] at y
      cases y
    have hI : Looks (model P w) h1 (isInstance (.ref e) (.type "ValueError")) true := (show InstAt h1 e (PySem.HandSPX.excO C t0) C none from ⟨he1, rfl, rfl, trivial⟩).type.andThen (looks_subIn X1 Z.vErr)
    have met := Z.met
    unfold ks_superIn at met
    rw [hcl] at met
    refine kxs_getMethod kxs_ValueError hso (looks_opaque X1 Z.opq) (l₀ := .ref C :: bm) (fun A Q E s k q => wpAny_bind ((looks_clsIn X1 hcl) A _ E s k (wpAny_pure q))) rfl X1 met hI hxC (by decide) ?_
    have k2 : ∀ b o, h1.get? b = some o → (h1.push (kxs_mw "ValueError.__init__" e)).get? b = some o := fun b o z => Heap.get?_push_of_some _ z
    have hmw : (h1.push (kxs_mw "ValueError.__init__" e)).get? h1.objs.size = some (kxs_mw "ValueError.__init__" e) := Heap.get?_push_at rfl rfl
    have X2 : K.In (h1.push (kxs_mw "ValueError.__init__" e)) := X1.keeps k2
    refine kxs_callWith (i := "ValueError.__init__") (x := e) rfl (evalArgs_plain (spliced_cons (wpAny_Constant_str (k := ck) (pos := pa) (Calls.spliced_nil ⟨hmw, ?_⟩))))
    refine call_mw (X2 _ _ hC) (k2 _ _ he1) hmw (by simp [sizeLine_eq]) (fun h3 t1 k3 he3 => ?_)
    refine PySem.wpAt_of_wpAny (wpAny_execs_nil ?_)
    exact hR h3 _ t1 (fun b o hb z => k3 _ _ hb (k2 _ _ (k1' _ _ (hk _ _ z)))) he3
end

abbrev supB0 (txt : Str) (ck : Nat) (pa p0 p1 p2 p3 p4 : Pos) : List Stmt :=
  [.Expr (.Call (.Attribute (.Call (.Name "super" p0) [] [] p1) "__init__" p2) [.Constant (.str txt) ck pa] [] p3) p4]
structure SupT0 (txt : Str) (ck : Nat) (pa p0 p1 p2 p3 p4 : Pos) : Prop where
  ev : ∀ env : Env, ∃ pl, eval (.Call (.Attribute (.Call (.Name "super" p0) [] [] p1) "__init__" p2) [.Constant (.str txt) ck pa] [] p3) env = (do
      let ov ← attributeBase (.Call (.Name "super" p0) [] [] p1) "__init__" env (eval (.Call (.Name "super" p0) [] [] p1) env)
      standAt p2.atName
      let (f, first) ← holding [ov] (getMethod ov "__init__" pl)
      callWith p3 f first (backTo p3 (starEach [.Constant (.str txt) ck pa] env)) [])
  sw : ∀ env : Env, swapsWith (.Call (.Attribute (.Call (.Name "super" p0) [] [] p1) "__init__" p2) [.Constant (.str txt) ck pa] [] p3) none p4.line env = pure false
section
variable {X : Cx} {C fI cc cda : Addr} {name qual sf txt x : Str} {params : Arguments} {scope : Scope} {dV kV doc pm ct oc : Value} {an od : Option Addr} {osl : Array (Option Value)} {ck k : Nat} {pa p0 p1 p2 p3 p4 p pos : Pos}
theorem pmk_sup0 (T : OexC X.K C) (iC : findIn X.K (.ref C) "__init__" = some (some (.ref fI))) (tI : typeIn X.K (.ref fI) = some (.type "function")) (Z : SupI0 X.prog X.K C fI cc cda qual params scope sf) (Y : SupT0 txt ck pa p0 p1 p2 p3 p4)
    (lk : X.K.lookup fI = some ⟨oc, od, .func (ksFn name qual params (supB0 txt ck pa p0 p1 p2 p3 p4) scope dV kV doc pm an (.ref cda) ct cc), osl⟩)
    (hb : L2.Binds X.K (ksFn name qual params (supB0 txt ck pa p0 p1 p2 p3 p4) scope dV kV doc pm an (.ref cda) ct cc) [sf] [])
    (hr : Room (k + 2) X.A) (hg : Gl X x) (hm : X.mg x = some (.ref C)) (hdb : (x == ("__debug__" : Str)) = false := by decide) :
    PMk X (.Call (.Name x p) [] [] pos) (fun _ H Q => Q (.ref C) none H) := by
  intro pins s σ H Q I h
  obtain ⟨nm, q, N, bs, bm, sn, sub, ab, col, dd, k0, k1, k2, k3, k5, hC, hbm⟩ := T.cls
  refine wpAny_Call_Name_kw (ld_glob I hg hm ?_ hdb)
  refine callWith_K0 I.kIn T.kC ?_
  show wpAny _ _ (call (.ref C) []) _ _ _
  obtain ⟨hp, g, dr, tk, os⟩ := s
  have kk : ∀ b o, hp.get? b = some o → ((hp.push (kdv_tup [])).push (PySem.HandSPX.excO C hp.objs.size)).get? b = some o := fun b o e => Heap.get?_push_of_some _ (Heap.get?_push_of_some _ e)
  have hget : ((hp.push (kdv_tup [])).push (PySem.HandSPX.excO C hp.objs.size)).get? (hp.objs.size + 1) = some (PySem.HandSPX.excO C hp.objs.size) := by heap_get
  have hne : hp.get? (hp.objs.size + 1) = none := by
    cases z : hp.get? (hp.objs.size + 1) with
    | none => rfl
    | some o => exact absurd (Heap.lt_size z) (Nat.not_lt.mpr (Nat.le_succ _))
  have hbe : X.base.get? (hp.objs.size + 1) = none := by
    cases z : X.base.get? (hp.objs.size + 1) with
    | none => rfl
    | some o =>
      have := (I.bs _ _ z).1
      rw [hne] at this; cases this
  refine wpAny_call (PySem.HandSPX.call_own PySem.F.excBase_ValueError (fun Y => PySem.HandSPX.refsVE_contains Y bm hbm) (I.kIn _ _ hC) (looks_findIn I.kIn iC) (fun self => bind_fn I.kIn self tI) (by simp [sizeLine_eq])
    (init_sup0 I.ok.mod (fun b o z => kk _ _ (I.bs b o z).1) T Z hget hbe lk (hr.make C [] []).depth hb Y.ev Y.sw fun h' tk' t1 kp hx => ⟨rfl, ?_⟩))
  obtain ⟨G, g1', g2'⟩ := restrict h' fun b => decide (b ≠ hp.objs.size + 1)
  have gk : ∀ b, b ≠ hp.objs.size + 1 → G.get? b = h'.get? b := fun b hb => g1' b (decide_eq_true hb)
  have ge : G.get? (hp.objs.size + 1) = none := g2' _ (by simp)
  have kG : ∀ b o, hp.get? b = some o → G.get? b = some o := fun b o z => by
    have nb : b ≠ hp.objs.size + 1 := fun w => by rw [w, hne] at z; cases z
    rw [gk b nb]
    exact kp b o nb (kk b o z)
  have J : L2.Inv X pins σ H ⟨G, g, dr, tk', os⟩ := I.kept (t' := tk') kG
  refine ⟨hp.objs.size + 1, _, _, ⟨G, g, dr, tk', os⟩, _, .ref C, none, rfl, J, fun b o z => ?_, ge, hx, ⟨rfl, rfl⟩, rfl, rfl, ?_, rfl, I.bare, raises_own T.exC T.tyC, h⟩
  · by_cases hb : b = hp.objs.size + 1
    · rw [hb, ge] at z; cases z
    · exact (gk b hb).symm.trans z
  · exact I.hok.gone hne
end
/-- an own exception without a field -/
structure ExK0 (P : Program) (K : Frag) (C : Addr) : Prop where
  ex : ∃ (fI cc cda : Addr) (name qual sf txt : Str) (params : Arguments) (scope : Scope) (dV kV doc pm ct oc : Value) (an od : Option Addr) (osl : Array (Option Value)) (ck : Nat) (pa p0 p1 p2 p3 p4 : Pos),
    OexC K C ∧ findIn K (.ref C) "__init__" = some (some (.ref fI)) ∧ typeIn K (.ref fI) = some (.type "function") ∧ SupI0 P K C fI cc cda qual params scope sf ∧ SupT0 txt ck pa p0 p1 p2 p3 p4 ∧
    K.lookup fI = some ⟨oc, od, .func (ksFn name qual params (supB0 txt ck pa p0 p1 p2 p3 p4) scope dV kV doc pm an (.ref cda) ct cc), osl⟩ ∧
    L2.Binds K (ksFn name qual params (supB0 txt ck pa p0 p1 p2 p3 p4) scope dV kV doc pm an (.ref cda) ct cc) [sf] []
  xf : XfC K C
  me : exmOne K (.ref C) (.ref C) = some true
theorem ExK0.pmk {X : Cx} {C : Addr} {x : Str} {p pos : Pos} (T : ExK0 X.prog X.K C) (hr : Room 2 X.A) (hg : Gl X x) (hm : X.mg x = some (.ref C)) (hdb : (x == ("__debug__" : Str)) = false := by decide) :
    PMk X (.Call (.Name x p) [] [] pos) (fun _ H Q => Q (.ref C) none H) := by
  obtain ⟨fI, cc, cda, name, qual, sf, txt, params, scope, dV, kV, doc, pm, ct, oc, an, od, osl, ck, pa, p0, p1, p2, p3, p4, h1, h2, h3, h4, h5, h6, h7⟩ := T.ex
  exact pmk_sup0 (k := 0) h1 h2 h3 h4 h5 h6 h7 hr hg hm hdb
theorem exk0_mk {P : Program} {K : Frag} {C fI cc cda N : Addr} {nm q qual sf txt file : Str} {bs bm : List Value} {sn : List Str} {sub : List Value} {ab : Bool} {col : Option Bool} {dd : Option Addr} {k0 k1 k2 k3 k5 : Option Value} {params : Arguments} {body : List Stmt} {scope : Scope}
    {dV kV doc pm ct oc ccl cl : Value} {an od cdd cld : Option Addr} {osl ccs csl : Array (Option Value)} {vs : Array Value} {tf : Tok} {ck : Nat} {pa p0 p1 p2 p3 p4 : Pos}
    (hxl : K.lookup C = some (excClassObj nm q C N bs bm true sn sub ab col dd k0 k1 k2 k3 k5 "ValueError.__new__")) (hxr : PySem.HandSPX.refsVE bm = true) (hxs : findIn K (.ref C) "__setattr__" = some (some (.builtin "object.__setattr__")))
    (hxe : subIn K (.ref C) (.type "BaseException") = some true) (hxt : typeIn K (.ref C) = some (.type "type")) (hxk : keepIn K (.ref C) = true) (hxi : findIn K (.ref C) "__init__" = some (some (.ref fI))) (hxf : typeIn K (.ref fI) = some (.type "function"))
    (hxF : K.lookup fI = some ⟨oc, od, .func (ksFn "__init__" qual params body scope dV kV doc pm an (.ref cda) ct cc), osl⟩) (hxc : codeIn K (.ref cda) qual = true) (hxC : K.lookup cda = some ⟨ccl, cdd, .fields vs, ccs⟩) (hxv : vs[2]? = some (.str file tf))
    (hxp : ((P.main.file : Str) == file) = true) (hxx : K.lookup cc = some ⟨cl, cld, .cell (some (.ref C)), csl⟩) (hxm : mroIn K C (.ref C) = some true) (hxu : nsIn K mainGlobals "super" = some none) (hxT : (P.main.scope.names.lookup ("super" : Str)).isSome = false)
    (hxo : nsIn K cStatics "thirdparty.any" = some none) (hxM : ks_superIn K C C "__init__" = some (some (.builtin "ValueError.__init__"))) (hxV : subIn K (.ref C) (.type "ValueError") = some true)
    (hxa : findIn K (.ref C) "__getattribute__" = some (some (.builtin "BaseException.__getattribute__"))) (hxb : findIn K (.ref C) "__getattr__" = some none) (hxD : hasDictIn K C = true) (hxy : exmOne K (.ref C) (.ref C) = some true)
    (hbody : body = supB0 txt ck pa p0 p1 p2 p3 p4) (Y : SupT0 txt ck pa p0 p1 p2 p3 p4)
    (hb : ∀ us : List Value, us.length = 1 → bindArgs (ksFn "__init__" qual params body scope dV kV doc pm an (.ref cda) ct cc) ⟨us, []⟩ = pure ([sf].zip us))
    (par0 : (params.posonlyargs ++ params.args).head?.map (·.arg) = some sf) (sup : scope.names.lookup ("super" : Str) = some .globalImplicit) (cls : scope.names.lookup ("__class__" : Str) = some .free) (sl : scope.names.lookup sf = some .local)
    (sd : (sf == ("__debug__" : Str)) = false) (nocell : ∀ x ∈ scope.names, x.2 ≠ .cell) (co : scope.isCoroutine = false) (gen : scope.isGenerator = false) (kind : scope.kind = .function) : ExK0 P K C := by
  subst hbody
  exact ⟨⟨fI, cc, cda, "__init__", qual, sf, txt, params, scope, dV, kV, doc, pm, ct, oc, an, od, osl, ck, pa, p0, p1, p2, p3, p4, ⟨⟨_, _, _, _, _, _, _, _, _, _, _, _, _, _, _, hxl, hxr⟩, hxs, hxe, hxt, hxk⟩, hxi, hxf,
    ⟨par0, sup, cls, sl, sd, nocell, co, gen, kind, hxc, ⟨_, _, _, _, _, _, hxC, hxv, hxp⟩, ⟨_, _, _, hxx⟩, hxm, hxu, hxT, hxo, hxM, hxV⟩, Y, hxF, L2.Binds.all hb⟩, ⟨hxa, hxb, hxe, hxD⟩, hxy⟩
section
variable {C : CC} {ad ad1 ad' : List Addr} {H H1 H' : Hp} {S S1 S' : Sto} {a p : Addr} {X : Cx} {W : WX}
theorem xs_raise0 {c : Nat} {ec : PySem.Expr} {pos : Pos} (hc : X.calm = true) (tk : Takes X W) (mk : PMk X ec (fun _ H Q => Q (.ref (C c)) none H)) : PS X (.Raise (some ec) none pos) (tEx C W (.raise c [] .nil)) := by
  refine PS.imp (ps_raise hc tk mk) ?_
  rintro D σ H ⟨ad, S, ρ, s, r, q⟩
  unfold ex evs at q
  simp only [M.toS] at q
  rw [if_pos (show ([] : List V).length = ([] : List Str).length from rfl)] at q
  exact q ad H σ none [] (Ext.refl s) s r .nil (.inr ⟨rfl, rfl⟩)
/-- try: body / except x: suite, without a name -/
theorem xs_try_only {body : List Stmt} {bodyx hx : Sxs} {x : Str} {c : Nat} {cv : Value} {b₀ : Stmt} {suite : List Stmt} {np pos pos' : Pos}
    (tk : Takes X W) (hs : X.stack = X.env :: X.outer) (hf : X.env.frame = some X.env.locals) (hc : Names X x cv) (hex : PySem.W.exmOne X.K (.ref (C c)) cv = some true)
    (hb : ∀ (W : WX) (pn : List (Addr × Obj)) (xe : Value → Shared → Prop), Takes (X.tr pn xe) W → PassesOwn (model X.prog X.w) X.A X.env xe → PSs (X.tr pn xe) body (tExs C W bodyx))
    (hsu : ∀ (a : Addr) (oe : Obj) (cls : Value) (d : Option Addr) (pn : List (Addr × Obj)), Zc cls d oe → (∃ vs, oe.data = .fields vs) → PSs (X.suite a ((a, oe) :: pn)) (b₀ :: suite) (tExs C W0 hx)) :
    PS X (.Try body [.ExceptHandler (some (.Name x np)) none (b₀ :: suite) pos'] [] [] pos) (tEx C W (.tryO c bodyx hx)) := by
  refine PS.imp (ps_try_only (tb := fun W => tExs C W bodyx) (ts := fun a cls d => tExs C W0 hx) hs hf hc tk hb fun a oe cls d pn hz hd => hsu a oe cls d pn hz hd) ?_
  rintro D σ H ⟨ad, S, ρ, s, r, q⟩
  refine ⟨ad, S, ρ, s, r, ?_⟩
  unfold ex at q
  cases o : exs bodyx ρ S with
  | none => rw [o] at q; exact q
  | some so =>
    rw [o] at q
    cases so with
    | exc cd fs ρ' S' =>
      by_cases hd : cd = c
      · subst hd
        simp only [if_pos] at q
        intro ad' H' σ' d gs e1 s1 r1 rf hxd
        refine ⟨true, hex, fun _ a ha => ⟨ad', S', ρ', s1, r1, ?_⟩, fun z => by cases z⟩
        cases h : exs hx ρ' S' with
        | none => rw [h] at q; exact q.elim
        | some o2 =>
          rw [h] at q
          cases o2 with
          | exc c2 fs2 ρ2 S2 => exact q.elim
          | _ => exact q.step e1
      · simp only [if_neg hd] at q; exact q.elim
    | nx ρ' S' => exact q
    | rt v S' => exact q
    | bk ρ' S' => exact q
    | ct ρ' S' => exact q
end
end Nx

set_option Elab.async false
set_option linter.all false
set_option maxRecDepth 100000
set_option autoImplicit false
/-! self.f, x = e; o[i] op= v -/
namespace Nx
open PySem L2 PySem.Spec PyProof.Rows
section
variable {C : CC} {ad ad1 ad' : List Addr} {H H1 H' : Hp} {S S1 S' : Sto} {a p : Addr} {X : Cx} {W : WX} {e o : PySem.Expr} {es : List PySem.Expr} {x y z : Ex} {pos : Pos}
def gFldT (K : PySem.W.Frag) (to : TE) (f : Str) : TG := fun v σ H Q => to σ H fun x H1 => ∃ a C dx fs, x = .ref a ∧ H1 a = some (.ins C dx fs) ∧ Cls K C ∧ NoAttr K C f ∧ fs.length < 1000 ∧ Q σ (upd H1 a (.ins C dx (putF f v fs)))
theorem pg_fld {to : TE} {f : Str} (ho : PE X o to) : PG X (.Attribute o f pos) (gFldT X.K to f) := by
  refine ⟨fun pins s σ H v u Q I r h => ?_⟩
  rw [assign_Attribute]
  refine wpAny_bind (wpAny_holding (thn (ho.run pins s σ H _ I h) fun ov s1 ⟨x, H1, I1, rx, a, C, dx, fs, ex, ea, c, n, l, q⟩ => ?_))
  subst ex
  obtain rfl : ov = Value.ref a := rx
  refine wpAny_bind (wpAny_standAt (wpAny_bind (wpAny_holding (setattr_ok I1 ea c n l r fun s3 I3 => ?_))))
  exact wpAny_release ⟨σ, _, I3, q⟩
abbrev Tgt := Nat ⊕ (List Nat × Str × Nat)
/-- where the store of names and fields ends -/
def tNx (C : CC) (ad : List Addr) (H : Hp) (K : L2.St → Hp → Prop) : MS → Prop
  | some (.nx ρ S') => ∀ ad' H' σ', Ext ad H ad' H' → Sim C ad' S' H' → EnvR ad' ρ σ' → K σ' H'
  | _ => False
theorem tNx.step {K : L2.St → Hp → Prop} {m : MS} (h : tNx C ad H K m) (e : Ext ad H ad1 H1) : tNx C ad1 H1 K m := by
  match m, h with
  | some (.nx ρ S'), h => exact fun ad' H' w x s r => h ad' H' w (e.trans x) s r
def tUnfs (C : CC) (ts : List Tgt) : TGs := fun ws σ H K => ∃ ad S ρ vs, Sim C ad S H ∧ EnvR ad ρ σ ∧ RVs ad vs ws ∧ tNx C ad H K (unfs ts vs ρ S)
theorem xu_nil : PGs X [] (tUnfs C []) := by
  refine PGs.imp pgs_nil ?_
  rintro w σ H K ⟨ad, S, ρ, v, s, r, rv, q⟩
  cases rv with
  | nil => unfold unfs at q; exact ⟨rfl, q ad H σ (Ext.refl s) s r⟩
  | cons r1 r2 => unfold unfs at q; exact q.elim
theorem xu_name {i : Nat} {n : Str} {ts : List Tgt} (hN : X.N.Nodup) (hi : X.N[i]? = some n) (hx : Loc X.env.scope n) (h2 : PGs X es (tUnfs C ts)) (hf : X.fn n = true ∨ X.env.scope.names.lookup n = some .local := by first | exact .inl rfl | exact .inr rfl | assumption)
    (hs : (assignEach (.Name n pos :: es) X.env).map (·.2) = assign (.Name n pos) X.env :: (assignEach es X.env).map (·.2) := by rfl) : PGs X (.Name n pos :: es) (tUnfs C (.inl i :: ts)) := by
  refine PGs.imp (pgs_cons (pg_name hN hi hx hf) h2 hs) ?_
  rintro w σ H K ⟨ad, S, ρ, v, s, r, rv, q⟩
  cases rv with
  | nil => unfold unfs at q; exact q.elim
  | @cons v1 w1 vs ws r1 r2 =>
    unfold unfs at q
    exact ⟨w1, ws, rfl, ad, S, _, vs, s, r.set i r1, r2, q⟩
theorem xu_fld {j : Nat} {n f : Str} {cs : List Nat} {p1 : Pos} {ts : List Tgt} (hf : FldOk X C cs f) (hj : X.N[j]? = some n) (hv : Vis X.env.scope n) (h2 : PGs X es (tUnfs C ts)) (hdb : (n == ("__debug__" : Str)) = false := by decide) (hcd : (n == ("__classdict__" : Str)) = false := by decide)
    (hs : (assignEach (.Attribute (.Name n p1) f pos :: es) X.env).map (·.2) = assign (.Attribute (.Name n p1) f pos) X.env :: (assignEach es X.env).map (·.2) := by rfl) : PGs X (.Attribute (.Name n p1) f pos :: es) (tUnfs C (.inr (cs, f, j) :: ts)) := by
  refine PGs.imp (pgs_cons (pg_fld (pe_var hj hv hdb hcd)) h2 hs) ?_
  rintro w σ H K ⟨ad, S, ρ, v, s, r, rv, q⟩
  cases rv with
  | nil => unfold unfs at q; exact q.elim
  | @cons v1 w1 vs ws r1 r2 =>
    unfold unfs at q
    refine ⟨w1, ws, rfl, ?_⟩
    cases hρ : ρ[j]? with
    | none => simp only [hρ] at q; exact q.elim
    | some ov =>
      cases ov with
      | none => simp only [hρ] at q; exact q.elim
      | some v2 =>
        simp only [hρ] at q
        obtain ⟨u2, hu, ru⟩ := r.2 j v2 hρ
        refine ⟨u2, hu, ?_⟩
        cases v2 with
        | ref n2 =>
          obtain ⟨b, hb, rfl⟩ := ru
          simp only at q
          cases ho : S[n2]? with
          | none => simp only [ho] at q; exact q.elim
          | some ob =>
            simp only [ho] at q
            cases ob with
            | ins c fs =>
              simp only at q
              by_cases hc : c ∈ cs ∧ fs.length < 1000
              · rw [if_pos hc] at q
                obtain ⟨dx, gs, rf, hH⟩ := s.ob _ _ _ ho hb
                obtain ⟨c1, c2⟩ := hf c hc.1
                refine ⟨b, C c, dx, gs, rfl, hH, c1, c2, by rw [← Paired.len rf]; exact hc.2, ?_⟩
                obtain ⟨s', e'⟩ := s.write (ho := .ins (C c) dx (putF f w1 gs)) (o := .ins c (putF f v1 fs)) ho rfl rfl hb ⟨dx, _, RF.put rf _ r1, upd_same⟩
                exact ⟨ad, _, ρ, vs, s', r, r2, q.step e'⟩
              · rw [if_neg hc] at q; exact q.elim
            | _ => exact q.elim
        | _ => exact q.elim
theorem xs_unf {es : List PySem.Expr} {k : Nat} {ts : List Tgt} {p2 : Pos} (hK : C.K = X.K) (hc : X.calm = true) (he : PE X e (tEv C W x)) (hg : PGs X es (tUnfs C ts)) (hn : (assignEach es X.env).length = ts.length := by rfl) (hst : (assignEach es X.env).findIdx? (·.1) = none := by rfl)
    (hs : swapsWithSole [.Tuple es k p2] e pos.line X.env = pure false := by rfl) (hw : swappedStores [.Tuple es k p2] e X.env = pure none := by rfl)
    (h1 : (assignEach [.Tuple es k p2] X.env).map (·.2) = [assign (.Tuple es k p2) X.env] := by rfl) : PS X (.Assign [.Tuple es k p2] e pos) (tEx C W (.unf ts x)) := by
  have pg : PG X (.Tuple es k p2) (fun w σ H K => ∃ ad S ρ v, Sim C ad S H ∧ EnvR ad ρ σ ∧ RV ad v w ∧ ∃ xs, seqOf S v = some xs ∧ xs.length = ts.length ∧ tNx C ad H K (unfs ts xs ρ S)) := by
    refine ⟨fun pins sh σ H w u K I rl hh => ?_⟩
    obtain ⟨ad, S, ρ, v, s, r, rv, xs, hx, hl, q⟩ := hh
    obtain ⟨b, ws, rfl, rw_, hq⟩ := seq_of (K := X.K) hK s hx rv
    have hl' : ws.length = ts.length := by rw [← Paired.len rw_]; exact hl
    rcases hq with hq | hq
    · exact (pg_lst hc hg hn hst).run pins sh σ H _ u K I rl ⟨b, ws, rfl, hq, hl', ad, S, ρ, xs, s, r, rw_, q⟩
    · exact (pg_tup hc hg hn hst).run pins sh σ H _ u K I rl ⟨b, ws, rfl, hq, hl', ad, S, ρ, xs, s, r, rw_, q⟩
  refine PS.imp (ps_asg he pg hs hw h1) ?_
  rintro D σ H ⟨ad, S, ρ, s, r, q⟩
  unfold ex at q
  refine ⟨ad, S, ρ, s, r, (tM.toS (R := RV) r q).mono ?_⟩
  rintro w H1 ⟨ad1, S1, v, e1, s1, r1, q1⟩
  refine ⟨ad1, S1, ρ, v, s1, r.ext e1, r1, ?_⟩
  cases hb : seqOf S1 v with
  | none => simp only [hb] at q1; exact q1.elim
  | some xs =>
    simp only [hb] at q1
    by_cases hl : xs.length = ts.length
    · rw [if_pos hl] at q1
      refine ⟨xs, rfl, hl, ?_⟩
      have key : ∀ (ts : List Tgt) (xs : List V) (ρ : Rho) (S : Sto), (∃ ρ' S', unfs ts xs ρ S = some (.nx ρ' S')) ∨ unfs ts xs ρ S = none := by
        intro ts
        induction ts with
        | nil => intro xs ρ S; cases xs <;> (unfold unfs; first | exact .inl ⟨_, _, rfl⟩ | exact .inr rfl)
        | cons t ts ih =>
          intro xs ρ S
          cases xs with
          | nil => cases t <;> (unfold unfs; exact .inr rfl)
          | cons x xs =>
            cases t with
            | inl i => unfold unfs; exact ih xs _ _
            | inr t =>
              obtain ⟨cs, f, j⟩ := t
              unfold unfs
              split
              · split
                · split
                  · exact ih xs _ _
                  · exact .inr rfl
                · exact .inr rfl
              · exact .inr rfl
      rcases key ts xs ρ S1 with ⟨ρ', S', e⟩ | e
      · rw [e] at q1 ⊢
        exact q1
      · rw [e] at q1; exact q1.elim
    · rw [if_neg hl] at q1; exact q1.elim
/-! o[i] op= v -/
def P3 (C : CC) (f : Prim) : TSet := fun o i v H Q => rP C f [o, i, v] H (fun _ H' => Q H')
theorem xs_augi {op : Operator} {tpos : Pos} {i : PySem.Expr} {dg df dp : Prim} (ng : NoX dg) (nf : NoX df) (np : NoX dp) (ho : PE X o (tEv C W x)) (hi : PE X i (tEv C W y)) (hg : PGet X (P2 C dg)) (he : PE X e (tEv C W z)) (hp : PIp X op (P2 C df)) (hs : PSet X (P3 C dp))
    (ha : ∀ ov iv new, augStore i ov iv new = (do holding [new, ov, iv] (setItem ov iv new); release [new, ov, iv] []; pure .next) := by intros; rfl) : PS X (.AugAssign (.Subscript o i tpos) op e pos) (tEx C W (.augi dg df dp x y z)) := by
  refine PS.imp (ps_augS ho hi hg he hp hs ha) ?_
  rintro D σ H ⟨ad, S, ρ, s, r, q⟩
  unfold ex at q
  refine ⟨ad, S, ρ, s, r, (tM.toS (R := RV) r q).mono ?_⟩
  rintro w1 H1 ⟨ad1, S1, v1, e1, s1, r1, q1⟩
  refine ⟨ad1, S1, ρ, s1, r.ext e1, (tM.toS (R := RV) (r.ext e1) q1).mono ?_⟩
  rintro w2 H2 ⟨ad2, S2, v2, e2, s2, r2, q2⟩
  refine ⟨ad2, S2, [v1, v2], s2, .cons (r1.ext e2) (.cons r2 .nil), ?_⟩
  have ρ2 := (r.ext e1).ext e2
  have q2' := tM.toS (R := RV) ρ2 q2
  refine (q2'.noX (ng _ _)).mono ?_
  rintro w3 H3 ⟨ad3, S3, v3, e3, s3, r3, q3⟩
  refine ⟨ad3, S3, ρ, s3, ρ2.ext e3, (tM.toS (R := RV) (ρ2.ext e3) q3).mono ?_⟩
  rintro w4 H4 ⟨ad4, S4, v4, e4, s4, r4, q4⟩
  refine ⟨ad4, S4, [v3, v4], s4, .cons (r3.ext e4) (.cons r4 .nil), ?_⟩
  have ρ4 := (ρ2.ext e3).ext e4
  refine ((tM.toS (R := RV) ρ4 q4).noX (nf _ _)).mono ?_
  rintro w5 H5 ⟨ad5, S5, v5, e5, s5, r5, q5⟩
  refine ⟨ad5, S5, [v1, v2, v5], s5, .cons ((((r1.ext e2).ext e3).ext e4).ext e5) (.cons (((r2.ext e3).ext e4).ext e5) (.cons r5 .nil)), ?_⟩
  have ρ5 := ρ4.ext e5
  refine ((tM.toS (R := RV) ρ5 q5).noX (np _ _)).mono ?_
  rintro w6 H6 ⟨ad6, S6, v6, e6, s6, r6, q6⟩
  exact q6 ad6 H6 σ (Ext.refl s6) s6 (ρ5.ext e6)
end
end Nx

set_option Elab.async false
set_option linter.all false
set_option maxRecDepth 100000
set_option autoImplicit false
/-! dicts: keys -/
namespace Nx
open PySem L2 PySem.Spec PyProof.Rows
mutual
/-- a value read as a key, at most so deep -/
def nkV (S : Sto) : Nat → V → Option NestedKey
  | _, .non => some .none
  | _, .bl b => some (.num (if b = true then 1 else 0))
  | _, .int i => some (.num i)
  | _, .str x => some (.text x)
  | k + 1, .ref n => match S[n]? with
    | some (.tup xs) => (nkVs S k xs).map .tup
    | some (.tpl xs) => (nkVs S k xs).map .tup
    | _ => none
  | _, _ => none
def nkVs (S : Sto) : Nat → List V → Option (List NestedKey)
  | _, [] => some []
  | k, x :: xs => match nkV S k x, nkVs S k xs with
    | some d, some ds => some (d :: ds)
    | _, _ => none
end
def dkOf (S : Sto) : V → Option DK
  | .int i => some (.sc (.inl i))
  | .str x => some (.sc (.inr x))
  | .ref n => (nkV S 7 (.ref n)).map .tp
  | _ => none
section
variable {C : CC} {ad ad1 ad' : List Addr} {H H1 H' : Hp} {S S1 S' : Sto} {a p : Addr} {X : Cx} {W : WX} {pins : List (Addr × Obj)} {s : Shared} {σ : L2.St}
mutual
theorem nkV_is (I : Inv X pins σ H s) (sm : Sim C ad S H) : ∀ (k : Nat) (v w : V) (u : Value) (nk : NestedKey), nkV S k v = some nk → RV ad v w → RelV w u → NestedIs s.heap nk u ∧ nk.depth ≤ k
  | k, .non, w, u, nk, h, r, q => by unfold nkV at h; cases h; cases r; cases q; exact ⟨.none, Nat.zero_le _⟩
  | k, .bl b, w, u, nk, h, r, q => by unfold nkV at h; cases h; cases r; cases q; exact ⟨.bool rfl, Nat.zero_le _⟩
  | k, .int i, w, u, nk, h, r, q => by unfold nkV at h; cases h; cases r; obtain ⟨t, rfl⟩ := q; exact ⟨.int i t, Nat.zero_le _⟩
  | k, .str i, w, u, nk, h, r, q => by unfold nkV at h; cases h; cases r; obtain ⟨t, rfl⟩ := q; exact ⟨.text i t, Nat.zero_le _⟩
  | 0, .ref n, w, u, nk, h, r, q => by unfold nkV at h; cases h
  | k + 1, .ref n, w, u, nk, h, r, q => by
    obtain ⟨b, hb, rfl⟩ := r
    cases q
    have key : ∀ (xs ws : List V) (nks : List NestedKey), RVs ad xs ws → SqT X.K H b ws → nkVs S k xs = some nks → NestedIs s.heap (.tup nks) (.ref b) ∧ (NestedKey.tup nks).depth ≤ k + 1 := by
      intro xs ws nks rw_ hs hn
      obtain ⟨its, rv, ⟨o, e1, e2, n', e3⟩, _⟩ := I.tuple hs
      obtain ⟨h1, h2⟩ := nkVs_is I sm k xs ws its nks hn rw_ rv
      refine ⟨.tup e1 e2 e3 (by simpa using h1), ?_⟩
      unfold NestedKey.depth
      omega
    unfold nkV at h
    split at h
    · rename_i xs hx
      obtain ⟨oo, ws, rw_, hw, _⟩ := sm.ob _ _ _ hx hb
      cases hn : nkVs S k xs with
      | none => rw [hn] at h; cases h
      | some nks => rw [hn] at h; cases h; exact key xs ws nks rw_ (.inl (.inr ⟨oo, hw⟩)) hn
    · rename_i xs hx
      obtain ⟨ws, rw_, hw⟩ := sm.ob _ _ _ hx hb
      cases hn : nkVs S k xs with
      | none => rw [hn] at h; cases h
      | some nks => rw [hn] at h; cases h; exact key xs ws nks rw_ (.inl (.inl hw)) hn
    · cases h
  | k, .byt b, w, u, nk, h, r, q => by unfold nkV at h; cases h
  | k, .flt b, w, u, nk, h, r, q => by unfold nkV at h; cases h
  | k, .ty b, w, u, nk, h, r, q => by unfold nkV at h; cases h
theorem nkVs_is (I : Inv X pins σ H s) (sm : Sim C ad S H) : ∀ (k : Nat) (xs ws : List V) (us : List Value) (nks : List NestedKey), nkVs S k xs = some nks → RVs ad xs ws → Vals ws us → NestedAll s.heap nks us ∧ NestedKey.depthAll nks ≤ k
  | k, [], ws, us, nks, h, r, q => by unfold nkVs at h; cases h; cases r; cases q; exact ⟨.nil, Nat.zero_le _⟩
  | k, x :: xs, ws, us, nks, h, r, q => by
    cases r with
    | cons r1 r2 =>
      cases q with
      | cons q1 q2 =>
        unfold nkVs at h
        split at h
        · rename_i d ds h1 h2
          cases h
          obtain ⟨a1, a2⟩ := nkV_is I sm k x _ _ _ h1 r1 q1
          obtain ⟨b1, b2⟩ := nkVs_is I sm k xs _ _ _ h2 r2 q2
          refine ⟨.cons a1 b1, ?_⟩
          unfold NestedKey.depthAll
          omega
        · cases h
end
theorem nkV_tup {n : Nat} {k : Nat} {nk : NestedKey} (h : nkV S k (.ref n) = some nk) : ∃ ks, nk = .tup ks := by
  cases k with
  | zero => unfold nkV at h; cases h
  | succ k =>
    unfold nkV at h
    split at h
    · rename_i xs _; cases e : nkVs S k xs with
      | none => rw [e] at h; cases h
      | some ks => rw [e] at h; cases h; exact ⟨_, rfl⟩
    · rename_i xs _; cases e : nkVs S k xs with
      | none => rw [e] at h; cases h
      | some ks => rw [e] at h; cases h; exact ⟨_, rfl⟩
    · cases h
/-- a tuple's key, over the heap -/
theorem tp_is (I : Inv X pins σ H s) (sm : Sim C ad S H) {v : V} {w : V} {u : Value} {k : NestedKey} (h : dkOf S v = some (.tp k)) (r : RV ad v w) (q : RelV w u) : ∃ b, w = .ref b ∧ u = .ref b ∧ (nestedKind X.prog X.w).is s.heap k b := by
  cases v with
  | ref n =>
    unfold dkOf at h
    simp only at h
    cases e : nkV S 7 (.ref n) with
    | none => rw [e] at h; cases h
    | some nk =>
      rw [e] at h; cases h
      have z := nkV_is I sm 7 _ _ _ _ e r q
      obtain ⟨b, hb, rfl⟩ := r
      cases q
      exact ⟨b, rfl, rfl, z.1, by omega⟩
  | _ => unfold dkOf at h; cases h
theorem sc_is {v w : V} {k : L2.Key} (h : dkOf S v = some (.sc k)) (r : RV ad v w) : v = kV k ∧ w = kV k := by
  cases v with
  | int i => unfold dkOf at h; cases h; exact ⟨rfl, r⟩
  | str i => unfold dkOf at h; cases h; exact ⟨rfl, r⟩
  | ref n =>
    unfold dkOf at h
    simp only at h
    cases e : nkV S 7 (.ref n) with
    | none => rw [e] at h; cases h
    | some nk => rw [e] at h; cases h
  | _ => unfold dkOf at h; cases h
/-! ## entries -/
def alikeK : DK → DK → Bool
  | .sc _, .sc _ => true
  | .tp _, .tp _ => true
  | _, _ => false
/-- the entries' keys are what they were, all of k's kind -/
def okD (S : Sto) (kvs : List (DK × V × V)) (k : DK) : Bool := kvs.all fun x => decide (dkOf S x.2.1 = some x.1) && alikeK k x.1
def dfind (kvs : List (DK × V × V)) (k : DK) : Option V := (kvs.find? fun x => decide (x.1 = k)).map (·.2.2)
def dputAt (k : DK) (v : V) (x : DK × V × V) : DK × V × V := if x.1 = k then (x.1, x.2.1, v) else x
def dput (kvs : List (DK × V × V)) (k : DK) (kv v : V) : List (DK × V × V) := if (dfind kvs k).isSome then kvs.map (dputAt k v) else kvs ++ [(k, kv, v)]
def TpR (ad : List Addr) (x : DK × V × V) (y : NestedKey × Addr × Value) : Prop := x.1 = .tp y.1 ∧ RV ad x.2.1 (.ref y.2.1) ∧ ∃ u, RV ad x.2.2 u ∧ RelV u y.2.2
abbrev TpRs (ad : List Addr) := Paired (TpR ad)
def ScR (ad : List Addr) (x : DK × V × V) (y : L2.Key × Value) : Prop := x.1 = .sc y.1 ∧ x.2.1 = kV y.1 ∧ ∃ u, RV ad x.2.2 u ∧ RelV u y.2
abbrev ScRs (ad : List Addr) := Paired (ScR ad)
theorem okD_all {kvs : List (DK × V × V)} {k : DK} (h : okD S kvs k = true) : ∀ x ∈ kvs, dkOf S x.2.1 = some x.1 ∧ alikeK k x.1 = true := by
  intro x hx
  unfold okD at h
  rw [List.all_eq_true] at h
  have := h x hx
  rw [Bool.and_eq_true] at this
  exact ⟨of_decide_eq_true this.1, this.2⟩
theorem tp_build (I : Inv X pins σ H s) (sm : Sim C ad S H) (hw : C.w = X.w) {k0 : NestedKey} : ∀ {kvs : List (DK × V × V)} {es : List DictEntry}, Paired (EntR C ad) kvs es → (∀ x ∈ kvs, dkOf S x.2.1 = some x.1 ∧ alikeK (.tp k0) x.1 = true) →
    ∃ xs : List (NestedKey × Addr × Value), TpRs ad kvs xs ∧ es = xs.map (entryOfKey (nestedKind X.prog X.w)) ∧ (∀ y ∈ xs, (nestedKind X.prog X.w).is s.heap y.1 y.2.1) ∧ kvs.map (·.1) = xs.map fun y => DK.tp y.1
  | _, _, .nil, _ => ⟨[], .nil, rfl, by simp, rfl⟩
  | x :: kvs, e :: es, .cons h1 h2, hk => by
    obtain ⟨xs, a1, a2, a3, a4⟩ := tp_build I sm hw h2 fun y hy => hk y (List.mem_cons_of_mem _ hy)
    obtain ⟨k1, k2⟩ := hk x List.mem_cons_self
    obtain ⟨dk, kv, vv⟩ := x
    cases dk with
    | sc k => cases k2
    | tp k =>
      obtain ⟨e1, ⟨u, e2, e3⟩, e4⟩ := h1
      obtain ⟨b, rfl, eb, is⟩ := tp_is I sm k1 e2 e3
      refine ⟨(k, b, e.val) :: xs, .cons ⟨rfl, e2, e4⟩ a1, ?_, fun y hy => ?_, by simp [a4]⟩
      · rw [List.map_cons, ← a2]
        congr 1
        obtain ⟨eh, ek, ev⟩ := e
        have q1 : eh = k.hash C.w := e1
        have q2 : ek = .ref b := eb
        subst q1 q2
        rw [hw]
        rfl
      · rcases List.mem_cons.mp hy with rfl | hy
        · exact is
        · exact a3 y hy
theorem sc_build (hw : C.w = X.w) {k0 : L2.Key} : ∀ {kvs : List (DK × V × V)} {es : List DictEntry}, Paired (EntR C ad) kvs es → (∀ x ∈ kvs, dkOf S x.2.1 = some x.1 ∧ alikeK (.sc k0) x.1 = true) →
    ∃ xs : List (L2.Key × Value), ScRs ad kvs xs ∧ Pairs (mixKind X.prog X.w) es xs ∧ (∀ e ∈ es, ∃ k, (mixKind X.prog X.w).is k e.key = true ∧ e.hash = (mixKind X.prog X.w).hash k) ∧ kvs.map (·.1) = xs.map fun y => DK.sc y.1
  | _, _, .nil, _ => ⟨[], .nil, .nil, by simp, rfl⟩
  | x :: kvs, e :: es, .cons h1 h2, hk => by
    obtain ⟨xs, a1, a2, a3, a4⟩ := sc_build hw h2 fun y hy => hk y (List.mem_cons_of_mem _ hy)
    obtain ⟨k1, k2⟩ := hk x List.mem_cons_self
    obtain ⟨dk, kv, vv⟩ := x
    cases dk with
    | tp k => cases k2
    | sc k =>
      obtain ⟨e1, ⟨u, e2, e3⟩, e4⟩ := h1
      obtain ⟨rfl, rfl⟩ := sc_is k1 e2
      refine ⟨(k, e.val) :: xs, .cons ⟨rfl, rfl, e4⟩ a1, .cons (kV_is e3) rfl a2, fun y hy => ?_, by simp [a4]⟩
      rcases List.mem_cons.mp hy with rfl | hy
      · exact ⟨k, kV_is e3, by rw [← hw]; exact e1⟩
      · exact a3 y hy
theorem nodup_of {α β : Type} {f : α → β} {l : List α} (h : (l.map f).Nodup) : l.Nodup := (List.pairwise_map.mp h).imp fun h e => h (congrArg f e)
theorem dct_at (I : Inv X pins σ H s) (sm : Sim C ad S H) {n : Nat} {kvs : List (DK × V × V)} (hS : S[n]? = some (.dct kvs)) (ha : ad[n]? = some a) : ∃ es o ep, DctR C ad H a kvs es ∧ s.heap.get? a = some o ∧ o.ExactDict ∧ o.data = .dict es ep := by
  obtain ⟨es, z⟩ := sm.ob _ _ _ hS ha
  obtain ⟨⟨o, ep, h1, h2, h3⟩, _⟩ := (show ObjOk X.prog X.w H s.heap a (rawD a es) from I.hok a _ z.ho)
  exact ⟨es, o, ep, z, h1, h2, h3⟩
theorem dct_tp (I : Inv X pins σ H s) (sm : Sim C ad S H) (hw : C.w = X.w) {n : Nat} {kvs : List (DK × V × V)} {k0 : NestedKey} (hS : S[n]? = some (.dct kvs)) (ha : ad[n]? = some a) (hk : okD S kvs (.tp k0) = true) :
    ∃ xs, TpRs ad kvs xs ∧ s.heap.DictOfH (nestedKind X.prog X.w) a xs ∧ (a == sysModules) = false ∧ xs.length ≤ sizeLine := by
  obtain ⟨es, o, ep, z, h1, h2, h3⟩ := dct_at I sm hS ha
  obtain ⟨xs, a1, a2, a3, a4⟩ := tp_build I sm hw z.en (okD_all hk)
  have nd : (xs.map (·.1)).Nodup := by
    have q := z.nd
    rw [a4, show (xs.map fun y => DK.tp y.1) = (xs.map (·.1)).map DK.tp by rw [List.map_map]; rfl] at q
    exact nodup_of q
  exact ⟨xs, a1, ⟨o, es, ep, h1, h2, h3, a2, a3, nd⟩, z.sys, by rw [← Paired.length a1]; exact z.len⟩
theorem dct_sc (I : Inv X pins σ H s) (sm : Sim C ad S H) (hw : C.w = X.w) {n : Nat} {kvs : List (DK × V × V)} {k0 : L2.Key} (hS : S[n]? = some (.dct kvs)) (ha : ad[n]? = some a) (hk : okD S kvs (.sc k0) = true) :
    ∃ xs, ScRs ad kvs xs ∧ s.heap.DictOf (mixKind X.prog X.w) a xs ∧ (a == sysModules) = false ∧ xs.length ≤ sizeLine := by
  obtain ⟨es, o, ep, z, h1, h2, h3⟩ := dct_at I sm hS ha
  obtain ⟨xs, a1, a2, a3, a4⟩ := sc_build (S := S) hw z.en (okD_all hk)
  have nd : (xs.map (·.1)).Nodup := by
    have q := z.nd
    rw [a4, show (xs.map fun y => DK.sc y.1) = (xs.map (·.1)).map DK.sc by rw [List.map_map]; rfl] at q
    exact nodup_of q
  exact ⟨xs, a1, ⟨o, es, ep, h1, h2, h3, fun e he => a3 e (by simpa using he), a2, nd⟩, z.sys, by rw [← Paired.length a1]; exact z.len⟩
theorem tp_find {k : NestedKey} : ∀ {kvs : List (DK × V × V)} {xs : List (NestedKey × Addr × Value)}, TpRs ad kvs xs → match dfind kvs (.tp k), atKey xs k with
    | some v, some p => ∃ u, RV ad v u ∧ RelV u p.2
    | none, none => True
    | _, _ => False
  | _, _, .nil => trivial
  | x :: kvs, y :: xs, .cons h t => by
    have ih := tp_find (k := k) t
    obtain ⟨h1, h2, h3⟩ := h
    unfold dfind atKey at ih ⊢
    rw [List.find?_cons, List.find?_cons]
    by_cases e : y.1 = k
    · rw [show decide (x.1 = DK.tp k) = true from decide_eq_true (by rw [h1, e]), show decide (y.1 = k) = true from decide_eq_true e]
      exact h3
    · rw [show decide (x.1 = DK.tp k) = false from decide_eq_false (by rw [h1]; intro q; cases q; exact e rfl), show decide (y.1 = k) = false from decide_eq_false e]
      exact ih
theorem sc_find {k : L2.Key} : ∀ {kvs : List (DK × V × V)} {xs : List (L2.Key × Value)}, ScRs ad kvs xs → match dfind kvs (.sc k), valueAt xs k with
    | some v, some p => ∃ u, RV ad v u ∧ RelV u p
    | none, none => True
    | _, _ => False
  | _, _, .nil => trivial
  | x :: kvs, y :: xs, .cons h t => by
    have ih := sc_find (k := k) t
    obtain ⟨h1, h2, h3⟩ := h
    unfold dfind valueAt at ih ⊢
    rw [List.find?_cons, List.find?_cons]
    by_cases e : y.1 = k
    · rw [show decide (x.1 = DK.sc k) = true from decide_eq_true (by rw [h1, e]), show decide (y.1 = k) = true from decide_eq_true e]
      exact h3
    · rw [show decide (x.1 = DK.sc k) = false from decide_eq_false (by rw [h1]; intro q; cases q; exact e rfl), show decide (y.1 = k) = false from decide_eq_false e]
      exact ih
end
end Nx

set_option Elab.async false
set_option linter.all false
set_option maxRecDepth 100000
set_option autoImplicit false
/-! dicts: d[k], k in d, d[k] = v, {} -/
namespace Nx
open PySem L2 PySem.Spec PyProof.Rows
section
variable {C : CC} {ad ad1 ad' : List Addr} {H H1 H' : Hp} {S S1 S' : Sto} {a p : Addr} {X : Cx} {W : WX} {pins : List (Addr × Obj)} {s : Shared} {σ : L2.St} {e e1 e2 : PySem.Expr} {x y : Ex} {pos : Pos}
/-- what the dict holds at the key: known, or nothing is said -/
def gDAt (S : Sto) : V → V → Option (List (DK × V × V) × DK × Nat)
  | .ref n, y => match S[n]? with
    | some (.dct kvs) => match dkOf S y with
      | some k => if okD S kvs k = true then some (kvs, k, n) else none
      | none => none
    | _ => none
  | _, _ => none
theorem gDAt_some {d y : V} {kvs : List (DK × V × V)} {k : DK} {n : Nat} (h : gDAt S d y = some (kvs, k, n)) : d = .ref n ∧ S[n]? = some (.dct kvs) ∧ dkOf S y = some k ∧ okD S kvs k = true := by
  unfold gDAt at h
  split at h
  · split at h
    · rename_i kvs' hS
      split at h
      · rename_i k' hk
        split at h
        · rename_i ho
          cases h
          exact ⟨rfl, hS, hk, ho⟩
        · cases h
      · cases h
    · cases h
  · cases h
theorem room8 (hu : X.A.units + 64 < cLine) : (nestedKind X.prog X.w).room X.A.in1 := by
  show X.A.units + 1 + 8 < cLine
  omega
theorem d_get {n : Nat} {kvs : List (DK × V × V)} {k : DK} {yk v wy : V} {iv : Value} {Q : Value → Shared → Prop} (hu : X.A.units + 64 < cLine) (I : Inv X pins σ H s) (sm : Sim C ad S H) (hw : C.w = X.w) (hS : S[n]? = some (.dct kvs)) (ha : ad[n]? = some a) (hy : dkOf S yk = some k) (ok : okD S kvs k = true)
    (ry : RV ad yk wy) (rq : RelV wy iv) (hv : dfind kvs k = some v) (h : ∀ w' u' s', Inv X pins σ H s' → RV ad v w' → RelV w' u' → Q u' s') : wpAny (model X.prog X.w) X.A (getItem (.ref a) iv) Q X.xe s := by
  cases k with
  | sc k =>
    obtain ⟨xs, r, dd, _, _⟩ := dct_sc I sm hw hS ha ok
    obtain ⟨rfl, rfl⟩ := sc_is hy ry
    have f := sc_find (k := k) r
    rw [hv] at f
    cases e : valueAt xs k with
    | none => rw [e] at f; exact f.elim
    | some p =>
      rw [e] at f
      obtain ⟨u, f1, f2⟩ := f
      exact wpAny_getItem_of (kV_is rq) dd.mapOf e (h u p _ (I.tok _) f1 f2)
  | tp k =>
    obtain ⟨xs, r, dd, _, _⟩ := dct_tp I sm hw hS ha ok
    obtain ⟨b, rfl, rfl, is⟩ := tp_is I sm hy ry rq
    have f := tp_find (k := k) r
    rw [hv] at f
    cases e : atKey xs k with
    | none => rw [e] at f; exact f.elim
    | some p =>
      rw [e] at f
      obtain ⟨u, f1, f2⟩ := f
      exact wpAny_getItem_heap (room8 hu) is dd e (h u p.2 _ (I.tok _) f1 f2)
theorem d_type (I : Inv X pins σ H s) (sm : Sim C ad S H) {n : Nat} {kvs : List (DK × V × V)} (hS : S[n]? = some (.dct kvs)) (ha : ad[n]? = some a) : s.TypeIs (.ref a) "dict" := by
  obtain ⟨es, o, ep, z, h1, h2, h3⟩ := dct_at I sm hS ha
  exact ⟨o, h1, h2.1⟩
/-! d[k] -/
def gDIx : V → V → Sto → Option V := fun d y S => match gDAt S d y with
  | some (kvs, k, _) => dfind kvs k
  | none => none
theorem ix_dct (hw : C.w = X.w) (hu : X.A.units + 64 < cLine) : IxR X (P2 C (pv2 gDIx)) := by
  intro value slice pins s σ H x y v u Q I rx ry h hsub
  obtain ⟨ad, S, a, b, v', sm, ra, rb, hg, q⟩ := P2.elim2 h
  unfold gDIx at hg
  split at hg
  · rename_i kvs k n hd
    obtain ⟨rfl, hS, hk, ho⟩ := gDAt_some hd
    obtain ⟨c, hc, rfl⟩ := ra
    cases rx
    exact tail_any (d_type I sm hS hc) PySem.F.slot_dict_getitem.lookup (d_get hu I sm hw hS hc hk ho rb ry hg fun w' u' s' I' r1 r2 => ⟨w', H, I', r2, q w' r1⟩) hsub
  · cases hg
theorem xe_dix (hw : C.w = X.w) (hu : X.A.units + 64 < cLine) (ha : PE X e1 (tEv C W x)) (hb : PE X e2 (tEv C W y)) (hs : PlainIx e2) : PE X (.Subscript e1 e2 pos) (tEv C W (.pn (pv2 gDIx) (.cons x (.cons y .nil)))) :=
  PE.imp (pe_ix (r := P2 C (pv2 gDIx)) (ix_dct hw hu) ha hb hs) fun _ _ _ ⟨_, _, _, s, r, q⟩ => pn_two (noX_pv2 _) s r q
theorem pget_dct (hw : C.w = X.w) (hu : X.A.units + 64 < cLine) : PGet X (P2 C (pv2 gDIx)) := by
  intro pins s σ H o i ov iv Q I ro ri h
  obtain ⟨ad, S, a, b, v', sm, ra, rb, hg, q⟩ := P2.elim2 h
  unfold gDIx at hg
  split at hg
  · rename_i kvs k n hd
    obtain ⟨rfl, hS, hk, ho⟩ := gDAt_some hd
    obtain ⟨c, hc, rfl⟩ := ra
    cases ro
    exact d_get hu I sm hw hS hc hk ho rb ri hg fun w' u' s' I' r1 r2 => ⟨w', H, I', r2, q w' r1⟩
  · cases hg
/-! k in d -/
def gDIn (neg : Bool) : V → V → Sto → Option V := fun y d S => match gDAt S d y with
  | some (kvs, k, _) => some (.bl (if neg = true then !(dfind kvs k).isSome else (dfind kvs k).isSome))
  | none => none
theorem o_dIn (hw : C.w = X.w) (hu : X.A.units + 64 < cLine) : OpR X (compareOp .In) (P2 C (pv2 (gDIn false))) := by
  intro pins s σ H x y v u Q I rx ry h
  obtain ⟨ad, S, b, d, v', sm, rb, ra, hg, q⟩ := P2.elim2 h
  unfold gDIn at hg
  split at hg
  · rename_i kvs k n hd
    cases hg
    obtain ⟨rfl, hS, hk, ho⟩ := gDAt_some hd
    obtain ⟨c, hc, rfl⟩ := ra
    cases ry
    cases k with
    | sc k =>
      obtain ⟨xs, r, dd, hs, _⟩ := dct_sc I sm hw hS hc ho
      obtain ⟨rfl, rfl⟩ := sc_is hk rb
      have f := sc_find (k := k) r
      refine wpAny_in_of (kV_is rx) hs dd.mapOf ⟨.bl (valueAt xs k).isSome, H, I.tok _, rfl, q _ ?_⟩
      show V.bl _ = V.bl _
      cases e1 : dfind kvs (.sc k) <;> cases e2 : valueAt xs k <;> rw [e1, e2] at f <;> first | rfl | exact f.elim
    | tp k =>
      obtain ⟨xs, r, dd, hs, _⟩ := dct_tp I sm hw hS hc ho
      obtain ⟨b', rfl, rfl, is⟩ := tp_is I sm hk rb rx
      have f := tp_find (k := k) r
      refine wpAny_in_heap (room8 hu) is hs dd ⟨.bl (atKey xs k).isSome, H, I.tok _, rfl, q _ ?_⟩
      show V.bl _ = V.bl _
      cases e1 : dfind kvs (.tp k) <;> cases e2 : atKey xs k <;> rw [e1, e2] at f <;> first | rfl | exact f.elim
  · cases hg
theorem o_dNotIn (hw : C.w = X.w) (hu : X.A.units + 64 < cLine) : OpR X (compareOp .NotIn) (P2 C (pv2 (gDIn true))) := by
  intro pins s σ H x y v u Q I rx ry h
  obtain ⟨ad, S, b, d, v', sm, rb, ra, hg, q⟩ := P2.elim2 h
  unfold gDIn at hg
  split at hg
  · rename_i kvs k n hd
    cases hg
    obtain ⟨rfl, hS, hk, ho⟩ := gDAt_some hd
    obtain ⟨c, hc, rfl⟩ := ra
    cases ry
    cases k with
    | sc k =>
      obtain ⟨xs, r, dd, hs, _⟩ := dct_sc I sm hw hS hc ho
      obtain ⟨rfl, rfl⟩ := sc_is hk rb
      have f := sc_find (k := k) r
      refine wpAny_notIn_of (kV_is rx) hs dd.mapOf ⟨.bl (!(valueAt xs k).isSome), H, I.tok _, rfl, q _ ?_⟩
      show V.bl _ = V.bl _
      cases e1 : dfind kvs (.sc k) <;> cases e2 : valueAt xs k <;> rw [e1, e2] at f <;> first | rfl | exact f.elim
    | tp k =>
      obtain ⟨xs, r, dd, hs, _⟩ := dct_tp I sm hw hS hc ho
      obtain ⟨b', rfl, rfl, is⟩ := tp_is I sm hk rb rx
      have f := tp_find (k := k) r
      refine wpAny_notIn_heap (room8 hu) is hs dd ⟨.bl (!(atKey xs k).isSome), H, I.tok _, rfl, q _ ?_⟩
      show V.bl _ = V.bl _
      cases e1 : dfind kvs (.tp k) <;> cases e2 : atKey xs k <;> rw [e1, e2] at f <;> first | rfl | exact f.elim
  · cases hg
/-! d[k] = v -/
theorem tp_keys : ∀ {kvs : List (DK × V × V)} {xs : List (NestedKey × Addr × Value)}, TpRs ad kvs xs → kvs.map (·.1) = xs.map fun y => DK.tp y.1
  | _, _, .nil => rfl
  | _, _, .cons h t => by rw [List.map_cons, List.map_cons, h.1, tp_keys t]
theorem sc_keys : ∀ {kvs : List (DK × V × V)} {xs : List (L2.Key × Value)}, ScRs ad kvs xs → kvs.map (·.1) = xs.map fun y => DK.sc y.1
  | _, _, .nil => rfl
  | _, _, .cons h t => by rw [List.map_cons, List.map_cons, h.1, sc_keys t]
theorem tp_ent (hw : C.w = X.w) : ∀ {kvs : List (DK × V × V)} {xs : List (NestedKey × Addr × Value)}, TpRs ad kvs xs → Paired (EntR C ad) kvs (xs.map (entryOfKey (nestedKind X.prog X.w)))
  | _, _, .nil => .nil
  | x :: _, y :: _, .cons h t => by
    refine .cons ⟨?_, ⟨.ref y.2.1, h.2.1, rfl⟩, h.2.2⟩ (tp_ent hw t)
    rw [h.1, hw]; rfl
theorem sc_ent (hw : C.w = X.w) : ∀ {kvs : List (DK × V × V)} {xs : List (L2.Key × Value)} {es : List DictEntry}, ScRs ad kvs xs → Pairs (mixKind X.prog X.w) es xs → (∀ e ∈ es, ∃ k, (mixKind X.prog X.w).is k e.key = true ∧ e.hash = (mixKind X.prog X.w).hash k) → Paired (EntR C ad) kvs es
  | _, _, _, .nil, .nil, _ => .nil
  | x :: _, y :: _, e :: _, .cons h t, .cons p1 p2 p3, hk => by
    refine .cons ⟨?_, ?_, ?_⟩ (sc_ent hw t p3 fun z hz => hk z (List.mem_cons_of_mem _ hz))
    · obtain ⟨k, k1, k2⟩ := hk e List.mem_cons_self
      have := (mixKind X.prog X.w).inj _ _ _ k1 p1
      subst this
      rw [h.1, k2, hw]; rfl
    · rw [h.2.1]
      refine ⟨kV y.1, ?_, ?_⟩
      · cases y.1 <;> rfl
      · have := p1
        rw [mixKind_is] at this
        rcases keyIs_shape this with ⟨i, t', e1, e2⟩ | ⟨i, t', e1, e2⟩
        · rw [e1, e2]; exact ⟨_, rfl⟩
        · rw [e1, e2]; exact ⟨_, rfl⟩
    · rw [p2]; exact h.2.2
theorem tp_put {k : NestedKey} {b : Addr} {kv v : V} {r : Value} (rb : RV ad kv (.ref b)) (rv : ∃ u, RV ad v u ∧ RelV u r) {kvs : List (DK × V × V)} {xs : List (NestedKey × Addr × Value)} (h : TpRs ad kvs xs) : TpRs ad (dput kvs (.tp k) kv v) (storedH xs k b r) := by
  have f := tp_find (k := k) h
  have e : (dfind kvs (.tp k)).isSome = (atKey xs k).isSome := by
    cases e1 : dfind kvs (.tp k) <;> cases e2 : atKey xs k <;> rw [e1, e2] at f <;> first | rfl | exact f.elim
  unfold dput storedH
  rw [e]
  split
  · rename_i hc
    clear f e hc
    induction h with
    | nil => exact .nil
    | @cons x y _ _ h t ih =>
      refine .cons ?_ ih
      unfold dputAt putAt
      by_cases q : y.1 = k
      · rw [if_pos q, if_pos (by rw [h.1, q])]
        exact ⟨h.1, h.2.1, rv⟩
      · rw [if_neg q, if_neg (by rw [h.1]; intro z; cases z; exact q rfl)]
        exact h
  · exact Paired.snoc h ⟨rfl, rb, rv⟩
theorem sc_put {k : L2.Key} {v : V} {r : Value} (rv : ∃ u, RV ad v u ∧ RelV u r) {kvs : List (DK × V × V)} {xs : List (L2.Key × Value)} (h : ScRs ad kvs xs) : ScRs ad (dput kvs (.sc k) (kV k) v) (stored xs k r) := by
  have f := sc_find (k := k) h
  have e0 : (xs.any fun kv => decide (kv.1 = k)) = (valueAt xs k).isSome := by
    unfold valueAt
    rw [Option.isSome_map]
    clear h f
    induction xs with
    | nil => rfl
    | cons y ys ih =>
      rw [List.any_cons, List.find?_cons, ih]
      cases decide (y.1 = k) <;> simp
  have e : (dfind kvs (.sc k)).isSome = (xs.any fun kv => decide (kv.1 = k)) := by
    rw [e0]
    cases e1 : dfind kvs (.sc k) <;> cases e2 : valueAt xs k <;> rw [e1, e2] at f <;> first | rfl | exact f.elim
  unfold dput stored
  rw [e]
  split
  · rename_i hc
    clear f e e0 hc
    induction h with
    | nil => exact .nil
    | @cons x y _ _ h t ih =>
      refine .cons ?_ ih
      unfold dputAt
      show ScR ad _ (if y.1 = k then (y.1, r) else y)
      by_cases q : y.1 = k
      · rw [if_pos q, if_pos (by rw [h.1, q])]
        exact ⟨h.1, h.2.1, rv⟩
      · rw [if_neg q, if_neg (by rw [h.1]; intro z; cases z; exact q rfl)]
        exact h
  · exact Paired.snoc h ⟨rfl, rfl, rv⟩
theorem dput_len (kvs : List (DK × V × V)) (k : DK) (kv v : V) : (dput kvs k kv v).length ≤ kvs.length + 1 := by
  unfold dput
  split <;> simp
def pDSet : Prim := fun vs S => match vs with
  | [d, y, v] => match gDAt S d y with
    | some (kvs, k, n) => if kvs.length < 100000 then some (.val .non (S.set n (.dct (dput kvs k y v)))) else none
    | none => none
  | _ => none
theorem noX_dset : NoX pDSet := by
  intro vs S c fs S' h
  unfold pDSet at h
  repeat' split at h
  all_goals cases h
theorem rawD_ok {H' : Hp} {h' : Heap} {es : Array DictEntry} {o : Obj} {ep : Nat} (h1 : h'.get? a = some o) (h2 : o.ExactDict) (h3 : o.data = .dict es ep) : ObjOk X.prog X.w H' h' a (rawD a es) :=
  ⟨⟨o, ep, h1, h2, h3⟩, ⟨o, h1⟩, fun _ _ ⟨o, ep, e1, e2, e3⟩ k => ⟨o, ep, k o e1, e2, e3⟩⟩
theorem d_set {n : Nat} {kvs : List (DK × V × V)} {k : DK} {yk v wy wv : V} {iv r : Value} {Q : Unit → Shared → Prop} (hu : X.A.units + 64 < cLine) (I : Inv X pins σ H s) (sm : Sim C ad S H) (hw : C.w = X.w) (hS : S[n]? = some (.dct kvs)) (ha : ad[n]? = some a) (hy : dkOf S yk = some k) (ok : okD S kvs k = true) (hl : kvs.length < 100000)
    (ry : RV ad yk wy) (rq : RelV wy iv) (rv : RV ad v wv) (rr : RelV wv r) (h : ∀ H' s', Inv X pins σ H' s' → Sim C ad (S.set n (.dct (dput kvs k yk v))) H' → Ext ad H ad H' → Q () s') : wpAny (model X.prog X.w) X.A (setItem (.ref a) iv r) Q X.xe s := by
  have hln : (dput kvs k yk v).length ≤ sizeLine := by have := dput_len kvs k yk v; exact line_of (by omega)
  obtain ⟨es0, o0, ep0, z0, _, _, _⟩ := dct_at I sm hS ha
  have fin : ∀ (h' : Heap) (t' : Nat) (es : Array DictEntry) (o : Obj) (ep : Nat), h'.get? a = some o → o.ExactDict → o.data = .dict es ep → Heap.SameBut a s.heap h' → Paired (EntR C ad) (dput kvs k yk v) es.toList → ((dput kvs k yk v).map (·.1)).Nodup → Q () { s with heap := h', toks := t' } := by
    intro h' t' es o ep g1 g2 g3 sb en nd
    have I' : Inv X pins σ (upd H a (rawD a es)) { s with heap := h', toks := t' } := I.write (x := a) (e := a) (by rw [z0.ho]; exact True.intro) (.inl rfl) (fun b q hb z => (sb.2 b hb).trans z) ⟨o, g1⟩ (rawD_ok g1 g2 g3)
    obtain ⟨s', e'⟩ := sm.write (ho := rawD a es) (o := .dct (dput kvs k yk v)) hS rfl rfl ha ⟨es, upd_same, en, z0.sys, nd, hln⟩
    exact h _ _ I' s' e'
  cases k with
  | sc k =>
    obtain ⟨xs, rx, dd, _, hz⟩ := dct_sc I sm hw hS ha ok
    obtain ⟨rfl, rfl⟩ := sc_is hy ry
    refine wpAny_setItem_pairs (hsz := hz) (kV_is rq) dd fun h' dd' hs => ?_
    obtain ⟨o, es, ep, g1, g2, g3, g4, g5, g6⟩ := dd'
    have rx' := sc_put (k := k) ⟨wv, rv, rr⟩ rx
    refine fin h' _ es o ep g1 g2 g3 hs (sc_ent hw rx' g5 fun e he => g4 e (by simpa using he)) ?_
    rw [sc_keys rx', show (stored xs k r).map (fun y => DK.sc y.1) = ((stored xs k r).map (·.1)).map DK.sc by rw [List.map_map]; rfl]
    exact List.pairwise_map.mpr (g6.imp fun h e => h (by cases e; rfl))
  | tp k =>
    obtain ⟨xs, rx, dd, _, hz⟩ := dct_tp I sm hw hS ha ok
    obtain ⟨b, rfl, rfl, is⟩ := tp_is I sm hy ry rq
    refine wpAny_setItem_heap (hsz := hz) (room8 hu) is dd fun h' dd' hs => ?_
    obtain ⟨o, es, ep, g1, g2, g3, g4, g5, g6⟩ := dd'
    have rx' := tp_put (k := k) ry ⟨wv, rv, rr⟩ rx
    refine fin h' _ es o ep g1 g2 g3 hs (by rw [g4]; exact tp_ent hw rx') ?_
    rw [tp_keys rx', show (storedH xs k b r).map (fun y => DK.tp y.1) = ((storedH xs k b r).map (·.1)).map DK.tp by rw [List.map_map]; rfl]
    exact List.pairwise_map.mpr (g6.imp fun h e => h (by cases e; rfl))
theorem pset_dct (hw : C.w = X.w) (hu : X.A.units + 64 < cLine) : PSet X (P3 C pDSet) := by
  intro pins s σ H o i v ov iv u Q I ro ri rv h
  obtain ⟨ad, S, vs, v', S', sm, ra, hf, k1⟩ := rP.elim noX_dset h
  unfold pDSet at hf
  split at hf
  · rename_i d y vv
    split at hf
    · rename_i kvs k n hd
      split at hf
      · rename_i hl
        cases hf
        obtain ⟨rfl, hS, hk, ho⟩ := gDAt_some hd
        cases ra with
        | cons r1 rr =>
        cases rr with
        | cons r2 rr =>
        cases rr with
        | cons r3 rr =>
        cases rr
        obtain ⟨c, hc, rfl⟩ := r1
        cases ro
        exact d_set hu I sm hw hS hc hk ho hl r2 ri r3 rv fun H' s' I' sm' e' => ⟨H', I', k1 ad H' .non e' sm' rfl⟩
      · cases hf
    · cases hf
  · cases hf
/-- d[k] = v, told as an expression of value, dict, key -/
def pDSet3 : Prim := fun vs S => match vs with
  | [v, d, y] => pDSet [d, y, v] S
  | _ => none
theorem xs_dset {o i value : PySem.Expr} {z : Ex} {pos' : Pos} (hw : C.w = X.w) (hu : X.A.units + 64 < cLine) (ho : PE X o (tEv C W x)) (hi : PE X i (tEv C W y)) (hv : PE X value (tEv C W z)) (hs : swapsWithSole [.Subscript o i pos'] value pos.line X.env = pure false := by rfl) (hws : swappedStores [.Subscript o i pos'] value X.env = pure none := by rfl)
    (h1 : (assignEach [.Subscript o i pos'] X.env).map (·.2) = [assign (.Subscript o i pos') X.env] := by rfl) (ha : ∀ v, assign (.Subscript o i pos') X.env v = (do
      let ov ← holding [v] (eval o X.env)
      let iv ← holding [v, ov] (eval i X.env)
      standAt pos'
      holding [v, ov, iv] (setItem ov iv v)
      release [v, ov, iv] []) := by intro _; rfl) : PS X (.Assign [.Subscript o i pos'] value pos) (tEx C W (.expr (.pn pDSet3 (.cons z (.cons x (.cons y .nil)))))) := by
  refine PS.imp (ps_asg hv (pg_sub ho hi (pset_dct hw hu) ha) hs hws h1) ?_
  rintro D σ H ⟨ad, S, ρ, s, r, q⟩
  unfold ex ev evs evs evs evs at q
  have q' : tSO C W D ad H (M.toS (ev z ρ S) ρ fun v S1 => M.toS (ev x ρ S1) ρ fun d S2 => M.toS (ev y ρ S2) ρ fun k S3 => M.toS (pDSet [d, k, v] S3) ρ fun _ S4 => some (.nx ρ S4)) := by
    cases h1 : ev z ρ S with
    | none => rw [h1] at q; exact q
    | some o1 =>
      cases o1 with
      | exc c fs S1 => rw [h1] at q; exact q
      | val v S1 =>
        rw [h1] at q
        simp only [M.bind, M.toS] at q ⊢
        cases h2 : ev x ρ S1 with
        | none => rw [h2] at q; exact q
        | some o2 =>
          cases o2 with
          | exc c fs S2 => rw [h2] at q; exact q
          | val d S2 =>
            rw [h2] at q
            simp only [M.bind, M.toS] at q ⊢
            cases h3 : ev y ρ S2 with
            | none => rw [h3] at q; exact q
            | some o3 =>
              cases o3 with
              | exc c fs S3 => rw [h3] at q; exact q
              | val k S3 => rw [h3] at q; exact q
  refine ⟨ad, S, ρ, s, r, (tM.toS (R := RV) r q').mono ?_⟩
  rintro w1 H1 ⟨ad1, S1, v1, e1, s1, r1, q1⟩
  refine ⟨ad1, S1, ρ, s1, r.ext e1, (tM.toS (R := RV) (r.ext e1) q1).mono ?_⟩
  rintro w2 H2 ⟨ad2, S2, v2, e2, s2, r2, q2⟩
  refine ⟨ad2, S2, ρ, s2, (r.ext e1).ext e2, (tM.toS (R := RV) ((r.ext e1).ext e2) q2).mono ?_⟩
  rintro w3 H3 ⟨ad3, S3, v3, e3, s3, r3, q3⟩
  have ρ3 := ((r.ext e1).ext e2).ext e3
  refine ⟨ad3, S3, [v2, v3, v1], s3, .cons (r2.ext e3) (.cons r3 (.cons ((r1.ext e2).ext e3) .nil)), ?_⟩
  refine ((tM.toS (R := RV) ρ3 q3).noX (noX_dset _ _)).mono ?_
  rintro w4 H4 ⟨ad4, S4, v4, e4, s4, r4, q4⟩
  exact q4 ad4 H4 σ (Ext.refl s4) s4 (ρ3.ext e4)
/-! {} -/
def pDNew : Prim := fun vs S => match vs with
  | [] => some (.val (.ref S.length) (S ++ [.dct []]))
  | _ => none
theorem dct_new (sm : Sim C ad S H) (hp : H p = none) (hs : (p == sysModules) = false) : Sim C (ad ++ [p]) (S ++ [.dct []]) (upd H p (rawD p #[])) ∧ Ext ad H (ad ++ [p]) (upd H p (rawD p #[])) :=
  sm.alloc hp ⟨#[], upd_same, .nil, hs, by simp, by simp⟩
theorem xe_dnew : PE X (.Dict [] [] pos) (tEv C W (.pn pDNew .nil)) := by
  refine ⟨fun pins s σ H Q I h => ?_⟩
  obtain ⟨ad, S, ρ, sm, r, q⟩ := h
  unfold ev evs at q
  simp only [M.bind, pDNew] at q
  have hn := I.hok.fresh (Nat.le_refl s.heap.objs.size)
  have hs : (s.heap.objs.size == sysModules) = false := beq_eq_false_iff_ne.mpr (Ne.symm (Nat.ne_of_lt I.big))
  have I1 : Inv X pins σ (upd H s.heap.objs.size (rawD s.heap.objs.size #[])) { s with heap := s.heap.push { cls := .type "dict", data := .dict #[] } } :=
    I.laid (t' := s.toks) (fun _ _ q => Heap.get?_push_of_some _ q) (Nat.le_refl _) (rawD_ok (ep := 0) (Heap.get?_push_size _ rfl) ⟨rfl, rfl, rfl⟩ rfl)
  obtain ⟨s1, e1⟩ := dct_new (p := s.heap.objs.size) sm hn hs
  refine wpAny_Dict_empty ⟨.ref s.heap.objs.size, _, I1, rfl, q _ _ _ e1 s1 ⟨s.heap.objs.size, ?_, rfl⟩⟩
  rw [← sm.len, List.getElem?_append_right (Nat.le_refl _)]; simp
end
end Nx

set_option Elab.async false
set_option linter.all false
set_option maxRecDepth 100000
set_option maxHeartbeats 4000000
set_option autoImplicit false
namespace Nx.Lk09
open PySem L2 Nx PySem.Spec PyProof.Rows
def top (i : Nat) : Stmt := PySem.Challenge.pw_nextalive_k09_whole_falls_in_any_order.main.body.getD i (.Pass ⟨0, 0, 0, 0⟩)
theorem locL {sc : Scope} {n : Str} (h : sc.names.lookup n = some .local) : Loc sc n := .inl h
def ks_RULES : List V := [.str "first", .str "home", .str "stay"]
/-! the texts -/
abbrev st_is_whole : Stmt := (top 13)
abbrev N_is_whole : List Str := ["value"]
def b_is_whole : Sxs := (.cons (.ret (.and (.pn (pv1 (gIsT "int")) (.cons (.var 0) .nil)) (.pn pNot (.cons (.pn (pv1 (gIsT "bool")) (.cons (.var 0) .nil)) .nil)))) .nil)
abbrev d_is_whole : Prim := den 1 1 b_is_whole
abbrev st__are_strengths : Stmt := (top 16)
abbrev N__are_strengths : List Str := ["value", "part"]
def b__are_strengths : Sxs := (.cons (.ite (.or (.pn pNot (.cons (.pn (pv1 (gIsT "list")) (.cons (.var 0) .nil)) .nil)) (.pn pNot (.cons (.chain (pv2 gLe) (pv2 gLe) (.cst (.int 1)) (.pn (pv1 gLen) (.cons (.var 0) .nil)) (.cst (.int (5)))) .nil))) (.cons (.ret (.cst (.bl false))) .nil) .nil) (.cons (.ret (.pn (pv1 gAll) (.cons (.lc (.and (.pn d_is_whole (.cons (.var 1) .nil)) (.chain (pv2 gLe) (pv2 gLe) (.cst (.int 0)) (.var 1) (.cst (.int (10000000000))))) (.nm 1) [1] itSeq (.cons (.var 0) .nil) (.cst (.bl true))) .nil))) .nil))
abbrev d__are_strengths : Prim := den 2 1 b__are_strengths
abbrev st__can_be_services : Stmt := (top 17)
abbrev N__can_be_services : List Str := ["value"]
def b__can_be_services : Sxs := (.cons (.ret (.and (.pn (pv1 (gIsT "list")) (.cons (.var 0) .nil)) (.pn (pv2 gLe) (.cons (.pn (pv1 gLen) (.cons (.var 0) .nil)) (.cons (.cst (.int (5))) .nil))))) .nil)
abbrev d__can_be_services : Prim := den 1 1 b__can_be_services
abbrev st_is_machine : Stmt := (top 14)
abbrev N_is_machine : List Str := ["value", "machines"]
def b_is_machine : Sxs := (.cons (.ret (.and (.pn d_is_whole (.cons (.var 0) .nil)) (.chain (pv2 gLe) (pv2 gLt) (.cst (.int 0)) (.var 0) (.var 1)))) .nil)
abbrev d_is_machine : Prim := den 2 2 b_is_machine
abbrev st_is_order : Stmt := (top 15)
abbrev N_is_order : List Str := ["value", "machines", "part"]
def b_is_order : Sxs := (.cons (.ite (.or (.pn pNot (.cons (.pn (pv1 (gIsT "tuple")) (.cons (.var 0) .nil)) .nil)) (.pn pNot (.cons (.chain (pv2 gLe) (pv2 gLe) (.cst (.int 1)) (.pn (pv1 gLen) (.cons (.var 0) .nil)) (.var 1)) .nil))) (.cons (.ret (.cst (.bl false))) .nil) .nil) (.cons (.ret (.and (.pn (pv1 gAll) (.cons (.lc (.pn d_is_machine (.cons (.var 2) (.cons (.var 1) .nil))) (.nm 2) [2] itSeq (.cons (.var 0) .nil) (.cst (.bl true))) .nil)) (.pn (pv2 (gEq false)) (.cons (.pn (pv1 gLenSet) (.cons (.var 0) .nil)) (.cons (.pn (pv1 gLen) (.cons (.var 0) .nil)) .nil))))) .nil))
abbrev d_is_order : Prim := den 3 2 b_is_order
abbrev st__is_service : Stmt := (top 18)
abbrev N__is_service : List Str := ["value", "machines", "weight", "order", "rule"]
def b__is_service : Sxs := (.cons (.ite (.or (.pn pNot (.cons (.pn (pv1 (gIsT "tuple")) (.cons (.var 0) .nil)) .nil)) (.pn (pv2 (gEq true)) (.cons (.pn (pv1 gLen) (.cons (.var 0) .nil)) (.cons (.cst (.int 3)) .nil)))) (.cons (.ret (.cst (.bl false))) .nil) .nil) (.cons (.asg (.tp (.cons (.nm 2) (.cons (.nm 3) (.cons (.nm 4) .nil)))) (.var 0)) (.cons (.ite (.or (.pn pNot (.cons (.pn d_is_whole (.cons (.var 2) .nil)) .nil)) (.pn pNot (.cons (.chain (pv2 gLe) (pv2 gLe) (.cst (.int 1)) (.var 2) (.cst (.int (1000000000)))) .nil))) (.cons (.ret (.cst (.bl false))) .nil) .nil) (.cons (.ret (.and (.pn d_is_order (.cons (.var 3) (.cons (.var 1) .nil))) (.and (.pn (pv1 (gIsT "str")) (.cons (.var 4) .nil)) (.pn (pv1 (gInK false ks_RULES)) (.cons (.var 4) .nil))))) .nil))))
abbrev d__is_service : Prim := den 5 2 b__is_service
abbrev st_House_m___init__ : Stmt := (inClass (top 12) 0)
abbrev N_House_m___init__ : List Str := ["self", "strengths", "services", "number", "service"]
def b_House_m___init__ : Sxs := (.cons (.ite (.or (.pn pNot (.cons (.pn d__are_strengths (.cons (.var 1) .nil)) .nil)) (.pn pNot (.cons (.pn d__can_be_services (.cons (.var 2) .nil)) .nil))) (.cons (.raise 2 ["number"] (.cons (.cst .non) .nil)) .nil) .nil) (.cons (.for_ (.tp (.cons (.nm 3) (.cons (.nm 4) .nil))) itEnumB (.cons (.var 2) .nil) (.cons (.ite (.pn pNot (.cons (.pn d__is_service (.cons (.var 4) (.cons (.pn (pv1 gLen) (.cons (.var 1) .nil)) .nil))) .nil)) (.cons (.raise 2 ["number"] (.cons (.var 3) .nil)) .nil) .nil) .nil)) (.cons (.setf [0] "_strengths" (.var 0) (.pn (pn1 gListOf) (.cons (.var 1) .nil))) (.cons (.setf [0] "_services" (.var 0) (.pn (pn1 gListOf) (.cons (.var 2) .nil))) .nil))))
abbrev d_House_m___init__ : Prim := den 5 3 b_House_m___init__
abbrev st_House_m_services : Stmt := (inClass (top 12) 4)
abbrev N_House_m_services : List Str := ["self"]
def b_House_m_services : Sxs := (.cons (.ret (.pn (pn1 gListOf) (.cons (.pn (pv1 (gFld [0] "_services")) (.cons (.var 0) .nil)) .nil))) .nil)
abbrev d_House_m_services : Prim := den 1 1 b_House_m_services
abbrev st_load_in : Stmt := (top 28)
abbrev N_load_in : List Str := ["house", "picture", "machine", "places", "service", "place"]
def b_load_in : Sxs := (.cons (.asg (.nm 3) (.pn (pv2 gIx) (.cons (.var 1) (.cons (.cst (.int 1)) .nil)))) (.cons (.ret (.pn (pv1 gSum) (.cons (.lc (.pn (pv2 gIx) (.cons (.var 4) (.cons (.cst (.int 0)) .nil))) (.tp (.cons (.nm 4) (.cons (.nm 5) .nil))) [4, 5] itZip2 (.cons (.mc (insC 0 "services") d_House_m_services (.var 0) .nil) (.cons (.var 3) .nil)) (.pn (pv2 (gEq false)) (.cons (.var 5) (.cons (.var 2) .nil)))) .nil))) .nil))
abbrev d_load_in : Prim := den 6 3 b_load_in
abbrev st_Run_m_load : Stmt := (inClass (top 30) 4)
abbrev N_Run_m_load : List Str := ["self", "machine"]
def b_Run_m_load : Sxs := (.cons (.ret (.pn d_load_in (.cons (.pn (pv1 (gFld [1] "house")) (.cons (.var 0) .nil)) (.cons (.pn (pv1 (gFld [1] "_picture")) (.cons (.var 0) .nil)) (.cons (.var 1) .nil))))) .nil)
abbrev d_Run_m_load : Prim := den 2 2 b_Run_m_load
abbrev st_Run_m_picture : Stmt := (inClass (top 30) 3)
abbrev N_Run_m_picture : List Str := ["self"]
def b_Run_m_picture : Sxs := (.cons (.ret (.pn (pv1 (gFld [1] "_picture")) (.cons (.var 0) .nil))) .nil)
abbrev d_Run_m_picture : Prim := den 1 1 b_Run_m_picture
abbrev st__law_events : Stmt := (top 39)
abbrev N__law_events : List Str := ["machines", "down", "cap", "found", "machine"]
def b__law_events : Sxs := (.cons (.asg (.nm 3) (.pn pLst .nil)) (.cons (.for_ (.nm 4) itRange (.cons (.var 0) .nil) (.cons (.ite (.and (.pn (pv2 (gIn false)) (.cons (.var 4) (.cons (.var 1) .nil))) (.pn (pv2 gLe) (.cons (.pn (pv1 gLen) (.cons (.var 1) .nil)) (.cons (.pn pAdd (.cons (.var 2) (.cons (.cst (.int 1)) .nil))) .nil)))) (.cons (.expr (.mc isLst pAppend (.var 3) (.cons (.pn pTup (.cons (.cst (.str "rise")) (.cons (.var 4) .nil))) .nil))) .nil) .nil) (.cons (.ite (.and (.pn (pv2 (gIn true)) (.cons (.var 4) (.cons (.var 1) .nil))) (.pn (pv2 gLt) (.cons (.pn (pv1 gLen) (.cons (.var 1) .nil)) (.cons (.var 2) .nil)))) (.cons (.expr (.mc isLst pAppend (.var 3) (.cons (.pn pTup (.cons (.cst (.str "fall")) (.cons (.var 4) .nil))) .nil))) .nil) .nil) .nil))) (.cons (.ret (.var 3)) .nil)))
abbrev d__law_events : Prim := den 5 3 b__law_events
abbrev st__law_feed : Stmt := (top 33)
abbrev N__law_feed : List Str := ["script", "k", "seed", "digits"]
def b__law_feed : Sxs := (.cons (.asg (.nm 2) (.pn (pv2 gIx) (.cons (.pn pAdd (.cons (.pn (pn1 gListOf) (.cons (.sl fSl (.var 0) (.cons (.var 1) .nil) (.cons (.pn pAdd (.cons (.var 1) (.cons (.cst (.int 1)) .nil))) .nil)) .nil)) (.cons (.pn pLst (.cons (.pn pAdd (.cons (.pn pMul (.cons (.cst (.int 71)) (.cons (.var 1) .nil))) (.cons (.cst (.int 23)) .nil))) .nil)) .nil))) (.cons (.cst (.int 0)) .nil)))) (.cons (.asg (.nm 3) (.pn (pv2 gMax2) (.cons (.cst (.int 0)) (.cons (.pn (pv2 gSub) (.cons (.pn (pv1 gAbs) (.cons (.var 2) .nil)) (.cons (.pn (pv2 gPow) (.cons (.cst (.int 10)) (.cons (.cst (.int 18)) .nil))) .nil))) .nil)))) (.cons (.ret (.pn pLst (.cons (.var 3) (.cons (.pn (pv2 gMod) (.cons (.pn (pv1 gInt1) (.cons (.pn pAdd (.cons (.pn pAdd (.cons (.pn pMul (.cons (.pn (pv2 gMod) (.cons (.pn (pv1 gInt1) (.cons (.pn (pv1 gAbs) (.cons (.var 2) .nil)) .nil)) (.cons (.cst (.int 1000003)) .nil))) (.cons (.cst (.int 7919)) .nil))) (.cons (.pn pMul (.cons (.cst (.int 31)) (.cons (.var 1) .nil))) .nil))) (.cons (.cst (.int 17)) .nil))) .nil)) (.cons (.cst (.int 1000033)) .nil))) .nil)))) .nil)))
abbrev d__law_feed : Prim := den 4 2 b__law_feed
abbrev st__law_take : Stmt := (top 34)
abbrev N__law_take : List Str := ["feed", "many", "digit"]
def b__law_take : Sxs := (.cons (.ite (.pn (pv2 gGt) (.cons (.pn (pv2 gIx) (.cons (.var 0) (.cons (.cst (.int 0)) .nil))) (.cons (.cst (.int 0)) .nil))) (.cons (.asg (.nm 2) (.pn (pv2 gMod) (.cons (.pn (pv1 gInt1) (.cons (.pn (pv2 gIx) (.cons (.var 0) (.cons (.cst (.int 0)) .nil))) .nil)) (.cons (.var 1) .nil)))) (.cons (.seti (.var 0) (.cst (.int 0)) (.pn (pv2 gFdiv) (.cons (.pn (pv2 gIx) (.cons (.var 0) (.cons (.cst (.int 0)) .nil))) (.cons (.var 1) .nil)))) (.cons (.ret (.var 2)) .nil))) .nil) (.cons (.seti (.var 0) (.cst (.int 1)) (.pn (pv2 gMod) (.cons (.pn (pv1 gInt1) (.cons (.pn pAdd (.cons (.pn pMul (.cons (.pn (pv2 gIx) (.cons (.var 0) (.cons (.cst (.int 1)) .nil))) (.cons (.cst (.int 69069)) .nil))) (.cons (.cst (.int 12345)) .nil))) .nil)) (.cons (.cst (.int 4294967311)) .nil)))) (.cons (.ret (.pn (pv2 gMod) (.cons (.pn (pv1 gInt1) (.cons (.pn (pv2 gFdiv) (.cons (.pn (pv2 gIx) (.cons (.var 0) (.cons (.cst (.int 1)) .nil))) (.cons (.cst (.int 65536)) .nil))) .nil)) (.cons (.var 1) .nil)))) .nil)))
abbrev d__law_take : Prim := den 3 2 b__law_take
abbrev st__law_order : Stmt := (top 36)
abbrev N__law_order : List Str := ["feed", "machines", "least", "rest", "found", "turn"]
def b__law_order : Sxs := (.cons (.par 3 4 (.pn pListRg (.cons (.var 1) .nil)) (.pn pLst .nil)) (.cons (.for_ (.nm 5) itRange (.cons (.pn pAdd (.cons (.var 2) (.cons (.pn d__law_take (.cons (.var 0) (.cons (.pn (pv2 gSub) (.cons (.pn pAdd (.cons (.var 1) (.cons (.cst (.int 1)) .nil))) (.cons (.var 2) .nil))) .nil))) .nil))) .nil) (.cons (.expr (.mc isLst pAppend (.var 4) (.cons (.mc isLst pPopAt (.var 3) (.cons (.pn d__law_take (.cons (.var 0) (.cons (.pn (pv1 gLen) (.cons (.var 3) .nil)) .nil))) .nil)) .nil))) .nil)) (.cons (.ret (.pn pTupleOf (.cons (.var 4) .nil))) .nil)))
abbrev d__law_order : Prim := den 6 3 b__law_order
abbrev st__law_pick : Stmt := (top 35)
abbrev N__law_pick : List Str := ["feed", "some"]
def b__law_pick : Sxs := (.cons (.ret (.pn (pv2 gIx) (.cons (.var 1) (.cons (.pn d__law_take (.cons (.var 0) (.cons (.pn (pv1 gLen) (.cons (.var 1) .nil)) .nil))) .nil)))) .nil)
abbrev d__law_pick : Prim := den 2 2 b__law_pick
abbrev st__law_house : Stmt := (top 37)
abbrev N__law_house : List Str := ["feed", "most_machines", "most_services", "machines", "menu", "rules", "services", "turn", "order", "strengths", "machine"]
def b__law_house : Sxs := (.cons (.asg (.nm 3) (.pn pAdd (.cons (.cst (.int 1)) (.cons (.pn d__law_take (.cons (.var 0) (.cons (.var 1) .nil))) .nil)))) (.cons (.asg (.nm 4) (.pn d__law_pick (.cons (.var 0) (.cons (.pn pLst (.cons (.pn pLst (.cons (.cst (.int 1)) (.cons (.cst (.int 2)) (.cons (.cst (.int 3)) .nil)))) (.cons (.pn pLst (.cons (.cst (.int 5)) (.cons (.cst (.int 5)) (.cons (.cst (.int 7)) (.cons (.cst (.int 1)) .nil))))) (.cons (.pn pLst (.cons (.pn (pv2 gPow) (.cons (.cst (.int 10)) (.cons (.cst (.int 9)) .nil))) (.cons (.cst (.int 1)) (.cons (.pn pMul (.cons (.cst (.int 5)) (.cons (.pn (pv2 gPow) (.cons (.cst (.int 10)) (.cons (.cst (.int 8)) .nil))) .nil))) .nil)))) (.cons (.pn pLst (.cons (.cst (.int 1)) (.cons (.cst (.int 2)) (.cons (.cst (.int 4)) (.cons (.cst (.int 8)) (.cons (.cst (.int 16)) .nil)))))) .nil))))) .nil)))) (.cons (.asg (.nm 5) (.pn d__law_pick (.cons (.var 0) (.cons (.pn pLst (.cons (.pn pLst (.cons (.cst (.str "first")) (.cons (.cst (.str "home")) (.cons (.cst (.str "stay")) .nil)))) (.cons (.pn pLst (.cons (.cst (.str "home")) .nil)) (.cons (.pn pLst (.cons (.cst (.str "home")) (.cons (.cst (.str "stay")) .nil))) (.cons (.pn pLst (.cons (.cst (.str "first")) (.cons (.cst (.str "home")) .nil))) .nil))))) .nil)))) (.cons (.asg (.nm 6) (.pn pLst .nil)) (.cons (.for_ (.nm 7) itRange (.cons (.pn d__law_take (.cons (.var 0) (.cons (.pn pAdd (.cons (.var 2) (.cons (.cst (.int 1)) .nil))) .nil))) .nil) (.cons (.asg (.nm 8) (.pn d__law_order (.cons (.var 0) (.cons (.var 3) (.cons (.pn (pv2 gMin2) (.cons (.var 3) (.cons (.pn d__law_pick (.cons (.var 0) (.cons (.pn pLst (.cons (.cst (.int 1)) (.cons (.cst (.int 2)) (.cons (.cst (.int 2)) (.cons (.cst (.int 3)) .nil))))) .nil))) .nil))) .nil))))) (.cons (.expr (.mc isLst pAppend (.var 6) (.cons (.pn pTup (.cons (.pn d__law_pick (.cons (.var 0) (.cons (.var 4) .nil))) (.cons (.var 8) (.cons (.pn d__law_pick (.cons (.var 0) (.cons (.var 5) .nil))) .nil)))) .nil))) .nil))) (.cons (.asg (.nm 9) (.lc (.pn d__law_pick (.cons (.var 0) (.cons (.pn pLst (.cons (.cst (.int 0)) (.cons (.cst (.int 3)) (.cons (.cst (.int 5)) (.cons (.cst (.int 8)) (.cons (.cst (.int 12)) (.cons (.cst (.int 20)) (.cons (.pn (pv2 gPow) (.cons (.cst (.int 10)) (.cons (.cst (.int 9)) .nil))) (.cons (.pn (pv2 gPow) (.cons (.cst (.int 10)) (.cons (.cst (.int 10)) .nil))) .nil))))))))) .nil))) (.nm 10) [10] itRange (.cons (.var 3) .nil) (.cst (.bl true)))) (.cons (.ret (.pn pLst (.cons (.var 9) (.cons (.var 6) .nil)))) .nil)))))))
abbrev d__law_house : Prim := den 11 3 b__law_house
abbrev st__law_mixed : Stmt := (top 41)
abbrev N__law_mixed : List Str := ["feed", "things", "rest", "found", "turn"]
def b__law_mixed : Sxs := (.cons (.par 2 3 (.pn (pn1 gListOf) (.cons (.var 1) .nil)) (.pn pLst .nil)) (.cons (.for_ (.nm 4) itRange (.cons (.pn (pv1 gLen) (.cons (.var 2) .nil)) .nil) (.cons (.expr (.mc isLst pAppend (.var 3) (.cons (.mc isLst pPopAt (.var 2) (.cons (.pn d__law_take (.cons (.var 0) (.cons (.pn (pv1 gLen) (.cons (.var 2) .nil)) .nil))) .nil)) .nil))) .nil)) (.cons (.ret (.var 3)) .nil)))
abbrev d__law_mixed : Prim := den 5 2 b__law_mixed
abbrev st__law_first : Stmt := (top 38)
abbrev N__law_first : List Str := ["order", "down", "living", "machine"]
def b__law_first : Sxs := (.cons (.asg (.nm 2) (.lc (.var 3) (.nm 3) [3] itSeq (.cons (.var 0) .nil) (.pn (pv2 (gIn true)) (.cons (.var 3) (.cons (.var 1) .nil))))) (.cons (.ret (.ite (.pn (pv2 (gEq true)) (.cons (.var 2) (.cons (.pn pLst .nil) .nil))) (.pn (pv2 gIx) (.cons (.var 2) (.cons (.cst (.int 0)) .nil))) (.pn (pv1 gNeg) (.cons (.cst (.int 1)) .nil)))) .nil))
abbrev d__law_first : Prim := den 4 2 b__law_first
abbrev st__law_rules_hold : Stmt := (top 42)
abbrev N__law_rules_hold : List Str := ["services", "picture", "down", "places", "weight", "order", "rule", "place"]
def b__law_rules_hold : Sxs := (.cons (.asg (.tp (.cons (.nm 2) (.cons (.nm 3) .nil))) (.var 1)) (.cons (.for_ (.tp (.cons (.tp (.cons (.nm 4) (.cons (.nm 5) (.cons (.nm 6) .nil)))) (.cons (.nm 7) .nil))) itZip2 (.cons (.var 0) (.cons (.var 3) .nil)) (.cons (.ite (.and (.pn (pv2 (gEq true)) (.cons (.var 7) (.cons (.pn (pv1 gNeg) (.cons (.cst (.int 1)) .nil)) .nil))) (.or (.pn (pv2 (gIn true)) (.cons (.var 7) (.cons (.var 5) .nil))) (.pn (pv2 (gIn false)) (.cons (.var 7) (.cons (.var 2) .nil))))) (.cons (.ret (.cst (.bl false))) .nil) .nil) (.cons (.ite (.pn (pv2 (gEq true)) (.cons (.pn (pv2 (gEq false)) (.cons (.var 7) (.cons (.pn (pv1 gNeg) (.cons (.cst (.int 1)) .nil)) .nil))) (.cons (.pn (pv2 (gEq false)) (.cons (.pn d__law_first (.cons (.var 5) (.cons (.var 2) .nil))) (.cons (.pn (pv1 gNeg) (.cons (.cst (.int 1)) .nil)) .nil))) .nil))) (.cons (.ret (.cst (.bl false))) .nil) .nil) (.cons (.ite (.and (.pn (pv2 (gEq false)) (.cons (.var 6) (.cons (.cst (.str "first")) .nil))) (.pn (pv2 (gEq true)) (.cons (.var 7) (.cons (.pn d__law_first (.cons (.var 5) (.cons (.var 2) .nil))) .nil)))) (.cons (.ret (.cst (.bl false))) .nil) .nil) (.cons (.ite (.and (.pn (pv2 (gEq false)) (.cons (.var 6) (.cons (.cst (.str "home")) .nil))) (.and (.pn (pv2 (gIn true)) (.cons (.pn (pv2 gIx) (.cons (.var 5) (.cons (.cst (.int 0)) .nil))) (.cons (.var 2) .nil))) (.pn (pv2 (gEq true)) (.cons (.var 7) (.cons (.pn (pv2 gIx) (.cons (.var 5) (.cons (.cst (.int 0)) .nil))) .nil))))) (.cons (.ret (.cst (.bl false))) .nil) .nil) .nil))))) (.cons (.ret (.cst (.bl true))) .nil)))
abbrev d__law_rules_hold : Prim := den 8 2 b__law_rules_hold
abbrev st__law_walk : Stmt := (top 40)
abbrev N__law_walk : List Str := ["feed", "machines", "cap", "long", "down", "found", "turn", "some", "event", "one"]
def b__law_walk : Sxs := (.cons (.par 4 5 (.pn pLst .nil) (.pn pLst .nil)) (.cons (.for_ (.nm 6) itRange (.cons (.var 3) .nil) (.cons (.asg (.nm 7) (.pn d__law_events (.cons (.var 1) (.cons (.var 4) (.cons (.var 2) .nil))))) (.cons (.ite (.pn (pv2 (gEq true)) (.cons (.var 7) (.cons (.pn pLst .nil) .nil))) (.cons (.asg (.nm 8) (.pn d__law_pick (.cons (.var 0) (.cons (.var 7) .nil)))) (.cons (.expr (.mc isLst pAppend (.var 5) (.cons (.var 8) .nil))) (.cons (.asg (.nm 4) (.lc (.var 9) (.nm 9) [9] itSeq (.cons (.var 4) .nil) (.pn (pv2 (gEq true)) (.cons (.var 9) (.cons (.pn (pv2 gIx) (.cons (.var 8) (.cons (.cst (.int 1)) .nil))) .nil))))) (.cons (.ite (.pn (pv2 (gEq false)) (.cons (.pn (pv2 gIx) (.cons (.var 8) (.cons (.cst (.int 0)) .nil))) (.cons (.cst (.str "fall")) .nil))) (.cons (.asg (.nm 4) (.pn pAdd (.cons (.var 4) (.cons (.pn pLst (.cons (.pn (pv2 gIx) (.cons (.var 8) (.cons (.cst (.int 1)) .nil))) .nil)) .nil)))) .nil) .nil) .nil)))) .nil) .nil))) (.cons (.ret (.var 5)) .nil)))
abbrev d__law_walk : Prim := den 10 4 b__law_walk
abbrev st_beginning : Stmt := (top 21)
abbrev N_beginning : List Str := ["house", "weight", "order", "rule"]
def b_beginning : Sxs := (.cons (.ret (.pn pTup (.cons (.pn pTup .nil) (.cons (.pn pTupleOf (.cons (.lc (.pn (pv2 gIx) (.cons (.var 2) (.cons (.cst (.int 0)) .nil))) (.tp (.cons (.nm 1) (.cons (.nm 2) (.cons (.nm 3) .nil)))) [1, 2, 3] itSeq (.cons (.mc (insC 0 "services") d_House_m_services (.var 0) .nil) .nil) (.cst (.bl true))) .nil)) .nil)))) .nil)
abbrev d_beginning : Prim := den 4 1 b_beginning
abbrev st_Run_m___init__ : Stmt := (inClass (top 30) 0)
abbrev N_Run_m___init__ : List Str := ["self", "house"]
def b_Run_m___init__ : Sxs := (.cons (.setf [1] "house" (.var 0) (.var 1)) (.cons (.setf [1] "_picture" (.var 0) (.pn d_beginning (.cons (.var 1) .nil))) (.cons (.setf [1] "_events" (.var 0) (.pn pLst .nil)) .nil)))
abbrev d_Run_m___init__ : Prim := den 2 2 b_Run_m___init__
abbrev st_down_behind : Stmt := (top 25)
abbrev N_down_behind : List Str := ["down", "event", "word", "machine", "other"]
def b_down_behind : Sxs := (.cons (.asg (.tp (.cons (.nm 2) (.cons (.nm 3) .nil))) (.var 1)) (.cons (.ite (.pn (pv2 (gEq false)) (.cons (.var 2) (.cons (.cst (.str "fall")) .nil))) (.cons (.ret (.pn pTupleOf (.cons (.pn (pn1 gSorted) (.cons (.pn pLst (.star (.var 0) (.cons (.var 3) .nil))) .nil)) .nil))) .nil) .nil) (.cons (.ret (.pn pTupleOf (.cons (.lc (.var 4) (.nm 4) [4] itSeq (.cons (.var 0) .nil) (.pn (pv2 (gEq true)) (.cons (.var 4) (.cons (.var 3) .nil)))) .nil))) .nil)))
abbrev d_down_behind : Prim := den 5 2 b_down_behind
abbrev st_first_living : Stmt := (top 22)
abbrev N_first_living : List Str := ["order", "down", "machine"]
def b_first_living : Sxs := (.cons (.for_ (.nm 2) itSeq (.cons (.var 0) .nil) (.cons (.ite (.pn (pv2 (gIn true)) (.cons (.var 2) (.cons (.var 1) .nil))) (.cons (.ret (.var 2)) .nil) .nil) .nil)) (.cons (.ret (.cst (.int (-1)))) .nil))
abbrev d_first_living : Prim := den 3 2 b_first_living
abbrev st_place_behind : Stmt := (top 26)
abbrev N_place_behind : List Str := ["service", "place", "event", "left", "word", "machine", "_", "order", "rule"]
def b_place_behind : Sxs := (.cons (.asg (.tp (.cons (.nm 4) (.cons (.nm 5) .nil))) (.var 2)) (.cons (.asg (.tp (.cons (.nm 6) (.cons (.nm 7) (.cons (.nm 8) .nil)))) (.var 0)) (.cons (.ite (.pn (pv2 (gEq false)) (.cons (.var 4) (.cons (.cst (.str "fall")) .nil))) (.cons (.ret (.ite (.pn (pv2 (gEq false)) (.cons (.var 1) (.cons (.var 5) .nil))) (.pn d_first_living (.cons (.var 7) (.cons (.var 3) .nil))) (.var 1))) .nil) .nil) (.cons (.ite (.pn (pv2 (gIn true)) (.cons (.var 5) (.cons (.var 7) .nil))) (.cons (.ret (.var 1)) .nil) .nil) (.cons (.ite (.pn (pv2 (gEq false)) (.cons (.var 1) (.cons (.cst (.int (-1))) .nil))) (.cons (.ret (.var 5)) .nil) .nil) (.cons (.ite (.and (.pn (pv2 (gEq false)) (.cons (.var 8) (.cons (.cst (.str "first")) .nil))) (.pn (pv2 gLt) (.cons (.mc isTupB pIndexT (.var 7) (.cons (.var 5) .nil)) (.cons (.mc isTupB pIndexT (.var 7) (.cons (.var 1) .nil)) .nil)))) (.cons (.ret (.var 5)) .nil) .nil) (.cons (.ite (.and (.pn (pv2 (gEq false)) (.cons (.var 8) (.cons (.cst (.str "home")) .nil))) (.pn (pv2 (gEq false)) (.cons (.var 5) (.cons (.pn (pv2 gIx) (.cons (.var 7) (.cons (.cst (.int 0)) .nil))) .nil)))) (.cons (.ret (.var 5)) .nil) .nil) (.cons (.ret (.var 1)) .nil))))))))
abbrev d_place_behind : Prim := den 9 4 b_place_behind
abbrev st_picture_behind : Stmt := (top 27)
abbrev N_picture_behind : List Str := ["house", "picture", "event", "down", "places", "left", "pairs", "service", "place"]
def b_picture_behind : Sxs := (.cons (.asg (.tp (.cons (.nm 3) (.cons (.nm 4) .nil))) (.var 1)) (.cons (.asg (.nm 5) (.pn d_down_behind (.cons (.var 3) (.cons (.var 2) .nil)))) (.cons (.asg (.nm 6) (.pn pListZip (.cons (.mc (insC 0 "services") d_House_m_services (.var 0) .nil) (.cons (.var 4) .nil)))) (.cons (.ret (.pn pTup (.cons (.var 5) (.cons (.pn pTupleOf (.cons (.lc (.pn d_place_behind (.cons (.var 7) (.cons (.var 8) (.cons (.var 2) (.cons (.var 5) .nil))))) (.tp (.cons (.nm 7) (.cons (.nm 8) .nil))) [7, 8] itSeq (.cons (.var 6) .nil) (.cst (.bl true))) .nil)) .nil)))) .nil))))
abbrev d_picture_behind : Prim := den 9 3 b_picture_behind
abbrev st_Run_m__lead : Stmt := (inClass (top 30) 7)
abbrev N_Run_m__lead : List Str := ["self", "event"]
def b_Run_m__lead : Sxs := (.cons (.setf [1] "_picture" (.var 0) (.pn d_picture_behind (.cons (.pn (pv1 (gFld [1] "house")) (.cons (.var 0) .nil)) (.cons (.pn (pv1 (gFld [1] "_picture")) (.cons (.var 0) .nil)) (.cons (.var 1) .nil))))) (.cons (.expr (.mc isLst pAppend (.pn (pv1 (gFld [1] "_events")) (.cons (.var 0) .nil)) (.cons (.var 1) .nil))) .nil))
abbrev d_Run_m__lead : Prim := den 2 2 b_Run_m__lead
abbrev st_House_m___len__ : Stmt := (inClass (top 12) 1)
abbrev N_House_m___len__ : List Str := ["self"]
def b_House_m___len__ : Sxs := (.cons (.ret (.pn (pv1 gLen) (.cons (.pn (pv1 (gFld [0] "_strengths")) (.cons (.var 0) .nil)) .nil))) .nil)
abbrev d_House_m___len__ : Prim := den 1 1 b_House_m___len__
abbrev st_can_fall : Stmt := (top 23)
abbrev N_can_fall : List Str := ["house", "down", "value"]
def b_can_fall : Sxs := (.cons (.ret (.and (.pn d_is_machine (.cons (.var 2) (.cons (.pn (pLen 0 d_House_m___len__) (.cons (.var 0) .nil)) .nil))) (.pn (pv2 (gIn true)) (.cons (.var 2) (.cons (.var 1) .nil))))) .nil)
abbrev d_can_fall : Prim := den 3 3 b_can_fall
abbrev st_Run_m_fall : Stmt := (inClass (top 30) 1)
abbrev N_Run_m_fall : List Str := ["self", "machine"]
def b_Run_m_fall : Sxs := (.cons (.ite (.pn pNot (.cons (.pn d_can_fall (.cons (.pn (pv1 (gFld [1] "house")) (.cons (.var 0) .nil)) (.cons (.pn (pv2 gIx) (.cons (.pn (pv1 (gFld [1] "_picture")) (.cons (.var 0) .nil)) (.cons (.cst (.int 0)) .nil))) (.cons (.var 1) .nil)))) .nil)) (.cons (.raise 3 ["machine"] (.cons (.var 1) .nil)) .nil) .nil) (.cons (.expr (.mc (insC 1 "_lead") d_Run_m__lead (.var 0) (.cons (.pn pTup (.cons (.cst (.str "fall")) (.cons (.var 1) .nil))) .nil))) .nil))
abbrev d_Run_m_fall : Prim := den 2 2 b_Run_m_fall
abbrev st_can_rise : Stmt := (top 24)
abbrev N_can_rise : List Str := ["house", "down", "value"]
def b_can_rise : Sxs := (.cons (.ret (.and (.pn d_is_machine (.cons (.var 2) (.cons (.pn (pLen 0 d_House_m___len__) (.cons (.var 0) .nil)) .nil))) (.pn (pv2 (gIn false)) (.cons (.var 2) (.cons (.var 1) .nil))))) .nil)
abbrev d_can_rise : Prim := den 3 3 b_can_rise
abbrev st_Run_m_rise : Stmt := (inClass (top 30) 2)
abbrev N_Run_m_rise : List Str := ["self", "machine"]
def b_Run_m_rise : Sxs := (.cons (.ite (.pn pNot (.cons (.pn d_can_rise (.cons (.pn (pv1 (gFld [1] "house")) (.cons (.var 0) .nil)) (.cons (.pn (pv2 gIx) (.cons (.pn (pv1 (gFld [1] "_picture")) (.cons (.var 0) .nil)) (.cons (.cst (.int 0)) .nil))) (.cons (.var 1) .nil)))) .nil)) (.cons (.raise 4 ["machine"] (.cons (.var 1) .nil)) .nil) .nil) (.cons (.expr (.mc (insC 1 "_lead") d_Run_m__lead (.var 0) (.cons (.pn pTup (.cons (.cst (.str "rise")) (.cons (.var 1) .nil))) .nil))) .nil))
abbrev d_Run_m_rise : Prim := den 2 2 b_Run_m_rise
abbrev st_run_of : Stmt := (top 31)
abbrev N_run_of : List Str := ["house", "history", "run", "word", "machine"]
def b_run_of : Sxs := (.cons (.asg (.nm 2) (.pn (pMake 1 d_Run_m___init__) (.cons (.var 0) .nil))) (.cons (.for_ (.tp (.cons (.nm 3) (.cons (.nm 4) .nil))) itSeq (.cons (.var 1) .nil) (.cons (.ite (.pn (pv2 (gEq false)) (.cons (.var 3) (.cons (.cst (.str "fall")) .nil))) (.cons (.expr (.mc (insC 1 "fall") d_Run_m_fall (.var 2) (.cons (.var 4) .nil))) .nil) (.cons (.expr (.mc (insC 1 "rise") d_Run_m_rise (.var 2) (.cons (.var 4) .nil))) .nil)) .nil)) (.cons (.ret (.var 2)) .nil)))
abbrev d_run_of : Prim := den 5 2 b_run_of
abbrev st_law : Stmt := (top 43)
abbrev N_law : List Str := ["script", "k", "feed", "strengths", "services", "house", "machines", "history", "run", "down", "living", "ends", "turn", "event", "other", "machine", "before", "after", "one"]
def b_law : Sxs := (.cons (.for_ (.nm 1) itRange (.cons (.pn (pv2 gMax2) (.cons (.cst (.int 1)) (.cons (.pn (pv2 gMin2) (.cons (.cst (.int 3)) (.cons (.pn (pv1 gLen) (.cons (.var 0) .nil)) .nil))) .nil))) .nil) (.cons (.asg (.nm 2) (.pn d__law_feed (.cons (.var 0) (.cons (.var 1) .nil)))) (.cons (.asg (.tp (.cons (.nm 3) (.cons (.nm 4) .nil))) (.pn d__law_house (.cons (.var 2) (.cons (.cst (.int 5)) (.cons (.cst (.int 5)) .nil))))) (.cons (.par 5 6 (.pn (pMake 0 d_House_m___init__) (.cons (.var 3) (.cons (.var 4) .nil))) (.pn (pv1 gLen) (.cons (.var 3) .nil))) (.cons (.asg (.nm 7) (.pn d__law_walk (.cons (.var 2) (.cons (.var 6) (.cons (.cst (.int 4)) (.cons (.pn d__law_take (.cons (.var 2) (.cons (.cst (.int 9)) .nil))) .nil)))))) (.cons (.asg (.nm 8) (.pn d_run_of (.cons (.var 5) (.cons (.var 7) .nil)))) (.cons (.asg (.nm 9) (.pn (pv2 gIx) (.cons (.mc (insC 1 "picture") d_Run_m_picture (.var 8) .nil) (.cons (.cst (.int 0)) .nil)))) (.cons (.asg (.nm 10) (.lc (.var 18) (.nm 18) [18] itRange (.cons (.var 6) .nil) (.and (.pn (pv2 (gIn true)) (.cons (.var 18) (.cons (.var 9) .nil))) (.pn (pv2 (gEq false)) (.cons (.pn d__law_take (.cons (.var 2) (.cons (.cst (.int 2)) .nil))) (.cons (.cst (.int 0)) .nil)))))) (.cons (.asg (.nm 11) (.pn pLst .nil)) (.cons (.for_ (.nm 12) itRange (.cons (.cst (.int 3)) .nil) (.cons (.expr (.mc isLst pAppend (.var 11) (.cons (.mc (insC 1 "picture") d_Run_m_picture (.pn d_run_of (.cons (.var 5) (.cons (.pn pAdd (.cons (.var 7) (.cons (.lc (.pn pTup (.cons (.cst (.str "fall")) (.cons (.var 18) .nil))) (.nm 18) [18] itSeq (.cons (.pn d__law_mixed (.cons (.var 2) (.cons (.var 10) .nil))) .nil) (.cst (.bl true))) .nil))) .nil))) .nil) .nil))) .nil)) (.cons (.ite (.or (.pn (pv2 (gEq true)) (.cons (.pn (pv2 gIx) (.cons (.var 11) (.cons (.cst (.int 0)) .nil))) (.cons (.pn (pv2 gIx) (.cons (.var 11) (.cons (.cst (.int 1)) .nil))) .nil))) (.pn (pv2 (gEq true)) (.cons (.pn (pv2 gIx) (.cons (.var 11) (.cons (.cst (.int 0)) .nil))) (.cons (.pn (pv2 gIx) (.cons (.var 11) (.cons (.cst (.int 2)) .nil))) .nil)))) (.cons (.ret (.cst (.bl false))) .nil) .nil) (.cons (.ite (.pn pNot (.cons (.pn d__law_rules_hold (.cons (.var 4) (.cons (.pn (pv2 gIx) (.cons (.var 11) (.cons (.cst (.int 0)) .nil))) .nil))) .nil)) (.cons (.ret (.cst (.bl false))) .nil) .nil) (.cons (.for_ (.nm 13) itSeq (.cons (.pn d__law_events (.cons (.var 6) (.cons (.var 9) (.cons (.cst (.int 5)) .nil)))) .nil) (.cons (.asg (.nm 14) (.pn d_run_of (.cons (.var 5) (.cons (.pn pAdd (.cons (.var 7) (.cons (.pn pLst (.cons (.var 13) .nil)) .nil))) .nil)))) (.cons (.ite (.pn pNot (.cons (.pn d__law_rules_hold (.cons (.var 4) (.cons (.mc (insC 1 "picture") d_Run_m_picture (.var 14) .nil) .nil))) .nil)) (.cons (.ret (.cst (.bl false))) .nil) .nil) (.cons (.for_ (.nm 15) itSeq (.cons (.lc (.var 18) (.nm 18) [18] itRange (.cons (.var 6) .nil) (.pn (pv2 (gEq true)) (.cons (.var 18) (.cons (.pn (pv2 gIx) (.cons (.var 13) (.cons (.cst (.int 1)) .nil))) .nil)))) .nil) (.cons (.par 16 17 (.mc (insC 1 "load") d_Run_m_load (.var 8) (.cons (.var 15) .nil)) (.mc (insC 1 "load") d_Run_m_load (.var 14) (.cons (.var 15) .nil))) (.cons (.ite (.and (.pn (pv2 (gEq false)) (.cons (.pn (pv2 gIx) (.cons (.var 13) (.cons (.cst (.int 0)) .nil))) (.cons (.cst (.str "fall")) .nil))) (.pn (pv2 gLt) (.cons (.var 17) (.cons (.var 16) .nil)))) (.cons (.ret (.cst (.bl false))) .nil) .nil) (.cons (.ite (.and (.pn (pv2 (gEq false)) (.cons (.pn (pv2 gIx) (.cons (.var 13) (.cons (.cst (.int 0)) .nil))) (.cons (.cst (.str "rise")) .nil))) (.pn (pv2 gGt) (.cons (.var 17) (.cons (.var 16) .nil)))) (.cons (.ret (.cst (.bl false))) .nil) .nil) .nil)))) .nil)))) .nil))))))))))))) (.cons (.ret (.cst (.bl true))) .nil))
abbrev d_law : Prim := den 19 1 b_law
abbrev st_x_BadHouse : Stmt := (inClass (top 3) 0)
abbrev st_x_NoFall : Stmt := (inClass (top 4) 0)
abbrev st_x_NoRise : Stmt := (inClass (top 5) 0)
/-! where all stands -/
structure Ad where
  a_is_whole : Addr
  e_is_whole : FuncData
  a__are_strengths : Addr
  e__are_strengths : FuncData
  a__can_be_services : Addr
  e__can_be_services : FuncData
  a_is_machine : Addr
  e_is_machine : FuncData
  a_is_order : Addr
  e_is_order : FuncData
  a__is_service : Addr
  e__is_service : FuncData
  a_House_m___init__ : Addr
  e_House_m___init__ : FuncData
  a_House_m_services : Addr
  e_House_m_services : FuncData
  a_load_in : Addr
  e_load_in : FuncData
  a_Run_m_load : Addr
  e_Run_m_load : FuncData
  a_Run_m_picture : Addr
  e_Run_m_picture : FuncData
  a__law_events : Addr
  e__law_events : FuncData
  a__law_feed : Addr
  e__law_feed : FuncData
  a__law_take : Addr
  e__law_take : FuncData
  a__law_order : Addr
  e__law_order : FuncData
  a__law_pick : Addr
  e__law_pick : FuncData
  a__law_house : Addr
  e__law_house : FuncData
  a__law_mixed : Addr
  e__law_mixed : FuncData
  a__law_first : Addr
  e__law_first : FuncData
  a__law_rules_hold : Addr
  e__law_rules_hold : FuncData
  a__law_walk : Addr
  e__law_walk : FuncData
  a_beginning : Addr
  e_beginning : FuncData
  a_Run_m___init__ : Addr
  e_Run_m___init__ : FuncData
  a_down_behind : Addr
  e_down_behind : FuncData
  a_first_living : Addr
  e_first_living : FuncData
  a_place_behind : Addr
  e_place_behind : FuncData
  a_picture_behind : Addr
  e_picture_behind : FuncData
  a_Run_m__lead : Addr
  e_Run_m__lead : FuncData
  a_House_m___len__ : Addr
  e_House_m___len__ : FuncData
  a_can_fall : Addr
  e_can_fall : FuncData
  a_Run_m_fall : Addr
  e_Run_m_fall : FuncData
  a_can_rise : Addr
  e_can_rise : FuncData
  a_Run_m_rise : Addr
  e_Run_m_rise : FuncData
  a_run_of : Addr
  e_run_of : FuncData
  a_law : Addr
  e_law : FuncData
  g_House : Addr
  g_Run : Addr
  k_RULES : Addr
  x_BadHouse : Addr
  x_NoFall : Addr
  x_NoRise : Addr
def clOf (A : Ad) : Nat → Addr
  | 0 => A.g_House
  | 1 => A.g_Run
  | 2 => A.x_BadHouse
  | 3 => A.x_NoFall
  | 4 => A.x_NoRise
  | _ => 0
abbrev ccOf (A : Ad) (K : PySem.W.Frag) (w : World) : CC := ⟨clOf A, K, w⟩
structure Txt (P : Program) (K : PySem.W.Frag) (mg : Str → Option Value) (A : Ad) : Prop where
  F_is_whole : Fun K "is_whole" "is_whole" st_is_whole A.a_is_whole A.e_is_whole
  n_is_whole : Binds K A.e_is_whole ["value"] []
  m_is_whole : mg "is_whole" = some (.ref A.a_is_whole)
  k_is_whole : PySem.W.keepIn K (.ref A.a_is_whole) = true
  F__are_strengths : Fun K "_are_strengths" "_are_strengths" st__are_strengths A.a__are_strengths A.e__are_strengths
  n__are_strengths : Binds K A.e__are_strengths ["value"] []
  m__are_strengths : mg "_are_strengths" = some (.ref A.a__are_strengths)
  k__are_strengths : PySem.W.keepIn K (.ref A.a__are_strengths) = true
  F__can_be_services : Fun K "_can_be_services" "_can_be_services" st__can_be_services A.a__can_be_services A.e__can_be_services
  n__can_be_services : Binds K A.e__can_be_services ["value"] []
  m__can_be_services : mg "_can_be_services" = some (.ref A.a__can_be_services)
  k__can_be_services : PySem.W.keepIn K (.ref A.a__can_be_services) = true
  F_is_machine : Fun K "is_machine" "is_machine" st_is_machine A.a_is_machine A.e_is_machine
  n_is_machine : Binds K A.e_is_machine ["value", "machines"] []
  m_is_machine : mg "is_machine" = some (.ref A.a_is_machine)
  k_is_machine : PySem.W.keepIn K (.ref A.a_is_machine) = true
  F_is_order : Fun K "is_order" "is_order" st_is_order A.a_is_order A.e_is_order
  n_is_order : Binds K A.e_is_order ["value", "machines"] []
  m_is_order : mg "is_order" = some (.ref A.a_is_order)
  k_is_order : PySem.W.keepIn K (.ref A.a_is_order) = true
  F__is_service : Fun K "_is_service" "_is_service" st__is_service A.a__is_service A.e__is_service
  n__is_service : Binds K A.e__is_service ["value", "machines"] []
  m__is_service : mg "_is_service" = some (.ref A.a__is_service)
  k__is_service : PySem.W.keepIn K (.ref A.a__is_service) = true
  F_House_m___init__ : Fun K "__init__" "House.__init__" st_House_m___init__ A.a_House_m___init__ A.e_House_m___init__
  n_House_m___init__ : Binds K A.e_House_m___init__ ["self", "strengths", "services"] []
  mk_House : Mk K A.g_House A.a_House_m___init__
  F_House_m_services : Fun K "services" "House.services" st_House_m_services A.a_House_m_services A.e_House_m_services
  n_House_m_services : Binds K A.e_House_m_services ["self"] []
  me_House_m_services : Meth K A.g_House "services" A.a_House_m_services
  F_load_in : Fun K "load_in" "load_in" st_load_in A.a_load_in A.e_load_in
  n_load_in : Binds K A.e_load_in ["house", "picture", "machine"] []
  m_load_in : mg "load_in" = some (.ref A.a_load_in)
  k_load_in : PySem.W.keepIn K (.ref A.a_load_in) = true
  F_Run_m_load : Fun K "load" "Run.load" st_Run_m_load A.a_Run_m_load A.e_Run_m_load
  n_Run_m_load : Binds K A.e_Run_m_load ["self", "machine"] []
  me_Run_m_load : Meth K A.g_Run "load" A.a_Run_m_load
  F_Run_m_picture : Fun K "picture" "Run.picture" st_Run_m_picture A.a_Run_m_picture A.e_Run_m_picture
  n_Run_m_picture : Binds K A.e_Run_m_picture ["self"] []
  me_Run_m_picture : Meth K A.g_Run "picture" A.a_Run_m_picture
  F__law_events : Fun K "_law_events" "_law_events" st__law_events A.a__law_events A.e__law_events
  n__law_events : Binds K A.e__law_events ["machines", "down", "cap"] []
  m__law_events : mg "_law_events" = some (.ref A.a__law_events)
  k__law_events : PySem.W.keepIn K (.ref A.a__law_events) = true
  F__law_feed : Fun K "_law_feed" "_law_feed" st__law_feed A.a__law_feed A.e__law_feed
  n__law_feed : Binds K A.e__law_feed ["script", "k"] []
  m__law_feed : mg "_law_feed" = some (.ref A.a__law_feed)
  k__law_feed : PySem.W.keepIn K (.ref A.a__law_feed) = true
  F__law_take : Fun K "_law_take" "_law_take" st__law_take A.a__law_take A.e__law_take
  n__law_take : Binds K A.e__law_take ["feed", "many"] []
  m__law_take : mg "_law_take" = some (.ref A.a__law_take)
  k__law_take : PySem.W.keepIn K (.ref A.a__law_take) = true
  F__law_order : Fun K "_law_order" "_law_order" st__law_order A.a__law_order A.e__law_order
  n__law_order : Binds K A.e__law_order ["feed", "machines", "least"] []
  m__law_order : mg "_law_order" = some (.ref A.a__law_order)
  k__law_order : PySem.W.keepIn K (.ref A.a__law_order) = true
  F__law_pick : Fun K "_law_pick" "_law_pick" st__law_pick A.a__law_pick A.e__law_pick
  n__law_pick : Binds K A.e__law_pick ["feed", "some"] []
  m__law_pick : mg "_law_pick" = some (.ref A.a__law_pick)
  k__law_pick : PySem.W.keepIn K (.ref A.a__law_pick) = true
  F__law_house : Fun K "_law_house" "_law_house" st__law_house A.a__law_house A.e__law_house
  n__law_house : Binds K A.e__law_house ["feed", "most_machines", "most_services"] []
  m__law_house : mg "_law_house" = some (.ref A.a__law_house)
  k__law_house : PySem.W.keepIn K (.ref A.a__law_house) = true
  F__law_mixed : Fun K "_law_mixed" "_law_mixed" st__law_mixed A.a__law_mixed A.e__law_mixed
  n__law_mixed : Binds K A.e__law_mixed ["feed", "things"] []
  m__law_mixed : mg "_law_mixed" = some (.ref A.a__law_mixed)
  k__law_mixed : PySem.W.keepIn K (.ref A.a__law_mixed) = true
  F__law_first : Fun K "_law_first" "_law_first" st__law_first A.a__law_first A.e__law_first
  n__law_first : Binds K A.e__law_first ["order", "down"] []
  m__law_first : mg "_law_first" = some (.ref A.a__law_first)
  k__law_first : PySem.W.keepIn K (.ref A.a__law_first) = true
  F__law_rules_hold : Fun K "_law_rules_hold" "_law_rules_hold" st__law_rules_hold A.a__law_rules_hold A.e__law_rules_hold
  n__law_rules_hold : Binds K A.e__law_rules_hold ["services", "picture"] []
  m__law_rules_hold : mg "_law_rules_hold" = some (.ref A.a__law_rules_hold)
  k__law_rules_hold : PySem.W.keepIn K (.ref A.a__law_rules_hold) = true
  F__law_walk : Fun K "_law_walk" "_law_walk" st__law_walk A.a__law_walk A.e__law_walk
  n__law_walk : Binds K A.e__law_walk ["feed", "machines", "cap", "long"] []
  m__law_walk : mg "_law_walk" = some (.ref A.a__law_walk)
  k__law_walk : PySem.W.keepIn K (.ref A.a__law_walk) = true
  F_beginning : Fun K "beginning" "beginning" st_beginning A.a_beginning A.e_beginning
  n_beginning : Binds K A.e_beginning ["house"] []
  m_beginning : mg "beginning" = some (.ref A.a_beginning)
  k_beginning : PySem.W.keepIn K (.ref A.a_beginning) = true
  F_Run_m___init__ : Fun K "__init__" "Run.__init__" st_Run_m___init__ A.a_Run_m___init__ A.e_Run_m___init__
  n_Run_m___init__ : Binds K A.e_Run_m___init__ ["self", "house"] []
  mk_Run : Mk K A.g_Run A.a_Run_m___init__
  F_down_behind : Fun K "down_behind" "down_behind" st_down_behind A.a_down_behind A.e_down_behind
  n_down_behind : Binds K A.e_down_behind ["down", "event"] []
  m_down_behind : mg "down_behind" = some (.ref A.a_down_behind)
  k_down_behind : PySem.W.keepIn K (.ref A.a_down_behind) = true
  F_first_living : Fun K "first_living" "first_living" st_first_living A.a_first_living A.e_first_living
  n_first_living : Binds K A.e_first_living ["order", "down"] []
  m_first_living : mg "first_living" = some (.ref A.a_first_living)
  k_first_living : PySem.W.keepIn K (.ref A.a_first_living) = true
  F_place_behind : Fun K "place_behind" "place_behind" st_place_behind A.a_place_behind A.e_place_behind
  n_place_behind : Binds K A.e_place_behind ["service", "place", "event", "left"] []
  m_place_behind : mg "place_behind" = some (.ref A.a_place_behind)
  k_place_behind : PySem.W.keepIn K (.ref A.a_place_behind) = true
  F_picture_behind : Fun K "picture_behind" "picture_behind" st_picture_behind A.a_picture_behind A.e_picture_behind
  n_picture_behind : Binds K A.e_picture_behind ["house", "picture", "event"] []
  m_picture_behind : mg "picture_behind" = some (.ref A.a_picture_behind)
  k_picture_behind : PySem.W.keepIn K (.ref A.a_picture_behind) = true
  F_Run_m__lead : Fun K "_lead" "Run._lead" st_Run_m__lead A.a_Run_m__lead A.e_Run_m__lead
  n_Run_m__lead : Binds K A.e_Run_m__lead ["self", "event"] []
  me_Run_m__lead : Meth K A.g_Run "_lead" A.a_Run_m__lead
  F_House_m___len__ : Fun K "__len__" "House.__len__" st_House_m___len__ A.a_House_m___len__ A.e_House_m___len__
  n_House_m___len__ : Binds K A.e_House_m___len__ ["self"] []
  me_House_m___len__ : Meth K A.g_House "__len__" A.a_House_m___len__
  F_can_fall : Fun K "can_fall" "can_fall" st_can_fall A.a_can_fall A.e_can_fall
  n_can_fall : Binds K A.e_can_fall ["house", "down", "value"] []
  m_can_fall : mg "can_fall" = some (.ref A.a_can_fall)
  k_can_fall : PySem.W.keepIn K (.ref A.a_can_fall) = true
  F_Run_m_fall : Fun K "fall" "Run.fall" st_Run_m_fall A.a_Run_m_fall A.e_Run_m_fall
  n_Run_m_fall : Binds K A.e_Run_m_fall ["self", "machine"] []
  me_Run_m_fall : Meth K A.g_Run "fall" A.a_Run_m_fall
  F_can_rise : Fun K "can_rise" "can_rise" st_can_rise A.a_can_rise A.e_can_rise
  n_can_rise : Binds K A.e_can_rise ["house", "down", "value"] []
  m_can_rise : mg "can_rise" = some (.ref A.a_can_rise)
  k_can_rise : PySem.W.keepIn K (.ref A.a_can_rise) = true
  F_Run_m_rise : Fun K "rise" "Run.rise" st_Run_m_rise A.a_Run_m_rise A.e_Run_m_rise
  n_Run_m_rise : Binds K A.e_Run_m_rise ["self", "machine"] []
  me_Run_m_rise : Meth K A.g_Run "rise" A.a_Run_m_rise
  F_run_of : Fun K "run_of" "run_of" st_run_of A.a_run_of A.e_run_of
  n_run_of : Binds K A.e_run_of ["house", "history"] []
  m_run_of : mg "run_of" = some (.ref A.a_run_of)
  k_run_of : PySem.W.keepIn K (.ref A.a_run_of) = true
  F_law : Fun K "law" "law" st_law A.a_law A.e_law
  n_law : Binds K A.e_law ["script"] []
  m_law : mg "law" = some (.ref A.a_law)
  k_law : PySem.W.keepIn K (.ref A.a_law) = true
  cl_House : Cls K A.g_House
  g_House : mg "House" = some (.ref A.g_House)
  cl_Run : Cls K A.g_Run
  g_Run : mg "Run" = some (.ref A.g_Run)
  x_BadHouse : ExK P K A.x_BadHouse "number"
  e_BadHouse : mg "BadHouse" = some (.ref A.x_BadHouse)
  x_NoFall : ExK P K A.x_NoFall "machine"
  e_NoFall : mg "NoFall" = some (.ref A.x_NoFall)
  x_NoRise : ExK P K A.x_NoRise "machine"
  e_NoRise : mg "NoRise" = some (.ref A.x_NoRise)
  na_House__strengths : NoAttr K A.g_House "_strengths"
  na_House__services : NoAttr K A.g_House "_services"
  na_Run_house : NoAttr K A.g_Run "house"
  na_Run__picture : NoAttr K A.g_Run "_picture"
  na_Run__events : NoAttr K A.g_Run "_events"
  b_abs : mg "abs" = none
  b_all : mg "all" = none
  b_bool : mg "bool" = none
  b_enumerate : mg "enumerate" = none
  b_int : mg "int" = none
  b_isinstance : mg "isinstance" = none
  b_len : mg "len" = none
  b_list : mg "list" = none
  b_max : mg "max" = none
  b_min : mg "min" = none
  b_range : mg "range" = none
  b_set : mg "set" = none
  b_sorted : mg "sorted" = none
  b_str : mg "str" = none
  b_sum : mg "sum" = none
  b_tuple : mg "tuple" = none
  b_zip : mg "zip" = none
  c_MOST_MACHINES : ∃ t : Tok, mg "MOST_MACHINES" = some (Value.int (5) t)
  c_MOST_SERVICES : ∃ t : Tok, mg "MOST_SERVICES" = some (Value.int (5) t)
  c_MOST_STRENGTH : ∃ t : Tok, mg "MOST_STRENGTH" = some (Value.int (10000000000) t)
  c_MOST_WEIGHT : ∃ t : Tok, mg "MOST_WEIGHT" = some (Value.int (1000000000) t)
  c_NOWHERE : ∃ t : Tok, mg "NOWHERE" = some (Value.int (-1) t)
  c_RULES : mg "RULES" = some (.ref A.k_RULES)
  q_RULES : ∀ H, SqT K H A.k_RULES ks_RULES
section
variable {P : Program} {w : World} {K : PySem.W.Frag} {mg : Str → Option Value} {base : Heap} {A : Ad}
theorem Txt.f__strengths (T : Txt P K mg A) {X : Cx} (hX : X.K = K := by rfl) : FldOk X (ccOf A K w) [0] "_strengths" := by
  subst hX
  intro c hc
  simp only [List.mem_cons, List.not_mem_nil, or_false] at hc
  rcases hc with rfl
  · exact ⟨T.cl_House, T.na_House__strengths⟩
theorem Txt.f__services (T : Txt P K mg A) {X : Cx} (hX : X.K = K := by rfl) : FldOk X (ccOf A K w) [0] "_services" := by
  subst hX
  intro c hc
  simp only [List.mem_cons, List.not_mem_nil, or_false] at hc
  rcases hc with rfl
  · exact ⟨T.cl_House, T.na_House__services⟩
theorem Txt.f_house (T : Txt P K mg A) {X : Cx} (hX : X.K = K := by rfl) : FldOk X (ccOf A K w) [1] "house" := by
  subst hX
  intro c hc
  simp only [List.mem_cons, List.not_mem_nil, or_false] at hc
  rcases hc with rfl
  · exact ⟨T.cl_Run, T.na_Run_house⟩
theorem Txt.f__picture (T : Txt P K mg A) {X : Cx} (hX : X.K = K := by rfl) : FldOk X (ccOf A K w) [1] "_picture" := by
  subst hX
  intro c hc
  simp only [List.mem_cons, List.not_mem_nil, or_false] at hc
  rcases hc with rfl
  · exact ⟨T.cl_Run, T.na_Run__picture⟩
theorem Txt.f__events (T : Txt P K mg A) {X : Cx} (hX : X.K = K := by rfl) : FldOk X (ccOf A K w) [1] "_events" := by
  subst hX
  intro c hc
  simp only [List.mem_cons, List.not_mem_nil, or_false] at hc
  rcases hc with rfl
  · exact ⟨T.cl_Run, T.na_Run__events⟩
theorem sc_is_whole : FnScope N_is_whole ["value"] (defScope st_is_whole) := ⟨rfl, rfl, rfl, by decide +kernel, rfl, by decide +kernel, by decide +kernel⟩
theorem okT_is_whole (T : Txt P K mg A) : FnOk P w K mg base (L2.CX P w) 1 A.a_is_whole A.e_is_whole ["value"] (spD (ccOf A K w) 1 d_is_whole) := by
  refine fn_ok (m := 1) (l := 1) T.F_is_whole sc_is_whole rfl rfl fun cdv A' outer s H E hr => ?_
  have tk := takes_of (E := E) (X := cxOf (L2.CX P w) P w K mg base N_is_whole "is_whole" (defScope st_is_whole) A.a_is_whole cdv A' outer s H E) rfl rfl rfl rfl
  have po : PassesOwn (model P w) _ _ (cxOf (L2.CX P w) P w K mg base N_is_whole "is_whole" (defScope st_is_whole) A.a_is_whole cdv A' outer s H E).xe := passes_of rfl
  exact (xss_cons (xs_ret (xe_and (xe_isT (T := "int") (by simp) rfl T.b_isinstance rfl T.b_int (by decide +kernel) (xe_var 0)) (xe_one (xe_not (xe_isT (T := "bool") (by simp) rfl T.b_isinstance rfl T.b_bool (by decide +kernel) (xe_var 0)))))) xss_nil)
theorem sc__are_strengths : FnScope N__are_strengths ["value"] (defScope st__are_strengths) := ⟨rfl, rfl, rfl, by decide +kernel, rfl, by decide +kernel, by decide +kernel⟩
theorem okT__are_strengths (T : Txt P K mg A) : FnOk P w K mg base (L2.CX P w) 2 A.a__are_strengths A.e__are_strengths ["value"] (spD (ccOf A K w) 1 d__are_strengths) := by
  have ok_is_whole := okT_is_whole (P := P) (w := w) (base := base) T
  refine fn_ok (m := 1) (l := 2) T.F__are_strengths sc__are_strengths rfl rfl fun cdv A' outer s H E hr => ?_
  have tk := takes_of (E := E) (X := cxOf (L2.CX P w) P w K mg base N__are_strengths "_are_strengths" (defScope st__are_strengths) A.a__are_strengths cdv A' outer s H E) rfl rfl rfl rfl
  have po : PassesOwn (model P w) _ _ (cxOf (L2.CX P w) P w K mg base N__are_strengths "_are_strengths" (defScope st__are_strengths) A.a__are_strengths cdv A' outer s H E).xe := passes_of rfl
  exact (xss_cons (xs_if (PW.pt (xw_or (xt_not (xt_val (xe_isT (T := "list") (by simp) rfl T.b_isinstance rfl T.b_list (by decide +kernel) (xe_var 0)))) (xw_or1 (xt_not (xt_chain o_le o_le (noX_pv2 _) (noX_pv2 _) xe_int (xe_callB (c_len rfl) (noX_pv1 _) rfl T.b_len PySem.boot_len (xa_cons (xe_var 0) xa_nil)) (xe_gint rfl T.c_MOST_MACHINES)))))) (xss_cons (xs_ret xe_bl) xss_nil) xss_nil) (xss_cons (xs_ret (xe_callB (c_all rfl rfl) (noX_pv1 _) rfl T.b_all (by decide +kernel) (xa_cons (xe_lc (own := [("part", 1)]) (ws := [1]) (P := (.nm 1)) (by decide) rfl rfl sc__are_strengths.nd (xi_seq rfl (xe_var 0)) (blkOk_by (N := N__are_strengths) (sc := defScope st__are_strengths) (by decide +kernel)) (fun _ _ _ _ _ => (xg_name (i := 1) sc__are_strengths.nd rfl (by first | exact .inl rfl | exact .inr rfl))) (fun _ _ _ _ _ => xts_nil) (fun _ _ _ _ _ => (xe_and (xe_call ok_is_whole (hr.mono (by decide)) rfl T.m_is_whole T.k_is_whole T.n_is_whole takes0 (xa_cons (xe_var 1) xa_nil)) (xe_one (xe_chain o_le o_le (noX_pv2 _) (noX_pv2 _) xe_int (xe_var 1) (xe_gint rfl T.c_MOST_STRENGTH)))))) xa_nil))) xss_nil))
theorem sc__can_be_services : FnScope N__can_be_services ["value"] (defScope st__can_be_services) := ⟨rfl, rfl, rfl, by decide +kernel, rfl, by decide +kernel, by decide +kernel⟩
theorem okT__can_be_services (T : Txt P K mg A) : FnOk P w K mg base (L2.CX P w) 1 A.a__can_be_services A.e__can_be_services ["value"] (spD (ccOf A K w) 1 d__can_be_services) := by
  refine fn_ok (m := 1) (l := 1) T.F__can_be_services sc__can_be_services rfl rfl fun cdv A' outer s H E hr => ?_
  have tk := takes_of (E := E) (X := cxOf (L2.CX P w) P w K mg base N__can_be_services "_can_be_services" (defScope st__can_be_services) A.a__can_be_services cdv A' outer s H E) rfl rfl rfl rfl
  have po : PassesOwn (model P w) _ _ (cxOf (L2.CX P w) P w K mg base N__can_be_services "_can_be_services" (defScope st__can_be_services) A.a__can_be_services cdv A' outer s H E).xe := passes_of rfl
  exact (xss_cons (xs_ret (xe_and (xe_isT (T := "list") (by simp) rfl T.b_isinstance rfl T.b_list (by decide +kernel) (xe_var 0)) (xe_one (xe_cmp o_le (noX_pv2 _) (xe_callB (c_len rfl) (noX_pv1 _) rfl T.b_len PySem.boot_len (xa_cons (xe_var 0) xa_nil)) (xe_gint rfl T.c_MOST_SERVICES))))) xss_nil)
theorem sc_is_machine : FnScope N_is_machine ["value", "machines"] (defScope st_is_machine) := ⟨rfl, rfl, rfl, by decide +kernel, rfl, by decide +kernel, by decide +kernel⟩
theorem okT_is_machine (T : Txt P K mg A) : FnOk P w K mg base (L2.CX P w) 2 A.a_is_machine A.e_is_machine ["value", "machines"] (spD (ccOf A K w) 2 d_is_machine) := by
  have ok_is_whole := okT_is_whole (P := P) (w := w) (base := base) T
  refine fn_ok (m := 2) (l := 2) T.F_is_machine sc_is_machine rfl rfl fun cdv A' outer s H E hr => ?_
  have tk := takes_of (E := E) (X := cxOf (L2.CX P w) P w K mg base N_is_machine "is_machine" (defScope st_is_machine) A.a_is_machine cdv A' outer s H E) rfl rfl rfl rfl
  have po : PassesOwn (model P w) _ _ (cxOf (L2.CX P w) P w K mg base N_is_machine "is_machine" (defScope st_is_machine) A.a_is_machine cdv A' outer s H E).xe := passes_of rfl
  exact (xss_cons (xs_ret (xe_and (xe_call ok_is_whole (hr.mono (by decide)) rfl T.m_is_whole T.k_is_whole T.n_is_whole tk (xa_cons (xe_var 0) xa_nil)) (xe_one (xe_chain o_le o_lt (noX_pv2 _) (noX_pv2 _) xe_int (xe_var 0) (xe_var 1))))) xss_nil)
theorem sc_is_order : FnScope N_is_order ["value", "machines"] (defScope st_is_order) := ⟨rfl, rfl, rfl, by decide +kernel, rfl, by decide +kernel, by decide +kernel⟩
theorem okT_is_order (T : Txt P K mg A) : FnOk P w K mg base (L2.CX P w) 3 A.a_is_order A.e_is_order ["value", "machines"] (spD (ccOf A K w) 2 d_is_order) := by
  have ok_is_machine := okT_is_machine (P := P) (w := w) (base := base) T
  refine fn_ok (m := 2) (l := 3) T.F_is_order sc_is_order rfl rfl fun cdv A' outer s H E hr => ?_
  have tk := takes_of (E := E) (X := cxOf (L2.CX P w) P w K mg base N_is_order "is_order" (defScope st_is_order) A.a_is_order cdv A' outer s H E) rfl rfl rfl rfl
  have po : PassesOwn (model P w) _ _ (cxOf (L2.CX P w) P w K mg base N_is_order "is_order" (defScope st_is_order) A.a_is_order cdv A' outer s H E).xe := passes_of rfl
  exact (xss_cons (xs_if (PW.pt (xw_or (xt_not (xt_val (xe_isT (T := "tuple") (by simp) rfl T.b_isinstance rfl T.b_tuple (by decide +kernel) (xe_var 0)))) (xw_or1 (xt_not (xt_chain o_le o_le (noX_pv2 _) (noX_pv2 _) xe_int (xe_callB (c_len rfl) (noX_pv1 _) rfl T.b_len PySem.boot_len (xa_cons (xe_var 0) xa_nil)) (xe_var 1)))))) (xss_cons (xs_ret xe_bl) xss_nil) xss_nil) (xss_cons (xs_ret (xe_and (xe_callB (c_all rfl rfl) (noX_pv1 _) rfl T.b_all (by decide +kernel) (xa_cons (xe_lc (own := [("part", 2)]) (ws := [2]) (P := (.nm 2)) (by decide) rfl rfl sc_is_order.nd (xi_seq rfl (xe_var 0)) (blkOk_by (N := N_is_order) (sc := defScope st_is_order) (by decide +kernel)) (fun _ _ _ _ _ => (xg_name (i := 2) sc_is_order.nd rfl (by first | exact .inl rfl | exact .inr rfl))) (fun _ _ _ _ _ => xts_nil) (fun _ _ _ _ _ => (xe_call ok_is_machine (hr.mono (by decide)) rfl T.m_is_machine T.k_is_machine T.n_is_machine takes0 (xa_cons (xe_var 2) (xa_cons (xe_var 1) xa_nil))))) xa_nil)) (xe_one (xe_cmp (o_eq (hu64 hr)) (noX_pv2 _) (xe_lenSet rfl rfl T.b_len rfl T.b_set (xe_var 0)) (xe_callB (c_len rfl) (noX_pv1 _) rfl T.b_len PySem.boot_len (xa_cons (xe_var 0) xa_nil)))))) xss_nil))
theorem sc__is_service : FnScope N__is_service ["value", "machines"] (defScope st__is_service) := ⟨rfl, rfl, rfl, by decide +kernel, rfl, by decide +kernel, by decide +kernel⟩
theorem okT__is_service (T : Txt P K mg A) : FnOk P w K mg base (L2.CX P w) 4 A.a__is_service A.e__is_service ["value", "machines"] (spD (ccOf A K w) 2 d__is_service) := by
  have ok_is_order := okT_is_order (P := P) (w := w) (base := base) T
  have ok_is_whole := okT_is_whole (P := P) (w := w) (base := base) T
  refine fn_ok (m := 2) (l := 5) T.F__is_service sc__is_service rfl rfl fun cdv A' outer s H E hr => ?_
  have tk := takes_of (E := E) (X := cxOf (L2.CX P w) P w K mg base N__is_service "_is_service" (defScope st__is_service) A.a__is_service cdv A' outer s H E) rfl rfl rfl rfl
  have po : PassesOwn (model P w) _ _ (cxOf (L2.CX P w) P w K mg base N__is_service "_is_service" (defScope st__is_service) A.a__is_service cdv A' outer s H E).xe := passes_of rfl
  exact (xss_cons (xs_if (PW.pt (xw_or (xt_not (xt_val (xe_isT (T := "tuple") (by simp) rfl T.b_isinstance rfl T.b_tuple (by decide +kernel) (xe_var 0)))) (xw_or1 (xt_cmp (o_ne (hu64 hr)) (noX_pv2 _) (xe_callB (c_len rfl) (noX_pv1 _) rfl T.b_len PySem.boot_len (xa_cons (xe_var 0) xa_nil)) xe_int)))) (xss_cons (xs_ret xe_bl) xss_nil) xss_nil) (xss_cons (xs_asg (xe_var 0) (xg_tup rfl (xgs_cons (xg_name (i := 2) sc__is_service.nd rfl (by first | exact .inl rfl | exact .inr rfl)) (xgs_cons (xg_name (i := 3) sc__is_service.nd rfl (by first | exact .inl rfl | exact .inr rfl)) (xgs_cons (xg_name (i := 4) sc__is_service.nd rfl (by first | exact .inl rfl | exact .inr rfl)) xgs_nil))))) (xss_cons (xs_if (PW.pt (xw_or (xt_not (xt_val (xe_call ok_is_whole (hr.mono (by decide)) rfl T.m_is_whole T.k_is_whole T.n_is_whole tk (xa_cons (xe_var 2) xa_nil)))) (xw_or1 (xt_not (xt_chain o_le o_le (noX_pv2 _) (noX_pv2 _) xe_int (xe_var 2) (xe_gint rfl T.c_MOST_WEIGHT)))))) (xss_cons (xs_ret xe_bl) xss_nil) xss_nil) (xss_cons (xs_ret (xe_and (xe_call ok_is_order (hr.mono (by decide)) rfl T.m_is_order T.k_is_order T.n_is_order tk (xa_cons (xe_var 3) (xa_cons (xe_var 1) xa_nil))) (xe_and (xe_isT (T := "str") (by simp) rfl T.b_isinstance rfl T.b_str (by decide +kernel) (xe_var 4)) (xe_one (o_inK T.q_RULES rfl T.c_RULES (xe_var 4)))))) xss_nil))))
theorem sc_House_m___init__ : FnScope N_House_m___init__ ["self", "strengths", "services"] (defScope st_House_m___init__) := ⟨rfl, rfl, rfl, by decide +kernel, rfl, by decide +kernel, by decide +kernel⟩
theorem okT_House_m___init__ (T : Txt P K mg A) : FnOk P w K mg base (L2.CX P w) 5 A.a_House_m___init__ A.e_House_m___init__ ["self", "strengths", "services"] (spD (ccOf A K w) 3 d_House_m___init__) := by
  have ok__are_strengths := okT__are_strengths (P := P) (w := w) (base := base) T
  have ok__can_be_services := okT__can_be_services (P := P) (w := w) (base := base) T
  have ok__is_service := okT__is_service (P := P) (w := w) (base := base) T
  refine fn_ok (m := 3) (l := 5) T.F_House_m___init__ sc_House_m___init__ rfl rfl fun cdv A' outer s H E hr => ?_
  have tk := takes_of (E := E) (X := cxOf (L2.CX P w) P w K mg base N_House_m___init__ "House.__init__" (defScope st_House_m___init__) A.a_House_m___init__ cdv A' outer s H E) rfl rfl rfl rfl
  have po : PassesOwn (model P w) _ _ (cxOf (L2.CX P w) P w K mg base N_House_m___init__ "House.__init__" (defScope st_House_m___init__) A.a_House_m___init__ cdv A' outer s H E).xe := passes_of rfl
  exact (xss_cons (xs_if (PW.pt (xw_or (xt_not (xt_val (xe_call ok__are_strengths (hr.mono (by decide)) rfl T.m__are_strengths T.k__are_strengths T.n__are_strengths tk (xa_cons (xe_var 1) xa_nil)))) (xw_or1 (xt_not (xt_val (xe_call ok__can_be_services (hr.mono (by decide)) rfl T.m__can_be_services T.k__can_be_services T.n__can_be_services tk (xa_cons (xe_var 2) xa_nil))))))) (xss_cons (xs_raise rfl tk (T.x_BadHouse.pmk (hr.mono (by decide)) rfl T.e_BadHouse (xa_cons xe_non xa_nil))) xss_nil) xss_nil) (xss_cons (xs_for po rfl (xi_enumB rfl rfl T.b_enumerate (xa_cons (xe_var 2) xa_nil)) (xg_tup rfl (xgs_cons (xg_name (i := 3) sc_House_m___init__.nd rfl (by first | exact .inl rfl | exact .inr rfl)) (xgs_cons (xg_name (i := 4) sc_House_m___init__.nd rfl (by first | exact .inl rfl | exact .inr rfl)) xgs_nil))) (xss_cons (xs_if (xt_not (xt_val (xe_call ok__is_service (hr.mono (by decide)) rfl T.m__is_service T.k__is_service T.n__is_service tk (xa_cons (xe_var 4) (xa_cons (xe_callB (c_len rfl) (noX_pv1 _) rfl T.b_len PySem.boot_len (xa_cons (xe_var 1) xa_nil)) xa_nil))))) (xss_cons (xs_raise rfl tk (T.x_BadHouse.pmk (hr.mono (by decide)) rfl T.e_BadHouse (xa_cons (xe_var 3) xa_nil))) xss_nil) xss_nil) xss_nil)) (xss_cons (xs_setf (cs := [0]) T.f__strengths (xe_var 0) (xe_callTy (c_list rfl) (noX_pn1 _) rfl T.b_list (by decide +kernel) (xa_cons (xe_var 1) xa_nil))) (xss_cons (xs_setf (cs := [0]) T.f__services (xe_var 0) (xe_callTy (c_list rfl) (noX_pn1 _) rfl T.b_list (by decide +kernel) (xa_cons (xe_var 2) xa_nil))) xss_nil))))
theorem sc_House_m_services : FnScope N_House_m_services ["self"] (defScope st_House_m_services) := ⟨rfl, rfl, rfl, by decide +kernel, rfl, by decide +kernel, by decide +kernel⟩
theorem okT_House_m_services (T : Txt P K mg A) : FnOk P w K mg base (L2.CX P w) 1 A.a_House_m_services A.e_House_m_services ["self"] (spD (ccOf A K w) 1 d_House_m_services) := by
  refine fn_ok (m := 1) (l := 1) T.F_House_m_services sc_House_m_services rfl rfl fun cdv A' outer s H E hr => ?_
  have tk := takes_of (E := E) (X := cxOf (L2.CX P w) P w K mg base N_House_m_services "House.services" (defScope st_House_m_services) A.a_House_m_services cdv A' outer s H E) rfl rfl rfl rfl
  have po : PassesOwn (model P w) _ _ (cxOf (L2.CX P w) P w K mg base N_House_m_services "House.services" (defScope st_House_m_services) A.a_House_m_services cdv A' outer s H E).xe := passes_of rfl
  exact (xss_cons (xs_ret (xe_callTy (c_list rfl) (noX_pn1 _) rfl T.b_list (by decide +kernel) (xa_cons (xe_fld (cs := [0]) T.f__services (xe_var 0)) xa_nil))) xss_nil)
theorem sc_load_in : FnScope N_load_in ["house", "picture", "machine"] (defScope st_load_in) := ⟨rfl, rfl, rfl, by decide +kernel, rfl, by decide +kernel, by decide +kernel⟩
theorem okT_load_in (T : Txt P K mg A) : FnOk P w K mg base (L2.CX P w) 2 A.a_load_in A.e_load_in ["house", "picture", "machine"] (spD (ccOf A K w) 3 d_load_in) := by
  have ok_House_m_services := okT_House_m_services (P := P) (w := w) (base := base) T
  refine fn_ok (m := 3) (l := 6) T.F_load_in sc_load_in rfl rfl fun cdv A' outer s H E hr => ?_
  have tk := takes_of (E := E) (X := cxOf (L2.CX P w) P w K mg base N_load_in "load_in" (defScope st_load_in) A.a_load_in cdv A' outer s H E) rfl rfl rfl rfl
  have po : PassesOwn (model P w) _ _ (cxOf (L2.CX P w) P w K mg base N_load_in "load_in" (defScope st_load_in) A.a_load_in cdv A' outer s H E).xe := passes_of rfl
  exact (xss_cons (xs_set (i := 3) sc_load_in.nd rfl (by first | exact .inl rfl | exact .inr rfl) (xe_ix rfl (xe_var 1) xe_int (fun _ _ => rfl))) (xss_cons (xs_ret (xe_callB (c_sum rfl rfl) (noX_pv1 _) rfl T.b_sum (by decide +kernel) (xa_cons (xe_lc (own := [("service", 4), ("place", 5)]) (ws := [4, 5]) (P := (.tp (.cons (.nm 4) (.cons (.nm 5) .nil)))) (by decide) rfl rfl sc_load_in.nd (xi_zip2 rfl rfl T.b_zip (xa_cons (xe_meth0 (c := 0) T.cl_House T.me_House_m_services ok_House_m_services (hr.mono (by decide)) T.n_House_m_services tk (xe_var 0)) (xa_cons (xe_var 3) xa_nil))) (blkOk_by (N := N_load_in) (sc := defScope st_load_in) (by decide +kernel)) (fun _ _ _ _ _ => (xg_tup rfl (xgs_cons (xg_name (i := 4) sc_load_in.nd rfl (by first | exact .inl rfl | exact .inr rfl)) (xgs_cons (xg_name (i := 5) sc_load_in.nd rfl (by first | exact .inl rfl | exact .inr rfl)) xgs_nil)))) (fun _ _ _ _ _ => (xts_one (xt_cmp (o_eq (hu64 hr)) (noX_pv2 _) (xe_var 5) (xe_var 2)))) (fun _ _ _ _ _ => (xe_ix rfl (xe_var 4) xe_int (fun _ _ => rfl)))) xa_nil))) xss_nil))
theorem sc_Run_m_load : FnScope N_Run_m_load ["self", "machine"] (defScope st_Run_m_load) := ⟨rfl, rfl, rfl, by decide +kernel, rfl, by decide +kernel, by decide +kernel⟩
theorem okT_Run_m_load (T : Txt P K mg A) : FnOk P w K mg base (L2.CX P w) 3 A.a_Run_m_load A.e_Run_m_load ["self", "machine"] (spD (ccOf A K w) 2 d_Run_m_load) := by
  have ok_load_in := okT_load_in (P := P) (w := w) (base := base) T
  refine fn_ok (m := 2) (l := 2) T.F_Run_m_load sc_Run_m_load rfl rfl fun cdv A' outer s H E hr => ?_
  have tk := takes_of (E := E) (X := cxOf (L2.CX P w) P w K mg base N_Run_m_load "Run.load" (defScope st_Run_m_load) A.a_Run_m_load cdv A' outer s H E) rfl rfl rfl rfl
  have po : PassesOwn (model P w) _ _ (cxOf (L2.CX P w) P w K mg base N_Run_m_load "Run.load" (defScope st_Run_m_load) A.a_Run_m_load cdv A' outer s H E).xe := passes_of rfl
  exact (xss_cons (xs_ret (xe_call ok_load_in (hr.mono (by decide)) rfl T.m_load_in T.k_load_in T.n_load_in tk (xa_cons (xe_fld (cs := [1]) T.f_house (xe_var 0)) (xa_cons (xe_fld (cs := [1]) T.f__picture (xe_var 0)) (xa_cons (xe_var 1) xa_nil))))) xss_nil)
theorem sc_Run_m_picture : FnScope N_Run_m_picture ["self"] (defScope st_Run_m_picture) := ⟨rfl, rfl, rfl, by decide +kernel, rfl, by decide +kernel, by decide +kernel⟩
theorem okT_Run_m_picture (T : Txt P K mg A) : FnOk P w K mg base (L2.CX P w) 1 A.a_Run_m_picture A.e_Run_m_picture ["self"] (spD (ccOf A K w) 1 d_Run_m_picture) := by
  refine fn_ok (m := 1) (l := 1) T.F_Run_m_picture sc_Run_m_picture rfl rfl fun cdv A' outer s H E hr => ?_
  have tk := takes_of (E := E) (X := cxOf (L2.CX P w) P w K mg base N_Run_m_picture "Run.picture" (defScope st_Run_m_picture) A.a_Run_m_picture cdv A' outer s H E) rfl rfl rfl rfl
  have po : PassesOwn (model P w) _ _ (cxOf (L2.CX P w) P w K mg base N_Run_m_picture "Run.picture" (defScope st_Run_m_picture) A.a_Run_m_picture cdv A' outer s H E).xe := passes_of rfl
  exact (xss_cons (xs_ret (xe_fld (cs := [1]) T.f__picture (xe_var 0))) xss_nil)
theorem sc__law_events : FnScope N__law_events ["machines", "down", "cap"] (defScope st__law_events) := ⟨rfl, rfl, rfl, by decide +kernel, rfl, by decide +kernel, by decide +kernel⟩
theorem okT__law_events (T : Txt P K mg A) : FnOk P w K mg base (L2.CX P w) 1 A.a__law_events A.e__law_events ["machines", "down", "cap"] (spD (ccOf A K w) 3 d__law_events) := by
  refine fn_ok (m := 3) (l := 5) T.F__law_events sc__law_events rfl rfl fun cdv A' outer s H E hr => ?_
  have tk := takes_of (E := E) (X := cxOf (L2.CX P w) P w K mg base N__law_events "_law_events" (defScope st__law_events) A.a__law_events cdv A' outer s H E) rfl rfl rfl rfl
  have po : PassesOwn (model P w) _ _ (cxOf (L2.CX P w) P w K mg base N__law_events "_law_events" (defScope st__law_events) A.a__law_events cdv A' outer s H E).xe := passes_of rfl
  exact (xss_cons (xs_set (i := 3) sc__law_events.nd rfl (by first | exact .inl rfl | exact .inr rfl) (xe_lst xa_nil)) (xss_cons (xs_for po rfl (xi_range1 rfl T.b_range (xa_cons (xe_var 0) xa_nil)) (xg_name (i := 4) sc__law_events.nd rfl (by first | exact .inl rfl | exact .inr rfl)) (xss_cons (xs_if (PW.pt (xw_and (xt_cmp (o_in rfl (hu65 hr)) (noX_pv2 _) (xe_var 4) (xe_var 1)) (xw_and1 (xt_cmp o_le (noX_pv2 _) (xe_callB (c_len rfl) (noX_pv1 _) rfl T.b_len PySem.boot_len (xa_cons (xe_var 1) xa_nil)) (xe_bin o_add noX_add (xe_var 2) xe_int))))) (xss_cons (xs_expr (xe_lmeth noX_append PySem.F.slot_list_append PySem.F.type_list_append m_append (xe_var 3) (xa_cons (xe_tup (xa_cons xe_str (xa_cons (xe_var 4) xa_nil))) xa_nil))) xss_nil) xss_nil) (xss_cons (xs_if (PW.pt (xw_and (xt_cmp (o_notIn rfl (hu65 hr)) (noX_pv2 _) (xe_var 4) (xe_var 1)) (xw_and1 (xt_cmp o_lt (noX_pv2 _) (xe_callB (c_len rfl) (noX_pv1 _) rfl T.b_len PySem.boot_len (xa_cons (xe_var 1) xa_nil)) (xe_var 2))))) (xss_cons (xs_expr (xe_lmeth noX_append PySem.F.slot_list_append PySem.F.type_list_append m_append (xe_var 3) (xa_cons (xe_tup (xa_cons xe_str (xa_cons (xe_var 4) xa_nil))) xa_nil))) xss_nil) xss_nil) xss_nil))) (xss_cons (xs_ret (xe_var 3)) xss_nil)))
theorem sc__law_feed : FnScope N__law_feed ["script", "k"] (defScope st__law_feed) := ⟨rfl, rfl, rfl, by decide +kernel, rfl, by decide +kernel, by decide +kernel⟩
theorem okT__law_feed (T : Txt P K mg A) : FnOk P w K mg base (L2.CX P w) 1 A.a__law_feed A.e__law_feed ["script", "k"] (spD (ccOf A K w) 2 d__law_feed) := by
  refine fn_ok (m := 2) (l := 4) T.F__law_feed sc__law_feed rfl rfl fun cdv A' outer s H E hr => ?_
  have tk := takes_of (E := E) (X := cxOf (L2.CX P w) P w K mg base N__law_feed "_law_feed" (defScope st__law_feed) A.a__law_feed cdv A' outer s H E) rfl rfl rfl rfl
  have po : PassesOwn (model P w) _ _ (cxOf (L2.CX P w) P w K mg base N__law_feed "_law_feed" (defScope st__law_feed) A.a__law_feed cdv A' outer s H E).xe := passes_of rfl
  exact (xss_cons (xs_set (i := 2) sc__law_feed.nd rfl (by first | exact .inl rfl | exact .inr rfl) (xe_ix rfl (xe_bin o_add noX_add (xe_callTy (c_list rfl) (noX_pn1 _) rfl T.b_list (by decide +kernel) (xa_cons (xe_slice rfl (xe_var 0) (.some (xe_var 1)) (.some (xe_bin o_add noX_add (xe_var 1) xe_int))) xa_nil)) (xe_lst (xa_cons (xe_bin o_add noX_add (xe_bin o_mul noX_mul xe_int (xe_var 1)) xe_int) xa_nil))) xe_int (fun _ _ => rfl))) (xss_cons (xs_set (i := 3) sc__law_feed.nd rfl (by first | exact .inl rfl | exact .inr rfl) (xe_callB (c_max2 rfl) (noX_pv2 _) rfl T.b_max (by decide +kernel) (xa_cons xe_int (xa_cons (xe_bin o_sub (noX_pv2 _) (xe_callB c_abs (noX_pv1 _) rfl T.b_abs (by decide +kernel) (xa_cons (xe_var 2) xa_nil)) (xe_bin o_pow (noX_pv2 _) xe_int xe_int)) xa_nil)))) (xss_cons (xs_ret (xe_lst (xa_cons (xe_var 3) (xa_cons (xe_bin o_mod (noX_pv2 _) (xe_callTy c_int (noX_pv1 _) rfl T.b_int (by decide +kernel) (xa_cons (xe_bin o_add noX_add (xe_bin o_add noX_add (xe_bin o_mul noX_mul (xe_bin o_mod (noX_pv2 _) (xe_callTy c_int (noX_pv1 _) rfl T.b_int (by decide +kernel) (xa_cons (xe_callB c_abs (noX_pv1 _) rfl T.b_abs (by decide +kernel) (xa_cons (xe_var 2) xa_nil)) xa_nil)) xe_int) xe_int) (xe_bin o_mul noX_mul xe_int (xe_var 1))) xe_int) xa_nil)) xe_int) xa_nil)))) xss_nil)))
theorem sc__law_take : FnScope N__law_take ["feed", "many"] (defScope st__law_take) := ⟨rfl, rfl, rfl, by decide +kernel, rfl, by decide +kernel, by decide +kernel⟩
theorem okT__law_take (T : Txt P K mg A) : FnOk P w K mg base (L2.CX P w) 1 A.a__law_take A.e__law_take ["feed", "many"] (spD (ccOf A K w) 2 d__law_take) := by
  refine fn_ok (m := 2) (l := 3) T.F__law_take sc__law_take rfl rfl fun cdv A' outer s H E hr => ?_
  have tk := takes_of (E := E) (X := cxOf (L2.CX P w) P w K mg base N__law_take "_law_take" (defScope st__law_take) A.a__law_take cdv A' outer s H E) rfl rfl rfl rfl
  have po : PassesOwn (model P w) _ _ (cxOf (L2.CX P w) P w K mg base N__law_take "_law_take" (defScope st__law_take) A.a__law_take cdv A' outer s H E).xe := passes_of rfl
  exact (xss_cons (xs_if (xt_cmp o_gt (noX_pv2 _) (xe_ix rfl (xe_var 0) xe_int (fun _ _ => rfl)) xe_int) (xss_cons (xs_set (i := 2) sc__law_take.nd rfl (by first | exact .inl rfl | exact .inr rfl) (xe_bin o_mod (noX_pv2 _) (xe_callTy c_int (noX_pv1 _) rfl T.b_int (by decide +kernel) (xa_cons (xe_ix rfl (xe_var 0) xe_int (fun _ _ => rfl)) xa_nil)) (xe_var 1))) (xss_cons (xs_seti (xe_var 0) xe_int (xe_bin o_fdiv (noX_pv2 _) (xe_ix rfl (xe_var 0) xe_int (fun _ _ => rfl)) (xe_var 1))) (xss_cons (xs_ret (xe_var 2)) xss_nil))) xss_nil) (xss_cons (xs_seti (xe_var 0) xe_int (xe_bin o_mod (noX_pv2 _) (xe_callTy c_int (noX_pv1 _) rfl T.b_int (by decide +kernel) (xa_cons (xe_bin o_add noX_add (xe_bin o_mul noX_mul (xe_ix rfl (xe_var 0) xe_int (fun _ _ => rfl)) xe_int) xe_int) xa_nil)) xe_int)) (xss_cons (xs_ret (xe_bin o_mod (noX_pv2 _) (xe_callTy c_int (noX_pv1 _) rfl T.b_int (by decide +kernel) (xa_cons (xe_bin o_fdiv (noX_pv2 _) (xe_ix rfl (xe_var 0) xe_int (fun _ _ => rfl)) xe_int) xa_nil)) (xe_var 1))) xss_nil)))
theorem sc__law_order : FnScope N__law_order ["feed", "machines", "least"] (defScope st__law_order) := ⟨rfl, rfl, rfl, by decide +kernel, rfl, by decide +kernel, by decide +kernel⟩
theorem okT__law_order (T : Txt P K mg A) : FnOk P w K mg base (L2.CX P w) 2 A.a__law_order A.e__law_order ["feed", "machines", "least"] (spD (ccOf A K w) 3 d__law_order) := by
  have ok__law_take := okT__law_take (P := P) (w := w) (base := base) T
  refine fn_ok (m := 3) (l := 6) T.F__law_order sc__law_order rfl rfl fun cdv A' outer s H E hr => ?_
  have tk := takes_of (E := E) (X := cxOf (L2.CX P w) P w K mg base N__law_order "_law_order" (defScope st__law_order) A.a__law_order cdv A' outer s H E) rfl rfl rfl rfl
  have po : PassesOwn (model P w) _ _ (cxOf (L2.CX P w) P w K mg base N__law_order "_law_order" (defScope st__law_order) A.a__law_order cdv A' outer s H E).xe := passes_of rfl
  exact (xss_cons (xs_par (i := 3) (j := 4) rfl sc__law_order.nd rfl rfl (by decide) rfl rfl (xa_cons (xe_listRg1 rfl rfl T.b_list rfl T.b_range (xe_var 1)) (xa_cons (xe_lst xa_nil) xa_nil)) rfl) (xss_cons (xs_for po rfl (xi_range1 rfl T.b_range (xa_cons (xe_bin o_add noX_add (xe_var 2) (xe_call ok__law_take (hr.mono (by decide)) rfl T.m__law_take T.k__law_take T.n__law_take tk (xa_cons (xe_var 0) (xa_cons (xe_bin o_sub (noX_pv2 _) (xe_bin o_add noX_add (xe_var 1) xe_int) (xe_var 2)) xa_nil)))) xa_nil)) (xg_name (i := 5) sc__law_order.nd rfl (by first | exact .inl rfl | exact .inr rfl)) (xss_cons (xs_expr (xe_lmeth noX_append PySem.F.slot_list_append PySem.F.type_list_append m_append (xe_var 4) (xa_cons (xe_lmeth noX_popAt PySem.F.slot_list_pop PySem.F.type_list_pop m_popAt (xe_var 3) (xa_cons (xe_call ok__law_take (hr.mono (by decide)) rfl T.m__law_take T.k__law_take T.n__law_take tk (xa_cons (xe_var 0) (xa_cons (xe_callB (c_len rfl) (noX_pv1 _) rfl T.b_len PySem.boot_len (xa_cons (xe_var 3) xa_nil)) xa_nil))) xa_nil)) xa_nil))) xss_nil)) (xss_cons (xs_ret (xe_callTy (c_tuple rfl) noX_tupleOf rfl T.b_tuple (by decide +kernel) (xa_cons (xe_var 4) xa_nil))) xss_nil)))
theorem sc__law_pick : FnScope N__law_pick ["feed", "some"] (defScope st__law_pick) := ⟨rfl, rfl, rfl, by decide +kernel, rfl, by decide +kernel, by decide +kernel⟩
theorem okT__law_pick (T : Txt P K mg A) : FnOk P w K mg base (L2.CX P w) 2 A.a__law_pick A.e__law_pick ["feed", "some"] (spD (ccOf A K w) 2 d__law_pick) := by
  have ok__law_take := okT__law_take (P := P) (w := w) (base := base) T
  refine fn_ok (m := 2) (l := 2) T.F__law_pick sc__law_pick rfl rfl fun cdv A' outer s H E hr => ?_
  have tk := takes_of (E := E) (X := cxOf (L2.CX P w) P w K mg base N__law_pick "_law_pick" (defScope st__law_pick) A.a__law_pick cdv A' outer s H E) rfl rfl rfl rfl
  have po : PassesOwn (model P w) _ _ (cxOf (L2.CX P w) P w K mg base N__law_pick "_law_pick" (defScope st__law_pick) A.a__law_pick cdv A' outer s H E).xe := passes_of rfl
  exact (xss_cons (xs_ret (xe_ix rfl (xe_var 1) (xe_call ok__law_take (hr.mono (by decide)) rfl T.m__law_take T.k__law_take T.n__law_take tk (xa_cons (xe_var 0) (xa_cons (xe_callB (c_len rfl) (noX_pv1 _) rfl T.b_len PySem.boot_len (xa_cons (xe_var 1) xa_nil)) xa_nil))) (fun _ _ => rfl))) xss_nil)
theorem sc__law_house : FnScope N__law_house ["feed", "most_machines", "most_services"] (defScope st__law_house) := ⟨rfl, rfl, rfl, by decide +kernel, rfl, by decide +kernel, by decide +kernel⟩
theorem okT__law_house (T : Txt P K mg A) : FnOk P w K mg base (L2.CX P w) 3 A.a__law_house A.e__law_house ["feed", "most_machines", "most_services"] (spD (ccOf A K w) 3 d__law_house) := by
  have ok__law_order := okT__law_order (P := P) (w := w) (base := base) T
  have ok__law_pick := okT__law_pick (P := P) (w := w) (base := base) T
  have ok__law_take := okT__law_take (P := P) (w := w) (base := base) T
  refine fn_ok (m := 3) (l := 11) T.F__law_house sc__law_house rfl rfl fun cdv A' outer s H E hr => ?_
  have tk := takes_of (E := E) (X := cxOf (L2.CX P w) P w K mg base N__law_house "_law_house" (defScope st__law_house) A.a__law_house cdv A' outer s H E) rfl rfl rfl rfl
  have po : PassesOwn (model P w) _ _ (cxOf (L2.CX P w) P w K mg base N__law_house "_law_house" (defScope st__law_house) A.a__law_house cdv A' outer s H E).xe := passes_of rfl
  exact (xss_cons (xs_set (i := 3) sc__law_house.nd rfl (by first | exact .inl rfl | exact .inr rfl) (xe_bin o_add noX_add xe_int (xe_call ok__law_take (hr.mono (by decide)) rfl T.m__law_take T.k__law_take T.n__law_take tk (xa_cons (xe_var 0) (xa_cons (xe_var 1) xa_nil))))) (xss_cons (xs_set (i := 4) sc__law_house.nd rfl (by first | exact .inl rfl | exact .inr rfl) (xe_call ok__law_pick (hr.mono (by decide)) rfl T.m__law_pick T.k__law_pick T.n__law_pick tk (xa_cons (xe_var 0) (xa_cons (xe_lst (xa_cons (xe_lst (xa_cons xe_int (xa_cons xe_int (xa_cons xe_int xa_nil)))) (xa_cons (xe_lst (xa_cons xe_int (xa_cons xe_int (xa_cons xe_int (xa_cons xe_int xa_nil))))) (xa_cons (xe_lst (xa_cons (xe_bin o_pow (noX_pv2 _) xe_int xe_int) (xa_cons xe_int (xa_cons (xe_bin o_mul noX_mul xe_int (xe_bin o_pow (noX_pv2 _) xe_int xe_int)) xa_nil)))) (xa_cons (xe_lst (xa_cons xe_int (xa_cons xe_int (xa_cons xe_int (xa_cons xe_int (xa_cons xe_int xa_nil)))))) xa_nil))))) xa_nil)))) (xss_cons (xs_set (i := 5) sc__law_house.nd rfl (by first | exact .inl rfl | exact .inr rfl) (xe_call ok__law_pick (hr.mono (by decide)) rfl T.m__law_pick T.k__law_pick T.n__law_pick tk (xa_cons (xe_var 0) (xa_cons (xe_lst (xa_cons (xe_lst (xa_cons xe_str (xa_cons xe_str (xa_cons xe_str xa_nil)))) (xa_cons (xe_lst (xa_cons xe_str xa_nil)) (xa_cons (xe_lst (xa_cons xe_str (xa_cons xe_str xa_nil))) (xa_cons (xe_lst (xa_cons xe_str (xa_cons xe_str xa_nil))) xa_nil))))) xa_nil)))) (xss_cons (xs_set (i := 6) sc__law_house.nd rfl (by first | exact .inl rfl | exact .inr rfl) (xe_lst xa_nil)) (xss_cons (xs_for po rfl (xi_range1 rfl T.b_range (xa_cons (xe_call ok__law_take (hr.mono (by decide)) rfl T.m__law_take T.k__law_take T.n__law_take tk (xa_cons (xe_var 0) (xa_cons (xe_bin o_add noX_add (xe_var 2) xe_int) xa_nil))) xa_nil)) (xg_name (i := 7) sc__law_house.nd rfl (by first | exact .inl rfl | exact .inr rfl)) (xss_cons (xs_set (i := 8) sc__law_house.nd rfl (by first | exact .inl rfl | exact .inr rfl) (xe_call ok__law_order (hr.mono (by decide)) rfl T.m__law_order T.k__law_order T.n__law_order tk (xa_cons (xe_var 0) (xa_cons (xe_var 3) (xa_cons (xe_callB (c_min2 rfl) (noX_pv2 _) rfl T.b_min (by decide +kernel) (xa_cons (xe_var 3) (xa_cons (xe_call ok__law_pick (hr.mono (by decide)) rfl T.m__law_pick T.k__law_pick T.n__law_pick tk (xa_cons (xe_var 0) (xa_cons (xe_lst (xa_cons xe_int (xa_cons xe_int (xa_cons xe_int (xa_cons xe_int xa_nil))))) xa_nil))) xa_nil))) xa_nil))))) (xss_cons (xs_expr (xe_lmeth noX_append PySem.F.slot_list_append PySem.F.type_list_append m_append (xe_var 6) (xa_cons (xe_tup (xa_cons (xe_call ok__law_pick (hr.mono (by decide)) rfl T.m__law_pick T.k__law_pick T.n__law_pick tk (xa_cons (xe_var 0) (xa_cons (xe_var 4) xa_nil))) (xa_cons (xe_var 8) (xa_cons (xe_call ok__law_pick (hr.mono (by decide)) rfl T.m__law_pick T.k__law_pick T.n__law_pick tk (xa_cons (xe_var 0) (xa_cons (xe_var 5) xa_nil))) xa_nil)))) xa_nil))) xss_nil))) (xss_cons (xs_setLc (i := 9) (own := [("machine", 10)]) (ws := [10]) (P := (.nm 10)) (by decide) rfl rfl sc__law_house.nd rfl rfl (sw_true rfl rfl rfl (by decide +kernel)) (xi_range1 rfl T.b_range (xa_cons (xe_var 3) xa_nil)) (blkOk_by (N := N__law_house) (sc := defScope st__law_house) (by decide +kernel)) (fun _ _ _ _ _ => (xg_name (i := 10) sc__law_house.nd rfl (by first | exact .inl rfl | exact .inr rfl))) (fun _ _ _ _ _ => xts_nil) (fun _ _ _ _ _ => (xe_call ok__law_pick (hr.mono (by decide)) rfl T.m__law_pick T.k__law_pick T.n__law_pick takes0 (xa_cons (xe_var 0) (xa_cons (xe_lst (xa_cons xe_int (xa_cons xe_int (xa_cons xe_int (xa_cons xe_int (xa_cons xe_int (xa_cons xe_int (xa_cons (xe_bin o_pow (noX_pv2 _) xe_int xe_int) (xa_cons (xe_bin o_pow (noX_pv2 _) xe_int xe_int) xa_nil))))))))) xa_nil))))) (xss_cons (xs_ret (xe_lst (xa_cons (xe_var 9) (xa_cons (xe_var 6) xa_nil)))) xss_nil)))))))
theorem sc__law_mixed : FnScope N__law_mixed ["feed", "things"] (defScope st__law_mixed) := ⟨rfl, rfl, rfl, by decide +kernel, rfl, by decide +kernel, by decide +kernel⟩
theorem okT__law_mixed (T : Txt P K mg A) : FnOk P w K mg base (L2.CX P w) 2 A.a__law_mixed A.e__law_mixed ["feed", "things"] (spD (ccOf A K w) 2 d__law_mixed) := by
  have ok__law_take := okT__law_take (P := P) (w := w) (base := base) T
  refine fn_ok (m := 2) (l := 5) T.F__law_mixed sc__law_mixed rfl rfl fun cdv A' outer s H E hr => ?_
  have tk := takes_of (E := E) (X := cxOf (L2.CX P w) P w K mg base N__law_mixed "_law_mixed" (defScope st__law_mixed) A.a__law_mixed cdv A' outer s H E) rfl rfl rfl rfl
  have po : PassesOwn (model P w) _ _ (cxOf (L2.CX P w) P w K mg base N__law_mixed "_law_mixed" (defScope st__law_mixed) A.a__law_mixed cdv A' outer s H E).xe := passes_of rfl
  exact (xss_cons (xs_par (i := 2) (j := 3) rfl sc__law_mixed.nd rfl rfl (by decide) rfl rfl (xa_cons (xe_callTy (c_list rfl) (noX_pn1 _) rfl T.b_list (by decide +kernel) (xa_cons (xe_var 1) xa_nil)) (xa_cons (xe_lst xa_nil) xa_nil)) rfl) (xss_cons (xs_for po rfl (xi_range1 rfl T.b_range (xa_cons (xe_callB (c_len rfl) (noX_pv1 _) rfl T.b_len PySem.boot_len (xa_cons (xe_var 2) xa_nil)) xa_nil)) (xg_name (i := 4) sc__law_mixed.nd rfl (by first | exact .inl rfl | exact .inr rfl)) (xss_cons (xs_expr (xe_lmeth noX_append PySem.F.slot_list_append PySem.F.type_list_append m_append (xe_var 3) (xa_cons (xe_lmeth noX_popAt PySem.F.slot_list_pop PySem.F.type_list_pop m_popAt (xe_var 2) (xa_cons (xe_call ok__law_take (hr.mono (by decide)) rfl T.m__law_take T.k__law_take T.n__law_take tk (xa_cons (xe_var 0) (xa_cons (xe_callB (c_len rfl) (noX_pv1 _) rfl T.b_len PySem.boot_len (xa_cons (xe_var 2) xa_nil)) xa_nil))) xa_nil)) xa_nil))) xss_nil)) (xss_cons (xs_ret (xe_var 3)) xss_nil)))
theorem sc__law_first : FnScope N__law_first ["order", "down"] (defScope st__law_first) := ⟨rfl, rfl, rfl, by decide +kernel, rfl, by decide +kernel, by decide +kernel⟩
theorem okT__law_first (T : Txt P K mg A) : FnOk P w K mg base (L2.CX P w) 1 A.a__law_first A.e__law_first ["order", "down"] (spD (ccOf A K w) 2 d__law_first) := by
  refine fn_ok (m := 2) (l := 4) T.F__law_first sc__law_first rfl rfl fun cdv A' outer s H E hr => ?_
  have tk := takes_of (E := E) (X := cxOf (L2.CX P w) P w K mg base N__law_first "_law_first" (defScope st__law_first) A.a__law_first cdv A' outer s H E) rfl rfl rfl rfl
  have po : PassesOwn (model P w) _ _ (cxOf (L2.CX P w) P w K mg base N__law_first "_law_first" (defScope st__law_first) A.a__law_first cdv A' outer s H E).xe := passes_of rfl
  exact (xss_cons (xs_setLc (i := 2) (own := [("machine", 3)]) (ws := [3]) (P := (.nm 3)) (by decide) rfl rfl sc__law_first.nd rfl rfl (sw_true rfl rfl rfl (by decide +kernel)) (xi_seq rfl (xe_var 0)) (blkOk_by (N := N__law_first) (sc := defScope st__law_first) (by decide +kernel)) (fun _ _ _ _ _ => (xg_name (i := 3) sc__law_first.nd rfl (by first | exact .inl rfl | exact .inr rfl))) (fun _ _ _ _ _ => (xts_one (xt_cmp (o_notIn rfl (hu65 hr)) (noX_pv2 _) (xe_var 3) (xe_var 1)))) (fun _ _ _ _ _ => (xe_var 3))) (xss_cons (xs_ret (xe_ite (xt_cmp (o_ne (hu64 hr)) (noX_pv2 _) (xe_var 2) (xe_lst xa_nil)) (xe_ix rfl (xe_var 2) xe_int (fun _ _ => rfl)) (xe_un o_neg (noX_pv1 _) xe_int))) xss_nil))
theorem sc__law_rules_hold : FnScope N__law_rules_hold ["services", "picture"] (defScope st__law_rules_hold) := ⟨rfl, rfl, rfl, by decide +kernel, rfl, by decide +kernel, by decide +kernel⟩
theorem okT__law_rules_hold (T : Txt P K mg A) : FnOk P w K mg base (L2.CX P w) 2 A.a__law_rules_hold A.e__law_rules_hold ["services", "picture"] (spD (ccOf A K w) 2 d__law_rules_hold) := by
  have ok__law_first := okT__law_first (P := P) (w := w) (base := base) T
  refine fn_ok (m := 2) (l := 8) T.F__law_rules_hold sc__law_rules_hold rfl rfl fun cdv A' outer s H E hr => ?_
  have tk := takes_of (E := E) (X := cxOf (L2.CX P w) P w K mg base N__law_rules_hold "_law_rules_hold" (defScope st__law_rules_hold) A.a__law_rules_hold cdv A' outer s H E) rfl rfl rfl rfl
  have po : PassesOwn (model P w) _ _ (cxOf (L2.CX P w) P w K mg base N__law_rules_hold "_law_rules_hold" (defScope st__law_rules_hold) A.a__law_rules_hold cdv A' outer s H E).xe := passes_of rfl
  exact (xss_cons (xs_asg (xe_var 1) (xg_tup rfl (xgs_cons (xg_name (i := 2) sc__law_rules_hold.nd rfl (by first | exact .inl rfl | exact .inr rfl)) (xgs_cons (xg_name (i := 3) sc__law_rules_hold.nd rfl (by first | exact .inl rfl | exact .inr rfl)) xgs_nil)))) (xss_cons (xs_for po rfl (xi_zip2 rfl rfl T.b_zip (xa_cons (xe_var 0) (xa_cons (xe_var 3) xa_nil))) (xg_tup rfl (xgs_cons (xg_tup rfl (xgs_cons (xg_name (i := 4) sc__law_rules_hold.nd rfl (by first | exact .inl rfl | exact .inr rfl)) (xgs_cons (xg_name (i := 5) sc__law_rules_hold.nd rfl (by first | exact .inl rfl | exact .inr rfl)) (xgs_cons (xg_name (i := 6) sc__law_rules_hold.nd rfl (by first | exact .inl rfl | exact .inr rfl)) xgs_nil)))) (xgs_cons (xg_name (i := 7) sc__law_rules_hold.nd rfl (by first | exact .inl rfl | exact .inr rfl)) xgs_nil))) (xss_cons (xs_if (PW.pt (xw_and (xt_cmp (o_ne (hu64 hr)) (noX_pv2 _) (xe_var 7) (xe_un o_neg (noX_pv1 _) xe_int)) (xw_and1 (PW.pt (xw_or (xt_cmp (o_notIn rfl (hu65 hr)) (noX_pv2 _) (xe_var 7) (xe_var 5)) (xw_or1 (xt_cmp (o_in rfl (hu65 hr)) (noX_pv2 _) (xe_var 7) (xe_var 2)))))))) (xss_cons (xs_ret xe_bl) xss_nil) xss_nil) (xss_cons (xs_if (xt_cmp (o_ne (hu64 hr)) (noX_pv2 _) (xe_cmp (o_eq (hu64 hr)) (noX_pv2 _) (xe_var 7) (xe_un o_neg (noX_pv1 _) xe_int)) (xe_cmp (o_eq (hu64 hr)) (noX_pv2 _) (xe_call ok__law_first (hr.mono (by decide)) rfl T.m__law_first T.k__law_first T.n__law_first tk (xa_cons (xe_var 5) (xa_cons (xe_var 2) xa_nil))) (xe_un o_neg (noX_pv1 _) xe_int))) (xss_cons (xs_ret xe_bl) xss_nil) xss_nil) (xss_cons (xs_if (PW.pt (xw_and (xt_cmp (o_eq (hu64 hr)) (noX_pv2 _) (xe_var 6) xe_str) (xw_and1 (xt_cmp (o_ne (hu64 hr)) (noX_pv2 _) (xe_var 7) (xe_call ok__law_first (hr.mono (by decide)) rfl T.m__law_first T.k__law_first T.n__law_first tk (xa_cons (xe_var 5) (xa_cons (xe_var 2) xa_nil))))))) (xss_cons (xs_ret xe_bl) xss_nil) xss_nil) (xss_cons (xs_if (PW.pt (xw_and (xt_cmp (o_eq (hu64 hr)) (noX_pv2 _) (xe_var 6) xe_str) (xw_and (xt_cmp (o_notIn rfl (hu65 hr)) (noX_pv2 _) (xe_ix rfl (xe_var 5) xe_int (fun _ _ => rfl)) (xe_var 2)) (xw_and1 (xt_cmp (o_ne (hu64 hr)) (noX_pv2 _) (xe_var 7) (xe_ix rfl (xe_var 5) xe_int (fun _ _ => rfl))))))) (xss_cons (xs_ret xe_bl) xss_nil) xss_nil) xss_nil))))) (xss_cons (xs_ret xe_bl) xss_nil)))
theorem sc__law_walk : FnScope N__law_walk ["feed", "machines", "cap", "long"] (defScope st__law_walk) := ⟨rfl, rfl, rfl, by decide +kernel, rfl, by decide +kernel, by decide +kernel⟩
theorem okT__law_walk (T : Txt P K mg A) : FnOk P w K mg base (L2.CX P w) 3 A.a__law_walk A.e__law_walk ["feed", "machines", "cap", "long"] (spD (ccOf A K w) 4 d__law_walk) := by
  have ok__law_events := okT__law_events (P := P) (w := w) (base := base) T
  have ok__law_pick := okT__law_pick (P := P) (w := w) (base := base) T
  refine fn_ok (m := 4) (l := 10) T.F__law_walk sc__law_walk rfl rfl fun cdv A' outer s H E hr => ?_
  have tk := takes_of (E := E) (X := cxOf (L2.CX P w) P w K mg base N__law_walk "_law_walk" (defScope st__law_walk) A.a__law_walk cdv A' outer s H E) rfl rfl rfl rfl
  have po : PassesOwn (model P w) _ _ (cxOf (L2.CX P w) P w K mg base N__law_walk "_law_walk" (defScope st__law_walk) A.a__law_walk cdv A' outer s H E).xe := passes_of rfl
  exact (xss_cons (xs_par (i := 4) (j := 5) rfl sc__law_walk.nd rfl rfl (by decide) rfl rfl (xa_cons (xe_lst xa_nil) (xa_cons (xe_lst xa_nil) xa_nil)) rfl) (xss_cons (xs_for po rfl (xi_range1 rfl T.b_range (xa_cons (xe_var 3) xa_nil)) (xg_name (i := 6) sc__law_walk.nd rfl (by first | exact .inl rfl | exact .inr rfl)) (xss_cons (xs_set (i := 7) sc__law_walk.nd rfl (by first | exact .inl rfl | exact .inr rfl) (xe_call ok__law_events (hr.mono (by decide)) rfl T.m__law_events T.k__law_events T.n__law_events tk (xa_cons (xe_var 1) (xa_cons (xe_var 4) (xa_cons (xe_var 2) xa_nil))))) (xss_cons (xs_if (xt_cmp (o_ne (hu64 hr)) (noX_pv2 _) (xe_var 7) (xe_lst xa_nil)) (xss_cons (xs_set (i := 8) sc__law_walk.nd rfl (by first | exact .inl rfl | exact .inr rfl) (xe_call ok__law_pick (hr.mono (by decide)) rfl T.m__law_pick T.k__law_pick T.n__law_pick tk (xa_cons (xe_var 0) (xa_cons (xe_var 7) xa_nil)))) (xss_cons (xs_expr (xe_lmeth noX_append PySem.F.slot_list_append PySem.F.type_list_append m_append (xe_var 5) (xa_cons (xe_var 8) xa_nil))) (xss_cons (xs_setLc (i := 4) (own := [("one", 9)]) (ws := [9]) (P := (.nm 9)) (by decide) rfl rfl sc__law_walk.nd rfl rfl (sw_true rfl rfl rfl (by decide +kernel)) (xi_seq rfl (xe_var 4)) (blkOk_by (N := N__law_walk) (sc := defScope st__law_walk) (by decide +kernel)) (fun _ _ _ _ _ => (xg_name (i := 9) sc__law_walk.nd rfl (by first | exact .inl rfl | exact .inr rfl))) (fun _ _ _ _ _ => (xts_one (xt_cmp (o_ne (hu64 hr)) (noX_pv2 _) (xe_var 9) (xe_ix rfl (xe_var 8) xe_int (fun _ _ => rfl))))) (fun _ _ _ _ _ => (xe_var 9))) (xss_cons (xs_if (xt_cmp (o_eq (hu64 hr)) (noX_pv2 _) (xe_ix rfl (xe_var 8) xe_int (fun _ _ => rfl)) xe_str) (xss_cons (xs_set (i := 4) sc__law_walk.nd rfl (by first | exact .inl rfl | exact .inr rfl) (xe_bin o_add noX_add (xe_var 4) (xe_lst (xa_cons (xe_ix rfl (xe_var 8) xe_int (fun _ _ => rfl)) xa_nil)))) xss_nil) xss_nil) xss_nil)))) xss_nil) xss_nil))) (xss_cons (xs_ret (xe_var 5)) xss_nil)))
theorem sc_beginning : FnScope N_beginning ["house"] (defScope st_beginning) := ⟨rfl, rfl, rfl, by decide +kernel, rfl, by decide +kernel, by decide +kernel⟩
theorem okT_beginning (T : Txt P K mg A) : FnOk P w K mg base (L2.CX P w) 2 A.a_beginning A.e_beginning ["house"] (spD (ccOf A K w) 1 d_beginning) := by
  have ok_House_m_services := okT_House_m_services (P := P) (w := w) (base := base) T
  refine fn_ok (m := 1) (l := 4) T.F_beginning sc_beginning rfl rfl fun cdv A' outer s H E hr => ?_
  have tk := takes_of (E := E) (X := cxOf (L2.CX P w) P w K mg base N_beginning "beginning" (defScope st_beginning) A.a_beginning cdv A' outer s H E) rfl rfl rfl rfl
  have po : PassesOwn (model P w) _ _ (cxOf (L2.CX P w) P w K mg base N_beginning "beginning" (defScope st_beginning) A.a_beginning cdv A' outer s H E).xe := passes_of rfl
  exact (xss_cons (xs_ret (xe_tup (xa_cons (xe_tup xa_nil) (xa_cons (xe_callTy (c_tuple rfl) noX_tupleOf rfl T.b_tuple (by decide +kernel) (xa_cons (xe_lc (own := [("weight", 1), ("order", 2), ("rule", 3)]) (ws := [1, 2, 3]) (P := (.tp (.cons (.nm 1) (.cons (.nm 2) (.cons (.nm 3) .nil))))) (by decide) rfl rfl sc_beginning.nd (xi_seq rfl (xe_meth0 (c := 0) T.cl_House T.me_House_m_services ok_House_m_services (hr.mono (by decide)) T.n_House_m_services tk (xe_var 0))) (blkOk_by (N := N_beginning) (sc := defScope st_beginning) (by decide +kernel)) (fun _ _ _ _ _ => (xg_tup rfl (xgs_cons (xg_name (i := 1) sc_beginning.nd rfl (by first | exact .inl rfl | exact .inr rfl)) (xgs_cons (xg_name (i := 2) sc_beginning.nd rfl (by first | exact .inl rfl | exact .inr rfl)) (xgs_cons (xg_name (i := 3) sc_beginning.nd rfl (by first | exact .inl rfl | exact .inr rfl)) xgs_nil))))) (fun _ _ _ _ _ => xts_nil) (fun _ _ _ _ _ => (xe_ix rfl (xe_var 2) xe_int (fun _ _ => rfl)))) xa_nil)) xa_nil)))) xss_nil)
theorem sc_Run_m___init__ : FnScope N_Run_m___init__ ["self", "house"] (defScope st_Run_m___init__) := ⟨rfl, rfl, rfl, by decide +kernel, rfl, by decide +kernel, by decide +kernel⟩
theorem okT_Run_m___init__ (T : Txt P K mg A) : FnOk P w K mg base (L2.CX P w) 3 A.a_Run_m___init__ A.e_Run_m___init__ ["self", "house"] (spD (ccOf A K w) 2 d_Run_m___init__) := by
  have ok_beginning := okT_beginning (P := P) (w := w) (base := base) T
  refine fn_ok (m := 2) (l := 2) T.F_Run_m___init__ sc_Run_m___init__ rfl rfl fun cdv A' outer s H E hr => ?_
  have tk := takes_of (E := E) (X := cxOf (L2.CX P w) P w K mg base N_Run_m___init__ "Run.__init__" (defScope st_Run_m___init__) A.a_Run_m___init__ cdv A' outer s H E) rfl rfl rfl rfl
  have po : PassesOwn (model P w) _ _ (cxOf (L2.CX P w) P w K mg base N_Run_m___init__ "Run.__init__" (defScope st_Run_m___init__) A.a_Run_m___init__ cdv A' outer s H E).xe := passes_of rfl
  exact (xss_cons (xs_setf (cs := [1]) T.f_house (xe_var 0) (xe_var 1)) (xss_cons (xs_setf (cs := [1]) T.f__picture (xe_var 0) (xe_call ok_beginning (hr.mono (by decide)) rfl T.m_beginning T.k_beginning T.n_beginning tk (xa_cons (xe_var 1) xa_nil))) (xss_cons (xs_setf (cs := [1]) T.f__events (xe_var 0) (xe_lst xa_nil)) xss_nil)))
theorem sc_down_behind : FnScope N_down_behind ["down", "event"] (defScope st_down_behind) := ⟨rfl, rfl, rfl, by decide +kernel, rfl, by decide +kernel, by decide +kernel⟩
theorem okT_down_behind (T : Txt P K mg A) : FnOk P w K mg base (L2.CX P w) 1 A.a_down_behind A.e_down_behind ["down", "event"] (spD (ccOf A K w) 2 d_down_behind) := by
  refine fn_ok (m := 2) (l := 5) T.F_down_behind sc_down_behind rfl rfl fun cdv A' outer s H E hr => ?_
  have tk := takes_of (E := E) (X := cxOf (L2.CX P w) P w K mg base N_down_behind "down_behind" (defScope st_down_behind) A.a_down_behind cdv A' outer s H E) rfl rfl rfl rfl
  have po : PassesOwn (model P w) _ _ (cxOf (L2.CX P w) P w K mg base N_down_behind "down_behind" (defScope st_down_behind) A.a_down_behind cdv A' outer s H E).xe := passes_of rfl
  exact (xss_cons (xs_asg (xe_var 1) (xg_tup rfl (xgs_cons (xg_name (i := 2) sc_down_behind.nd rfl (by first | exact .inl rfl | exact .inr rfl)) (xgs_cons (xg_name (i := 3) sc_down_behind.nd rfl (by first | exact .inl rfl | exact .inr rfl)) xgs_nil)))) (xss_cons (xs_if (xt_cmp (o_eq (hu64 hr)) (noX_pv2 _) (xe_var 2) xe_str) (xss_cons (xs_ret (xe_callTy (c_tuple rfl) noX_tupleOf rfl T.b_tuple (by decide +kernel) (xa_cons (xe_callB (c_sorted rfl) (noX_pn1 _) rfl T.b_sorted (by decide +kernel) (xa_cons (xe_lst (xa_star rfl (xe_var 0) (xa_cons (xe_var 3) xa_nil))) xa_nil)) xa_nil))) xss_nil) xss_nil) (xss_cons (xs_ret (xe_callTy (c_tuple rfl) noX_tupleOf rfl T.b_tuple (by decide +kernel) (xa_cons (xe_lc (own := [("other", 4)]) (ws := [4]) (P := (.nm 4)) (by decide) rfl rfl sc_down_behind.nd (xi_seq rfl (xe_var 0)) (blkOk_by (N := N_down_behind) (sc := defScope st_down_behind) (by decide +kernel)) (fun _ _ _ _ _ => (xg_name (i := 4) sc_down_behind.nd rfl (by first | exact .inl rfl | exact .inr rfl))) (fun _ _ _ _ _ => (xts_one (xt_cmp (o_ne (hu64 hr)) (noX_pv2 _) (xe_var 4) (xe_var 3)))) (fun _ _ _ _ _ => (xe_var 4))) xa_nil))) xss_nil)))
theorem sc_first_living : FnScope N_first_living ["order", "down"] (defScope st_first_living) := ⟨rfl, rfl, rfl, by decide +kernel, rfl, by decide +kernel, by decide +kernel⟩
theorem okT_first_living (T : Txt P K mg A) : FnOk P w K mg base (L2.CX P w) 1 A.a_first_living A.e_first_living ["order", "down"] (spD (ccOf A K w) 2 d_first_living) := by
  refine fn_ok (m := 2) (l := 3) T.F_first_living sc_first_living rfl rfl fun cdv A' outer s H E hr => ?_
  have tk := takes_of (E := E) (X := cxOf (L2.CX P w) P w K mg base N_first_living "first_living" (defScope st_first_living) A.a_first_living cdv A' outer s H E) rfl rfl rfl rfl
  have po : PassesOwn (model P w) _ _ (cxOf (L2.CX P w) P w K mg base N_first_living "first_living" (defScope st_first_living) A.a_first_living cdv A' outer s H E).xe := passes_of rfl
  exact (xss_cons (xs_for po rfl (xi_seq rfl (xe_var 0)) (xg_name (i := 2) sc_first_living.nd rfl (by first | exact .inl rfl | exact .inr rfl)) (xss_cons (xs_if (xt_cmp (o_notIn rfl (hu65 hr)) (noX_pv2 _) (xe_var 2) (xe_var 1)) (xss_cons (xs_ret (xe_var 2)) xss_nil) xss_nil) xss_nil)) (xss_cons (xs_ret (xe_gint rfl T.c_NOWHERE)) xss_nil))
theorem sc_place_behind : FnScope N_place_behind ["service", "place", "event", "left"] (defScope st_place_behind) := ⟨rfl, rfl, rfl, by decide +kernel, rfl, by decide +kernel, by decide +kernel⟩
theorem okT_place_behind (T : Txt P K mg A) : FnOk P w K mg base (L2.CX P w) 2 A.a_place_behind A.e_place_behind ["service", "place", "event", "left"] (spD (ccOf A K w) 4 d_place_behind) := by
  have ok_first_living := okT_first_living (P := P) (w := w) (base := base) T
  refine fn_ok (m := 4) (l := 9) T.F_place_behind sc_place_behind rfl rfl fun cdv A' outer s H E hr => ?_
  have tk := takes_of (E := E) (X := cxOf (L2.CX P w) P w K mg base N_place_behind "place_behind" (defScope st_place_behind) A.a_place_behind cdv A' outer s H E) rfl rfl rfl rfl
  have po : PassesOwn (model P w) _ _ (cxOf (L2.CX P w) P w K mg base N_place_behind "place_behind" (defScope st_place_behind) A.a_place_behind cdv A' outer s H E).xe := passes_of rfl
  exact (xss_cons (xs_asg (xe_var 2) (xg_tup rfl (xgs_cons (xg_name (i := 4) sc_place_behind.nd rfl (by first | exact .inl rfl | exact .inr rfl)) (xgs_cons (xg_name (i := 5) sc_place_behind.nd rfl (by first | exact .inl rfl | exact .inr rfl)) xgs_nil)))) (xss_cons (xs_asg (xe_var 0) (xg_tup rfl (xgs_cons (xg_name (i := 6) sc_place_behind.nd rfl (by first | exact .inl rfl | exact .inr rfl)) (xgs_cons (xg_name (i := 7) sc_place_behind.nd rfl (by first | exact .inl rfl | exact .inr rfl)) (xgs_cons (xg_name (i := 8) sc_place_behind.nd rfl (by first | exact .inl rfl | exact .inr rfl)) xgs_nil))))) (xss_cons (xs_if (xt_cmp (o_eq (hu64 hr)) (noX_pv2 _) (xe_var 4) xe_str) (xss_cons (xs_ret (xe_ite (xt_cmp (o_eq (hu64 hr)) (noX_pv2 _) (xe_var 1) (xe_var 5)) (xe_call ok_first_living (hr.mono (by decide)) rfl T.m_first_living T.k_first_living T.n_first_living tk (xa_cons (xe_var 7) (xa_cons (xe_var 3) xa_nil))) (xe_var 1))) xss_nil) xss_nil) (xss_cons (xs_if (xt_cmp (o_notIn rfl (hu65 hr)) (noX_pv2 _) (xe_var 5) (xe_var 7)) (xss_cons (xs_ret (xe_var 1)) xss_nil) xss_nil) (xss_cons (xs_if (xt_cmp (o_eq (hu64 hr)) (noX_pv2 _) (xe_var 1) (xe_gint rfl T.c_NOWHERE)) (xss_cons (xs_ret (xe_var 5)) xss_nil) xss_nil) (xss_cons (xs_if (PW.pt (xw_and (xt_cmp (o_eq (hu64 hr)) (noX_pv2 _) (xe_var 8) xe_str) (xw_and1 (xt_cmp o_lt (noX_pv2 _) (xe_indexT (xe_var 7) (xa_cons (xe_var 5) xa_nil)) (xe_indexT (xe_var 7) (xa_cons (xe_var 1) xa_nil)))))) (xss_cons (xs_ret (xe_var 5)) xss_nil) xss_nil) (xss_cons (xs_if (PW.pt (xw_and (xt_cmp (o_eq (hu64 hr)) (noX_pv2 _) (xe_var 8) xe_str) (xw_and1 (xt_cmp (o_eq (hu64 hr)) (noX_pv2 _) (xe_var 5) (xe_ix rfl (xe_var 7) xe_int (fun _ _ => rfl)))))) (xss_cons (xs_ret (xe_var 5)) xss_nil) xss_nil) (xss_cons (xs_ret (xe_var 1)) xss_nil))))))))
theorem sc_picture_behind : FnScope N_picture_behind ["house", "picture", "event"] (defScope st_picture_behind) := ⟨rfl, rfl, rfl, by decide +kernel, rfl, by decide +kernel, by decide +kernel⟩
theorem okT_picture_behind (T : Txt P K mg A) : FnOk P w K mg base (L2.CX P w) 3 A.a_picture_behind A.e_picture_behind ["house", "picture", "event"] (spD (ccOf A K w) 3 d_picture_behind) := by
  have ok_House_m_services := okT_House_m_services (P := P) (w := w) (base := base) T
  have ok_down_behind := okT_down_behind (P := P) (w := w) (base := base) T
  have ok_place_behind := okT_place_behind (P := P) (w := w) (base := base) T
  refine fn_ok (m := 3) (l := 9) T.F_picture_behind sc_picture_behind rfl rfl fun cdv A' outer s H E hr => ?_
  have tk := takes_of (E := E) (X := cxOf (L2.CX P w) P w K mg base N_picture_behind "picture_behind" (defScope st_picture_behind) A.a_picture_behind cdv A' outer s H E) rfl rfl rfl rfl
  have po : PassesOwn (model P w) _ _ (cxOf (L2.CX P w) P w K mg base N_picture_behind "picture_behind" (defScope st_picture_behind) A.a_picture_behind cdv A' outer s H E).xe := passes_of rfl
  exact (xss_cons (xs_asg (xe_var 1) (xg_tup rfl (xgs_cons (xg_name (i := 3) sc_picture_behind.nd rfl (by first | exact .inl rfl | exact .inr rfl)) (xgs_cons (xg_name (i := 4) sc_picture_behind.nd rfl (by first | exact .inl rfl | exact .inr rfl)) xgs_nil)))) (xss_cons (xs_set (i := 5) sc_picture_behind.nd rfl (by first | exact .inl rfl | exact .inr rfl) (xe_call ok_down_behind (hr.mono (by decide)) rfl T.m_down_behind T.k_down_behind T.n_down_behind tk (xa_cons (xe_var 3) (xa_cons (xe_var 2) xa_nil)))) (xss_cons (xs_set (i := 6) sc_picture_behind.nd rfl (by first | exact .inl rfl | exact .inr rfl) (xe_listZip rfl rfl rfl T.b_list rfl T.b_zip (xa_cons (xe_meth0 (c := 0) T.cl_House T.me_House_m_services ok_House_m_services (hr.mono (by decide)) T.n_House_m_services tk (xe_var 0)) (xa_cons (xe_var 4) xa_nil)))) (xss_cons (xs_ret (xe_tup (xa_cons (xe_var 5) (xa_cons (xe_callTy (c_tuple rfl) noX_tupleOf rfl T.b_tuple (by decide +kernel) (xa_cons (xe_lc (own := [("service", 7), ("place", 8)]) (ws := [7, 8]) (P := (.tp (.cons (.nm 7) (.cons (.nm 8) .nil)))) (by decide) rfl rfl sc_picture_behind.nd (xi_seq rfl (xe_var 6)) (blkOk_by (N := N_picture_behind) (sc := defScope st_picture_behind) (by decide +kernel)) (fun _ _ _ _ _ => (xg_tup rfl (xgs_cons (xg_name (i := 7) sc_picture_behind.nd rfl (by first | exact .inl rfl | exact .inr rfl)) (xgs_cons (xg_name (i := 8) sc_picture_behind.nd rfl (by first | exact .inl rfl | exact .inr rfl)) xgs_nil)))) (fun _ _ _ _ _ => xts_nil) (fun _ _ _ _ _ => (xe_call ok_place_behind (hr.mono (by decide)) rfl T.m_place_behind T.k_place_behind T.n_place_behind takes0 (xa_cons (xe_var 7) (xa_cons (xe_var 8) (xa_cons (xe_var 2) (xa_cons (xe_var 5) xa_nil))))))) xa_nil)) xa_nil)))) xss_nil))))
theorem sc_Run_m__lead : FnScope N_Run_m__lead ["self", "event"] (defScope st_Run_m__lead) := ⟨rfl, rfl, rfl, by decide +kernel, rfl, by decide +kernel, by decide +kernel⟩
theorem okT_Run_m__lead (T : Txt P K mg A) : FnOk P w K mg base (L2.CX P w) 4 A.a_Run_m__lead A.e_Run_m__lead ["self", "event"] (spD (ccOf A K w) 2 d_Run_m__lead) := by
  have ok_picture_behind := okT_picture_behind (P := P) (w := w) (base := base) T
  refine fn_ok (m := 2) (l := 2) T.F_Run_m__lead sc_Run_m__lead rfl rfl fun cdv A' outer s H E hr => ?_
  have tk := takes_of (E := E) (X := cxOf (L2.CX P w) P w K mg base N_Run_m__lead "Run._lead" (defScope st_Run_m__lead) A.a_Run_m__lead cdv A' outer s H E) rfl rfl rfl rfl
  have po : PassesOwn (model P w) _ _ (cxOf (L2.CX P w) P w K mg base N_Run_m__lead "Run._lead" (defScope st_Run_m__lead) A.a_Run_m__lead cdv A' outer s H E).xe := passes_of rfl
  exact (xss_cons (xs_setf (cs := [1]) T.f__picture (xe_var 0) (xe_call ok_picture_behind (hr.mono (by decide)) rfl T.m_picture_behind T.k_picture_behind T.n_picture_behind tk (xa_cons (xe_fld (cs := [1]) T.f_house (xe_var 0)) (xa_cons (xe_fld (cs := [1]) T.f__picture (xe_var 0)) (xa_cons (xe_var 1) xa_nil))))) (xss_cons (xs_expr (xe_lmeth noX_append PySem.F.slot_list_append PySem.F.type_list_append m_append (xe_fld (cs := [1]) T.f__events (xe_var 0)) (xa_cons (xe_var 1) xa_nil))) xss_nil))
theorem sc_House_m___len__ : FnScope N_House_m___len__ ["self"] (defScope st_House_m___len__) := ⟨rfl, rfl, rfl, by decide +kernel, rfl, by decide +kernel, by decide +kernel⟩
theorem okT_House_m___len__ (T : Txt P K mg A) : FnOk P w K mg base (L2.CX P w) 1 A.a_House_m___len__ A.e_House_m___len__ ["self"] (spD (ccOf A K w) 1 d_House_m___len__) := by
  refine fn_ok (m := 1) (l := 1) T.F_House_m___len__ sc_House_m___len__ rfl rfl fun cdv A' outer s H E hr => ?_
  have tk := takes_of (E := E) (X := cxOf (L2.CX P w) P w K mg base N_House_m___len__ "House.__len__" (defScope st_House_m___len__) A.a_House_m___len__ cdv A' outer s H E) rfl rfl rfl rfl
  have po : PassesOwn (model P w) _ _ (cxOf (L2.CX P w) P w K mg base N_House_m___len__ "House.__len__" (defScope st_House_m___len__) A.a_House_m___len__ cdv A' outer s H E).xe := passes_of rfl
  exact (xss_cons (xs_ret (xe_callB (c_len rfl) (noX_pv1 _) rfl T.b_len PySem.boot_len (xa_cons (xe_fld (cs := [0]) T.f__strengths (xe_var 0)) xa_nil))) xss_nil)
theorem sc_can_fall : FnScope N_can_fall ["house", "down", "value"] (defScope st_can_fall) := ⟨rfl, rfl, rfl, by decide +kernel, rfl, by decide +kernel, by decide +kernel⟩
theorem okT_can_fall (T : Txt P K mg A) : FnOk P w K mg base (L2.CX P w) 3 A.a_can_fall A.e_can_fall ["house", "down", "value"] (spD (ccOf A K w) 3 d_can_fall) := by
  have ok_House_m___len__ := okT_House_m___len__ (P := P) (w := w) (base := base) T
  have ok_is_machine := okT_is_machine (P := P) (w := w) (base := base) T
  refine fn_ok (m := 3) (l := 3) T.F_can_fall sc_can_fall rfl rfl fun cdv A' outer s H E hr => ?_
  have tk := takes_of (E := E) (X := cxOf (L2.CX P w) P w K mg base N_can_fall "can_fall" (defScope st_can_fall) A.a_can_fall cdv A' outer s H E) rfl rfl rfl rfl
  have po : PassesOwn (model P w) _ _ (cxOf (L2.CX P w) P w K mg base N_can_fall "can_fall" (defScope st_can_fall) A.a_can_fall cdv A' outer s H E).xe := passes_of rfl
  exact (xss_cons (xs_ret (xe_and (xe_call ok_is_machine (hr.mono (by decide)) rfl T.m_is_machine T.k_is_machine T.n_is_machine tk (xa_cons (xe_var 2) (xa_cons (xe_callB (c_lenOwn rfl T.me_House_m___len__ ok_House_m___len__ (L2.Room.in1 (hr.mono (by decide))) T.n_House_m___len__) (noX_len _ _) rfl T.b_len PySem.boot_len (xa_cons (xe_var 0) xa_nil)) xa_nil))) (xe_one (xe_cmp (o_notIn rfl (hu65 hr)) (noX_pv2 _) (xe_var 2) (xe_var 1))))) xss_nil)
theorem sc_Run_m_fall : FnScope N_Run_m_fall ["self", "machine"] (defScope st_Run_m_fall) := ⟨rfl, rfl, rfl, by decide +kernel, rfl, by decide +kernel, by decide +kernel⟩
theorem okT_Run_m_fall (T : Txt P K mg A) : FnOk P w K mg base (L2.CX P w) 5 A.a_Run_m_fall A.e_Run_m_fall ["self", "machine"] (spD (ccOf A K w) 2 d_Run_m_fall) := by
  have ok_Run_m__lead := okT_Run_m__lead (P := P) (w := w) (base := base) T
  have ok_can_fall := okT_can_fall (P := P) (w := w) (base := base) T
  refine fn_ok (m := 2) (l := 2) T.F_Run_m_fall sc_Run_m_fall rfl rfl fun cdv A' outer s H E hr => ?_
  have tk := takes_of (E := E) (X := cxOf (L2.CX P w) P w K mg base N_Run_m_fall "Run.fall" (defScope st_Run_m_fall) A.a_Run_m_fall cdv A' outer s H E) rfl rfl rfl rfl
  have po : PassesOwn (model P w) _ _ (cxOf (L2.CX P w) P w K mg base N_Run_m_fall "Run.fall" (defScope st_Run_m_fall) A.a_Run_m_fall cdv A' outer s H E).xe := passes_of rfl
  exact (xss_cons (xs_if (xt_not (xt_val (xe_call ok_can_fall (hr.mono (by decide)) rfl T.m_can_fall T.k_can_fall T.n_can_fall tk (xa_cons (xe_fld (cs := [1]) T.f_house (xe_var 0)) (xa_cons (xe_ix rfl (xe_fld (cs := [1]) T.f__picture (xe_var 0)) xe_int (fun _ _ => rfl)) (xa_cons (xe_var 1) xa_nil)))))) (xss_cons (xs_raise rfl tk (T.x_NoFall.pmk (hr.mono (by decide)) rfl T.e_NoFall (xa_cons (xe_var 1) xa_nil))) xss_nil) xss_nil) (xss_cons (xs_expr (xe_meth (c := 1) T.cl_Run T.me_Run_m__lead ok_Run_m__lead (hr.mono (by decide)) T.n_Run_m__lead tk (xe_var 0) (xa_cons (xe_tup (xa_cons xe_str (xa_cons (xe_var 1) xa_nil))) xa_nil))) xss_nil))
theorem sc_can_rise : FnScope N_can_rise ["house", "down", "value"] (defScope st_can_rise) := ⟨rfl, rfl, rfl, by decide +kernel, rfl, by decide +kernel, by decide +kernel⟩
theorem okT_can_rise (T : Txt P K mg A) : FnOk P w K mg base (L2.CX P w) 3 A.a_can_rise A.e_can_rise ["house", "down", "value"] (spD (ccOf A K w) 3 d_can_rise) := by
  have ok_House_m___len__ := okT_House_m___len__ (P := P) (w := w) (base := base) T
  have ok_is_machine := okT_is_machine (P := P) (w := w) (base := base) T
  refine fn_ok (m := 3) (l := 3) T.F_can_rise sc_can_rise rfl rfl fun cdv A' outer s H E hr => ?_
  have tk := takes_of (E := E) (X := cxOf (L2.CX P w) P w K mg base N_can_rise "can_rise" (defScope st_can_rise) A.a_can_rise cdv A' outer s H E) rfl rfl rfl rfl
  have po : PassesOwn (model P w) _ _ (cxOf (L2.CX P w) P w K mg base N_can_rise "can_rise" (defScope st_can_rise) A.a_can_rise cdv A' outer s H E).xe := passes_of rfl
  exact (xss_cons (xs_ret (xe_and (xe_call ok_is_machine (hr.mono (by decide)) rfl T.m_is_machine T.k_is_machine T.n_is_machine tk (xa_cons (xe_var 2) (xa_cons (xe_callB (c_lenOwn rfl T.me_House_m___len__ ok_House_m___len__ (L2.Room.in1 (hr.mono (by decide))) T.n_House_m___len__) (noX_len _ _) rfl T.b_len PySem.boot_len (xa_cons (xe_var 0) xa_nil)) xa_nil))) (xe_one (xe_cmp (o_in rfl (hu65 hr)) (noX_pv2 _) (xe_var 2) (xe_var 1))))) xss_nil)
theorem sc_Run_m_rise : FnScope N_Run_m_rise ["self", "machine"] (defScope st_Run_m_rise) := ⟨rfl, rfl, rfl, by decide +kernel, rfl, by decide +kernel, by decide +kernel⟩
theorem okT_Run_m_rise (T : Txt P K mg A) : FnOk P w K mg base (L2.CX P w) 5 A.a_Run_m_rise A.e_Run_m_rise ["self", "machine"] (spD (ccOf A K w) 2 d_Run_m_rise) := by
  have ok_Run_m__lead := okT_Run_m__lead (P := P) (w := w) (base := base) T
  have ok_can_rise := okT_can_rise (P := P) (w := w) (base := base) T
  refine fn_ok (m := 2) (l := 2) T.F_Run_m_rise sc_Run_m_rise rfl rfl fun cdv A' outer s H E hr => ?_
  have tk := takes_of (E := E) (X := cxOf (L2.CX P w) P w K mg base N_Run_m_rise "Run.rise" (defScope st_Run_m_rise) A.a_Run_m_rise cdv A' outer s H E) rfl rfl rfl rfl
  have po : PassesOwn (model P w) _ _ (cxOf (L2.CX P w) P w K mg base N_Run_m_rise "Run.rise" (defScope st_Run_m_rise) A.a_Run_m_rise cdv A' outer s H E).xe := passes_of rfl
  exact (xss_cons (xs_if (xt_not (xt_val (xe_call ok_can_rise (hr.mono (by decide)) rfl T.m_can_rise T.k_can_rise T.n_can_rise tk (xa_cons (xe_fld (cs := [1]) T.f_house (xe_var 0)) (xa_cons (xe_ix rfl (xe_fld (cs := [1]) T.f__picture (xe_var 0)) xe_int (fun _ _ => rfl)) (xa_cons (xe_var 1) xa_nil)))))) (xss_cons (xs_raise rfl tk (T.x_NoRise.pmk (hr.mono (by decide)) rfl T.e_NoRise (xa_cons (xe_var 1) xa_nil))) xss_nil) xss_nil) (xss_cons (xs_expr (xe_meth (c := 1) T.cl_Run T.me_Run_m__lead ok_Run_m__lead (hr.mono (by decide)) T.n_Run_m__lead tk (xe_var 0) (xa_cons (xe_tup (xa_cons xe_str (xa_cons (xe_var 1) xa_nil))) xa_nil))) xss_nil))
theorem sc_run_of : FnScope N_run_of ["house", "history"] (defScope st_run_of) := ⟨rfl, rfl, rfl, by decide +kernel, rfl, by decide +kernel, by decide +kernel⟩
theorem okT_run_of (T : Txt P K mg A) : FnOk P w K mg base (L2.CX P w) 6 A.a_run_of A.e_run_of ["house", "history"] (spD (ccOf A K w) 2 d_run_of) := by
  have ok_Run_m___init__ := okT_Run_m___init__ (P := P) (w := w) (base := base) T
  have ok_Run_m_fall := okT_Run_m_fall (P := P) (w := w) (base := base) T
  have ok_Run_m_rise := okT_Run_m_rise (P := P) (w := w) (base := base) T
  refine fn_ok (m := 2) (l := 5) T.F_run_of sc_run_of rfl rfl fun cdv A' outer s H E hr => ?_
  have tk := takes_of (E := E) (X := cxOf (L2.CX P w) P w K mg base N_run_of "run_of" (defScope st_run_of) A.a_run_of cdv A' outer s H E) rfl rfl rfl rfl
  have po : PassesOwn (model P w) _ _ (cxOf (L2.CX P w) P w K mg base N_run_of "run_of" (defScope st_run_of) A.a_run_of cdv A' outer s H E).xe := passes_of rfl
  exact (xss_cons (xs_set (i := 2) sc_run_of.nd rfl (by first | exact .inl rfl | exact .inr rfl) (xe_make T.mk_Run ok_Run_m___init__ (hr.mono (by decide)) rfl T.g_Run T.n_Run_m___init__ (fun _ _ _ _ h => h) (fun _ _ _ _ h => h) tk (xa_cons (xe_var 0) xa_nil))) (xss_cons (xs_for po rfl (xi_seq rfl (xe_var 1)) (xg_tup rfl (xgs_cons (xg_name (i := 3) sc_run_of.nd rfl (by first | exact .inl rfl | exact .inr rfl)) (xgs_cons (xg_name (i := 4) sc_run_of.nd rfl (by first | exact .inl rfl | exact .inr rfl)) xgs_nil))) (xss_cons (xs_if (xt_cmp (o_eq (hu64 hr)) (noX_pv2 _) (xe_var 3) xe_str) (xss_cons (xs_expr (xe_meth (c := 1) T.cl_Run T.me_Run_m_fall ok_Run_m_fall (hr.mono (by decide)) T.n_Run_m_fall tk (xe_var 2) (xa_cons (xe_var 4) xa_nil))) xss_nil) (xss_cons (xs_expr (xe_meth (c := 1) T.cl_Run T.me_Run_m_rise ok_Run_m_rise (hr.mono (by decide)) T.n_Run_m_rise tk (xe_var 2) (xa_cons (xe_var 4) xa_nil))) xss_nil)) xss_nil)) (xss_cons (xs_ret (xe_var 2)) xss_nil)))
theorem sc_law : FnScope N_law ["script"] (defScope st_law) := ⟨rfl, rfl, rfl, by decide +kernel, rfl, by decide +kernel, by decide +kernel⟩
theorem okT_law (T : Txt P K mg A) : FnOk P w K mg base (L2.CX P w) 7 A.a_law A.e_law ["script"] (spD (ccOf A K w) 1 d_law) := by
  have ok_House_m___init__ := okT_House_m___init__ (P := P) (w := w) (base := base) T
  have ok_Run_m_load := okT_Run_m_load (P := P) (w := w) (base := base) T
  have ok_Run_m_picture := okT_Run_m_picture (P := P) (w := w) (base := base) T
  have ok__law_events := okT__law_events (P := P) (w := w) (base := base) T
  have ok__law_feed := okT__law_feed (P := P) (w := w) (base := base) T
  have ok__law_house := okT__law_house (P := P) (w := w) (base := base) T
  have ok__law_mixed := okT__law_mixed (P := P) (w := w) (base := base) T
  have ok__law_rules_hold := okT__law_rules_hold (P := P) (w := w) (base := base) T
  have ok__law_take := okT__law_take (P := P) (w := w) (base := base) T
  have ok__law_walk := okT__law_walk (P := P) (w := w) (base := base) T
  have ok_run_of := okT_run_of (P := P) (w := w) (base := base) T
  refine fn_ok (m := 1) (l := 19) T.F_law sc_law rfl rfl fun cdv A' outer s H E hr => ?_
  have tk := takes_of (E := E) (X := cxOf (L2.CX P w) P w K mg base N_law "law" (defScope st_law) A.a_law cdv A' outer s H E) rfl rfl rfl rfl
  have po : PassesOwn (model P w) _ _ (cxOf (L2.CX P w) P w K mg base N_law "law" (defScope st_law) A.a_law cdv A' outer s H E).xe := passes_of rfl
  exact (xss_cons (xs_for po rfl (xi_range1 rfl T.b_range (xa_cons (xe_callB (c_max2 rfl) (noX_pv2 _) rfl T.b_max (by decide +kernel) (xa_cons xe_int (xa_cons (xe_callB (c_min2 rfl) (noX_pv2 _) rfl T.b_min (by decide +kernel) (xa_cons xe_int (xa_cons (xe_callB (c_len rfl) (noX_pv1 _) rfl T.b_len PySem.boot_len (xa_cons (xe_var 0) xa_nil)) xa_nil))) xa_nil))) xa_nil)) (xg_name (i := 1) sc_law.nd rfl (by first | exact .inl rfl | exact .inr rfl)) (xss_cons (xs_set (i := 2) sc_law.nd rfl (by first | exact .inl rfl | exact .inr rfl) (xe_call ok__law_feed (hr.mono (by decide)) rfl T.m__law_feed T.k__law_feed T.n__law_feed tk (xa_cons (xe_var 0) (xa_cons (xe_var 1) xa_nil)))) (xss_cons (xs_asg (xe_call ok__law_house (hr.mono (by decide)) rfl T.m__law_house T.k__law_house T.n__law_house tk (xa_cons (xe_var 2) (xa_cons xe_int (xa_cons xe_int xa_nil)))) (xg_tup rfl (xgs_cons (xg_name (i := 3) sc_law.nd rfl (by first | exact .inl rfl | exact .inr rfl)) (xgs_cons (xg_name (i := 4) sc_law.nd rfl (by first | exact .inl rfl | exact .inr rfl)) xgs_nil)))) (xss_cons (xs_par (i := 5) (j := 6) rfl sc_law.nd rfl rfl (by decide) rfl rfl (xa_cons (xe_make T.mk_House ok_House_m___init__ (hr.mono (by decide)) rfl T.g_House T.n_House_m___init__ (fun _ _ _ _ h => h) (fun _ _ _ _ h => h) tk (xa_cons (xe_var 3) (xa_cons (xe_var 4) xa_nil))) (xa_cons (xe_callB (c_len rfl) (noX_pv1 _) rfl T.b_len PySem.boot_len (xa_cons (xe_var 3) xa_nil)) xa_nil)) rfl) (xss_cons (xs_set (i := 7) sc_law.nd rfl (by first | exact .inl rfl | exact .inr rfl) (xe_call ok__law_walk (hr.mono (by decide)) rfl T.m__law_walk T.k__law_walk T.n__law_walk tk (xa_cons (xe_var 2) (xa_cons (xe_var 6) (xa_cons xe_int (xa_cons (xe_call ok__law_take (hr.mono (by decide)) rfl T.m__law_take T.k__law_take T.n__law_take tk (xa_cons (xe_var 2) (xa_cons xe_int xa_nil))) xa_nil)))))) (xss_cons (xs_set (i := 8) sc_law.nd rfl (by first | exact .inl rfl | exact .inr rfl) (xe_call ok_run_of (hr.mono (by decide)) rfl T.m_run_of T.k_run_of T.n_run_of tk (xa_cons (xe_var 5) (xa_cons (xe_var 7) xa_nil)))) (xss_cons (xs_set (i := 9) sc_law.nd rfl (by first | exact .inl rfl | exact .inr rfl) (xe_ix rfl (xe_meth0 (c := 1) T.cl_Run T.me_Run_m_picture ok_Run_m_picture (hr.mono (by decide)) T.n_Run_m_picture tk (xe_var 8)) xe_int (fun _ _ => rfl))) (xss_cons (xs_setLc (i := 10) (own := [("one", 18)]) (ws := [18]) (P := (.nm 18)) (by decide) rfl rfl sc_law.nd rfl rfl (sw_true rfl rfl rfl (by decide +kernel)) (xi_range1 rfl T.b_range (xa_cons (xe_var 6) xa_nil)) (blkOk_by (N := N_law) (sc := defScope st_law) (by decide +kernel)) (fun _ _ _ _ _ => (xg_name (i := 18) sc_law.nd rfl (by first | exact .inl rfl | exact .inr rfl))) (fun _ _ _ _ _ => (xts_one (PW.pt (xw_and (xt_cmp (o_notIn rfl (hu65 hr)) (noX_pv2 _) (xe_var 18) (xe_var 9)) (xw_and1 (xt_cmp (o_eq (hu64 hr)) (noX_pv2 _) (xe_call ok__law_take (hr.mono (by decide)) rfl T.m__law_take T.k__law_take T.n__law_take takes0 (xa_cons (xe_var 2) (xa_cons xe_int xa_nil))) xe_int)))))) (fun _ _ _ _ _ => (xe_var 18))) (xss_cons (xs_set (i := 11) sc_law.nd rfl (by first | exact .inl rfl | exact .inr rfl) (xe_lst xa_nil)) (xss_cons (xs_for po rfl (xi_range1 rfl T.b_range (xa_cons xe_int xa_nil)) (xg_name (i := 12) sc_law.nd rfl (by first | exact .inl rfl | exact .inr rfl)) (xss_cons (xs_expr (xe_lmeth noX_append PySem.F.slot_list_append PySem.F.type_list_append m_append (xe_var 11) (xa_cons (xe_meth0 (c := 1) T.cl_Run T.me_Run_m_picture ok_Run_m_picture (hr.mono (by decide)) T.n_Run_m_picture tk (xe_call ok_run_of (hr.mono (by decide)) rfl T.m_run_of T.k_run_of T.n_run_of tk (xa_cons (xe_var 5) (xa_cons (xe_bin o_add noX_add (xe_var 7) (xe_lc (own := [("one", 18)]) (ws := [18]) (P := (.nm 18)) (by decide) rfl rfl sc_law.nd (xi_seq rfl (xe_call ok__law_mixed (hr.mono (by decide)) rfl T.m__law_mixed T.k__law_mixed T.n__law_mixed tk (xa_cons (xe_var 2) (xa_cons (xe_var 10) xa_nil)))) (blkOk_by (N := N_law) (sc := defScope st_law) (by decide +kernel)) (fun _ _ _ _ _ => (xg_name (i := 18) sc_law.nd rfl (by first | exact .inl rfl | exact .inr rfl))) (fun _ _ _ _ _ => xts_nil) (fun _ _ _ _ _ => (xe_tup (xa_cons xe_str (xa_cons (xe_var 18) xa_nil)))))) xa_nil)))) xa_nil))) xss_nil)) (xss_cons (xs_if (PW.pt (xw_or (xt_cmp (o_ne (hu64 hr)) (noX_pv2 _) (xe_ix rfl (xe_var 11) xe_int (fun _ _ => rfl)) (xe_ix rfl (xe_var 11) xe_int (fun _ _ => rfl))) (xw_or1 (xt_cmp (o_ne (hu64 hr)) (noX_pv2 _) (xe_ix rfl (xe_var 11) xe_int (fun _ _ => rfl)) (xe_ix rfl (xe_var 11) xe_int (fun _ _ => rfl)))))) (xss_cons (xs_ret xe_bl) xss_nil) xss_nil) (xss_cons (xs_if (xt_not (xt_val (xe_call ok__law_rules_hold (hr.mono (by decide)) rfl T.m__law_rules_hold T.k__law_rules_hold T.n__law_rules_hold tk (xa_cons (xe_var 4) (xa_cons (xe_ix rfl (xe_var 11) xe_int (fun _ _ => rfl)) xa_nil))))) (xss_cons (xs_ret xe_bl) xss_nil) xss_nil) (xss_cons (xs_for po rfl (xi_seq rfl (xe_call ok__law_events (hr.mono (by decide)) rfl T.m__law_events T.k__law_events T.n__law_events tk (xa_cons (xe_var 6) (xa_cons (xe_var 9) (xa_cons xe_int xa_nil))))) (xg_name (i := 13) sc_law.nd rfl (by first | exact .inl rfl | exact .inr rfl)) (xss_cons (xs_set (i := 14) sc_law.nd rfl (by first | exact .inl rfl | exact .inr rfl) (xe_call ok_run_of (hr.mono (by decide)) rfl T.m_run_of T.k_run_of T.n_run_of tk (xa_cons (xe_var 5) (xa_cons (xe_bin o_add noX_add (xe_var 7) (xe_lst (xa_cons (xe_var 13) xa_nil))) xa_nil)))) (xss_cons (xs_if (xt_not (xt_val (xe_call ok__law_rules_hold (hr.mono (by decide)) rfl T.m__law_rules_hold T.k__law_rules_hold T.n__law_rules_hold tk (xa_cons (xe_var 4) (xa_cons (xe_meth0 (c := 1) T.cl_Run T.me_Run_m_picture ok_Run_m_picture (hr.mono (by decide)) T.n_Run_m_picture tk (xe_var 14)) xa_nil))))) (xss_cons (xs_ret xe_bl) xss_nil) xss_nil) (xss_cons (xs_for po rfl (xi_seq rfl (xe_lc (own := [("one", 18)]) (ws := [18]) (P := (.nm 18)) (by decide) rfl rfl sc_law.nd (xi_range1 rfl T.b_range (xa_cons (xe_var 6) xa_nil)) (blkOk_by (N := N_law) (sc := defScope st_law) (by decide +kernel)) (fun _ _ _ _ _ => (xg_name (i := 18) sc_law.nd rfl (by first | exact .inl rfl | exact .inr rfl))) (fun _ _ _ _ _ => (xts_one (xt_cmp (o_ne (hu64 hr)) (noX_pv2 _) (xe_var 18) (xe_ix rfl (xe_var 13) xe_int (fun _ _ => rfl))))) (fun _ _ _ _ _ => (xe_var 18)))) (xg_name (i := 15) sc_law.nd rfl (by first | exact .inl rfl | exact .inr rfl)) (xss_cons (xs_par (i := 16) (j := 17) rfl sc_law.nd rfl rfl (by decide) rfl rfl (xa_cons (xe_meth (c := 1) T.cl_Run T.me_Run_m_load ok_Run_m_load (hr.mono (by decide)) T.n_Run_m_load tk (xe_var 8) (xa_cons (xe_var 15) xa_nil)) (xa_cons (xe_meth (c := 1) T.cl_Run T.me_Run_m_load ok_Run_m_load (hr.mono (by decide)) T.n_Run_m_load tk (xe_var 14) (xa_cons (xe_var 15) xa_nil)) xa_nil)) rfl) (xss_cons (xs_if (PW.pt (xw_and (xt_cmp (o_eq (hu64 hr)) (noX_pv2 _) (xe_ix rfl (xe_var 13) xe_int (fun _ _ => rfl)) xe_str) (xw_and1 (xt_cmp o_lt (noX_pv2 _) (xe_var 17) (xe_var 16))))) (xss_cons (xs_ret xe_bl) xss_nil) xss_nil) (xss_cons (xs_if (PW.pt (xw_and (xt_cmp (o_eq (hu64 hr)) (noX_pv2 _) (xe_ix rfl (xe_var 13) xe_int (fun _ _ => rfl)) xe_str) (xw_and1 (xt_cmp o_gt (noX_pv2 _) (xe_var 17) (xe_var 16))))) (xss_cons (xs_ret xe_bl) xss_nil) xss_nil) xss_nil)))) xss_nil)))) xss_nil))))))))))))) (xss_cons (xs_ret xe_bl) xss_nil))
end
theorem txt_mk {P : Program} {K : PySem.W.Frag} {h : Heap} {mg : Str → Option Value} (X : K.In h) (G : h.Ns mainGlobals mg) {g_House g_Run f_is_whole f__are_strengths f__can_be_services f_is_machine f_is_order f__is_service f_House_m___init__ f_House_m_services f_load_in f_Run_m_load f_Run_m_picture f__law_events f__law_feed f__law_take f__law_order f__law_pick f__law_house f__law_mixed f__law_first f__law_rules_hold f__law_walk f_beginning f_Run_m___init__ f_down_behind f_first_living f_place_behind f_picture_behind f_Run_m__lead f_House_m___len__ f_can_fall f_Run_m_fall f_can_rise f_Run_m_rise f_run_of f_law k_RULES x_BadHouse fi_BadHouse cc_BadHouse cda_BadHouse N_BadHouse x_NoFall fi_NoFall cc_NoFall cda_NoFall N_NoFall x_NoRise fi_NoRise cc_NoRise cda_NoRise N_NoRise : Addr}
    {oc_is_whole kV_is_whole dc_is_whole pm_is_whole cd_is_whole ct_is_whole : Value} {od_is_whole an_is_whole : Option Addr} {sl_is_whole : Array (Option Value)} {oc__are_strengths kV__are_strengths dc__are_strengths pm__are_strengths cd__are_strengths ct__are_strengths : Value} {od__are_strengths an__are_strengths : Option Addr} {sl__are_strengths : Array (Option Value)} {oc__can_be_services kV__can_be_services dc__can_be_services pm__can_be_services cd__can_be_services ct__can_be_services : Value} {od__can_be_services an__can_be_services : Option Addr} {sl__can_be_services : Array (Option Value)} {oc_is_machine kV_is_machine dc_is_machine pm_is_machine cd_is_machine ct_is_machine : Value} {od_is_machine an_is_machine : Option Addr} {sl_is_machine : Array (Option Value)} {oc_is_order kV_is_order dc_is_order pm_is_order cd_is_order ct_is_order : Value} {od_is_order an_is_order : Option Addr} {sl_is_order : Array (Option Value)} {oc__is_service kV__is_service dc__is_service pm__is_service cd__is_service ct__is_service : Value} {od__is_service an__is_service : Option Addr} {sl__is_service : Array (Option Value)} {oc_House_m___init__ kV_House_m___init__ dc_House_m___init__ pm_House_m___init__ cd_House_m___init__ ct_House_m___init__ : Value} {od_House_m___init__ an_House_m___init__ : Option Addr} {sl_House_m___init__ : Array (Option Value)} {oc_House_m_services kV_House_m_services dc_House_m_services pm_House_m_services cd_House_m_services ct_House_m_services : Value} {od_House_m_services an_House_m_services : Option Addr} {sl_House_m_services : Array (Option Value)} {oc_load_in kV_load_in dc_load_in pm_load_in cd_load_in ct_load_in : Value} {od_load_in an_load_in : Option Addr} {sl_load_in : Array (Option Value)} {oc_Run_m_load kV_Run_m_load dc_Run_m_load pm_Run_m_load cd_Run_m_load ct_Run_m_load : Value} {od_Run_m_load an_Run_m_load : Option Addr} {sl_Run_m_load : Array (Option Value)} {oc_Run_m_picture kV_Run_m_picture dc_Run_m_picture pm_Run_m_picture cd_Run_m_picture ct_Run_m_picture : Value} {od_Run_m_picture an_Run_m_picture : Option Addr} {sl_Run_m_picture : Array (Option Value)} {oc__law_events kV__law_events dc__law_events pm__law_events cd__law_events ct__law_events : Value} {od__law_events an__law_events : Option Addr} {sl__law_events : Array (Option Value)} {oc__law_feed kV__law_feed dc__law_feed pm__law_feed cd__law_feed ct__law_feed : Value} {od__law_feed an__law_feed : Option Addr} {sl__law_feed : Array (Option Value)} {oc__law_take kV__law_take dc__law_take pm__law_take cd__law_take ct__law_take : Value} {od__law_take an__law_take : Option Addr} {sl__law_take : Array (Option Value)} {oc__law_order kV__law_order dc__law_order pm__law_order cd__law_order ct__law_order : Value} {od__law_order an__law_order : Option Addr} {sl__law_order : Array (Option Value)} {oc__law_pick kV__law_pick dc__law_pick pm__law_pick cd__law_pick ct__law_pick : Value} {od__law_pick an__law_pick : Option Addr} {sl__law_pick : Array (Option Value)} {oc__law_house kV__law_house dc__law_house pm__law_house cd__law_house ct__law_house : Value} {od__law_house an__law_house : Option Addr} {sl__law_house : Array (Option Value)} {oc__law_mixed kV__law_mixed dc__law_mixed pm__law_mixed cd__law_mixed ct__law_mixed : Value} {od__law_mixed an__law_mixed : Option Addr} {sl__law_mixed : Array (Option Value)} {oc__law_first kV__law_first dc__law_first pm__law_first cd__law_first ct__law_first : Value} {od__law_first an__law_first : Option Addr} {sl__law_first : Array (Option Value)} {oc__law_rules_hold kV__law_rules_hold dc__law_rules_hold pm__law_rules_hold cd__law_rules_hold ct__law_rules_hold : Value} {od__law_rules_hold an__law_rules_hold : Option Addr} {sl__law_rules_hold : Array (Option Value)} {oc__law_walk kV__law_walk dc__law_walk pm__law_walk cd__law_walk ct__law_walk : Value} {od__law_walk an__law_walk : Option Addr} {sl__law_walk : Array (Option Value)} {oc_beginning kV_beginning dc_beginning pm_beginning cd_beginning ct_beginning : Value} {od_beginning an_beginning : Option Addr} {sl_beginning : Array (Option Value)} {oc_Run_m___init__ kV_Run_m___init__ dc_Run_m___init__ pm_Run_m___init__ cd_Run_m___init__ ct_Run_m___init__ : Value} {od_Run_m___init__ an_Run_m___init__ : Option Addr} {sl_Run_m___init__ : Array (Option Value)} {oc_down_behind kV_down_behind dc_down_behind pm_down_behind cd_down_behind ct_down_behind : Value} {od_down_behind an_down_behind : Option Addr} {sl_down_behind : Array (Option Value)} {oc_first_living kV_first_living dc_first_living pm_first_living cd_first_living ct_first_living : Value} {od_first_living an_first_living : Option Addr} {sl_first_living : Array (Option Value)} {oc_place_behind kV_place_behind dc_place_behind pm_place_behind cd_place_behind ct_place_behind : Value} {od_place_behind an_place_behind : Option Addr} {sl_place_behind : Array (Option Value)} {oc_picture_behind kV_picture_behind dc_picture_behind pm_picture_behind cd_picture_behind ct_picture_behind : Value} {od_picture_behind an_picture_behind : Option Addr} {sl_picture_behind : Array (Option Value)} {oc_Run_m__lead kV_Run_m__lead dc_Run_m__lead pm_Run_m__lead cd_Run_m__lead ct_Run_m__lead : Value} {od_Run_m__lead an_Run_m__lead : Option Addr} {sl_Run_m__lead : Array (Option Value)} {oc_House_m___len__ kV_House_m___len__ dc_House_m___len__ pm_House_m___len__ cd_House_m___len__ ct_House_m___len__ : Value} {od_House_m___len__ an_House_m___len__ : Option Addr} {sl_House_m___len__ : Array (Option Value)} {oc_can_fall kV_can_fall dc_can_fall pm_can_fall cd_can_fall ct_can_fall : Value} {od_can_fall an_can_fall : Option Addr} {sl_can_fall : Array (Option Value)} {oc_Run_m_fall kV_Run_m_fall dc_Run_m_fall pm_Run_m_fall cd_Run_m_fall ct_Run_m_fall : Value} {od_Run_m_fall an_Run_m_fall : Option Addr} {sl_Run_m_fall : Array (Option Value)} {oc_can_rise kV_can_rise dc_can_rise pm_can_rise cd_can_rise ct_can_rise : Value} {od_can_rise an_can_rise : Option Addr} {sl_can_rise : Array (Option Value)} {oc_Run_m_rise kV_Run_m_rise dc_Run_m_rise pm_Run_m_rise cd_Run_m_rise ct_Run_m_rise : Value} {od_Run_m_rise an_Run_m_rise : Option Addr} {sl_Run_m_rise : Array (Option Value)} {oc_run_of kV_run_of dc_run_of pm_run_of cd_run_of ct_run_of : Value} {od_run_of an_run_of : Option Addr} {sl_run_of : Array (Option Value)} {oc_law kV_law dc_law pm_law cd_law ct_law : Value} {od_law an_law : Option Addr} {sl_law : Array (Option Value)} {tk_MOST_MACHINES : Tok} {tk_MOST_SERVICES : Tok} {tk_MOST_STRENGTH : Tok} {tk_MOST_WEIGHT : Tok} {tk_NOWHERE : Tok} {tk_RULES_0 tk_RULES_1 tk_RULES_2 : Tok} {dk_RULES : Option Addr} {nk_RULES : Nat} {sk_RULES : Array (Option Value)} {nm_BadHouse q_BadHouse file_BadHouse : Str} {bs_BadHouse bm_BadHouse : List Value} {sn_BadHouse : List Str} {sub_BadHouse : List Value} {ab_BadHouse : Bool} {col_BadHouse : Option Bool} {dd_BadHouse od_BadHouse an_BadHouse cd_BadHouse cld_BadHouse : Option Addr} {k0_BadHouse k1_BadHouse k2_BadHouse k3_BadHouse k5_BadHouse : Option Value} {oc_BadHouse kV_BadHouse dc_BadHouse pm_BadHouse ct_BadHouse cq_BadHouse cl_BadHouse : Value} {sl_BadHouse cs_BadHouse csl_BadHouse : Array (Option Value)} {vs_BadHouse : Array Value} {tf_BadHouse : Tok} {nm_NoFall q_NoFall file_NoFall : Str} {bs_NoFall bm_NoFall : List Value} {sn_NoFall : List Str} {sub_NoFall : List Value} {ab_NoFall : Bool} {col_NoFall : Option Bool} {dd_NoFall od_NoFall an_NoFall cd_NoFall cld_NoFall : Option Addr} {k0_NoFall k1_NoFall k2_NoFall k3_NoFall k5_NoFall : Option Value} {oc_NoFall kV_NoFall dc_NoFall pm_NoFall ct_NoFall cq_NoFall cl_NoFall : Value} {sl_NoFall cs_NoFall csl_NoFall : Array (Option Value)} {vs_NoFall : Array Value} {tf_NoFall : Tok} {nm_NoRise q_NoRise file_NoRise : Str} {bs_NoRise bm_NoRise : List Value} {sn_NoRise : List Str} {sub_NoRise : List Value} {ab_NoRise : Bool} {col_NoRise : Option Bool} {dd_NoRise od_NoRise an_NoRise cd_NoRise cld_NoRise : Option Addr} {k0_NoRise k1_NoRise k2_NoRise k3_NoRise k5_NoRise : Option Value} {oc_NoRise kV_NoRise dc_NoRise pm_NoRise ct_NoRise cq_NoRise cl_NoRise : Value} {sl_NoRise cs_NoRise csl_NoRise : Array (Option Value)} {vs_NoRise : Array Value} {tf_NoRise : Tok}
    (hg_House : PySem.W.nsIn K mainGlobals "House" = some (some (.ref g_House)))
    (hpg_House : PySem.W.plainGet K g_House Str.empty = true)
    (hhd_House : PySem.W.hasDictIn K g_House = true)
    (hpo_House : PySem.W.plainOver K g_House = true)
    (hsa_House : PySem.W.findIn K (.ref g_House) "__setattr__" = some (some (.builtin "object.__setattr__")))
    (hmk_House : PySem.W.makesIn K g_House = true)
    (hkc_House : PySem.W.keepIn K (.ref g_House) = true)
    (hg_Run : PySem.W.nsIn K mainGlobals "Run" = some (some (.ref g_Run)))
    (hpg_Run : PySem.W.plainGet K g_Run Str.empty = true)
    (hhd_Run : PySem.W.hasDictIn K g_Run = true)
    (hpo_Run : PySem.W.plainOver K g_Run = true)
    (hsa_Run : PySem.W.findIn K (.ref g_Run) "__setattr__" = some (some (.builtin "object.__setattr__")))
    (hmk_Run : PySem.W.makesIn K g_Run = true)
    (hkc_Run : PySem.W.keepIn K (.ref g_Run) = true)
    (ha_is_whole : PySem.W.nsIn K mainGlobals "is_whole" = some (some (.ref f_is_whole)))
    (hl_is_whole : K.lookup f_is_whole = some ⟨oc_is_whole, od_is_whole, .func (PySem.W.fnOf "is_whole" "is_whole" (defArgs st_is_whole) (defBody st_is_whole) (defScope st_is_whole) .none kV_is_whole dc_is_whole pm_is_whole an_is_whole cd_is_whole ct_is_whole), sl_is_whole⟩)
    (hc_is_whole : PySem.W.codeIn K cd_is_whole "is_whole" = true)
    (hk_is_whole : PySem.W.keepIn K (.ref f_is_whole) = true)
    (ha__are_strengths : PySem.W.nsIn K mainGlobals "_are_strengths" = some (some (.ref f__are_strengths)))
    (hl__are_strengths : K.lookup f__are_strengths = some ⟨oc__are_strengths, od__are_strengths, .func (PySem.W.fnOf "_are_strengths" "_are_strengths" (defArgs st__are_strengths) (defBody st__are_strengths) (defScope st__are_strengths) .none kV__are_strengths dc__are_strengths pm__are_strengths an__are_strengths cd__are_strengths ct__are_strengths), sl__are_strengths⟩)
    (hc__are_strengths : PySem.W.codeIn K cd__are_strengths "_are_strengths" = true)
    (hk__are_strengths : PySem.W.keepIn K (.ref f__are_strengths) = true)
    (ha__can_be_services : PySem.W.nsIn K mainGlobals "_can_be_services" = some (some (.ref f__can_be_services)))
    (hl__can_be_services : K.lookup f__can_be_services = some ⟨oc__can_be_services, od__can_be_services, .func (PySem.W.fnOf "_can_be_services" "_can_be_services" (defArgs st__can_be_services) (defBody st__can_be_services) (defScope st__can_be_services) .none kV__can_be_services dc__can_be_services pm__can_be_services an__can_be_services cd__can_be_services ct__can_be_services), sl__can_be_services⟩)
    (hc__can_be_services : PySem.W.codeIn K cd__can_be_services "_can_be_services" = true)
    (hk__can_be_services : PySem.W.keepIn K (.ref f__can_be_services) = true)
    (ha_is_machine : PySem.W.nsIn K mainGlobals "is_machine" = some (some (.ref f_is_machine)))
    (hl_is_machine : K.lookup f_is_machine = some ⟨oc_is_machine, od_is_machine, .func (PySem.W.fnOf "is_machine" "is_machine" (defArgs st_is_machine) (defBody st_is_machine) (defScope st_is_machine) .none kV_is_machine dc_is_machine pm_is_machine an_is_machine cd_is_machine ct_is_machine), sl_is_machine⟩)
    (hc_is_machine : PySem.W.codeIn K cd_is_machine "is_machine" = true)
    (hk_is_machine : PySem.W.keepIn K (.ref f_is_machine) = true)
    (ha_is_order : PySem.W.nsIn K mainGlobals "is_order" = some (some (.ref f_is_order)))
    (hl_is_order : K.lookup f_is_order = some ⟨oc_is_order, od_is_order, .func (PySem.W.fnOf "is_order" "is_order" (defArgs st_is_order) (defBody st_is_order) (defScope st_is_order) .none kV_is_order dc_is_order pm_is_order an_is_order cd_is_order ct_is_order), sl_is_order⟩)
    (hc_is_order : PySem.W.codeIn K cd_is_order "is_order" = true)
    (hk_is_order : PySem.W.keepIn K (.ref f_is_order) = true)
    (ha__is_service : PySem.W.nsIn K mainGlobals "_is_service" = some (some (.ref f__is_service)))
    (hl__is_service : K.lookup f__is_service = some ⟨oc__is_service, od__is_service, .func (PySem.W.fnOf "_is_service" "_is_service" (defArgs st__is_service) (defBody st__is_service) (defScope st__is_service) .none kV__is_service dc__is_service pm__is_service an__is_service cd__is_service ct__is_service), sl__is_service⟩)
    (hc__is_service : PySem.W.codeIn K cd__is_service "_is_service" = true)
    (hk__is_service : PySem.W.keepIn K (.ref f__is_service) = true)
    (ha_House_m___init__ : PySem.W.findIn K (.ref g_House) "__init__" = some (some (.ref f_House_m___init__)))
    (hi_House_m___init__ : PySem.W.isFn K (.ref f_House_m___init__) = true)
    (hl_House_m___init__ : K.lookup f_House_m___init__ = some ⟨oc_House_m___init__, od_House_m___init__, .func (PySem.W.fnOf "__init__" "House.__init__" (defArgs st_House_m___init__) (defBody st_House_m___init__) (defScope st_House_m___init__) .none kV_House_m___init__ dc_House_m___init__ pm_House_m___init__ an_House_m___init__ cd_House_m___init__ ct_House_m___init__), sl_House_m___init__⟩)
    (hc_House_m___init__ : PySem.W.codeIn K cd_House_m___init__ "House.__init__" = true)
    (hk_House_m___init__ : PySem.W.keepIn K (.ref f_House_m___init__) = true)
    (ha_House_m_services : PySem.W.findIn K (.ref g_House) "services" = some (some (.ref f_House_m_services)))
    (hi_House_m_services : PySem.W.isFn K (.ref f_House_m_services) = true)
    (hl_House_m_services : K.lookup f_House_m_services = some ⟨oc_House_m_services, od_House_m_services, .func (PySem.W.fnOf "services" "House.services" (defArgs st_House_m_services) (defBody st_House_m_services) (defScope st_House_m_services) .none kV_House_m_services dc_House_m_services pm_House_m_services an_House_m_services cd_House_m_services ct_House_m_services), sl_House_m_services⟩)
    (hc_House_m_services : PySem.W.codeIn K cd_House_m_services "House.services" = true)
    (hk_House_m_services : PySem.W.keepIn K (.ref f_House_m_services) = true)
    (ha_load_in : PySem.W.nsIn K mainGlobals "load_in" = some (some (.ref f_load_in)))
    (hl_load_in : K.lookup f_load_in = some ⟨oc_load_in, od_load_in, .func (PySem.W.fnOf "load_in" "load_in" (defArgs st_load_in) (defBody st_load_in) (defScope st_load_in) .none kV_load_in dc_load_in pm_load_in an_load_in cd_load_in ct_load_in), sl_load_in⟩)
    (hc_load_in : PySem.W.codeIn K cd_load_in "load_in" = true)
    (hk_load_in : PySem.W.keepIn K (.ref f_load_in) = true)
    (ha_Run_m_load : PySem.W.findIn K (.ref g_Run) "load" = some (some (.ref f_Run_m_load)))
    (hi_Run_m_load : PySem.W.isFn K (.ref f_Run_m_load) = true)
    (hl_Run_m_load : K.lookup f_Run_m_load = some ⟨oc_Run_m_load, od_Run_m_load, .func (PySem.W.fnOf "load" "Run.load" (defArgs st_Run_m_load) (defBody st_Run_m_load) (defScope st_Run_m_load) .none kV_Run_m_load dc_Run_m_load pm_Run_m_load an_Run_m_load cd_Run_m_load ct_Run_m_load), sl_Run_m_load⟩)
    (hc_Run_m_load : PySem.W.codeIn K cd_Run_m_load "Run.load" = true)
    (hk_Run_m_load : PySem.W.keepIn K (.ref f_Run_m_load) = true)
    (ha_Run_m_picture : PySem.W.findIn K (.ref g_Run) "picture" = some (some (.ref f_Run_m_picture)))
    (hi_Run_m_picture : PySem.W.isFn K (.ref f_Run_m_picture) = true)
    (hl_Run_m_picture : K.lookup f_Run_m_picture = some ⟨oc_Run_m_picture, od_Run_m_picture, .func (PySem.W.fnOf "picture" "Run.picture" (defArgs st_Run_m_picture) (defBody st_Run_m_picture) (defScope st_Run_m_picture) .none kV_Run_m_picture dc_Run_m_picture pm_Run_m_picture an_Run_m_picture cd_Run_m_picture ct_Run_m_picture), sl_Run_m_picture⟩)
    (hc_Run_m_picture : PySem.W.codeIn K cd_Run_m_picture "Run.picture" = true)
    (hk_Run_m_picture : PySem.W.keepIn K (.ref f_Run_m_picture) = true)
    (ha__law_events : PySem.W.nsIn K mainGlobals "_law_events" = some (some (.ref f__law_events)))
    (hl__law_events : K.lookup f__law_events = some ⟨oc__law_events, od__law_events, .func (PySem.W.fnOf "_law_events" "_law_events" (defArgs st__law_events) (defBody st__law_events) (defScope st__law_events) .none kV__law_events dc__law_events pm__law_events an__law_events cd__law_events ct__law_events), sl__law_events⟩)
    (hc__law_events : PySem.W.codeIn K cd__law_events "_law_events" = true)
    (hk__law_events : PySem.W.keepIn K (.ref f__law_events) = true)
    (ha__law_feed : PySem.W.nsIn K mainGlobals "_law_feed" = some (some (.ref f__law_feed)))
    (hl__law_feed : K.lookup f__law_feed = some ⟨oc__law_feed, od__law_feed, .func (PySem.W.fnOf "_law_feed" "_law_feed" (defArgs st__law_feed) (defBody st__law_feed) (defScope st__law_feed) .none kV__law_feed dc__law_feed pm__law_feed an__law_feed cd__law_feed ct__law_feed), sl__law_feed⟩)
    (hc__law_feed : PySem.W.codeIn K cd__law_feed "_law_feed" = true)
    (hk__law_feed : PySem.W.keepIn K (.ref f__law_feed) = true)
    (ha__law_take : PySem.W.nsIn K mainGlobals "_law_take" = some (some (.ref f__law_take)))
    (hl__law_take : K.lookup f__law_take = some ⟨oc__law_take, od__law_take, .func (PySem.W.fnOf "_law_take" "_law_take" (defArgs st__law_take) (defBody st__law_take) (defScope st__law_take) .none kV__law_take dc__law_take pm__law_take an__law_take cd__law_take ct__law_take), sl__law_take⟩)
    (hc__law_take : PySem.W.codeIn K cd__law_take "_law_take" = true)
    (hk__law_take : PySem.W.keepIn K (.ref f__law_take) = true)
    (ha__law_order : PySem.W.nsIn K mainGlobals "_law_order" = some (some (.ref f__law_order)))
    (hl__law_order : K.lookup f__law_order = some ⟨oc__law_order, od__law_order, .func (PySem.W.fnOf "_law_order" "_law_order" (defArgs st__law_order) (defBody st__law_order) (defScope st__law_order) .none kV__law_order dc__law_order pm__law_order an__law_order cd__law_order ct__law_order), sl__law_order⟩)
    (hc__law_order : PySem.W.codeIn K cd__law_order "_law_order" = true)
    (hk__law_order : PySem.W.keepIn K (.ref f__law_order) = true)
    (ha__law_pick : PySem.W.nsIn K mainGlobals "_law_pick" = some (some (.ref f__law_pick)))
    (hl__law_pick : K.lookup f__law_pick = some ⟨oc__law_pick, od__law_pick, .func (PySem.W.fnOf "_law_pick" "_law_pick" (defArgs st__law_pick) (defBody st__law_pick) (defScope st__law_pick) .none kV__law_pick dc__law_pick pm__law_pick an__law_pick cd__law_pick ct__law_pick), sl__law_pick⟩)
    (hc__law_pick : PySem.W.codeIn K cd__law_pick "_law_pick" = true)
    (hk__law_pick : PySem.W.keepIn K (.ref f__law_pick) = true)
    (ha__law_house : PySem.W.nsIn K mainGlobals "_law_house" = some (some (.ref f__law_house)))
    (hl__law_house : K.lookup f__law_house = some ⟨oc__law_house, od__law_house, .func (PySem.W.fnOf "_law_house" "_law_house" (defArgs st__law_house) (defBody st__law_house) (defScope st__law_house) .none kV__law_house dc__law_house pm__law_house an__law_house cd__law_house ct__law_house), sl__law_house⟩)
    (hc__law_house : PySem.W.codeIn K cd__law_house "_law_house" = true)
    (hk__law_house : PySem.W.keepIn K (.ref f__law_house) = true)
    (ha__law_mixed : PySem.W.nsIn K mainGlobals "_law_mixed" = some (some (.ref f__law_mixed)))
    (hl__law_mixed : K.lookup f__law_mixed = some ⟨oc__law_mixed, od__law_mixed, .func (PySem.W.fnOf "_law_mixed" "_law_mixed" (defArgs st__law_mixed) (defBody st__law_mixed) (defScope st__law_mixed) .none kV__law_mixed dc__law_mixed pm__law_mixed an__law_mixed cd__law_mixed ct__law_mixed), sl__law_mixed⟩)
    (hc__law_mixed : PySem.W.codeIn K cd__law_mixed "_law_mixed" = true)
    (hk__law_mixed : PySem.W.keepIn K (.ref f__law_mixed) = true)
    (ha__law_first : PySem.W.nsIn K mainGlobals "_law_first" = some (some (.ref f__law_first)))
    (hl__law_first : K.lookup f__law_first = some ⟨oc__law_first, od__law_first, .func (PySem.W.fnOf "_law_first" "_law_first" (defArgs st__law_first) (defBody st__law_first) (defScope st__law_first) .none kV__law_first dc__law_first pm__law_first an__law_first cd__law_first ct__law_first), sl__law_first⟩)
    (hc__law_first : PySem.W.codeIn K cd__law_first "_law_first" = true)
    (hk__law_first : PySem.W.keepIn K (.ref f__law_first) = true)
    (ha__law_rules_hold : PySem.W.nsIn K mainGlobals "_law_rules_hold" = some (some (.ref f__law_rules_hold)))
    (hl__law_rules_hold : K.lookup f__law_rules_hold = some ⟨oc__law_rules_hold, od__law_rules_hold, .func (PySem.W.fnOf "_law_rules_hold" "_law_rules_hold" (defArgs st__law_rules_hold) (defBody st__law_rules_hold) (defScope st__law_rules_hold) .none kV__law_rules_hold dc__law_rules_hold pm__law_rules_hold an__law_rules_hold cd__law_rules_hold ct__law_rules_hold), sl__law_rules_hold⟩)
    (hc__law_rules_hold : PySem.W.codeIn K cd__law_rules_hold "_law_rules_hold" = true)
    (hk__law_rules_hold : PySem.W.keepIn K (.ref f__law_rules_hold) = true)
    (ha__law_walk : PySem.W.nsIn K mainGlobals "_law_walk" = some (some (.ref f__law_walk)))
    (hl__law_walk : K.lookup f__law_walk = some ⟨oc__law_walk, od__law_walk, .func (PySem.W.fnOf "_law_walk" "_law_walk" (defArgs st__law_walk) (defBody st__law_walk) (defScope st__law_walk) .none kV__law_walk dc__law_walk pm__law_walk an__law_walk cd__law_walk ct__law_walk), sl__law_walk⟩)
    (hc__law_walk : PySem.W.codeIn K cd__law_walk "_law_walk" = true)
    (hk__law_walk : PySem.W.keepIn K (.ref f__law_walk) = true)
    (ha_beginning : PySem.W.nsIn K mainGlobals "beginning" = some (some (.ref f_beginning)))
    (hl_beginning : K.lookup f_beginning = some ⟨oc_beginning, od_beginning, .func (PySem.W.fnOf "beginning" "beginning" (defArgs st_beginning) (defBody st_beginning) (defScope st_beginning) .none kV_beginning dc_beginning pm_beginning an_beginning cd_beginning ct_beginning), sl_beginning⟩)
    (hc_beginning : PySem.W.codeIn K cd_beginning "beginning" = true)
    (hk_beginning : PySem.W.keepIn K (.ref f_beginning) = true)
    (ha_Run_m___init__ : PySem.W.findIn K (.ref g_Run) "__init__" = some (some (.ref f_Run_m___init__)))
    (hi_Run_m___init__ : PySem.W.isFn K (.ref f_Run_m___init__) = true)
    (hl_Run_m___init__ : K.lookup f_Run_m___init__ = some ⟨oc_Run_m___init__, od_Run_m___init__, .func (PySem.W.fnOf "__init__" "Run.__init__" (defArgs st_Run_m___init__) (defBody st_Run_m___init__) (defScope st_Run_m___init__) .none kV_Run_m___init__ dc_Run_m___init__ pm_Run_m___init__ an_Run_m___init__ cd_Run_m___init__ ct_Run_m___init__), sl_Run_m___init__⟩)
    (hc_Run_m___init__ : PySem.W.codeIn K cd_Run_m___init__ "Run.__init__" = true)
    (hk_Run_m___init__ : PySem.W.keepIn K (.ref f_Run_m___init__) = true)
    (ha_down_behind : PySem.W.nsIn K mainGlobals "down_behind" = some (some (.ref f_down_behind)))
    (hl_down_behind : K.lookup f_down_behind = some ⟨oc_down_behind, od_down_behind, .func (PySem.W.fnOf "down_behind" "down_behind" (defArgs st_down_behind) (defBody st_down_behind) (defScope st_down_behind) .none kV_down_behind dc_down_behind pm_down_behind an_down_behind cd_down_behind ct_down_behind), sl_down_behind⟩)
    (hc_down_behind : PySem.W.codeIn K cd_down_behind "down_behind" = true)
    (hk_down_behind : PySem.W.keepIn K (.ref f_down_behind) = true)
    (ha_first_living : PySem.W.nsIn K mainGlobals "first_living" = some (some (.ref f_first_living)))
    (hl_first_living : K.lookup f_first_living = some ⟨oc_first_living, od_first_living, .func (PySem.W.fnOf "first_living" "first_living" (defArgs st_first_living) (defBody st_first_living) (defScope st_first_living) .none kV_first_living dc_first_living pm_first_living an_first_living cd_first_living ct_first_living), sl_first_living⟩)
    (hc_first_living : PySem.W.codeIn K cd_first_living "first_living" = true)
    (hk_first_living : PySem.W.keepIn K (.ref f_first_living) = true)
    (ha_place_behind : PySem.W.nsIn K mainGlobals "place_behind" = some (some (.ref f_place_behind)))
    (hl_place_behind : K.lookup f_place_behind = some ⟨oc_place_behind, od_place_behind, .func (PySem.W.fnOf "place_behind" "place_behind" (defArgs st_place_behind) (defBody st_place_behind) (defScope st_place_behind) .none kV_place_behind dc_place_behind pm_place_behind an_place_behind cd_place_behind ct_place_behind), sl_place_behind⟩)
    (hc_place_behind : PySem.W.codeIn K cd_place_behind "place_behind" = true)
    (hk_place_behind : PySem.W.keepIn K (.ref f_place_behind) = true)
    (ha_picture_behind : PySem.W.nsIn K mainGlobals "picture_behind" = some (some (.ref f_picture_behind)))
    (hl_picture_behind : K.lookup f_picture_behind = some ⟨oc_picture_behind, od_picture_behind, .func (PySem.W.fnOf "picture_behind" "picture_behind" (defArgs st_picture_behind) (defBody st_picture_behind) (defScope st_picture_behind) .none kV_picture_behind dc_picture_behind pm_picture_behind an_picture_behind cd_picture_behind ct_picture_behind), sl_picture_behind⟩)
    (hc_picture_behind : PySem.W.codeIn K cd_picture_behind "picture_behind" = true)
    (hk_picture_behind : PySem.W.keepIn K (.ref f_picture_behind) = true)
    (ha_Run_m__lead : PySem.W.findIn K (.ref g_Run) "_lead" = some (some (.ref f_Run_m__lead)))
    (hi_Run_m__lead : PySem.W.isFn K (.ref f_Run_m__lead) = true)
    (hl_Run_m__lead : K.lookup f_Run_m__lead = some ⟨oc_Run_m__lead, od_Run_m__lead, .func (PySem.W.fnOf "_lead" "Run._lead" (defArgs st_Run_m__lead) (defBody st_Run_m__lead) (defScope st_Run_m__lead) .none kV_Run_m__lead dc_Run_m__lead pm_Run_m__lead an_Run_m__lead cd_Run_m__lead ct_Run_m__lead), sl_Run_m__lead⟩)
    (hc_Run_m__lead : PySem.W.codeIn K cd_Run_m__lead "Run._lead" = true)
    (hk_Run_m__lead : PySem.W.keepIn K (.ref f_Run_m__lead) = true)
    (ha_House_m___len__ : PySem.W.findIn K (.ref g_House) "__len__" = some (some (.ref f_House_m___len__)))
    (hi_House_m___len__ : PySem.W.isFn K (.ref f_House_m___len__) = true)
    (hl_House_m___len__ : K.lookup f_House_m___len__ = some ⟨oc_House_m___len__, od_House_m___len__, .func (PySem.W.fnOf "__len__" "House.__len__" (defArgs st_House_m___len__) (defBody st_House_m___len__) (defScope st_House_m___len__) .none kV_House_m___len__ dc_House_m___len__ pm_House_m___len__ an_House_m___len__ cd_House_m___len__ ct_House_m___len__), sl_House_m___len__⟩)
    (hc_House_m___len__ : PySem.W.codeIn K cd_House_m___len__ "House.__len__" = true)
    (hk_House_m___len__ : PySem.W.keepIn K (.ref f_House_m___len__) = true)
    (ha_can_fall : PySem.W.nsIn K mainGlobals "can_fall" = some (some (.ref f_can_fall)))
    (hl_can_fall : K.lookup f_can_fall = some ⟨oc_can_fall, od_can_fall, .func (PySem.W.fnOf "can_fall" "can_fall" (defArgs st_can_fall) (defBody st_can_fall) (defScope st_can_fall) .none kV_can_fall dc_can_fall pm_can_fall an_can_fall cd_can_fall ct_can_fall), sl_can_fall⟩)
    (hc_can_fall : PySem.W.codeIn K cd_can_fall "can_fall" = true)
    (hk_can_fall : PySem.W.keepIn K (.ref f_can_fall) = true)
    (ha_Run_m_fall : PySem.W.findIn K (.ref g_Run) "fall" = some (some (.ref f_Run_m_fall)))
    (hi_Run_m_fall : PySem.W.isFn K (.ref f_Run_m_fall) = true)
    (hl_Run_m_fall : K.lookup f_Run_m_fall = some ⟨oc_Run_m_fall, od_Run_m_fall, .func (PySem.W.fnOf "fall" "Run.fall" (defArgs st_Run_m_fall) (defBody st_Run_m_fall) (defScope st_Run_m_fall) .none kV_Run_m_fall dc_Run_m_fall pm_Run_m_fall an_Run_m_fall cd_Run_m_fall ct_Run_m_fall), sl_Run_m_fall⟩)
    (hc_Run_m_fall : PySem.W.codeIn K cd_Run_m_fall "Run.fall" = true)
    (hk_Run_m_fall : PySem.W.keepIn K (.ref f_Run_m_fall) = true)
    (ha_can_rise : PySem.W.nsIn K mainGlobals "can_rise" = some (some (.ref f_can_rise)))
    (hl_can_rise : K.lookup f_can_rise = some ⟨oc_can_rise, od_can_rise, .func (PySem.W.fnOf "can_rise" "can_rise" (defArgs st_can_rise) (defBody st_can_rise) (defScope st_can_rise) .none kV_can_rise dc_can_rise pm_can_rise an_can_rise cd_can_rise ct_can_rise), sl_can_rise⟩)
    (hc_can_rise : PySem.W.codeIn K cd_can_rise "can_rise" = true)
    (hk_can_rise : PySem.W.keepIn K (.ref f_can_rise) = true)
    (ha_Run_m_rise : PySem.W.findIn K (.ref g_Run) "rise" = some (some (.ref f_Run_m_rise)))
    (hi_Run_m_rise : PySem.W.isFn K (.ref f_Run_m_rise) = true)
    (hl_Run_m_rise : K.lookup f_Run_m_rise = some ⟨oc_Run_m_rise, od_Run_m_rise, .func (PySem.W.fnOf "rise" "Run.rise" (defArgs st_Run_m_rise) (defBody st_Run_m_rise) (defScope st_Run_m_rise) .none kV_Run_m_rise dc_Run_m_rise pm_Run_m_rise an_Run_m_rise cd_Run_m_rise ct_Run_m_rise), sl_Run_m_rise⟩)
    (hc_Run_m_rise : PySem.W.codeIn K cd_Run_m_rise "Run.rise" = true)
    (hk_Run_m_rise : PySem.W.keepIn K (.ref f_Run_m_rise) = true)
    (ha_run_of : PySem.W.nsIn K mainGlobals "run_of" = some (some (.ref f_run_of)))
    (hl_run_of : K.lookup f_run_of = some ⟨oc_run_of, od_run_of, .func (PySem.W.fnOf "run_of" "run_of" (defArgs st_run_of) (defBody st_run_of) (defScope st_run_of) .none kV_run_of dc_run_of pm_run_of an_run_of cd_run_of ct_run_of), sl_run_of⟩)
    (hc_run_of : PySem.W.codeIn K cd_run_of "run_of" = true)
    (hk_run_of : PySem.W.keepIn K (.ref f_run_of) = true)
    (ha_law : PySem.W.nsIn K mainGlobals "law" = some (some (.ref f_law)))
    (hl_law : K.lookup f_law = some ⟨oc_law, od_law, .func (PySem.W.fnOf "law" "law" (defArgs st_law) (defBody st_law) (defScope st_law) .none kV_law dc_law pm_law an_law cd_law ct_law), sl_law⟩)
    (hc_law : PySem.W.codeIn K cd_law "law" = true)
    (hk_law : PySem.W.keepIn K (.ref f_law) = true)
    (hna_House__strengths : PySem.W.findIn K (.ref g_House) "_strengths" = some none)
    (hna_House__services : PySem.W.findIn K (.ref g_House) "_services" = some none)
    (hna_Run_house : PySem.W.findIn K (.ref g_Run) "house" = some none)
    (hna_Run__picture : PySem.W.findIn K (.ref g_Run) "_picture" = some none)
    (hna_Run__events : PySem.W.findIn K (.ref g_Run) "_events" = some none)
    (hb_abs : PySem.W.nsIn K mainGlobals "abs" = some none)
    (hb_all : PySem.W.nsIn K mainGlobals "all" = some none)
    (hb_bool : PySem.W.nsIn K mainGlobals "bool" = some none)
    (hb_enumerate : PySem.W.nsIn K mainGlobals "enumerate" = some none)
    (hb_int : PySem.W.nsIn K mainGlobals "int" = some none)
    (hb_isinstance : PySem.W.nsIn K mainGlobals "isinstance" = some none)
    (hb_len : PySem.W.nsIn K mainGlobals "len" = some none)
    (hb_list : PySem.W.nsIn K mainGlobals "list" = some none)
    (hb_max : PySem.W.nsIn K mainGlobals "max" = some none)
    (hb_min : PySem.W.nsIn K mainGlobals "min" = some none)
    (hb_range : PySem.W.nsIn K mainGlobals "range" = some none)
    (hb_set : PySem.W.nsIn K mainGlobals "set" = some none)
    (hb_sorted : PySem.W.nsIn K mainGlobals "sorted" = some none)
    (hb_str : PySem.W.nsIn K mainGlobals "str" = some none)
    (hb_sum : PySem.W.nsIn K mainGlobals "sum" = some none)
    (hb_tuple : PySem.W.nsIn K mainGlobals "tuple" = some none)
    (hb_zip : PySem.W.nsIn K mainGlobals "zip" = some none)
    (hkc_MOST_MACHINES : PySem.W.nsIn K mainGlobals "MOST_MACHINES" = some (some (.int (5) tk_MOST_MACHINES)))
    (hkc_MOST_SERVICES : PySem.W.nsIn K mainGlobals "MOST_SERVICES" = some (some (.int (5) tk_MOST_SERVICES)))
    (hkc_MOST_STRENGTH : PySem.W.nsIn K mainGlobals "MOST_STRENGTH" = some (some (.int (10000000000) tk_MOST_STRENGTH)))
    (hkc_MOST_WEIGHT : PySem.W.nsIn K mainGlobals "MOST_WEIGHT" = some (some (.int (1000000000) tk_MOST_WEIGHT)))
    (hkc_NOWHERE : PySem.W.nsIn K mainGlobals "NOWHERE" = some (some (.int (-1) tk_NOWHERE)))
    (hkc_RULES : PySem.W.nsIn K mainGlobals "RULES" = some (some (.ref k_RULES)))
    (hkl_RULES : K.lookup k_RULES = some ⟨.type "tuple", dk_RULES, .seq #[.str "first" tk_RULES_0, .str "home" tk_RULES_1, .str "stay" tk_RULES_2] nk_RULES, sk_RULES⟩)
    (hxg_BadHouse : PySem.W.nsIn K mainGlobals "BadHouse" = some (some (.ref x_BadHouse)))
    (hxl_BadHouse : K.lookup x_BadHouse = some (excClassObj nm_BadHouse q_BadHouse x_BadHouse N_BadHouse bs_BadHouse bm_BadHouse true sn_BadHouse sub_BadHouse ab_BadHouse col_BadHouse dd_BadHouse k0_BadHouse k1_BadHouse k2_BadHouse k3_BadHouse k5_BadHouse "ValueError.__new__"))
    (hxr_BadHouse : PySem.HandSPX.refsVE bm_BadHouse = true)
    (hxs_BadHouse : PySem.W.findIn K (.ref x_BadHouse) "__setattr__" = some (some (.builtin "object.__setattr__")))
    (hxe_BadHouse : PySem.W.subIn K (.ref x_BadHouse) (.type "BaseException") = some true)
    (hxt_BadHouse : PySem.W.typeIn K (.ref x_BadHouse) = some (.type "type"))
    (hxk_BadHouse : PySem.W.keepIn K (.ref x_BadHouse) = true)
    (hxi_BadHouse : PySem.W.findIn K (.ref x_BadHouse) "__init__" = some (some (.ref fi_BadHouse)))
    (hxf_BadHouse : PySem.W.typeIn K (.ref fi_BadHouse) = some (.type "function"))
    (hxF_BadHouse : K.lookup fi_BadHouse = some ⟨oc_BadHouse, od_BadHouse, .func (PySem.W.ksFn "__init__" "BadHouse.__init__" (defArgs st_x_BadHouse) (defBody st_x_BadHouse) (defScope st_x_BadHouse) .none kV_BadHouse dc_BadHouse pm_BadHouse an_BadHouse (.ref cda_BadHouse) ct_BadHouse cc_BadHouse), sl_BadHouse⟩)
    (hxc_BadHouse : PySem.W.codeIn K (.ref cda_BadHouse) "BadHouse.__init__" = true)
    (hxC_BadHouse : K.lookup cda_BadHouse = some ⟨cq_BadHouse, cd_BadHouse, .fields vs_BadHouse, cs_BadHouse⟩)
    (hxv_BadHouse : vs_BadHouse[2]? = some (.str file_BadHouse tf_BadHouse))
    (hxp_BadHouse : ((P.main.file : Str) == file_BadHouse) = true)
    (hxx_BadHouse : K.lookup cc_BadHouse = some ⟨cl_BadHouse, cld_BadHouse, .cell (some (.ref x_BadHouse)), csl_BadHouse⟩)
    (hxm_BadHouse : PySem.W.mroIn K x_BadHouse (.ref x_BadHouse) = some true)
    (hxu_BadHouse : PySem.W.nsIn K mainGlobals "super" = some none)
    (hxT_BadHouse : (P.main.scope.names.lookup ("super" : Str)).isSome = false)
    (hxo_BadHouse : PySem.W.nsIn K cStatics "thirdparty.any" = some none)
    (hxM_BadHouse : PySem.W.ks_superIn K x_BadHouse x_BadHouse "__init__" = some (some (.builtin "ValueError.__init__")))
    (hxV_BadHouse : PySem.W.subIn K (.ref x_BadHouse) (.type "ValueError") = some true)
    (hxd_BadHouse : PySem.W.findIn K (.ref x_BadHouse) "number" = some none)
    (hxa_BadHouse : PySem.W.findIn K (.ref x_BadHouse) "__getattribute__" = some (some (.builtin "BaseException.__getattribute__")))
    (hxb_BadHouse : PySem.W.findIn K (.ref x_BadHouse) "__getattr__" = some none)
    (hxD_BadHouse : PySem.W.hasDictIn K x_BadHouse = true)
    (hxy_BadHouse : PySem.W.exmOne K (.ref x_BadHouse) (.ref x_BadHouse) = some true)
    (hxg_NoFall : PySem.W.nsIn K mainGlobals "NoFall" = some (some (.ref x_NoFall)))
    (hxl_NoFall : K.lookup x_NoFall = some (excClassObj nm_NoFall q_NoFall x_NoFall N_NoFall bs_NoFall bm_NoFall true sn_NoFall sub_NoFall ab_NoFall col_NoFall dd_NoFall k0_NoFall k1_NoFall k2_NoFall k3_NoFall k5_NoFall "ValueError.__new__"))
    (hxr_NoFall : PySem.HandSPX.refsVE bm_NoFall = true)
    (hxs_NoFall : PySem.W.findIn K (.ref x_NoFall) "__setattr__" = some (some (.builtin "object.__setattr__")))
    (hxe_NoFall : PySem.W.subIn K (.ref x_NoFall) (.type "BaseException") = some true)
    (hxt_NoFall : PySem.W.typeIn K (.ref x_NoFall) = some (.type "type"))
    (hxk_NoFall : PySem.W.keepIn K (.ref x_NoFall) = true)
    (hxi_NoFall : PySem.W.findIn K (.ref x_NoFall) "__init__" = some (some (.ref fi_NoFall)))
    (hxf_NoFall : PySem.W.typeIn K (.ref fi_NoFall) = some (.type "function"))
    (hxF_NoFall : K.lookup fi_NoFall = some ⟨oc_NoFall, od_NoFall, .func (PySem.W.ksFn "__init__" "NoFall.__init__" (defArgs st_x_NoFall) (defBody st_x_NoFall) (defScope st_x_NoFall) .none kV_NoFall dc_NoFall pm_NoFall an_NoFall (.ref cda_NoFall) ct_NoFall cc_NoFall), sl_NoFall⟩)
    (hxc_NoFall : PySem.W.codeIn K (.ref cda_NoFall) "NoFall.__init__" = true)
    (hxC_NoFall : K.lookup cda_NoFall = some ⟨cq_NoFall, cd_NoFall, .fields vs_NoFall, cs_NoFall⟩)
    (hxv_NoFall : vs_NoFall[2]? = some (.str file_NoFall tf_NoFall))
    (hxp_NoFall : ((P.main.file : Str) == file_NoFall) = true)
    (hxx_NoFall : K.lookup cc_NoFall = some ⟨cl_NoFall, cld_NoFall, .cell (some (.ref x_NoFall)), csl_NoFall⟩)
    (hxm_NoFall : PySem.W.mroIn K x_NoFall (.ref x_NoFall) = some true)
    (hxu_NoFall : PySem.W.nsIn K mainGlobals "super" = some none)
    (hxT_NoFall : (P.main.scope.names.lookup ("super" : Str)).isSome = false)
    (hxo_NoFall : PySem.W.nsIn K cStatics "thirdparty.any" = some none)
    (hxM_NoFall : PySem.W.ks_superIn K x_NoFall x_NoFall "__init__" = some (some (.builtin "ValueError.__init__")))
    (hxV_NoFall : PySem.W.subIn K (.ref x_NoFall) (.type "ValueError") = some true)
    (hxd_NoFall : PySem.W.findIn K (.ref x_NoFall) "machine" = some none)
    (hxa_NoFall : PySem.W.findIn K (.ref x_NoFall) "__getattribute__" = some (some (.builtin "BaseException.__getattribute__")))
    (hxb_NoFall : PySem.W.findIn K (.ref x_NoFall) "__getattr__" = some none)
    (hxD_NoFall : PySem.W.hasDictIn K x_NoFall = true)
    (hxy_NoFall : PySem.W.exmOne K (.ref x_NoFall) (.ref x_NoFall) = some true)
    (hxg_NoRise : PySem.W.nsIn K mainGlobals "NoRise" = some (some (.ref x_NoRise)))
    (hxl_NoRise : K.lookup x_NoRise = some (excClassObj nm_NoRise q_NoRise x_NoRise N_NoRise bs_NoRise bm_NoRise true sn_NoRise sub_NoRise ab_NoRise col_NoRise dd_NoRise k0_NoRise k1_NoRise k2_NoRise k3_NoRise k5_NoRise "ValueError.__new__"))
    (hxr_NoRise : PySem.HandSPX.refsVE bm_NoRise = true)
    (hxs_NoRise : PySem.W.findIn K (.ref x_NoRise) "__setattr__" = some (some (.builtin "object.__setattr__")))
    (hxe_NoRise : PySem.W.subIn K (.ref x_NoRise) (.type "BaseException") = some true)
    (hxt_NoRise : PySem.W.typeIn K (.ref x_NoRise) = some (.type "type"))
    (hxk_NoRise : PySem.W.keepIn K (.ref x_NoRise) = true)
    (hxi_NoRise : PySem.W.findIn K (.ref x_NoRise) "__init__" = some (some (.ref fi_NoRise)))
    (hxf_NoRise : PySem.W.typeIn K (.ref fi_NoRise) = some (.type "function"))
    (hxF_NoRise : K.lookup fi_NoRise = some ⟨oc_NoRise, od_NoRise, .func (PySem.W.ksFn "__init__" "NoRise.__init__" (defArgs st_x_NoRise) (defBody st_x_NoRise) (defScope st_x_NoRise) .none kV_NoRise dc_NoRise pm_NoRise an_NoRise (.ref cda_NoRise) ct_NoRise cc_NoRise), sl_NoRise⟩)
    (hxc_NoRise : PySem.W.codeIn K (.ref cda_NoRise) "NoRise.__init__" = true)
    (hxC_NoRise : K.lookup cda_NoRise = some ⟨cq_NoRise, cd_NoRise, .fields vs_NoRise, cs_NoRise⟩)
    (hxv_NoRise : vs_NoRise[2]? = some (.str file_NoRise tf_NoRise))
    (hxp_NoRise : ((P.main.file : Str) == file_NoRise) = true)
    (hxx_NoRise : K.lookup cc_NoRise = some ⟨cl_NoRise, cld_NoRise, .cell (some (.ref x_NoRise)), csl_NoRise⟩)
    (hxm_NoRise : PySem.W.mroIn K x_NoRise (.ref x_NoRise) = some true)
    (hxu_NoRise : PySem.W.nsIn K mainGlobals "super" = some none)
    (hxT_NoRise : (P.main.scope.names.lookup ("super" : Str)).isSome = false)
    (hxo_NoRise : PySem.W.nsIn K cStatics "thirdparty.any" = some none)
    (hxM_NoRise : PySem.W.ks_superIn K x_NoRise x_NoRise "__init__" = some (some (.builtin "ValueError.__init__")))
    (hxV_NoRise : PySem.W.subIn K (.ref x_NoRise) (.type "ValueError") = some true)
    (hxd_NoRise : PySem.W.findIn K (.ref x_NoRise) "machine" = some none)
    (hxa_NoRise : PySem.W.findIn K (.ref x_NoRise) "__getattribute__" = some (some (.builtin "BaseException.__getattribute__")))
    (hxb_NoRise : PySem.W.findIn K (.ref x_NoRise) "__getattr__" = some none)
    (hxD_NoRise : PySem.W.hasDictIn K x_NoRise = true)
    (hxy_NoRise : PySem.W.exmOne K (.ref x_NoRise) (.ref x_NoRise) = some true)
    : Txt P K mg ⟨f_is_whole, (PySem.W.fnOf "is_whole" "is_whole" (defArgs st_is_whole) (defBody st_is_whole) (defScope st_is_whole) .none kV_is_whole dc_is_whole pm_is_whole an_is_whole cd_is_whole ct_is_whole), f__are_strengths, (PySem.W.fnOf "_are_strengths" "_are_strengths" (defArgs st__are_strengths) (defBody st__are_strengths) (defScope st__are_strengths) .none kV__are_strengths dc__are_strengths pm__are_strengths an__are_strengths cd__are_strengths ct__are_strengths), f__can_be_services, (PySem.W.fnOf "_can_be_services" "_can_be_services" (defArgs st__can_be_services) (defBody st__can_be_services) (defScope st__can_be_services) .none kV__can_be_services dc__can_be_services pm__can_be_services an__can_be_services cd__can_be_services ct__can_be_services), f_is_machine, (PySem.W.fnOf "is_machine" "is_machine" (defArgs st_is_machine) (defBody st_is_machine) (defScope st_is_machine) .none kV_is_machine dc_is_machine pm_is_machine an_is_machine cd_is_machine ct_is_machine), f_is_order, (PySem.W.fnOf "is_order" "is_order" (defArgs st_is_order) (defBody st_is_order) (defScope st_is_order) .none kV_is_order dc_is_order pm_is_order an_is_order cd_is_order ct_is_order), f__is_service, (PySem.W.fnOf "_is_service" "_is_service" (defArgs st__is_service) (defBody st__is_service) (defScope st__is_service) .none kV__is_service dc__is_service pm__is_service an__is_service cd__is_service ct__is_service), f_House_m___init__, (PySem.W.fnOf "__init__" "House.__init__" (defArgs st_House_m___init__) (defBody st_House_m___init__) (defScope st_House_m___init__) .none kV_House_m___init__ dc_House_m___init__ pm_House_m___init__ an_House_m___init__ cd_House_m___init__ ct_House_m___init__), f_House_m_services, (PySem.W.fnOf "services" "House.services" (defArgs st_House_m_services) (defBody st_House_m_services) (defScope st_House_m_services) .none kV_House_m_services dc_House_m_services pm_House_m_services an_House_m_services cd_House_m_services ct_House_m_services), f_load_in, (PySem.W.fnOf "load_in" "load_in" (defArgs st_load_in) (defBody st_load_in) (defScope st_load_in) .none kV_load_in dc_load_in pm_load_in an_load_in cd_load_in ct_load_in), f_Run_m_load, (PySem.W.fnOf "load" "Run.load" (defArgs st_Run_m_load) (defBody st_Run_m_load) (defScope st_Run_m_load) .none kV_Run_m_load dc_Run_m_load pm_Run_m_load an_Run_m_load cd_Run_m_load ct_Run_m_load), f_Run_m_picture, (PySem.W.fnOf "picture" "Run.picture" (defArgs st_Run_m_picture) (defBody st_Run_m_picture) (defScope st_Run_m_picture) .none kV_Run_m_picture dc_Run_m_picture pm_Run_m_picture an_Run_m_picture cd_Run_m_picture ct_Run_m_picture), f__law_events, (PySem.W.fnOf "_law_events" "_law_events" (defArgs st__law_events) (defBody st__law_events) (defScope st__law_events) .none kV__law_events dc__law_events pm__law_events an__law_events cd__law_events ct__law_events), f__law_feed, (PySem.W.fnOf "_law_feed" "_law_feed" (defArgs st__law_feed) (defBody st__law_feed) (defScope st__law_feed) .none kV__law_feed dc__law_feed pm__law_feed an__law_feed cd__law_feed ct__law_feed), f__law_take, (PySem.W.fnOf "_law_take" "_law_take" (defArgs st__law_take) (defBody st__law_take) (defScope st__law_take) .none kV__law_take dc__law_take pm__law_take an__law_take cd__law_take ct__law_take), f__law_order, (PySem.W.fnOf "_law_order" "_law_order" (defArgs st__law_order) (defBody st__law_order) (defScope st__law_order) .none kV__law_order dc__law_order pm__law_order an__law_order cd__law_order ct__law_order), f__law_pick, (PySem.W.fnOf "_law_pick" "_law_pick" (defArgs st__law_pick) (defBody st__law_pick) (defScope st__law_pick) .none kV__law_pick dc__law_pick pm__law_pick an__law_pick cd__law_pick ct__law_pick), f__law_house, (PySem.W.fnOf "_law_house" "_law_house" (defArgs st__law_house) (defBody st__law_house) (defScope st__law_house) .none kV__law_house dc__law_house pm__law_house an__law_house cd__law_house ct__law_house), f__law_mixed, (PySem.W.fnOf "_law_mixed" "_law_mixed" (defArgs st__law_mixed) (defBody st__law_mixed) (defScope st__law_mixed) .none kV__law_mixed dc__law_mixed pm__law_mixed an__law_mixed cd__law_mixed ct__law_mixed), f__law_first, (PySem.W.fnOf "_law_first" "_law_first" (defArgs st__law_first) (defBody st__law_first) (defScope st__law_first) .none kV__law_first dc__law_first pm__law_first an__law_first cd__law_first ct__law_first), f__law_rules_hold, (PySem.W.fnOf "_law_rules_hold" "_law_rules_hold" (defArgs st__law_rules_hold) (defBody st__law_rules_hold) (defScope st__law_rules_hold) .none kV__law_rules_hold dc__law_rules_hold pm__law_rules_hold an__law_rules_hold cd__law_rules_hold ct__law_rules_hold), f__law_walk, (PySem.W.fnOf "_law_walk" "_law_walk" (defArgs st__law_walk) (defBody st__law_walk) (defScope st__law_walk) .none kV__law_walk dc__law_walk pm__law_walk an__law_walk cd__law_walk ct__law_walk), f_beginning, (PySem.W.fnOf "beginning" "beginning" (defArgs st_beginning) (defBody st_beginning) (defScope st_beginning) .none kV_beginning dc_beginning pm_beginning an_beginning cd_beginning ct_beginning), f_Run_m___init__, (PySem.W.fnOf "__init__" "Run.__init__" (defArgs st_Run_m___init__) (defBody st_Run_m___init__) (defScope st_Run_m___init__) .none kV_Run_m___init__ dc_Run_m___init__ pm_Run_m___init__ an_Run_m___init__ cd_Run_m___init__ ct_Run_m___init__), f_down_behind, (PySem.W.fnOf "down_behind" "down_behind" (defArgs st_down_behind) (defBody st_down_behind) (defScope st_down_behind) .none kV_down_behind dc_down_behind pm_down_behind an_down_behind cd_down_behind ct_down_behind), f_first_living, (PySem.W.fnOf "first_living" "first_living" (defArgs st_first_living) (defBody st_first_living) (defScope st_first_living) .none kV_first_living dc_first_living pm_first_living an_first_living cd_first_living ct_first_living), f_place_behind, (PySem.W.fnOf "place_behind" "place_behind" (defArgs st_place_behind) (defBody st_place_behind) (defScope st_place_behind) .none kV_place_behind dc_place_behind pm_place_behind an_place_behind cd_place_behind ct_place_behind), f_picture_behind, (PySem.W.fnOf "picture_behind" "picture_behind" (defArgs st_picture_behind) (defBody st_picture_behind) (defScope st_picture_behind) .none kV_picture_behind dc_picture_behind pm_picture_behind an_picture_behind cd_picture_behind ct_picture_behind), f_Run_m__lead, (PySem.W.fnOf "_lead" "Run._lead" (defArgs st_Run_m__lead) (defBody st_Run_m__lead) (defScope st_Run_m__lead) .none kV_Run_m__lead dc_Run_m__lead pm_Run_m__lead an_Run_m__lead cd_Run_m__lead ct_Run_m__lead), f_House_m___len__, (PySem.W.fnOf "__len__" "House.__len__" (defArgs st_House_m___len__) (defBody st_House_m___len__) (defScope st_House_m___len__) .none kV_House_m___len__ dc_House_m___len__ pm_House_m___len__ an_House_m___len__ cd_House_m___len__ ct_House_m___len__), f_can_fall, (PySem.W.fnOf "can_fall" "can_fall" (defArgs st_can_fall) (defBody st_can_fall) (defScope st_can_fall) .none kV_can_fall dc_can_fall pm_can_fall an_can_fall cd_can_fall ct_can_fall), f_Run_m_fall, (PySem.W.fnOf "fall" "Run.fall" (defArgs st_Run_m_fall) (defBody st_Run_m_fall) (defScope st_Run_m_fall) .none kV_Run_m_fall dc_Run_m_fall pm_Run_m_fall an_Run_m_fall cd_Run_m_fall ct_Run_m_fall), f_can_rise, (PySem.W.fnOf "can_rise" "can_rise" (defArgs st_can_rise) (defBody st_can_rise) (defScope st_can_rise) .none kV_can_rise dc_can_rise pm_can_rise an_can_rise cd_can_rise ct_can_rise), f_Run_m_rise, (PySem.W.fnOf "rise" "Run.rise" (defArgs st_Run_m_rise) (defBody st_Run_m_rise) (defScope st_Run_m_rise) .none kV_Run_m_rise dc_Run_m_rise pm_Run_m_rise an_Run_m_rise cd_Run_m_rise ct_Run_m_rise), f_run_of, (PySem.W.fnOf "run_of" "run_of" (defArgs st_run_of) (defBody st_run_of) (defScope st_run_of) .none kV_run_of dc_run_of pm_run_of an_run_of cd_run_of ct_run_of), f_law, (PySem.W.fnOf "law" "law" (defArgs st_law) (defBody st_law) (defScope st_law) .none kV_law dc_law pm_law an_law cd_law ct_law), g_House, g_Run, k_RULES, x_BadHouse, x_NoFall, x_NoRise⟩ where
  F_is_whole := fun_mk (st := st_is_whole) hl_is_whole hc_is_whole hk_is_whole
  n_is_whole := (fun_mk (st := st_is_whole) hl_is_whole hc_is_whole hk_is_whole).binds (ps := ["value"]) fun _ _ _ _ _ _ us hu => match us, hu with | [_], _ => rfl
  m_is_whole := PySem.W.mg_of X G ha_is_whole
  k_is_whole := hk_is_whole
  F__are_strengths := fun_mk (st := st__are_strengths) hl__are_strengths hc__are_strengths hk__are_strengths
  n__are_strengths := (fun_mk (st := st__are_strengths) hl__are_strengths hc__are_strengths hk__are_strengths).binds (ps := ["value"]) fun _ _ _ _ _ _ us hu => match us, hu with | [_], _ => rfl
  m__are_strengths := PySem.W.mg_of X G ha__are_strengths
  k__are_strengths := hk__are_strengths
  F__can_be_services := fun_mk (st := st__can_be_services) hl__can_be_services hc__can_be_services hk__can_be_services
  n__can_be_services := (fun_mk (st := st__can_be_services) hl__can_be_services hc__can_be_services hk__can_be_services).binds (ps := ["value"]) fun _ _ _ _ _ _ us hu => match us, hu with | [_], _ => rfl
  m__can_be_services := PySem.W.mg_of X G ha__can_be_services
  k__can_be_services := hk__can_be_services
  F_is_machine := fun_mk (st := st_is_machine) hl_is_machine hc_is_machine hk_is_machine
  n_is_machine := (fun_mk (st := st_is_machine) hl_is_machine hc_is_machine hk_is_machine).binds (ps := ["value", "machines"]) fun _ _ _ _ _ _ us hu => match us, hu with | [_, _], _ => rfl
  m_is_machine := PySem.W.mg_of X G ha_is_machine
  k_is_machine := hk_is_machine
  F_is_order := fun_mk (st := st_is_order) hl_is_order hc_is_order hk_is_order
  n_is_order := (fun_mk (st := st_is_order) hl_is_order hc_is_order hk_is_order).binds (ps := ["value", "machines"]) fun _ _ _ _ _ _ us hu => match us, hu with | [_, _], _ => rfl
  m_is_order := PySem.W.mg_of X G ha_is_order
  k_is_order := hk_is_order
  F__is_service := fun_mk (st := st__is_service) hl__is_service hc__is_service hk__is_service
  n__is_service := (fun_mk (st := st__is_service) hl__is_service hc__is_service hk__is_service).binds (ps := ["value", "machines"]) fun _ _ _ _ _ _ us hu => match us, hu with | [_, _], _ => rfl
  m__is_service := PySem.W.mg_of X G ha__is_service
  k__is_service := hk__is_service
  F_House_m___init__ := fun_mk (st := st_House_m___init__) hl_House_m___init__ hc_House_m___init__ hk_House_m___init__
  n_House_m___init__ := (fun_mk (st := st_House_m___init__) hl_House_m___init__ hc_House_m___init__ hk_House_m___init__).binds (ps := ["self", "strengths", "services"]) fun _ _ _ _ _ _ us hu => match us, hu with | [_, _, _], _ => rfl
  mk_House := ⟨hmk_House, ha_House_m___init__, hi_House_m___init__, hkc_House⟩
  F_House_m_services := fun_mk (st := st_House_m_services) hl_House_m_services hc_House_m_services hk_House_m_services
  n_House_m_services := (fun_mk (st := st_House_m_services) hl_House_m_services hc_House_m_services hk_House_m_services).binds (ps := ["self"]) fun _ _ _ _ _ _ us hu => match us, hu with | [_], _ => rfl
  me_House_m_services := ⟨ha_House_m_services, hi_House_m_services, hk_House_m_services⟩
  F_load_in := fun_mk (st := st_load_in) hl_load_in hc_load_in hk_load_in
  n_load_in := (fun_mk (st := st_load_in) hl_load_in hc_load_in hk_load_in).binds (ps := ["house", "picture", "machine"]) fun _ _ _ _ _ _ us hu => match us, hu with | [_, _, _], _ => rfl
  m_load_in := PySem.W.mg_of X G ha_load_in
  k_load_in := hk_load_in
  F_Run_m_load := fun_mk (st := st_Run_m_load) hl_Run_m_load hc_Run_m_load hk_Run_m_load
  n_Run_m_load := (fun_mk (st := st_Run_m_load) hl_Run_m_load hc_Run_m_load hk_Run_m_load).binds (ps := ["self", "machine"]) fun _ _ _ _ _ _ us hu => match us, hu with | [_, _], _ => rfl
  me_Run_m_load := ⟨ha_Run_m_load, hi_Run_m_load, hk_Run_m_load⟩
  F_Run_m_picture := fun_mk (st := st_Run_m_picture) hl_Run_m_picture hc_Run_m_picture hk_Run_m_picture
  n_Run_m_picture := (fun_mk (st := st_Run_m_picture) hl_Run_m_picture hc_Run_m_picture hk_Run_m_picture).binds (ps := ["self"]) fun _ _ _ _ _ _ us hu => match us, hu with | [_], _ => rfl
  me_Run_m_picture := ⟨ha_Run_m_picture, hi_Run_m_picture, hk_Run_m_picture⟩
  F__law_events := fun_mk (st := st__law_events) hl__law_events hc__law_events hk__law_events
  n__law_events := (fun_mk (st := st__law_events) hl__law_events hc__law_events hk__law_events).binds (ps := ["machines", "down", "cap"]) fun _ _ _ _ _ _ us hu => match us, hu with | [_, _, _], _ => rfl
  m__law_events := PySem.W.mg_of X G ha__law_events
  k__law_events := hk__law_events
  F__law_feed := fun_mk (st := st__law_feed) hl__law_feed hc__law_feed hk__law_feed
  n__law_feed := (fun_mk (st := st__law_feed) hl__law_feed hc__law_feed hk__law_feed).binds (ps := ["script", "k"]) fun _ _ _ _ _ _ us hu => match us, hu with | [_, _], _ => rfl
  m__law_feed := PySem.W.mg_of X G ha__law_feed
  k__law_feed := hk__law_feed
  F__law_take := fun_mk (st := st__law_take) hl__law_take hc__law_take hk__law_take
  n__law_take := (fun_mk (st := st__law_take) hl__law_take hc__law_take hk__law_take).binds (ps := ["feed", "many"]) fun _ _ _ _ _ _ us hu => match us, hu with | [_, _], _ => rfl
  m__law_take := PySem.W.mg_of X G ha__law_take
  k__law_take := hk__law_take
  F__law_order := fun_mk (st := st__law_order) hl__law_order hc__law_order hk__law_order
  n__law_order := (fun_mk (st := st__law_order) hl__law_order hc__law_order hk__law_order).binds (ps := ["feed", "machines", "least"]) fun _ _ _ _ _ _ us hu => match us, hu with | [_, _, _], _ => rfl
  m__law_order := PySem.W.mg_of X G ha__law_order
  k__law_order := hk__law_order
  F__law_pick := fun_mk (st := st__law_pick) hl__law_pick hc__law_pick hk__law_pick
  n__law_pick := (fun_mk (st := st__law_pick) hl__law_pick hc__law_pick hk__law_pick).binds (ps := ["feed", "some"]) fun _ _ _ _ _ _ us hu => match us, hu with | [_, _], _ => rfl
  m__law_pick := PySem.W.mg_of X G ha__law_pick
  k__law_pick := hk__law_pick
  F__law_house := fun_mk (st := st__law_house) hl__law_house hc__law_house hk__law_house
  n__law_house := (fun_mk (st := st__law_house) hl__law_house hc__law_house hk__law_house).binds (ps := ["feed", "most_machines", "most_services"]) fun _ _ _ _ _ _ us hu => match us, hu with | [_, _, _], _ => rfl
  m__law_house := PySem.W.mg_of X G ha__law_house
  k__law_house := hk__law_house
  F__law_mixed := fun_mk (st := st__law_mixed) hl__law_mixed hc__law_mixed hk__law_mixed
  n__law_mixed := (fun_mk (st := st__law_mixed) hl__law_mixed hc__law_mixed hk__law_mixed).binds (ps := ["feed", "things"]) fun _ _ _ _ _ _ us hu => match us, hu with | [_, _], _ => rfl
  m__law_mixed := PySem.W.mg_of X G ha__law_mixed
  k__law_mixed := hk__law_mixed
  F__law_first := fun_mk (st := st__law_first) hl__law_first hc__law_first hk__law_first
  n__law_first := (fun_mk (st := st__law_first) hl__law_first hc__law_first hk__law_first).binds (ps := ["order", "down"]) fun _ _ _ _ _ _ us hu => match us, hu with | [_, _], _ => rfl
  m__law_first := PySem.W.mg_of X G ha__law_first
  k__law_first := hk__law_first
  F__law_rules_hold := fun_mk (st := st__law_rules_hold) hl__law_rules_hold hc__law_rules_hold hk__law_rules_hold
  n__law_rules_hold := (fun_mk (st := st__law_rules_hold) hl__law_rules_hold hc__law_rules_hold hk__law_rules_hold).binds (ps := ["services", "picture"]) fun _ _ _ _ _ _ us hu => match us, hu with | [_, _], _ => rfl
  m__law_rules_hold := PySem.W.mg_of X G ha__law_rules_hold
  k__law_rules_hold := hk__law_rules_hold
  F__law_walk := fun_mk (st := st__law_walk) hl__law_walk hc__law_walk hk__law_walk
  n__law_walk := (fun_mk (st := st__law_walk) hl__law_walk hc__law_walk hk__law_walk).binds (ps := ["feed", "machines", "cap", "long"]) fun _ _ _ _ _ _ us hu => match us, hu with | [_, _, _, _], _ => rfl
  m__law_walk := PySem.W.mg_of X G ha__law_walk
  k__law_walk := hk__law_walk
  F_beginning := fun_mk (st := st_beginning) hl_beginning hc_beginning hk_beginning
  n_beginning := (fun_mk (st := st_beginning) hl_beginning hc_beginning hk_beginning).binds (ps := ["house"]) fun _ _ _ _ _ _ us hu => match us, hu with | [_], _ => rfl
  m_beginning := PySem.W.mg_of X G ha_beginning
  k_beginning := hk_beginning
  F_Run_m___init__ := fun_mk (st := st_Run_m___init__) hl_Run_m___init__ hc_Run_m___init__ hk_Run_m___init__
  n_Run_m___init__ := (fun_mk (st := st_Run_m___init__) hl_Run_m___init__ hc_Run_m___init__ hk_Run_m___init__).binds (ps := ["self", "house"]) fun _ _ _ _ _ _ us hu => match us, hu with | [_, _], _ => rfl
  mk_Run := ⟨hmk_Run, ha_Run_m___init__, hi_Run_m___init__, hkc_Run⟩
  F_down_behind := fun_mk (st := st_down_behind) hl_down_behind hc_down_behind hk_down_behind
  n_down_behind := (fun_mk (st := st_down_behind) hl_down_behind hc_down_behind hk_down_behind).binds (ps := ["down", "event"]) fun _ _ _ _ _ _ us hu => match us, hu with | [_, _], _ => rfl
  m_down_behind := PySem.W.mg_of X G ha_down_behind
  k_down_behind := hk_down_behind
  F_first_living := fun_mk (st := st_first_living) hl_first_living hc_first_living hk_first_living
  n_first_living := (fun_mk (st := st_first_living) hl_first_living hc_first_living hk_first_living).binds (ps := ["order", "down"]) fun _ _ _ _ _ _ us hu => match us, hu with | [_, _], _ => rfl
  m_first_living := PySem.W.mg_of X G ha_first_living
  k_first_living := hk_first_living
  F_place_behind := fun_mk (st := st_place_behind) hl_place_behind hc_place_behind hk_place_behind
  n_place_behind := (fun_mk (st := st_place_behind) hl_place_behind hc_place_behind hk_place_behind).binds (ps := ["service", "place", "event", "left"]) fun _ _ _ _ _ _ us hu => match us, hu with | [_, _, _, _], _ => rfl
  m_place_behind := PySem.W.mg_of X G ha_place_behind
  k_place_behind := hk_place_behind
  F_picture_behind := fun_mk (st := st_picture_behind) hl_picture_behind hc_picture_behind hk_picture_behind
  n_picture_behind := (fun_mk (st := st_picture_behind) hl_picture_behind hc_picture_behind hk_picture_behind).binds (ps := ["house", "picture", "event"]) fun _ _ _ _ _ _ us hu => match us, hu with | [_, _, _], _ => rfl
  m_picture_behind := PySem.W.mg_of X G ha_picture_behind
  k_picture_behind := hk_picture_behind
  F_Run_m__lead := fun_mk (st := st_Run_m__lead) hl_Run_m__lead hc_Run_m__lead hk_Run_m__lead
  n_Run_m__lead := (fun_mk (st := st_Run_m__lead) hl_Run_m__lead hc_Run_m__lead hk_Run_m__lead).binds (ps := ["self", "event"]) fun _ _ _ _ _ _ us hu => match us, hu with | [_, _], _ => rfl
  me_Run_m__lead := ⟨ha_Run_m__lead, hi_Run_m__lead, hk_Run_m__lead⟩
  F_House_m___len__ := fun_mk (st := st_House_m___len__) hl_House_m___len__ hc_House_m___len__ hk_House_m___len__
  n_House_m___len__ := (fun_mk (st := st_House_m___len__) hl_House_m___len__ hc_House_m___len__ hk_House_m___len__).binds (ps := ["self"]) fun _ _ _ _ _ _ us hu => match us, hu with | [_], _ => rfl
  me_House_m___len__ := ⟨ha_House_m___len__, hi_House_m___len__, hk_House_m___len__⟩
  F_can_fall := fun_mk (st := st_can_fall) hl_can_fall hc_can_fall hk_can_fall
  n_can_fall := (fun_mk (st := st_can_fall) hl_can_fall hc_can_fall hk_can_fall).binds (ps := ["house", "down", "value"]) fun _ _ _ _ _ _ us hu => match us, hu with | [_, _, _], _ => rfl
  m_can_fall := PySem.W.mg_of X G ha_can_fall
  k_can_fall := hk_can_fall
  F_Run_m_fall := fun_mk (st := st_Run_m_fall) hl_Run_m_fall hc_Run_m_fall hk_Run_m_fall
  n_Run_m_fall := (fun_mk (st := st_Run_m_fall) hl_Run_m_fall hc_Run_m_fall hk_Run_m_fall).binds (ps := ["self", "machine"]) fun _ _ _ _ _ _ us hu => match us, hu with | [_, _], _ => rfl
  me_Run_m_fall := ⟨ha_Run_m_fall, hi_Run_m_fall, hk_Run_m_fall⟩
  F_can_rise := fun_mk (st := st_can_rise) hl_can_rise hc_can_rise hk_can_rise
  n_can_rise := (fun_mk (st := st_can_rise) hl_can_rise hc_can_rise hk_can_rise).binds (ps := ["house", "down", "value"]) fun _ _ _ _ _ _ us hu => match us, hu with | [_, _, _], _ => rfl
  m_can_rise := PySem.W.mg_of X G ha_can_rise
  k_can_rise := hk_can_rise
  F_Run_m_rise := fun_mk (st := st_Run_m_rise) hl_Run_m_rise hc_Run_m_rise hk_Run_m_rise
  n_Run_m_rise := (fun_mk (st := st_Run_m_rise) hl_Run_m_rise hc_Run_m_rise hk_Run_m_rise).binds (ps := ["self", "machine"]) fun _ _ _ _ _ _ us hu => match us, hu with | [_, _], _ => rfl
  me_Run_m_rise := ⟨ha_Run_m_rise, hi_Run_m_rise, hk_Run_m_rise⟩
  F_run_of := fun_mk (st := st_run_of) hl_run_of hc_run_of hk_run_of
  n_run_of := (fun_mk (st := st_run_of) hl_run_of hc_run_of hk_run_of).binds (ps := ["house", "history"]) fun _ _ _ _ _ _ us hu => match us, hu with | [_, _], _ => rfl
  m_run_of := PySem.W.mg_of X G ha_run_of
  k_run_of := hk_run_of
  F_law := fun_mk (st := st_law) hl_law hc_law hk_law
  n_law := (fun_mk (st := st_law) hl_law hc_law hk_law).binds (ps := ["script"]) fun _ _ _ _ _ _ us hu => match us, hu with | [_], _ => rfl
  m_law := PySem.W.mg_of X G ha_law
  k_law := hk_law
  cl_House := ⟨hpg_House, hhd_House, hpo_House, hsa_House⟩
  g_House := PySem.W.mg_of X G hg_House
  cl_Run := ⟨hpg_Run, hhd_Run, hpo_Run, hsa_Run⟩
  g_Run := PySem.W.mg_of X G hg_Run
  x_BadHouse := exk_mk (sf := "self") (fv := "number") (f := "number") hxl_BadHouse hxr_BadHouse hxs_BadHouse hxe_BadHouse hxt_BadHouse hxk_BadHouse hxi_BadHouse hxf_BadHouse hxF_BadHouse hxc_BadHouse hxC_BadHouse hxv_BadHouse hxp_BadHouse hxx_BadHouse hxm_BadHouse hxu_BadHouse hxT_BadHouse hxo_BadHouse hxM_BadHouse hxV_BadHouse hxd_BadHouse hxa_BadHouse hxb_BadHouse hxD_BadHouse hxy_BadHouse rfl ⟨fun _ => ⟨_, rfl⟩, fun _ => rfl, fun _ => rfl⟩ (fun us hu => match us, hu with | [_, _], _ => rfl) rfl rfl rfl rfl rfl rfl rfl rfl (by decide +kernel) rfl rfl rfl
  e_BadHouse := PySem.W.mg_of X G hxg_BadHouse
  x_NoFall := exk_mk (sf := "self") (fv := "machine") (f := "machine") hxl_NoFall hxr_NoFall hxs_NoFall hxe_NoFall hxt_NoFall hxk_NoFall hxi_NoFall hxf_NoFall hxF_NoFall hxc_NoFall hxC_NoFall hxv_NoFall hxp_NoFall hxx_NoFall hxm_NoFall hxu_NoFall hxT_NoFall hxo_NoFall hxM_NoFall hxV_NoFall hxd_NoFall hxa_NoFall hxb_NoFall hxD_NoFall hxy_NoFall rfl ⟨fun _ => ⟨_, rfl⟩, fun _ => rfl, fun _ => rfl⟩ (fun us hu => match us, hu with | [_, _], _ => rfl) rfl rfl rfl rfl rfl rfl rfl rfl (by decide +kernel) rfl rfl rfl
  e_NoFall := PySem.W.mg_of X G hxg_NoFall
  x_NoRise := exk_mk (sf := "self") (fv := "machine") (f := "machine") hxl_NoRise hxr_NoRise hxs_NoRise hxe_NoRise hxt_NoRise hxk_NoRise hxi_NoRise hxf_NoRise hxF_NoRise hxc_NoRise hxC_NoRise hxv_NoRise hxp_NoRise hxx_NoRise hxm_NoRise hxu_NoRise hxT_NoRise hxo_NoRise hxM_NoRise hxV_NoRise hxd_NoRise hxa_NoRise hxb_NoRise hxD_NoRise hxy_NoRise rfl ⟨fun _ => ⟨_, rfl⟩, fun _ => rfl, fun _ => rfl⟩ (fun us hu => match us, hu with | [_, _], _ => rfl) rfl rfl rfl rfl rfl rfl rfl rfl (by decide +kernel) rfl rfl rfl
  e_NoRise := PySem.W.mg_of X G hxg_NoRise
  na_House__strengths := hna_House__strengths
  na_House__services := hna_House__services
  na_Run_house := hna_Run_house
  na_Run__picture := hna_Run__picture
  na_Run__events := hna_Run__events
  b_abs := PySem.W.mg_none_of X G hb_abs
  b_all := PySem.W.mg_none_of X G hb_all
  b_bool := PySem.W.mg_none_of X G hb_bool
  b_enumerate := PySem.W.mg_none_of X G hb_enumerate
  b_int := PySem.W.mg_none_of X G hb_int
  b_isinstance := PySem.W.mg_none_of X G hb_isinstance
  b_len := PySem.W.mg_none_of X G hb_len
  b_list := PySem.W.mg_none_of X G hb_list
  b_max := PySem.W.mg_none_of X G hb_max
  b_min := PySem.W.mg_none_of X G hb_min
  b_range := PySem.W.mg_none_of X G hb_range
  b_set := PySem.W.mg_none_of X G hb_set
  b_sorted := PySem.W.mg_none_of X G hb_sorted
  b_str := PySem.W.mg_none_of X G hb_str
  b_sum := PySem.W.mg_none_of X G hb_sum
  b_tuple := PySem.W.mg_none_of X G hb_tuple
  b_zip := PySem.W.mg_none_of X G hb_zip
  c_MOST_MACHINES := ⟨_, PySem.W.mg_of X G hkc_MOST_MACHINES⟩
  c_MOST_SERVICES := ⟨_, PySem.W.mg_of X G hkc_MOST_SERVICES⟩
  c_MOST_STRENGTH := ⟨_, PySem.W.mg_of X G hkc_MOST_STRENGTH⟩
  c_MOST_WEIGHT := ⟨_, PySem.W.mg_of X G hkc_MOST_WEIGHT⟩
  c_NOWHERE := ⟨_, PySem.W.mg_of X G hkc_NOWHERE⟩
  c_RULES := PySem.W.mg_of X G hkc_RULES
  q_RULES := fun H => .inr ⟨_, _, _, hkl_RULES, rfl, rfl, (by show 3 ≤ sizeLine; decide), (.cons ⟨_, rfl⟩ (.cons ⟨_, rfl⟩ (.cons ⟨_, rfl⟩ .nil)))⟩
end Nx.Lk09

set_option Elab.async false
set_option linter.all false
set_option maxRecDepth 100000
set_option maxHeartbeats 1000000
set_option autoImplicit false
namespace Nx.Lk09
open PySem L2 Nx
variable {P P' : Nat → Prop} {S S' : Sto} {Q : V → Sto → Prop}
/-- the first that is not down, or -1 -/
def fl : List Int → List Int → Int
  | [], _ => -1
  | m :: r, down => if m ∈ down then fl r down else m
theorem fl_drop {order down : List Int} {i : Nat} {m : Int} (h : order[i]? = some m) : fl (order.drop i) down = if m ∈ down then fl (order.drop (i + 1)) down else m := by
  obtain ⟨l, e⟩ := List.getElem?_eq_some_iff.mp h
  rw [List.drop_eq_getElem_cons l, e]; rfl
theorem sp_first_living {o d : V} {order down : List Int} (ho : TupI P S o order) (hs : order.length < 64) (hd : seqOf S d = some (down.map V.int)) (q : Q (.int (fl order down)) S) : Ok (d_first_living [o, d] S) Q := by
  (refine (Nx.ok_den (by rfl)).mpr ?_)
  obtain ⟨n, rfl, hn, hx⟩ := ho
  unfold b_first_living
  (simp only [Nx.oks_cons, Nx.oks_nil, Nx.x_ite, Nx.x_asg, Nx.x_par, Nx.x_expr, Nx.x_ret, Nx.x_for, Nx.x_setf, Nx.e_ite, Nx.e_and, Nx.e_or, Nx.e_chain, Nx.e_mc, Nx.e_cst, Nx.e_pn, Nx.es_nil, Nx.es_cons, Nx.es_star, Nx.e_lc,
  Nx.e_var, Nx.ok_val, Nx.ok_pv1, Nx.ok_pv2, Nx.ok_pNot, Nx.bl_ex, Nx.ref_ex,
  List.map_cons, List.map_nil, List.cons_append, List.nil_append, List.append_nil, List.replicate_succ, List.replicate_zero, Nat.reduceSub, Nat.reduceAdd, List.getElem?_cons_zero, List.getElem?_cons_succ, Nx.pb_nm, Nx.pbs_nil, Nx.pbs_nm, List.set_cons_zero, List.set_cons_succ, if_true, if_false, Bool.false_eq_true, Bool.not_eq_true', decide_eq_true_eq, decide_eq_false_iff_not, Bool.not_eq_false', Nx.wipeR, Option.some.injEq, exists_eq_left', and_true, true_and, false_imp_iff, true_imp_iff, Bool.true_eq_false, eq_self_iff_true])
  rw [it_start (k := false) hx]
  refine ⟨_, rfl, for_sq (vs := order.map V.int) (fun i ρ S' => S' = S ∧ (∃ u, ρ = [some (.ref n), some d, u]) ∧ fl (order.drop i) down = fl order down) (by simp [fuel]; omega) ?_ ?_ ?_ ⟨rfl, ⟨_, rfl⟩, rfl⟩⟩
  · rintro i ρ S' ⟨rfl, _⟩; exact hx
  · rintro i ρ S' x hx' ⟨rfl, ⟨u, rfl⟩, hf⟩
    rw [List.getElem?_map] at hx'
    cases hm : order[i]? with
    | none => rw [hm] at hx'; cases hx'
    | some m =>
      rw [hm] at hx'; cases hx'
      refine ⟨_, rfl, ?_⟩
      (simp only [Nx.oks_cons, Nx.oks_nil, Nx.x_ite, Nx.x_asg, Nx.x_par, Nx.x_expr, Nx.x_ret, Nx.x_for, Nx.x_setf, Nx.e_ite, Nx.e_and, Nx.e_or, Nx.e_chain, Nx.e_mc, Nx.e_cst, Nx.e_pn, Nx.es_nil, Nx.es_cons, Nx.es_star, Nx.e_lc,
  Nx.e_var, Nx.ok_val, Nx.ok_pv1, Nx.ok_pv2, Nx.ok_pNot, Nx.bl_ex, Nx.ref_ex,
  List.map_cons, List.map_nil, List.cons_append, List.nil_append, List.append_nil, List.replicate_succ, List.replicate_zero, Nat.reduceSub, Nat.reduceAdd, List.getElem?_cons_zero, List.getElem?_cons_succ, Nx.pb_nm, Nx.pbs_nil, Nx.pbs_nm, List.set_cons_zero, List.set_cons_succ, if_true, if_false, Bool.false_eq_true, Bool.not_eq_true', decide_eq_true_eq, decide_eq_false_iff_not, Bool.not_eq_false', Nx.wipeR, Option.some.injEq, exists_eq_left', and_true, true_and, false_imp_iff, true_imp_iff, Bool.true_eq_false, eq_self_iff_true])
      rw [gE (gIn_ints hd)]
      (simp only [Nx.oks_cons, Nx.oks_nil, Nx.x_ite, Nx.x_asg, Nx.x_par, Nx.x_expr, Nx.x_ret, Nx.x_for, Nx.x_setf, Nx.e_ite, Nx.e_and, Nx.e_or, Nx.e_chain, Nx.e_mc, Nx.e_cst, Nx.e_pn, Nx.es_nil, Nx.es_cons, Nx.es_star, Nx.e_lc,
  Nx.e_var, Nx.ok_val, Nx.ok_pv1, Nx.ok_pv2, Nx.ok_pNot, Nx.bl_ex, Nx.ref_ex,
  List.map_cons, List.map_nil, List.cons_append, List.nil_append, List.append_nil, List.replicate_succ, List.replicate_zero, Nat.reduceSub, Nat.reduceAdd, List.getElem?_cons_zero, List.getElem?_cons_succ, Nx.pb_nm, Nx.pbs_nil, Nx.pbs_nm, List.set_cons_zero, List.set_cons_succ, if_true, if_false, Bool.false_eq_true, Bool.not_eq_true', decide_eq_true_eq, decide_eq_false_iff_not, Bool.not_eq_false', Nx.wipeR, Option.some.injEq, exists_eq_left', and_true, true_and, false_imp_iff, true_imp_iff, Bool.true_eq_false, eq_self_iff_true])
      rw [fl_drop hm] at hf
      refine ⟨fun h => ?_, fun h => ⟨⟨_, rfl⟩, ?_⟩⟩
      · rw [if_neg h] at hf; rw [hf]; exact q
      · rw [if_pos h] at hf; exact hf
  · rintro ρ S' ⟨rfl, ⟨u, rfl⟩, hf⟩
    rw [← hf] at q
    simpa [fl] using q

/-! ### the program's data -/
structure Srv where
  w : Int
  ord : List Int
  rule : Str
def SvAt (P : Nat → Prop) (S : Sto) (v : V) (s : Srv) : Prop := ∃ n o, v = .ref n ∧ ¬ P n ∧ S[n]? = some (.tup [.int s.w, o, .str s.rule]) ∧ TupI P S o s.ord
theorem SvAt.ag {v : V} {s : Srv} (h : SvAt P S v s) (a : Ag P S S') : SvAt P S' v s := let ⟨n, o, e, hn, x, t⟩ := h; ⟨n, o, e, hn, a.at_ _ _ hn x, t.ag a⟩
theorem SvAt.weak {v : V} {s : Srv} (h : SvAt P S v s) (k : ∀ i, P' i → P i) : SvAt P' S v s := let ⟨n, o, e, hn, x, t⟩ := h; ⟨n, o, e, fun z => hn (k n z), x, t.weak k⟩
def SvsAt (P : Nat → Prop) (S : Sto) (v : V) (ss : List Srv) : Prop := ∃ n vs, v = .ref n ∧ ¬ P n ∧ S[n]? = some (.lst vs) ∧ F2 (SvAt P S) vs ss
theorem SvsAt.ag {v : V} {ss : List Srv} (h : SvsAt P S v ss) (a : Ag P S S') : SvsAt P S' v ss := let ⟨n, vs, e, hn, x, t⟩ := h; ⟨n, vs, e, hn, a.at_ _ _ hn x, t.mono fun _ _ q => q.ag a⟩
theorem SvsAt.weak {v : V} {ss : List Srv} (h : SvsAt P S v ss) (k : ∀ i, P' i → P i) : SvsAt P' S v ss := let ⟨n, vs, e, hn, x, t⟩ := h; ⟨n, vs, e, fun z => hn (k n z), x, t.mono fun _ _ q => q.weak k⟩
def HsAt (P : Nat → Prop) (S : Sto) (v : V) (k : Nat) (ss : List Srv) : Prop := ∃ n a b xs, v = .ref n ∧ ¬ P n ∧ S[n]? = some (.ins 0 [("_strengths", .ref a), ("_services", b)]) ∧ ¬ P a ∧ S[a]? = some (.lst xs) ∧ xs.length = k ∧ SvsAt P S b ss
theorem HsAt.ag {v : V} {k : Nat} {ss : List Srv} (h : HsAt P S v k ss) (a : Ag P S S') : HsAt P S' v k ss := let ⟨n, c, b, xs, e, hn, x, hc, y, l, t⟩ := h; ⟨n, c, b, xs, e, hn, a.at_ _ _ hn x, hc, a.at_ _ _ hc y, l, t.ag a⟩
theorem HsAt.weak {v : V} {k : Nat} {ss : List Srv} (h : HsAt P S v k ss) (q : ∀ i, P' i → P i) : HsAt P' S v k ss := let ⟨n, c, b, xs, e, hn, x, hc, y, l, t⟩ := h; ⟨n, c, b, xs, e, fun z => hn (q n z), x, fun z => hc (q c z), y, l, t.weak q⟩
def word : Bool → Str
  | true => "fall"
  | false => "rise"
def EvAt (P : Nat → Prop) (S : Sto) (v : V) (e : Bool × Int) : Prop := ∃ n, v = .ref n ∧ ¬ P n ∧ S[n]? = some (.tup [.str (word e.1), .int e.2])
theorem EvAt.ag {v : V} {e : Bool × Int} (h : EvAt P S v e) (a : Ag P S S') : EvAt P S' v e := let ⟨n, q, hn, x⟩ := h; ⟨n, q, hn, a.at_ _ _ hn x⟩
theorem EvAt.weak {v : V} {e : Bool × Int} (h : EvAt P S v e) (k : ∀ i, P' i → P i) : EvAt P' S v e := let ⟨n, q, hn, x⟩ := h; ⟨n, q, fun z => hn (k n z), x⟩
/-- P speaks of what is below S only -/
def Lo (P : Nat → Prop) (S : Sto) : Prop := ∀ i, S.length ≤ i → ¬ P i
theorem Lo.ag (h : Lo P S) (a : Ag P' S S') : Lo P S' := fun i l => h i (Nat.le_trans a.len l)
theorem Lo.no : Lo NoP S := fun _ _ h => h
theorem word_eq (b : Bool) : (word b = ("fall" : Str)) ↔ b = true := by cases b <;> decide +kernel
theorem word_ok (b : Bool) : PyData.strOk (word b) = true := by cases b <;> decide +kernel

theorem gLt_int {a b : Int} : gLt (.int a) (.int b) S = some (.bl (decide (a < b))) := rfl
theorem gLe_int {a b : Int} : gLe (.int a) (.int b) S = some (.bl (decide (a ≤ b))) := rfl
theorem ok_pIndexT {v : V} {xs : List Int} {m : Int} (h : TupI P S v xs) (hm : m ∈ xs) : Ok (pIndexT [v, .int m] S) Q ↔ Q (.int (xs.idxOf m : Nat)) S := by
  unfold pIndexT
  simp only [h.tup, Option.bind_some, ints_map, if_pos hm]
  exact ok_val
/-- where a service is behind a rising -/
def pbr (s : Srv) (place m : Int) : Int := if m ∉ s.ord then place else if place = -1 then m else if s.rule = ("first" : Str) ∧ s.ord.idxOf m < s.ord.idxOf place then m else if s.rule = ("home" : Str) ∧ s.ord.head? = some m then m else place
theorem ok_mc {f : Prim} {v : V} {xs : List V} {Q : V → Sto → Prop} {b : Bool} (h : b = true) : Ok (match b with | true => f (v :: xs) S | false => none) Q ↔ Ok (f (v :: xs) S) Q := by
  subst h; exact Iff.rfl
theorem sp_pb {s e d : V} {sv : Srv} {place : Int} {ev : Bool × Int} {left : List Int} (hs : SvAt P S s sv) (he : EvAt P S e ev) (hl : sv.ord.length < 64) (hr : PyData.strOk sv.rule = true) (hp : place = -1 ∨ place ∈ sv.ord) (hd : seqOf S d = some (left.map V.int))
    (q : Q (.int (if ev.1 = true then (if place = ev.2 then fl sv.ord left else place) else pbr sv place ev.2)) S) : Ok (d_place_behind [s, .int place, e, d] S) Q := by
  (refine (Nx.ok_den (by rfl)).mpr ?_)
  obtain ⟨n, o, rfl, hn, hx, ho⟩ := hs
  obtain ⟨n2, rfl, hn2, hxe⟩ := he
  unfold b_place_behind
  (simp only [Nx.oks_cons, Nx.oks_nil, Nx.x_ite, Nx.x_asg, Nx.x_par, Nx.x_expr, Nx.x_ret, Nx.x_for, Nx.x_setf, Nx.e_ite, Nx.e_and, Nx.e_or, Nx.e_chain, Nx.e_mc, Nx.e_cst, Nx.e_pn, Nx.es_nil, Nx.es_cons, Nx.es_star, Nx.e_lc,
  Nx.e_var, Nx.ok_val, Nx.ok_pv1, Nx.ok_pv2, Nx.ok_pNot, Nx.bl_ex, Nx.ref_ex,
  List.map_cons, List.map_nil, List.cons_append, List.nil_append, List.append_nil, List.replicate_succ, List.replicate_zero, Nat.reduceSub, Nat.reduceAdd, List.getElem?_cons_zero, List.getElem?_cons_succ, Nx.pb_nm, Nx.pbs_nil, Nx.pbs_nm, List.set_cons_zero, List.set_cons_succ, if_true, if_false, Bool.false_eq_true, Bool.not_eq_true', decide_eq_true_eq, decide_eq_false_iff_not, Bool.not_eq_false', Nx.wipeR, Option.some.injEq, exists_eq_left', and_true, true_and, false_imp_iff, true_imp_iff, Bool.true_eq_false, eq_self_iff_true])
  rw [pb_tup hxe]
  (simp only [Nx.oks_cons, Nx.oks_nil, Nx.x_ite, Nx.x_asg, Nx.x_par, Nx.x_expr, Nx.x_ret, Nx.x_for, Nx.x_setf, Nx.e_ite, Nx.e_and, Nx.e_or, Nx.e_chain, Nx.e_mc, Nx.e_cst, Nx.e_pn, Nx.es_nil, Nx.es_cons, Nx.es_star, Nx.e_lc,
  Nx.e_var, Nx.ok_val, Nx.ok_pv1, Nx.ok_pv2, Nx.ok_pNot, Nx.bl_ex, Nx.ref_ex,
  List.map_cons, List.map_nil, List.cons_append, List.nil_append, List.append_nil, List.replicate_succ, List.replicate_zero, Nat.reduceSub, Nat.reduceAdd, List.getElem?_cons_zero, List.getElem?_cons_succ, Nx.pb_nm, Nx.pbs_nil, Nx.pbs_nm, List.set_cons_zero, List.set_cons_succ, if_true, if_false, Bool.false_eq_true, Bool.not_eq_true', decide_eq_true_eq, decide_eq_false_iff_not, Bool.not_eq_false', Nx.wipeR, Option.some.injEq, exists_eq_left', and_true, true_and, false_imp_iff, true_imp_iff, Bool.true_eq_false, eq_self_iff_true])
  rw [pb_tup hx]
  (simp only [Nx.oks_cons, Nx.oks_nil, Nx.x_ite, Nx.x_asg, Nx.x_par, Nx.x_expr, Nx.x_ret, Nx.x_for, Nx.x_setf, Nx.e_ite, Nx.e_and, Nx.e_or, Nx.e_chain, Nx.e_mc, Nx.e_cst, Nx.e_pn, Nx.es_nil, Nx.es_cons, Nx.es_star, Nx.e_lc,
  Nx.e_var, Nx.ok_val, Nx.ok_pv1, Nx.ok_pv2, Nx.ok_pNot, Nx.bl_ex, Nx.ref_ex,
  List.map_cons, List.map_nil, List.cons_append, List.nil_append, List.append_nil, List.replicate_succ, List.replicate_zero, Nat.reduceSub, Nat.reduceAdd, List.getElem?_cons_zero, List.getElem?_cons_succ, Nx.pb_nm, Nx.pbs_nil, Nx.pbs_nm, List.set_cons_zero, List.set_cons_succ, if_true, if_false, Bool.false_eq_true, Bool.not_eq_true', decide_eq_true_eq, decide_eq_false_iff_not, Bool.not_eq_false', Nx.wipeR, Option.some.injEq, exists_eq_left', and_true, true_and, false_imp_iff, true_imp_iff, Bool.true_eq_false, eq_self_iff_true])
  rw [gE (gEq_str (word_ok _) (by decide +kernel))]
  (simp only [Nx.oks_cons, Nx.oks_nil, Nx.x_ite, Nx.x_asg, Nx.x_par, Nx.x_expr, Nx.x_ret, Nx.x_for, Nx.x_setf, Nx.e_ite, Nx.e_and, Nx.e_or, Nx.e_chain, Nx.e_mc, Nx.e_cst, Nx.e_pn, Nx.es_nil, Nx.es_cons, Nx.es_star, Nx.e_lc,
  Nx.e_var, Nx.ok_val, Nx.ok_pv1, Nx.ok_pv2, Nx.ok_pNot, Nx.bl_ex, Nx.ref_ex,
  List.map_cons, List.map_nil, List.cons_append, List.nil_append, List.append_nil, List.replicate_succ, List.replicate_zero, Nat.reduceSub, Nat.reduceAdd, List.getElem?_cons_zero, List.getElem?_cons_succ, Nx.pb_nm, Nx.pbs_nil, Nx.pbs_nm, List.set_cons_zero, List.set_cons_succ, if_true, if_false, Bool.false_eq_true, Bool.not_eq_true', decide_eq_true_eq, decide_eq_false_iff_not, Bool.not_eq_false', Nx.wipeR, Option.some.injEq, exists_eq_left', and_true, true_and, false_imp_iff, true_imp_iff, Bool.true_eq_false, eq_self_iff_true])
  refine ⟨fun h0 => ?_, fun h0 => ?_⟩
  · rw [word_eq] at h0
    rw [if_pos h0] at q
    rw [gE gEq_int]
    (simp only [Nx.oks_cons, Nx.oks_nil, Nx.x_ite, Nx.x_asg, Nx.x_par, Nx.x_expr, Nx.x_ret, Nx.x_for, Nx.x_setf, Nx.e_ite, Nx.e_and, Nx.e_or, Nx.e_chain, Nx.e_mc, Nx.e_cst, Nx.e_pn, Nx.es_nil, Nx.es_cons, Nx.es_star, Nx.e_lc,
  Nx.e_var, Nx.ok_val, Nx.ok_pv1, Nx.ok_pv2, Nx.ok_pNot, Nx.bl_ex, Nx.ref_ex,
  List.map_cons, List.map_nil, List.cons_append, List.nil_append, List.append_nil, List.replicate_succ, List.replicate_zero, Nat.reduceSub, Nat.reduceAdd, List.getElem?_cons_zero, List.getElem?_cons_succ, Nx.pb_nm, Nx.pbs_nil, Nx.pbs_nm, List.set_cons_zero, List.set_cons_succ, if_true, if_false, Bool.false_eq_true, Bool.not_eq_true', decide_eq_true_eq, decide_eq_false_iff_not, Bool.not_eq_false', Nx.wipeR, Option.some.injEq, exists_eq_left', and_true, true_and, false_imp_iff, true_imp_iff, Bool.true_eq_false, eq_self_iff_true])
    refine ⟨fun h => ?_, fun h => ?_⟩
    · refine sp_first_living ho hl hd ?_
      rw [if_pos h] at q; exact q
    · rw [if_neg h] at q; exact q
  have h0' : ¬ ev.1 = true := fun z => h0 ((word_eq _).mpr z)
  rw [if_neg h0'] at q
  rw [gE (gIn_ints ho.seq)]
  (simp only [Nx.oks_cons, Nx.oks_nil, Nx.x_ite, Nx.x_asg, Nx.x_par, Nx.x_expr, Nx.x_ret, Nx.x_for, Nx.x_setf, Nx.e_ite, Nx.e_and, Nx.e_or, Nx.e_chain, Nx.e_mc, Nx.e_cst, Nx.e_pn, Nx.es_nil, Nx.es_cons, Nx.es_star, Nx.e_lc,
  Nx.e_var, Nx.ok_val, Nx.ok_pv1, Nx.ok_pv2, Nx.ok_pNot, Nx.bl_ex, Nx.ref_ex,
  List.map_cons, List.map_nil, List.cons_append, List.nil_append, List.append_nil, List.replicate_succ, List.replicate_zero, Nat.reduceSub, Nat.reduceAdd, List.getElem?_cons_zero, List.getElem?_cons_succ, Nx.pb_nm, Nx.pbs_nil, Nx.pbs_nm, List.set_cons_zero, List.set_cons_succ, if_true, if_false, Bool.false_eq_true, Bool.not_eq_true', decide_eq_true_eq, decide_eq_false_iff_not, Bool.not_eq_false', Nx.wipeR, Option.some.injEq, exists_eq_left', and_true, true_and, false_imp_iff, true_imp_iff, Bool.true_eq_false, eq_self_iff_true])
  unfold pbr at q
  refine ⟨fun h => ?_, fun h => ?_⟩
  · rw [if_pos h] at q; exact q
  rw [if_neg (by simpa using h)] at q
  rw [gE gEq_int]
  (simp only [Nx.oks_cons, Nx.oks_nil, Nx.x_ite, Nx.x_asg, Nx.x_par, Nx.x_expr, Nx.x_ret, Nx.x_for, Nx.x_setf, Nx.e_ite, Nx.e_and, Nx.e_or, Nx.e_chain, Nx.e_mc, Nx.e_cst, Nx.e_pn, Nx.es_nil, Nx.es_cons, Nx.es_star, Nx.e_lc,
  Nx.e_var, Nx.ok_val, Nx.ok_pv1, Nx.ok_pv2, Nx.ok_pNot, Nx.bl_ex, Nx.ref_ex,
  List.map_cons, List.map_nil, List.cons_append, List.nil_append, List.append_nil, List.replicate_succ, List.replicate_zero, Nat.reduceSub, Nat.reduceAdd, List.getElem?_cons_zero, List.getElem?_cons_succ, Nx.pb_nm, Nx.pbs_nil, Nx.pbs_nm, List.set_cons_zero, List.set_cons_succ, if_true, if_false, Bool.false_eq_true, Bool.not_eq_true', decide_eq_true_eq, decide_eq_false_iff_not, Bool.not_eq_false', Nx.wipeR, Option.some.injEq, exists_eq_left', and_true, true_and, false_imp_iff, true_imp_iff, Bool.true_eq_false, eq_self_iff_true])
  refine ⟨fun h1 => ?_, fun h1 => ?_⟩
  · rw [if_pos h1] at q; exact q
  rw [if_neg h1] at q
  have hp : place ∈ sv.ord := hp.resolve_left h1
  have hm : ev.2 ∈ sv.ord := by simpa using h
  have fin : Q (.int (if sv.rule = ("home" : Str) ∧ sv.ord.head? = some ev.2 then ev.2 else place)) S → ∃ v, gEq false (.str sv.rule) (.str "home") S = some v ∧ ∃ b, v = V.bl b ∧ (b = true → ∃ v, gIx o (.int 0) S = some v ∧ ∃ v_1, gEq false (.int ev.2) v S = some v_1 ∧ ∃ b, v_1 = V.bl b ∧ (b = true → Q (.int ev.2) S) ∧ (b = false → Q (.int place) S)) ∧ (b = false → Q (.int place) S) := by
    intro q
    refine (gE (gEq_str hr (by decide +kernel))).mpr ?_
    (simp only [Nx.oks_cons, Nx.oks_nil, Nx.x_ite, Nx.x_asg, Nx.x_par, Nx.x_expr, Nx.x_ret, Nx.x_for, Nx.x_setf, Nx.e_ite, Nx.e_and, Nx.e_or, Nx.e_chain, Nx.e_mc, Nx.e_cst, Nx.e_pn, Nx.es_nil, Nx.es_cons, Nx.es_star, Nx.e_lc,
  Nx.e_var, Nx.ok_val, Nx.ok_pv1, Nx.ok_pv2, Nx.ok_pNot, Nx.bl_ex, Nx.ref_ex,
  List.map_cons, List.map_nil, List.cons_append, List.nil_append, List.append_nil, List.replicate_succ, List.replicate_zero, Nat.reduceSub, Nat.reduceAdd, List.getElem?_cons_zero, List.getElem?_cons_succ, Nx.pb_nm, Nx.pbs_nil, Nx.pbs_nm, List.set_cons_zero, List.set_cons_succ, if_true, if_false, Bool.false_eq_true, Bool.not_eq_true', decide_eq_true_eq, decide_eq_false_iff_not, Bool.not_eq_false', Nx.wipeR, Option.some.injEq, exists_eq_left', and_true, true_and, false_imp_iff, true_imp_iff, Bool.true_eq_false, eq_self_iff_true])
    refine ⟨fun h2 => ?_, fun h2 => ?_⟩
    · cases ho' : sv.ord with
      | nil => rw [ho'] at hm; cases hm
      | cons c r =>
        refine (gE (gIx_seq ho.seq (v := .int c) (by rw [ho']; exact atI0))).mpr ?_
        refine (gE gEq_int).mpr ?_
        (simp only [Nx.oks_cons, Nx.oks_nil, Nx.x_ite, Nx.x_asg, Nx.x_par, Nx.x_expr, Nx.x_ret, Nx.x_for, Nx.x_setf, Nx.e_ite, Nx.e_and, Nx.e_or, Nx.e_chain, Nx.e_mc, Nx.e_cst, Nx.e_pn, Nx.es_nil, Nx.es_cons, Nx.es_star, Nx.e_lc,
  Nx.e_var, Nx.ok_val, Nx.ok_pv1, Nx.ok_pv2, Nx.ok_pNot, Nx.bl_ex, Nx.ref_ex,
  List.map_cons, List.map_nil, List.cons_append, List.nil_append, List.append_nil, List.replicate_succ, List.replicate_zero, Nat.reduceSub, Nat.reduceAdd, List.getElem?_cons_zero, List.getElem?_cons_succ, Nx.pb_nm, Nx.pbs_nil, Nx.pbs_nm, List.set_cons_zero, List.set_cons_succ, if_true, if_false, Bool.false_eq_true, Bool.not_eq_true', decide_eq_true_eq, decide_eq_false_iff_not, Bool.not_eq_false', Nx.wipeR, Option.some.injEq, exists_eq_left', and_true, true_and, false_imp_iff, true_imp_iff, Bool.true_eq_false, eq_self_iff_true])
        rw [ho', List.head?_cons] at q
        refine ⟨fun h3 => ?_, fun h3 => ?_⟩
        · rw [if_pos ⟨h2, by rw [h3]⟩] at q; exact q
        · rw [if_neg (fun z => h3 (by have := z.2; simp at this; exact this.symm))] at q; exact q
    · rw [if_neg (fun z => h2 z.1)] at q; exact q
  refine (gE (gEq_str hr (by decide +kernel))).mpr ?_
  (simp only [Nx.oks_cons, Nx.oks_nil, Nx.x_ite, Nx.x_asg, Nx.x_par, Nx.x_expr, Nx.x_ret, Nx.x_for, Nx.x_setf, Nx.e_ite, Nx.e_and, Nx.e_or, Nx.e_chain, Nx.e_mc, Nx.e_cst, Nx.e_pn, Nx.es_nil, Nx.es_cons, Nx.es_star, Nx.e_lc,
  Nx.e_var, Nx.ok_val, Nx.ok_pv1, Nx.ok_pv2, Nx.ok_pNot, Nx.bl_ex, Nx.ref_ex,
  List.map_cons, List.map_nil, List.cons_append, List.nil_append, List.append_nil, List.replicate_succ, List.replicate_zero, Nat.reduceSub, Nat.reduceAdd, List.getElem?_cons_zero, List.getElem?_cons_succ, Nx.pb_nm, Nx.pbs_nil, Nx.pbs_nm, List.set_cons_zero, List.set_cons_succ, if_true, if_false, Bool.false_eq_true, Bool.not_eq_true', decide_eq_true_eq, decide_eq_false_iff_not, Bool.not_eq_false', Nx.wipeR, Option.some.injEq, exists_eq_left', and_true, true_and, false_imp_iff, true_imp_iff, Bool.true_eq_false, eq_self_iff_true])
  refine ⟨fun h2 => ⟨ho.isTup, (ok_pIndexT ho hm).mpr ⟨ho.isTup, (ok_pIndexT ho hp).mpr ((gE gLt_int).mpr ?_)⟩⟩, fun h2 => ?_⟩
  · (simp only [Nx.oks_cons, Nx.oks_nil, Nx.x_ite, Nx.x_asg, Nx.x_par, Nx.x_expr, Nx.x_ret, Nx.x_for, Nx.x_setf, Nx.e_ite, Nx.e_and, Nx.e_or, Nx.e_chain, Nx.e_mc, Nx.e_cst, Nx.e_pn, Nx.es_nil, Nx.es_cons, Nx.es_star, Nx.e_lc,
  Nx.e_var, Nx.ok_val, Nx.ok_pv1, Nx.ok_pv2, Nx.ok_pNot, Nx.bl_ex, Nx.ref_ex,
  List.map_cons, List.map_nil, List.cons_append, List.nil_append, List.append_nil, List.replicate_succ, List.replicate_zero, Nat.reduceSub, Nat.reduceAdd, List.getElem?_cons_zero, List.getElem?_cons_succ, Nx.pb_nm, Nx.pbs_nil, Nx.pbs_nm, List.set_cons_zero, List.set_cons_succ, if_true, if_false, Bool.false_eq_true, Bool.not_eq_true', decide_eq_true_eq, decide_eq_false_iff_not, Bool.not_eq_false', Nx.wipeR, Option.some.injEq, exists_eq_left', and_true, true_and, false_imp_iff, true_imp_iff, Bool.true_eq_false, eq_self_iff_true])
    refine ⟨fun h3 => ?_, fun h3 => ?_⟩
    · rw [if_pos ⟨h2, by omega⟩] at q; exact q
    · rw [if_neg (fun z => h3 (by have := z.2; omega))] at q; exact fin q
  · rw [if_neg (fun z => h2 z.1)] at q
    exact fin q

/-! ### who is down -/
def db (down : List Int) (e : Bool × Int) : List Int := if e.1 = true then sortI (down ++ [e.2]) else down.filter fun x => x ≠ e.2
theorem ok_pn1 {g : V → Sto → Option Ob} {a : V} {o : Ob} (h : g a S = some o) : Ok (pn1 g [a] S) Q ↔ Q (.ref S.length) (S ++ [o]) := by
  unfold pn1; simp only [h, Option.map_some]; exact ok_val
theorem ok_tupleOf {n : Nat} {vs : List V} (h : S[n]? = some (.lst vs)) : Ok (pTupleOf [.ref n] S) Q ↔ Q (.ref S.length) (S ++ [.tup vs]) := by
  unfold pTupleOf
  simp only [tupOf, lstOf, h]; exact ok_val
theorem sp_down_behind {d e : V} {down : List Int} {ev : Bool × Int} (hd : TupI P S d down) (he : EvAt P S e ev) (hl : down.length < 63) (hP : Lo P S)
    (q : ∀ v S', Ag NoP S S' → TupI P S' v (db down ev) → Q v S') : Ok (d_down_behind [d, e] S) Q := by
  (refine (Nx.ok_den (by rfl)).mpr ?_)
  obtain ⟨n, rfl, hn, hx⟩ := he
  unfold b_down_behind
  (simp only [Nx.oks_cons, Nx.oks_nil, Nx.x_ite, Nx.x_asg, Nx.x_par, Nx.x_expr, Nx.x_ret, Nx.x_for, Nx.x_setf, Nx.e_ite, Nx.e_and, Nx.e_or, Nx.e_chain, Nx.e_mc, Nx.e_cst, Nx.e_pn, Nx.es_nil, Nx.es_cons, Nx.es_star, Nx.e_lc,
  Nx.e_var, Nx.ok_val, Nx.ok_pv1, Nx.ok_pv2, Nx.ok_pNot, Nx.bl_ex, Nx.ref_ex,
  List.map_cons, List.map_nil, List.cons_append, List.nil_append, List.append_nil, List.replicate_succ, List.replicate_zero, Nat.reduceSub, Nat.reduceAdd, List.getElem?_cons_zero, List.getElem?_cons_succ, Nx.pb_nm, Nx.pbs_nil, Nx.pbs_nm, List.set_cons_zero, List.set_cons_succ, if_true, if_false, Bool.false_eq_true, Bool.not_eq_true', decide_eq_true_eq, decide_eq_false_iff_not, Bool.not_eq_false', Nx.wipeR, Option.some.injEq, exists_eq_left', and_true, true_and, false_imp_iff, true_imp_iff, Bool.true_eq_false, eq_self_iff_true])
  rw [pb_tup hx]
  (simp only [Nx.oks_cons, Nx.oks_nil, Nx.x_ite, Nx.x_asg, Nx.x_par, Nx.x_expr, Nx.x_ret, Nx.x_for, Nx.x_setf, Nx.e_ite, Nx.e_and, Nx.e_or, Nx.e_chain, Nx.e_mc, Nx.e_cst, Nx.e_pn, Nx.es_nil, Nx.es_cons, Nx.es_star, Nx.e_lc,
  Nx.e_var, Nx.ok_val, Nx.ok_pv1, Nx.ok_pv2, Nx.ok_pNot, Nx.bl_ex, Nx.ref_ex,
  List.map_cons, List.map_nil, List.cons_append, List.nil_append, List.append_nil, List.replicate_succ, List.replicate_zero, Nat.reduceSub, Nat.reduceAdd, List.getElem?_cons_zero, List.getElem?_cons_succ, Nx.pb_nm, Nx.pbs_nil, Nx.pbs_nm, List.set_cons_zero, List.set_cons_succ, if_true, if_false, Bool.false_eq_true, Bool.not_eq_true', decide_eq_true_eq, decide_eq_false_iff_not, Bool.not_eq_false', Nx.wipeR, Option.some.injEq, exists_eq_left', and_true, true_and, false_imp_iff, true_imp_iff, Bool.true_eq_false, eq_self_iff_true])
  rw [gE (gEq_str (word_ok _) (by decide +kernel))]
  (simp only [Nx.oks_cons, Nx.oks_nil, Nx.x_ite, Nx.x_asg, Nx.x_par, Nx.x_expr, Nx.x_ret, Nx.x_for, Nx.x_setf, Nx.e_ite, Nx.e_and, Nx.e_or, Nx.e_chain, Nx.e_mc, Nx.e_cst, Nx.e_pn, Nx.es_nil, Nx.es_cons, Nx.es_star, Nx.e_lc,
  Nx.e_var, Nx.ok_val, Nx.ok_pv1, Nx.ok_pv2, Nx.ok_pNot, Nx.bl_ex, Nx.ref_ex,
  List.map_cons, List.map_nil, List.cons_append, List.nil_append, List.append_nil, List.replicate_succ, List.replicate_zero, Nat.reduceSub, Nat.reduceAdd, List.getElem?_cons_zero, List.getElem?_cons_succ, Nx.pb_nm, Nx.pbs_nil, Nx.pbs_nm, List.set_cons_zero, List.set_cons_succ, if_true, if_false, Bool.false_eq_true, Bool.not_eq_true', decide_eq_true_eq, decide_eq_false_iff_not, Bool.not_eq_false', Nx.wipeR, Option.some.injEq, exists_eq_left', and_true, true_and, false_imp_iff, true_imp_iff, Bool.true_eq_false, eq_self_iff_true])
  unfold db at q
  refine ⟨fun h => ?_, fun h => ?_⟩
  · rw [word_eq] at h
    rw [if_pos h] at q
    refine ⟨_, hd.seq, ?_⟩
    rw [ok_pLst (by simp; omega)]
    have e1 : gSorted (.ref S.length) (S ++ [.lst (down.map V.int ++ [V.int ev.2])]) = some (.lst ((sortI (down ++ [ev.2])).map V.int)) := by
      have hh : lstInts (S ++ [.lst (down.map V.int ++ [V.int ev.2])]) (.ref S.length) = some (down ++ [ev.2]) := by
        have e : (down.map V.int ++ [V.int ev.2]) = (down ++ [ev.2]).map V.int := by simp
        simp only [lstInts, lstOf, at_push, e, Option.bind_some, ints_map]
      unfold gSorted
      rw [hh]
      simp only [if_pos (show (down ++ [ev.2]).length < 64 by rw [List.length_append]; exact Nat.succ_lt_succ hl)]
    rw [ok_pn1 e1, ok_tupleOf at_push]
    exact q _ _ ((Ag.push.trans Ag.push).trans Ag.push) ⟨_, rfl, hP _ (by simp), at_push⟩
  · have h' : ¬ ev.1 = true := fun z => h ((word_eq _).mpr z)
    rw [if_neg h'] at q
    obtain ⟨nd, rfl, hnd, hxd⟩ := hd
    refine ⟨_, it_start (k := false) hxd, ?_⟩
    refine lc_sq (vs := down.map V.int) (fun i acc S' => Ag NoP S S' ∧ acc = ((down.take i).filter fun x => x ≠ ev.2).map V.int) (by simp [fuel]; omega) ?_ ?_ ?_ ?_ at_push
    · rintro i acc S' ⟨a, rfl⟩
      refine ⟨a.at_ _ _ id hxd, ?_⟩
      rw [List.length_map]
      exact Nat.le_trans (List.length_filter_le _ _) (by simp; omega)
    · rintro i acc S' x hx' ⟨a, rfl⟩ hn'
      obtain ⟨m, hm, rfl⟩ := get_int hx'
      refine ⟨_, pb_nm, ?_⟩
      unfold Lc
      (simp only [Nx.oks_cons, Nx.oks_nil, Nx.x_ite, Nx.x_asg, Nx.x_par, Nx.x_expr, Nx.x_ret, Nx.x_for, Nx.x_setf, Nx.e_ite, Nx.e_and, Nx.e_or, Nx.e_chain, Nx.e_mc, Nx.e_cst, Nx.e_pn, Nx.es_nil, Nx.es_cons, Nx.es_star, Nx.e_lc,
  Nx.e_var, Nx.ok_val, Nx.ok_pv1, Nx.ok_pv2, Nx.ok_pNot, Nx.bl_ex, Nx.ref_ex,
  List.map_cons, List.map_nil, List.cons_append, List.nil_append, List.append_nil, List.replicate_succ, List.replicate_zero, Nat.reduceSub, Nat.reduceAdd, List.getElem?_cons_zero, List.getElem?_cons_succ, Nx.pb_nm, Nx.pbs_nil, Nx.pbs_nm, List.set_cons_zero, List.set_cons_succ, if_true, if_false, Bool.false_eq_true, Bool.not_eq_true', decide_eq_true_eq, decide_eq_false_iff_not, Bool.not_eq_false', Nx.wipeR, Option.some.injEq, exists_eq_left', and_true, true_and, false_imp_iff, true_imp_iff, Bool.true_eq_false, eq_self_iff_true])
      refine (gE gEq_int).mpr ?_
      rw [filter_snoc hm]
      by_cases c : m = ev.2
      · refine .inl ⟨by simp [c], hn', a, by simp [c]⟩
      · refine .inr ⟨by simp [c], hn', a.setHi (by simp), by simp [c]⟩
    · rintro acc S' ⟨a, rfl⟩ hn'
      rw [ok_tupleOf hn']
      have a' : Ag NoP S S' := a
      rw [List.length_map, List.take_length] at *
      exact q _ _ (a'.trans Ag.push) ⟨_, rfl, hP _ a'.len, at_push⟩
    · exact ⟨Ag.push, by simp⟩
end Nx.Lk09

set_option Elab.async false
set_option linter.all false
set_option maxRecDepth 100000
set_option maxHeartbeats 1000000
set_option autoImplicit false
namespace Nx.Lk09
open PySem L2 Nx
variable {P P' : Nat → Prop} {S S' : Sto} {Q : V → Sto → Prop}
/-! ### pictures -/
theorem ok_listOf {v : V} {vs : List V} (h : seqOf S v = some vs) : Ok (pn1 gListOf [v] S) Q ↔ Q (.ref S.length) (S ++ [.lst vs]) := ok_pn1 (by unfold gListOf; rw [h]; rfl)
theorem hs_ins {h : V} {k : Nat} {ss : List Srv} (hh : HsAt P S h k ss) : insC 0 "services" h S = true := by
  obtain ⟨n, a, b, xs, rfl, hn, hx, _⟩ := hh
  simp only [insC, hx]; rfl
theorem sp_services {h : V} {k : Nat} {ss : List Srv} (hh : HsAt P S h k ss) (q : ∀ vs, F2 (SvAt P (S ++ [.lst vs])) vs ss → Q (.ref S.length) (S ++ [.lst vs])) : Ok (d_House_m_services [h] S) Q := by
  obtain ⟨n, a, b, xs, rfl, hn, hx, ha, hxa, hl, m, vs, rfl, hm, hxm, fs⟩ := hh
  (refine (Nx.ok_den (by rfl)).mpr ?_)
  unfold b_House_m_services
  (simp only [Nx.oks_cons, Nx.oks_nil, Nx.x_ite, Nx.x_asg, Nx.x_par, Nx.x_expr, Nx.x_ret, Nx.x_for, Nx.x_setf, Nx.e_ite, Nx.e_and, Nx.e_or, Nx.e_chain, Nx.e_mc, Nx.e_cst, Nx.e_pn, Nx.es_nil, Nx.es_cons, Nx.es_star, Nx.e_lc,
  Nx.e_var, Nx.ok_val, Nx.ok_pv1, Nx.ok_pv2, Nx.ok_pNot, Nx.bl_ex, Nx.ref_ex,
  List.map_cons, List.map_nil, List.cons_append, List.nil_append, List.append_nil, List.replicate_succ, List.replicate_zero, Nat.reduceSub, Nat.reduceAdd, List.getElem?_cons_zero, List.getElem?_cons_succ, Nx.pb_nm, Nx.pbs_nil, Nx.pbs_nm, List.set_cons_zero, List.set_cons_succ, if_true, if_false, Bool.false_eq_true, Bool.not_eq_true', decide_eq_true_eq, decide_eq_false_iff_not, Bool.not_eq_false', Nx.wipeR, Option.some.injEq, exists_eq_left', and_true, true_and, false_imp_iff, true_imp_iff, Bool.true_eq_false, eq_self_iff_true])
  have e : gFld [0] "_services" (.ref n) S = some (.ref m) := by
    simp only [gFld, hx]; rfl
  refine (gE e).mpr ?_
  rw [ok_listOf (vs := vs) (by simp [seqOf, hxm])]
  exact q _ (fs.mono fun _ _ z => z.ag Ag.push)
/-- a service's place behind an event, and the picture -/
def pl (s : Srv) (p : Int) (down : List Int) (e : Bool × Int) : Int := if e.1 = true then (if p = e.2 then fl s.ord down else p) else pbr s p e.2
def pls : List Srv → List Int → List Int → Bool × Int → List Int
  | s :: ss, p :: ps, down, e => pl s p down e :: pls ss ps down e
  | _, _, _, _ => []
theorem pls_len : ∀ (ss : List Srv) (ps : List Int) (down : List Int) (e : Bool × Int), ss.length = ps.length → (pls ss ps down e).length = ss.length
  | [], [], _, _, _ => rfl
  | s :: ss, p :: ps, d, e, h => by simp only [pls, List.length_cons]; rw [pls_len ss ps d e (by simpa using h)]
  | [], _ :: _, _, _, h => by simp at h
  | _ :: _, [], _, _, h => by simp at h
theorem pls_get : ∀ (ss : List Srv) (ps : List Int) (down : List Int) (e : Bool × Int) (i : Nat) (s : Srv) (p : Int), ss[i]? = some s → ps[i]? = some p → (pls ss ps down e)[i]? = some (pl s p down e)
  | [], _, _, _, i, _, _, h, _ => by simp at h
  | _ :: _, [], _, _, i, _, _, _, h => by simp at h
  | s :: ss, p :: ps, d, e, 0, s', p', h1, h2 => by simp at h1 h2; subst h1 h2; rfl
  | s :: ss, p :: ps, d, e, i + 1, s', p', h1, h2 => by
    simp only [pls, List.getElem?_cons_succ] at h1 h2 ⊢
    exact pls_get ss ps d e i s' p' h1 h2
def pb (ss : List Srv) (p : List Int × List Int) (e : Bool × Int) : List Int × List Int := (db p.1 e, pls ss p.2 (db p.1 e) e)
/-- services as houses have them -/
def Good (s : Srv) : Prop := PyData.strOk s.rule = true ∧ s.ord.length < 64
theorem sp_pairs {base : Nat} {vs : List V} {cs out : List Int} {n : Nat} {ρ : Rho} {elt : Rho → Sto → M V} (hn : n < 64) (h1 : vs.length = n) (h2 : cs.length = n) (h3 : out.length = n)
    (hl : S[base]? = some (.lst ((List.range n).map fun i => V.ref (base + 1 + i)))) (hz : ∀ (i : Nat) (y : V) (c : Int), vs[i]? = some y → cs[i]? = some c → S[base + 1 + i]? = some (.tpl [y, .int c]))
    (helt : ∀ (i : Nat) (y : V) (c o : Int) (S' : Sto), vs[i]? = some y → cs[i]? = some c → out[i]? = some o → Ag NoP S S' → Ok (elt ((ρ.set 7 (some y)).set 8 (some (.int c))) S') fun v S4 => v = .int o ∧ S4 = S')
    (q : ∀ S', Ag NoP S S' → S'[S.length]? = some (.lst (out.map V.int)) → Q (.ref S.length) S') :
    Ok (compLoop itSeq.next [.ref base, .bl true] (.tp (.cons (.nm 7) (.cons (.nm 8) .nil))) ρ S.length (ev (.cst (.bl true))) elt fuel 0 (S ++ [.lst []])) Q := by
  refine lc_sq (vs := (List.range n).map fun i => V.ref (base + 1 + i)) (fun i acc S' => Ag NoP S S' ∧ acc = (out.take i).map V.int) (by simp [fuel]; omega) ?_ ?_ ?_ ⟨Ag.push, rfl⟩ at_push
  · rintro i acc S' ⟨a, rfl⟩
    exact ⟨a.at_ _ _ id hl, by simp; omega⟩
  · rintro i acc S' x hx ⟨a, rfl⟩ hm
    have hi : i < n := by have := (List.getElem?_eq_some_iff.mp hx).1; simpa using this
    rw [List.getElem?_map, List.getElem?_range hi] at hx
    cases hx
    have e1 : vs[i]? = some vs[i] := List.getElem?_eq_getElem (by omega)
    have e2 : cs[i]? = some cs[i] := List.getElem?_eq_getElem (by omega)
    have e3 : out[i]? = some out[i] := List.getElem?_eq_getElem (by omega)
    refine ⟨_, by rw [pb_tpl (a.at_ _ _ id (hz i _ _ e1 e2)), pbs_nm, pbs_nm, pbs_nil], ?_⟩
    unfold Lc
    (simp only [Nx.oks_cons, Nx.oks_nil, Nx.x_ite, Nx.x_asg, Nx.x_par, Nx.x_expr, Nx.x_ret, Nx.x_for, Nx.x_setf, Nx.e_ite, Nx.e_and, Nx.e_or, Nx.e_chain, Nx.e_mc, Nx.e_cst, Nx.e_pn, Nx.es_nil, Nx.es_cons, Nx.es_star, Nx.e_lc,
  Nx.e_var, Nx.ok_val, Nx.ok_pv1, Nx.ok_pv2, Nx.ok_pNot, Nx.bl_ex, Nx.ref_ex,
  List.map_cons, List.map_nil, List.cons_append, List.nil_append, List.append_nil, List.replicate_succ, List.replicate_zero, Nat.reduceSub, Nat.reduceAdd, List.getElem?_cons_zero, List.getElem?_cons_succ, Nx.pb_nm, Nx.pbs_nil, Nx.pbs_nm, List.set_cons_zero, List.set_cons_succ, if_true, if_false, Bool.false_eq_true, Bool.not_eq_true', decide_eq_true_eq, decide_eq_false_iff_not, Bool.not_eq_false', Nx.wipeR, Option.some.injEq, exists_eq_left', and_true, true_and, false_imp_iff, true_imp_iff, Bool.true_eq_false, eq_self_iff_true])
    refine .inr ((helt i _ _ _ S' e1 e2 e3 a).mono ?_)
    rintro v S4 ⟨rfl, rfl⟩
    exact ⟨hm, a.setHi (Nat.le_refl _), by rw [take_snoc e3, List.map_append]; rfl⟩
  · rintro acc S' ⟨a, rfl⟩ hm
    refine q S' a ?_
    rw [hm, List.length_map, List.length_range, ← h3, List.take_length]
theorem sp_picture_behind {h pv e : V} {k : Nat} {ss : List Srv} {p : List Int × List Int} {x : Bool × Int} (hh : HsAt P S h k ss) (hp : Pic P S pv p) (he : EvAt P S e x) (hP : Lo P S) (hl : p.1.length < 63) (hs : ss.length < 64) (hn : ss.length = p.2.length)
    (hg : ∀ s ∈ ss, Good s) (hq : ∀ (i : Nat) (s : Srv) (c : Int), ss[i]? = some s → p.2[i]? = some c → c = -1 ∨ c ∈ s.ord)
    (q : ∀ v S', Ag NoP S S' → Pic P S' v (pb ss p x) → Q v S') : Ok (d_picture_behind [h, pv, e] S) Q := by
  (refine (Nx.ok_den (by rfl)).mpr ?_)
  obtain ⟨n, d, ps, rfl, hn1, hx, hd, hps⟩ := hp
  have he' := he
  obtain ⟨m, rfl, hm1, hxe⟩ := he'
  unfold b_picture_behind
  (simp only [Nx.oks_cons, Nx.oks_nil, Nx.x_ite, Nx.x_asg, Nx.x_par, Nx.x_expr, Nx.x_ret, Nx.x_for, Nx.x_setf, Nx.e_ite, Nx.e_and, Nx.e_or, Nx.e_chain, Nx.e_mc, Nx.e_cst, Nx.e_pn, Nx.es_nil, Nx.es_cons, Nx.es_star, Nx.e_lc,
  Nx.e_var, Nx.ok_val, Nx.ok_pv1, Nx.ok_pv2, Nx.ok_pNot, Nx.bl_ex, Nx.ref_ex,
  List.map_cons, List.map_nil, List.cons_append, List.nil_append, List.append_nil, List.replicate_succ, List.replicate_zero, Nat.reduceSub, Nat.reduceAdd, List.getElem?_cons_zero, List.getElem?_cons_succ, Nx.pb_nm, Nx.pbs_nil, Nx.pbs_nm, List.set_cons_zero, List.set_cons_succ, if_true, if_false, Bool.false_eq_true, Bool.not_eq_true', decide_eq_true_eq, decide_eq_false_iff_not, Bool.not_eq_false', Nx.wipeR, Option.some.injEq, exists_eq_left', and_true, true_and, false_imp_iff, true_imp_iff, Bool.true_eq_false, eq_self_iff_true])
  rw [pb_tup hx]
  (simp only [Nx.oks_cons, Nx.oks_nil, Nx.x_ite, Nx.x_asg, Nx.x_par, Nx.x_expr, Nx.x_ret, Nx.x_for, Nx.x_setf, Nx.e_ite, Nx.e_and, Nx.e_or, Nx.e_chain, Nx.e_mc, Nx.e_cst, Nx.e_pn, Nx.es_nil, Nx.es_cons, Nx.es_star, Nx.e_lc,
  Nx.e_var, Nx.ok_val, Nx.ok_pv1, Nx.ok_pv2, Nx.ok_pNot, Nx.bl_ex, Nx.ref_ex,
  List.map_cons, List.map_nil, List.cons_append, List.nil_append, List.append_nil, List.replicate_succ, List.replicate_zero, Nat.reduceSub, Nat.reduceAdd, List.getElem?_cons_zero, List.getElem?_cons_succ, Nx.pb_nm, Nx.pbs_nil, Nx.pbs_nm, List.set_cons_zero, List.set_cons_succ, if_true, if_false, Bool.false_eq_true, Bool.not_eq_true', decide_eq_true_eq, decide_eq_false_iff_not, Bool.not_eq_false', Nx.wipeR, Option.some.injEq, exists_eq_left', and_true, true_and, false_imp_iff, true_imp_iff, Bool.true_eq_false, eq_self_iff_true])
  refine sp_down_behind hd he hl hP fun dv S1 a1 hdv => ?_
  refine ⟨hs_ins (hh.ag a1.any), sp_services (hh.ag a1.any) fun vs fs => ?_⟩
  have hps2 : TupI P (S1 ++ [.lst vs]) ps p.2 := (hps.ag a1.any).ag Ag.push
  obtain ⟨np, rfl, hnp, hxp⟩ := hps2
  have lv : vs.length = ss.length := fs.len
  refine (ok_listZip (S := S1 ++ [Ob.lst vs]) (k := true) (l := false) (us := p.2.map V.int) at_push hxp (by simp; omega)).mpr ?_
  have a3 : Ag NoP S1 (zst (S1 ++ [.lst vs]) vs (p.2.map V.int) vs.length) := Ag.push.trans ag_zst
  generalize hS3 : zst (S1 ++ [.lst vs]) vs (p.2.map V.int) vs.length = S3 at a3 ⊢
  have hl3 : S3[(S1 ++ [Ob.lst vs]).length]? = some (.lst ((List.range vs.length).map fun i => V.ref ((S1 ++ [Ob.lst vs]).length + 1 + i))) := by rw [← hS3]; exact zst_at
  have hz3 : ∀ (i : Nat) (y : V) (c : Int), vs[i]? = some y → p.2[i]? = some c → S3[(S1 ++ [Ob.lst vs]).length + 1 + i]? = some (.tpl [y, .int c]) := fun i y c h1 h2 => by
    rw [← hS3]; exact zst_tpl (List.getElem?_eq_some_iff.mp h1).1 h1 (by rw [List.getElem?_map, h2]; rfl)
  have fs3 : F2 (SvAt P S3) vs ss := fs.mono fun _ _ z => z.ag (by rw [← hS3]; exact ag_zst)
  have hdv3 : TupI P S3 dv (db p.1 x) := hdv.ag a3.any
  have lout := pls_len ss p.2 (db p.1 x) x hn
  have fin : ∀ S', Ag NoP S3 S' → S'[S3.length]? = some (.lst ((pls ss p.2 (db p.1 x) x).map V.int)) → Ok (pTupleOf [V.ref S3.length] S') fun v S1 => Ok (pTup [dv, v] S1) Q := fun S' a hm => by
    rw [ok_tupleOf hm, ok_pTup (by simp)]
    have a' : Ag NoP S S' := (a1.trans a3).trans a
    refine q _ _ ((a'.trans Ag.push).trans Ag.push) ⟨_, _, _, rfl, hP _ (by simp; have := a'.len; omega), at_push, ((hdv3.ag a.any).ag Ag.push).ag Ag.push, ⟨_, rfl, hP _ a'.len, at_low at_push⟩⟩
  refine ⟨_, it_start (k := true) hl3, ?_⟩
  refine sp_pairs (by omega) rfl (by omega) (by omega) hl3 hz3 (fun i y c o S' h1 h2 h3 a => ?_) fin
  (simp only [Nx.oks_cons, Nx.oks_nil, Nx.x_ite, Nx.x_asg, Nx.x_par, Nx.x_expr, Nx.x_ret, Nx.x_for, Nx.x_setf, Nx.e_ite, Nx.e_and, Nx.e_or, Nx.e_chain, Nx.e_mc, Nx.e_cst, Nx.e_pn, Nx.es_nil, Nx.es_cons, Nx.es_star, Nx.e_lc,
  Nx.e_var, Nx.ok_val, Nx.ok_pv1, Nx.ok_pv2, Nx.ok_pNot, Nx.bl_ex, Nx.ref_ex,
  List.map_cons, List.map_nil, List.cons_append, List.nil_append, List.append_nil, List.replicate_succ, List.replicate_zero, Nat.reduceSub, Nat.reduceAdd, List.getElem?_cons_zero, List.getElem?_cons_succ, Nx.pb_nm, Nx.pbs_nil, Nx.pbs_nm, List.set_cons_zero, List.set_cons_succ, if_true, if_false, Bool.false_eq_true, Bool.not_eq_true', decide_eq_true_eq, decide_eq_false_iff_not, Bool.not_eq_false', Nx.wipeR, Option.some.injEq, exists_eq_left', and_true, true_and, false_imp_iff, true_imp_iff, Bool.true_eq_false, eq_self_iff_true])
  obtain ⟨s, hsi⟩ : ∃ s, ss[i]? = some s := ⟨ss[i]'(by have := (List.getElem?_eq_some_iff.mp h1).1; omega), List.getElem?_eq_getElem _⟩
  obtain ⟨y', hy', sy⟩ := fs3.get hsi
  rw [h1] at hy'; cases hy'
  rw [pls_get ss p.2 _ _ i s c hsi h2] at h3
  cases h3
  refine sp_pb (sy.ag a.any) ((he.ag (a1.any.trans a3.any)).ag a.any) (hg s (List.mem_of_getElem? hsi)).2 (hg s (List.mem_of_getElem? hsi)).1 (hq i s c hsi h2) (hdv3.ag a.any).seq ⟨?_, rfl⟩
  simp [pl]
end Nx.Lk09

set_option Elab.async false
set_option linter.all false
set_option maxRecDepth 100000
set_option maxHeartbeats 1000000
set_option autoImplicit false
namespace Nx.Lk09
open PySem L2 Nx
variable {P P' : Nat → Prop} {S S' : Sto} {Q : V → Sto → Prop}
/-! ### machines -/
theorem sp_hlen {h : V} {k : Nat} {ss : List Srv} (hh : HsAt P S h k ss) (hk : k < 1000) (q : Q (.int k) S) : Ok (pLen 0 d_House_m___len__ [h] S) Q := by
  obtain ⟨n, a, b, xs, rfl, hn, hx, ha, hxa, hl, _⟩ := hh
  have e : d_House_m___len__ [.ref n] S = some (.val (.int k) S) := by
    have : Ok (d_House_m___len__ [.ref n] S) fun v S' => v = .int k ∧ S' = S := by
      (refine (Nx.ok_den (by rfl)).mpr ?_)
      unfold b_House_m___len__
      (simp only [Nx.oks_cons, Nx.oks_nil, Nx.x_ite, Nx.x_asg, Nx.x_par, Nx.x_expr, Nx.x_ret, Nx.x_for, Nx.x_setf, Nx.e_ite, Nx.e_and, Nx.e_or, Nx.e_chain, Nx.e_mc, Nx.e_cst, Nx.e_pn, Nx.es_nil, Nx.es_cons, Nx.es_star, Nx.e_lc,
  Nx.e_var, Nx.ok_val, Nx.ok_pv1, Nx.ok_pv2, Nx.ok_pNot, Nx.bl_ex, Nx.ref_ex,
  List.map_cons, List.map_nil, List.cons_append, List.nil_append, List.append_nil, List.replicate_succ, List.replicate_zero, Nat.reduceSub, Nat.reduceAdd, List.getElem?_cons_zero, List.getElem?_cons_succ, Nx.pb_nm, Nx.pbs_nil, Nx.pbs_nm, List.set_cons_zero, List.set_cons_succ, if_true, if_false, Bool.false_eq_true, Bool.not_eq_true', decide_eq_true_eq, decide_eq_false_iff_not, Bool.not_eq_false', Nx.wipeR, Option.some.injEq, exists_eq_left', and_true, true_and, false_imp_iff, true_imp_iff, Bool.true_eq_false, eq_self_iff_true])
      have e : gFld [0] "_strengths" (.ref n) S = some (.ref a) := by simp only [gFld, hx]; rfl
      refine (gE e).mpr ?_
      have e2 : gLen (.ref a) S = some (.int k) := by unfold gLen; simp only [seqOf, hxa, Option.map_some, hl]
      exact (gE e2).mpr (by simp)
    obtain ⟨v, S', e, rfl, rfl⟩ := this
    exact e
  unfold pLen
  simp only [hx, e, if_true]
  rw [if_pos (by omega)]
  exact ok_val.mpr q
theorem sp_is_whole {m : Int} (q : Q (.bl true) S) : Ok (d_is_whole [.int m] S) Q := by
  (refine (Nx.ok_den (by rfl)).mpr ?_)
  unfold b_is_whole
  (simp only [Nx.oks_cons, Nx.oks_nil, Nx.x_ite, Nx.x_asg, Nx.x_par, Nx.x_expr, Nx.x_ret, Nx.x_for, Nx.x_setf, Nx.e_ite, Nx.e_and, Nx.e_or, Nx.e_chain, Nx.e_mc, Nx.e_cst, Nx.e_pn, Nx.es_nil, Nx.es_cons, Nx.es_star, Nx.e_lc,
  Nx.e_var, Nx.ok_val, Nx.ok_pv1, Nx.ok_pv2, Nx.ok_pNot, Nx.bl_ex, Nx.ref_ex,
  List.map_cons, List.map_nil, List.cons_append, List.nil_append, List.append_nil, List.replicate_succ, List.replicate_zero, Nat.reduceSub, Nat.reduceAdd, List.getElem?_cons_zero, List.getElem?_cons_succ, Nx.pb_nm, Nx.pbs_nil, Nx.pbs_nm, List.set_cons_zero, List.set_cons_succ, if_true, if_false, Bool.false_eq_true, Bool.not_eq_true', decide_eq_true_eq, decide_eq_false_iff_not, Bool.not_eq_false', Nx.wipeR, Option.some.injEq, exists_eq_left', and_true, true_and, false_imp_iff, true_imp_iff, Bool.true_eq_false, eq_self_iff_true])
  have e1 : gIsT "int" (.int m) S = some (.bl true) := rfl
  have e2 : gIsT "bool" (.int m) S = some (.bl false) := rfl
  refine (gE e1).mpr ?_
  (simp only [Nx.oks_cons, Nx.oks_nil, Nx.x_ite, Nx.x_asg, Nx.x_par, Nx.x_expr, Nx.x_ret, Nx.x_for, Nx.x_setf, Nx.e_ite, Nx.e_and, Nx.e_or, Nx.e_chain, Nx.e_mc, Nx.e_cst, Nx.e_pn, Nx.es_nil, Nx.es_cons, Nx.es_star, Nx.e_lc,
  Nx.e_var, Nx.ok_val, Nx.ok_pv1, Nx.ok_pv2, Nx.ok_pNot, Nx.bl_ex, Nx.ref_ex,
  List.map_cons, List.map_nil, List.cons_append, List.nil_append, List.append_nil, List.replicate_succ, List.replicate_zero, Nat.reduceSub, Nat.reduceAdd, List.getElem?_cons_zero, List.getElem?_cons_succ, Nx.pb_nm, Nx.pbs_nil, Nx.pbs_nm, List.set_cons_zero, List.set_cons_succ, if_true, if_false, Bool.false_eq_true, Bool.not_eq_true', decide_eq_true_eq, decide_eq_false_iff_not, Bool.not_eq_false', Nx.wipeR, Option.some.injEq, exists_eq_left', and_true, true_and, false_imp_iff, true_imp_iff, Bool.true_eq_false, eq_self_iff_true])
  refine (gE e2).mpr ?_
  (simp only [Nx.oks_cons, Nx.oks_nil, Nx.x_ite, Nx.x_asg, Nx.x_par, Nx.x_expr, Nx.x_ret, Nx.x_for, Nx.x_setf, Nx.e_ite, Nx.e_and, Nx.e_or, Nx.e_chain, Nx.e_mc, Nx.e_cst, Nx.e_pn, Nx.es_nil, Nx.es_cons, Nx.es_star, Nx.e_lc,
  Nx.e_var, Nx.ok_val, Nx.ok_pv1, Nx.ok_pv2, Nx.ok_pNot, Nx.bl_ex, Nx.ref_ex,
  List.map_cons, List.map_nil, List.cons_append, List.nil_append, List.append_nil, List.replicate_succ, List.replicate_zero, Nat.reduceSub, Nat.reduceAdd, List.getElem?_cons_zero, List.getElem?_cons_succ, Nx.pb_nm, Nx.pbs_nil, Nx.pbs_nm, List.set_cons_zero, List.set_cons_succ, if_true, if_false, Bool.false_eq_true, Bool.not_eq_true', decide_eq_true_eq, decide_eq_false_iff_not, Bool.not_eq_false', Nx.wipeR, Option.some.injEq, exists_eq_left', and_true, true_and, false_imp_iff, true_imp_iff, Bool.true_eq_false, eq_self_iff_true])
  exact q
theorem sp_is_machine {m k : Int} (q : Q (.bl (decide (0 ≤ m ∧ m < k))) S) : Ok (d_is_machine [.int m, .int k] S) Q := by
  (refine (Nx.ok_den (by rfl)).mpr ?_)
  unfold b_is_machine
  (simp only [Nx.oks_cons, Nx.oks_nil, Nx.x_ite, Nx.x_asg, Nx.x_par, Nx.x_expr, Nx.x_ret, Nx.x_for, Nx.x_setf, Nx.e_ite, Nx.e_and, Nx.e_or, Nx.e_chain, Nx.e_mc, Nx.e_cst, Nx.e_pn, Nx.es_nil, Nx.es_cons, Nx.es_star, Nx.e_lc,
  Nx.e_var, Nx.ok_val, Nx.ok_pv1, Nx.ok_pv2, Nx.ok_pNot, Nx.bl_ex, Nx.ref_ex,
  List.map_cons, List.map_nil, List.cons_append, List.nil_append, List.append_nil, List.replicate_succ, List.replicate_zero, Nat.reduceSub, Nat.reduceAdd, List.getElem?_cons_zero, List.getElem?_cons_succ, Nx.pb_nm, Nx.pbs_nil, Nx.pbs_nm, List.set_cons_zero, List.set_cons_succ, if_true, if_false, Bool.false_eq_true, Bool.not_eq_true', decide_eq_true_eq, decide_eq_false_iff_not, Bool.not_eq_false', Nx.wipeR, Option.some.injEq, exists_eq_left', and_true, true_and, false_imp_iff, true_imp_iff, Bool.true_eq_false, eq_self_iff_true])
  refine sp_is_whole ?_
  (simp only [Nx.oks_cons, Nx.oks_nil, Nx.x_ite, Nx.x_asg, Nx.x_par, Nx.x_expr, Nx.x_ret, Nx.x_for, Nx.x_setf, Nx.e_ite, Nx.e_and, Nx.e_or, Nx.e_chain, Nx.e_mc, Nx.e_cst, Nx.e_pn, Nx.es_nil, Nx.es_cons, Nx.es_star, Nx.e_lc,
  Nx.e_var, Nx.ok_val, Nx.ok_pv1, Nx.ok_pv2, Nx.ok_pNot, Nx.bl_ex, Nx.ref_ex,
  List.map_cons, List.map_nil, List.cons_append, List.nil_append, List.append_nil, List.replicate_succ, List.replicate_zero, Nat.reduceSub, Nat.reduceAdd, List.getElem?_cons_zero, List.getElem?_cons_succ, Nx.pb_nm, Nx.pbs_nil, Nx.pbs_nm, List.set_cons_zero, List.set_cons_succ, if_true, if_false, Bool.false_eq_true, Bool.not_eq_true', decide_eq_true_eq, decide_eq_false_iff_not, Bool.not_eq_false', Nx.wipeR, Option.some.injEq, exists_eq_left', and_true, true_and, false_imp_iff, true_imp_iff, Bool.true_eq_false, eq_self_iff_true])
  refine (gE gLe_int).mpr ?_
  (simp only [Nx.oks_cons, Nx.oks_nil, Nx.x_ite, Nx.x_asg, Nx.x_par, Nx.x_expr, Nx.x_ret, Nx.x_for, Nx.x_setf, Nx.e_ite, Nx.e_and, Nx.e_or, Nx.e_chain, Nx.e_mc, Nx.e_cst, Nx.e_pn, Nx.es_nil, Nx.es_cons, Nx.es_star, Nx.e_lc,
  Nx.e_var, Nx.ok_val, Nx.ok_pv1, Nx.ok_pv2, Nx.ok_pNot, Nx.bl_ex, Nx.ref_ex,
  List.map_cons, List.map_nil, List.cons_append, List.nil_append, List.append_nil, List.replicate_succ, List.replicate_zero, Nat.reduceSub, Nat.reduceAdd, List.getElem?_cons_zero, List.getElem?_cons_succ, Nx.pb_nm, Nx.pbs_nil, Nx.pbs_nm, List.set_cons_zero, List.set_cons_succ, if_true, if_false, Bool.false_eq_true, Bool.not_eq_true', decide_eq_true_eq, decide_eq_false_iff_not, Bool.not_eq_false', Nx.wipeR, Option.some.injEq, exists_eq_left', and_true, true_and, false_imp_iff, true_imp_iff, Bool.true_eq_false, eq_self_iff_true])
  refine ⟨fun h => (gE gLt_int).mpr ?_, fun h => ?_⟩
  · have e : decide (0 ≤ m ∧ m < k) = decide (m < k) := by simp [h]
    rw [← e]; exact q
  · have e : decide (0 ≤ m ∧ m < k) = false := by simp; intro z; exact absurd z h
    rw [← e]; exact q
theorem sp_can_fall {h d : V} {k : Nat} {ss : List Srv} {down : List Int} {m : Int} (hh : HsAt P S h k ss) (hk : k < 1000) (hd : seqOf S d = some (down.map V.int)) (h0 : 0 ≤ m) (h1 : m < k) (q : Q (.bl (decide (m ∉ down))) S) : Ok (d_can_fall [h, d, .int m] S) Q := by
  (refine (Nx.ok_den (by rfl)).mpr ?_)
  unfold b_can_fall
  (simp only [Nx.oks_cons, Nx.oks_nil, Nx.x_ite, Nx.x_asg, Nx.x_par, Nx.x_expr, Nx.x_ret, Nx.x_for, Nx.x_setf, Nx.e_ite, Nx.e_and, Nx.e_or, Nx.e_chain, Nx.e_mc, Nx.e_cst, Nx.e_pn, Nx.es_nil, Nx.es_cons, Nx.es_star, Nx.e_lc,
  Nx.e_var, Nx.ok_val, Nx.ok_pv1, Nx.ok_pv2, Nx.ok_pNot, Nx.bl_ex, Nx.ref_ex,
  List.map_cons, List.map_nil, List.cons_append, List.nil_append, List.append_nil, List.replicate_succ, List.replicate_zero, Nat.reduceSub, Nat.reduceAdd, List.getElem?_cons_zero, List.getElem?_cons_succ, Nx.pb_nm, Nx.pbs_nil, Nx.pbs_nm, List.set_cons_zero, List.set_cons_succ, if_true, if_false, Bool.false_eq_true, Bool.not_eq_true', decide_eq_true_eq, decide_eq_false_iff_not, Bool.not_eq_false', Nx.wipeR, Option.some.injEq, exists_eq_left', and_true, true_and, false_imp_iff, true_imp_iff, Bool.true_eq_false, eq_self_iff_true])
  refine sp_hlen hh hk ?_
  refine sp_is_machine ?_
  (simp only [Nx.oks_cons, Nx.oks_nil, Nx.x_ite, Nx.x_asg, Nx.x_par, Nx.x_expr, Nx.x_ret, Nx.x_for, Nx.x_setf, Nx.e_ite, Nx.e_and, Nx.e_or, Nx.e_chain, Nx.e_mc, Nx.e_cst, Nx.e_pn, Nx.es_nil, Nx.es_cons, Nx.es_star, Nx.e_lc,
  Nx.e_var, Nx.ok_val, Nx.ok_pv1, Nx.ok_pv2, Nx.ok_pNot, Nx.bl_ex, Nx.ref_ex,
  List.map_cons, List.map_nil, List.cons_append, List.nil_append, List.append_nil, List.replicate_succ, List.replicate_zero, Nat.reduceSub, Nat.reduceAdd, List.getElem?_cons_zero, List.getElem?_cons_succ, Nx.pb_nm, Nx.pbs_nil, Nx.pbs_nm, List.set_cons_zero, List.set_cons_succ, if_true, if_false, Bool.false_eq_true, Bool.not_eq_true', decide_eq_true_eq, decide_eq_false_iff_not, Bool.not_eq_false', Nx.wipeR, Option.some.injEq, exists_eq_left', and_true, true_and, false_imp_iff, true_imp_iff, Bool.true_eq_false, eq_self_iff_true])
  refine ⟨fun _ => (gE (gIn_ints hd)).mpr ?_, fun z => absurd ⟨h0, h1⟩ z⟩
  simpa using q
theorem sp_can_rise {h d : V} {k : Nat} {ss : List Srv} {down : List Int} {m : Int} (hh : HsAt P S h k ss) (hk : k < 1000) (hd : seqOf S d = some (down.map V.int)) (h0 : 0 ≤ m) (h1 : m < k) (q : Q (.bl (decide (m ∈ down))) S) : Ok (d_can_rise [h, d, .int m] S) Q := by
  (refine (Nx.ok_den (by rfl)).mpr ?_)
  unfold b_can_rise
  (simp only [Nx.oks_cons, Nx.oks_nil, Nx.x_ite, Nx.x_asg, Nx.x_par, Nx.x_expr, Nx.x_ret, Nx.x_for, Nx.x_setf, Nx.e_ite, Nx.e_and, Nx.e_or, Nx.e_chain, Nx.e_mc, Nx.e_cst, Nx.e_pn, Nx.es_nil, Nx.es_cons, Nx.es_star, Nx.e_lc,
  Nx.e_var, Nx.ok_val, Nx.ok_pv1, Nx.ok_pv2, Nx.ok_pNot, Nx.bl_ex, Nx.ref_ex,
  List.map_cons, List.map_nil, List.cons_append, List.nil_append, List.append_nil, List.replicate_succ, List.replicate_zero, Nat.reduceSub, Nat.reduceAdd, List.getElem?_cons_zero, List.getElem?_cons_succ, Nx.pb_nm, Nx.pbs_nil, Nx.pbs_nm, List.set_cons_zero, List.set_cons_succ, if_true, if_false, Bool.false_eq_true, Bool.not_eq_true', decide_eq_true_eq, decide_eq_false_iff_not, Bool.not_eq_false', Nx.wipeR, Option.some.injEq, exists_eq_left', and_true, true_and, false_imp_iff, true_imp_iff, Bool.true_eq_false, eq_self_iff_true])
  refine sp_hlen hh hk ?_
  refine sp_is_machine ?_
  (simp only [Nx.oks_cons, Nx.oks_nil, Nx.x_ite, Nx.x_asg, Nx.x_par, Nx.x_expr, Nx.x_ret, Nx.x_for, Nx.x_setf, Nx.e_ite, Nx.e_and, Nx.e_or, Nx.e_chain, Nx.e_mc, Nx.e_cst, Nx.e_pn, Nx.es_nil, Nx.es_cons, Nx.es_star, Nx.e_lc,
  Nx.e_var, Nx.ok_val, Nx.ok_pv1, Nx.ok_pv2, Nx.ok_pNot, Nx.bl_ex, Nx.ref_ex,
  List.map_cons, List.map_nil, List.cons_append, List.nil_append, List.append_nil, List.replicate_succ, List.replicate_zero, Nat.reduceSub, Nat.reduceAdd, List.getElem?_cons_zero, List.getElem?_cons_succ, Nx.pb_nm, Nx.pbs_nil, Nx.pbs_nm, List.set_cons_zero, List.set_cons_succ, if_true, if_false, Bool.false_eq_true, Bool.not_eq_true', decide_eq_true_eq, decide_eq_false_iff_not, Bool.not_eq_false', Nx.wipeR, Option.some.injEq, exists_eq_left', and_true, true_and, false_imp_iff, true_imp_iff, Bool.true_eq_false, eq_self_iff_true])
  refine ⟨fun _ => (gE (gIn_ints hd)).mpr ?_, fun z => absurd ⟨h0, h1⟩ z⟩
  simpa using q

/-! ### runs -/
structure RnAt (P : Nat → Prop) (S : Sto) (n e : Nat) (k : Nat) (ss : List Srv) (p : List Int × List Int) : Prop where
  ne : n ≠ e
  pn : P n
  pe : P e
  ex : ∃ hv pv evs, S[n]? = some (.ins 1 [("house", hv), ("_picture", pv), ("_events", .ref e)]) ∧ S[e]? = some (.lst evs) ∧ evs.length < 1000 ∧ HsAt P S hv k ss ∧ Pic P S pv p
/-- what the rules and lengths of a picture are -/
structure POk (ss : List Srv) (p : List Int × List Int) : Prop where
  hl : p.1.length < 63
  hs : ss.length < 64
  hn : ss.length = p.2.length
  hg : ∀ s ∈ ss, Good s
  hq : ∀ (i : Nat) (s : Srv) (c : Int), ss[i]? = some s → p.2[i]? = some c → c = -1 ∨ c ∈ s.ord
def Two (n e : Nat) : Nat → Prop := fun i => i = n ∨ i = e
theorem RnAt.two {n e k : Nat} {ss : List Srv} {p : List Int × List Int} (h : RnAt P S n e k ss p) : ∀ i, Two n e i → P i := fun i z => by
  rcases z with z | z
  · rw [z]; exact h.pn
  · rw [z]; exact h.pe
theorem sp_lead {n e k : Nat} {ss : List Srv} {p : List Int × List Int} {ev : V} {x : Bool × Int} {evs0 : Nat} (hr : RnAt P S n e k ss p) (hP : Lo P S) (hp : POk ss p) (he : EvAt P S ev x)
    (hlen : ∀ evs, S[e]? = some (.lst evs) → evs.length < evs0) (hsm : evs0 < 999)
    (q : ∀ S', Ag (Two n e) S S' → RnAt P S' n e k ss (pb ss p x) → (∀ evs, S'[e]? = some (.lst evs) → evs.length < evs0 + 1) → Q .non S') : Ok (d_Run_m__lead [.ref n, ev] S) Q := by
  obtain ⟨hv, pv, evs, hx, hxe, hle, hh, hpc⟩ := hr.ex
  (refine (Nx.ok_den (by rfl)).mpr ?_)
  unfold b_Run_m__lead
  (simp only [Nx.oks_cons, Nx.oks_nil, Nx.x_ite, Nx.x_asg, Nx.x_par, Nx.x_expr, Nx.x_ret, Nx.x_for, Nx.x_setf, Nx.e_ite, Nx.e_and, Nx.e_or, Nx.e_chain, Nx.e_mc, Nx.e_cst, Nx.e_pn, Nx.es_nil, Nx.es_cons, Nx.es_star, Nx.e_lc,
  Nx.e_var, Nx.ok_val, Nx.ok_pv1, Nx.ok_pv2, Nx.ok_pNot, Nx.bl_ex, Nx.ref_ex,
  List.map_cons, List.map_nil, List.cons_append, List.nil_append, List.append_nil, List.replicate_succ, List.replicate_zero, Nat.reduceSub, Nat.reduceAdd, List.getElem?_cons_zero, List.getElem?_cons_succ, Nx.pb_nm, Nx.pbs_nil, Nx.pbs_nm, List.set_cons_zero, List.set_cons_succ, if_true, if_false, Bool.false_eq_true, Bool.not_eq_true', decide_eq_true_eq, decide_eq_false_iff_not, Bool.not_eq_false', Nx.wipeR, Option.some.injEq, exists_eq_left', and_true, true_and, false_imp_iff, true_imp_iff, Bool.true_eq_false, eq_self_iff_true])
  have e1 : gFld [1] "house" (.ref n) S = some hv := by simp only [gFld, hx]; rfl
  have e2 : gFld [1] "_picture" (.ref n) S = some pv := by simp only [gFld, hx]; rfl
  refine (gE e1).mpr ((gE e2).mpr ?_)
  refine sp_picture_behind hh hpc he hP hp.hl hp.hs hp.hn hp.hg hp.hq fun pv' S1 a1 hpc' => ?_
  have hx1 := a1.at_ _ _ id hx
  have hxe1 := a1.at_ _ _ id hxe
  refine ⟨1, _, hx1, by decide, by simp, ?_⟩
  have pf : L2.putF "_picture" pv' [("house", hv), ("_picture", pv), ("_events", V.ref e)] = ([("house", hv), ("_picture", pv'), ("_events", V.ref e)] : List (Str × V)) := rfl
  rw [pf]
  have hx2 : (S1.set n (.ins 1 [("house", hv), ("_picture", pv'), ("_events", V.ref e)]))[n]? = some (.ins 1 [("house", hv), ("_picture", pv'), ("_events", V.ref e)]) := at_set hx1
  have hxe2 : (S1.set n (.ins 1 [("house", hv), ("_picture", pv'), ("_events", V.ref e)]))[e]? = some (.lst evs) := at_ne hxe1 hr.ne
  generalize hS2 : S1.set n (.ins 1 [("house", hv), ("_picture", pv'), ("_events", V.ref e)]) = S2 at hx2 hxe2 ⊢
  have a2 : Ag P S1 S2 := by rw [← hS2]; exact Ag.set hr.pn
  have e3 : gFld [1] "_events" (.ref n) S2 = some (.ref e) := by simp only [gFld, hx2]; rfl
  refine (gE e3).mpr ⟨by simp [isLst, hxe2], ?_⟩
  unfold pAppend
  simp only [hxe2, if_pos (show evs.length < 100000 by omega)]
  refine ok_val.mpr (q _ ((a1.any.trans (by rw [← hS2]; exact Ag.set (.inl rfl))).trans (Ag.set (.inr rfl))) ⟨hr.ne, hr.pn, hr.pe, hv, pv', evs ++ [ev], ?_, at_set hxe2, ?_, ((hh.ag a1.any).ag a2).ag (Ag.set hr.pe), (hpc'.ag a2).ag (Ag.set hr.pe)⟩ ?_)
  · exact at_ne hx2 (Ne.symm hr.ne)
  · have := hlen evs hxe; simp; omega
  · intro us hu
    rw [at_set hxe2] at hu
    cases hu
    have := hlen evs hxe
    simp; omega
theorem rn_ins {n e k : Nat} {ss : List Srv} {p : List Int × List Int} {m : Str} (hr : RnAt P S n e k ss p) (hm : m ∉ (["house", "_picture", "_events"] : List Str)) : insC 1 m (.ref n) S = true := by
  obtain ⟨hv, pv, evs, hx, _⟩ := hr.ex
  simp only [insC, hx]
  simp only [List.mem_cons, List.not_mem_nil, or_false, not_or] at hm
  simp [List.lookup_cons, beq_eq_false_iff_ne.mpr hm.1, beq_eq_false_iff_ne.mpr hm.2.1, beq_eq_false_iff_ne.mpr hm.2.2]
/-- an event that can come -/
def CanCome (k : Nat) (down : List Int) (x : Bool × Int) : Prop := 0 ≤ x.2 ∧ x.2 < k ∧ (if x.1 = true then x.2 ∉ down else x.2 ∈ down)
theorem pic_ix {pv : V} {p : List Int × List Int} (h : Pic P S pv p) : ∃ d, gIx pv (.int 0) S = some d ∧ TupI P S d p.1 := by
  obtain ⟨n, d, q, rfl, hn, hx, h1, h2⟩ := h
  exact ⟨d, gIx_seq (vs := [d, q]) (by simp [seqOf, hx]) atI0, h1⟩
theorem sp_fall {n e k : Nat} {ss : List Srv} {p : List Int × List Int} {m : Int} {evs0 : Nat} (hr : RnAt P S n e k ss p) (hP : Lo P S) (hp : POk ss p) (hk : k < 1000) (hc : CanCome k p.1 (true, m))
    (hlen : ∀ evs, S[e]? = some (.lst evs) → evs.length < evs0) (hsm : evs0 < 999)
    (q : ∀ S', Ag (Two n e) S S' → RnAt P S' n e k ss (pb ss p (true, m)) → (∀ evs, S'[e]? = some (.lst evs) → evs.length < evs0 + 1) → Q .non S') : Ok (d_Run_m_fall [.ref n, .int m] S) Q := by
  obtain ⟨hv, pv, evs, hx, hxe, hle, hh, hpc⟩ := hr.ex
  (refine (Nx.ok_den (by rfl)).mpr ?_)
  unfold b_Run_m_fall
  (simp only [Nx.oks_cons, Nx.oks_nil, Nx.x_ite, Nx.x_asg, Nx.x_par, Nx.x_expr, Nx.x_ret, Nx.x_for, Nx.x_setf, Nx.e_ite, Nx.e_and, Nx.e_or, Nx.e_chain, Nx.e_mc, Nx.e_cst, Nx.e_pn, Nx.es_nil, Nx.es_cons, Nx.es_star, Nx.e_lc,
  Nx.e_var, Nx.ok_val, Nx.ok_pv1, Nx.ok_pv2, Nx.ok_pNot, Nx.bl_ex, Nx.ref_ex,
  List.map_cons, List.map_nil, List.cons_append, List.nil_append, List.append_nil, List.replicate_succ, List.replicate_zero, Nat.reduceSub, Nat.reduceAdd, List.getElem?_cons_zero, List.getElem?_cons_succ, Nx.pb_nm, Nx.pbs_nil, Nx.pbs_nm, List.set_cons_zero, List.set_cons_succ, if_true, if_false, Bool.false_eq_true, Bool.not_eq_true', decide_eq_true_eq, decide_eq_false_iff_not, Bool.not_eq_false', Nx.wipeR, Option.some.injEq, exists_eq_left', and_true, true_and, false_imp_iff, true_imp_iff, Bool.true_eq_false, eq_self_iff_true])
  have e1 : gFld [1] "house" (.ref n) S = some hv := by simp only [gFld, hx]; rfl
  have e2 : gFld [1] "_picture" (.ref n) S = some pv := by simp only [gFld, hx]; rfl
  obtain ⟨d, e3, hd⟩ := pic_ix hpc
  refine (gE e1).mpr ((gE e2).mpr ((gE e3).mpr ?_))
  refine sp_can_fall hh hk hd.seq hc.1 hc.2.1 ?_
  have hn : m ∉ p.1 := by simpa [CanCome] using hc.2.2
  rw [show decide (m ∉ p.1) = true by simp [hn]]
  (simp only [Nx.oks_cons, Nx.oks_nil, Nx.x_ite, Nx.x_asg, Nx.x_par, Nx.x_expr, Nx.x_ret, Nx.x_for, Nx.x_setf, Nx.e_ite, Nx.e_and, Nx.e_or, Nx.e_chain, Nx.e_mc, Nx.e_cst, Nx.e_pn, Nx.es_nil, Nx.es_cons, Nx.es_star, Nx.e_lc,
  Nx.e_var, Nx.ok_val, Nx.ok_pv1, Nx.ok_pv2, Nx.ok_pNot, Nx.bl_ex, Nx.ref_ex,
  List.map_cons, List.map_nil, List.cons_append, List.nil_append, List.append_nil, List.replicate_succ, List.replicate_zero, Nat.reduceSub, Nat.reduceAdd, List.getElem?_cons_zero, List.getElem?_cons_succ, Nx.pb_nm, Nx.pbs_nil, Nx.pbs_nm, List.set_cons_zero, List.set_cons_succ, if_true, if_false, Bool.false_eq_true, Bool.not_eq_true', decide_eq_true_eq, decide_eq_false_iff_not, Bool.not_eq_false', Nx.wipeR, Option.some.injEq, exists_eq_left', and_true, true_and, false_imp_iff, true_imp_iff, Bool.true_eq_false, eq_self_iff_true])
  refine ⟨rn_ins hr (by decide +kernel), ?_⟩
  rw [ok_pTup (by simp)]
  have a1 : Ag P S (S ++ [.tup [V.str "fall", .int m]]) := Ag.push
  refine sp_lead (x := (true, m)) ⟨hr.ne, hr.pn, hr.pe, hv, pv, evs, at_low hx, at_low hxe, hle, hh.ag a1, hpc.ag a1⟩ (hP.ag a1) hp ⟨_, rfl, hP _ (Nat.le_refl _), at_push⟩ (fun us hu => ?_) hsm fun S' a r l => q S' (Ag.push.trans a) r l
  rw [at_low hxe] at hu; cases hu; exact hlen _ hxe
theorem sp_rise {n e k : Nat} {ss : List Srv} {p : List Int × List Int} {m : Int} {evs0 : Nat} (hr : RnAt P S n e k ss p) (hP : Lo P S) (hp : POk ss p) (hk : k < 1000) (hc : CanCome k p.1 (false, m))
    (hlen : ∀ evs, S[e]? = some (.lst evs) → evs.length < evs0) (hsm : evs0 < 999)
    (q : ∀ S', Ag (Two n e) S S' → RnAt P S' n e k ss (pb ss p (false, m)) → (∀ evs, S'[e]? = some (.lst evs) → evs.length < evs0 + 1) → Q .non S') : Ok (d_Run_m_rise [.ref n, .int m] S) Q := by
  obtain ⟨hv, pv, evs, hx, hxe, hle, hh, hpc⟩ := hr.ex
  (refine (Nx.ok_den (by rfl)).mpr ?_)
  unfold b_Run_m_rise
  (simp only [Nx.oks_cons, Nx.oks_nil, Nx.x_ite, Nx.x_asg, Nx.x_par, Nx.x_expr, Nx.x_ret, Nx.x_for, Nx.x_setf, Nx.e_ite, Nx.e_and, Nx.e_or, Nx.e_chain, Nx.e_mc, Nx.e_cst, Nx.e_pn, Nx.es_nil, Nx.es_cons, Nx.es_star, Nx.e_lc,
  Nx.e_var, Nx.ok_val, Nx.ok_pv1, Nx.ok_pv2, Nx.ok_pNot, Nx.bl_ex, Nx.ref_ex,
  List.map_cons, List.map_nil, List.cons_append, List.nil_append, List.append_nil, List.replicate_succ, List.replicate_zero, Nat.reduceSub, Nat.reduceAdd, List.getElem?_cons_zero, List.getElem?_cons_succ, Nx.pb_nm, Nx.pbs_nil, Nx.pbs_nm, List.set_cons_zero, List.set_cons_succ, if_true, if_false, Bool.false_eq_true, Bool.not_eq_true', decide_eq_true_eq, decide_eq_false_iff_not, Bool.not_eq_false', Nx.wipeR, Option.some.injEq, exists_eq_left', and_true, true_and, false_imp_iff, true_imp_iff, Bool.true_eq_false, eq_self_iff_true])
  have e1 : gFld [1] "house" (.ref n) S = some hv := by simp only [gFld, hx]; rfl
  have e2 : gFld [1] "_picture" (.ref n) S = some pv := by simp only [gFld, hx]; rfl
  obtain ⟨d, e3, hd⟩ := pic_ix hpc
  refine (gE e1).mpr ((gE e2).mpr ((gE e3).mpr ?_))
  refine sp_can_rise hh hk hd.seq hc.1 hc.2.1 ?_
  have hn : m ∈ p.1 := by simpa [CanCome] using hc.2.2
  rw [show decide (m ∈ p.1) = true by simp [hn]]
  (simp only [Nx.oks_cons, Nx.oks_nil, Nx.x_ite, Nx.x_asg, Nx.x_par, Nx.x_expr, Nx.x_ret, Nx.x_for, Nx.x_setf, Nx.e_ite, Nx.e_and, Nx.e_or, Nx.e_chain, Nx.e_mc, Nx.e_cst, Nx.e_pn, Nx.es_nil, Nx.es_cons, Nx.es_star, Nx.e_lc,
  Nx.e_var, Nx.ok_val, Nx.ok_pv1, Nx.ok_pv2, Nx.ok_pNot, Nx.bl_ex, Nx.ref_ex,
  List.map_cons, List.map_nil, List.cons_append, List.nil_append, List.append_nil, List.replicate_succ, List.replicate_zero, Nat.reduceSub, Nat.reduceAdd, List.getElem?_cons_zero, List.getElem?_cons_succ, Nx.pb_nm, Nx.pbs_nil, Nx.pbs_nm, List.set_cons_zero, List.set_cons_succ, if_true, if_false, Bool.false_eq_true, Bool.not_eq_true', decide_eq_true_eq, decide_eq_false_iff_not, Bool.not_eq_false', Nx.wipeR, Option.some.injEq, exists_eq_left', and_true, true_and, false_imp_iff, true_imp_iff, Bool.true_eq_false, eq_self_iff_true])
  refine ⟨rn_ins hr (by decide +kernel), ?_⟩
  rw [ok_pTup (by simp)]
  have a1 : Ag P S (S ++ [.tup [V.str "rise", .int m]]) := Ag.push
  refine sp_lead (x := (false, m)) ⟨hr.ne, hr.pn, hr.pe, hv, pv, evs, at_low hx, at_low hxe, hle, hh.ag a1, hpc.ag a1⟩ (hP.ag a1) hp ⟨_, rfl, hP _ (Nat.le_refl _), at_push⟩ (fun us hu => ?_) hsm fun S' a r l => q S' (Ag.push.trans a) r l
  rw [at_low hxe] at hu; cases hu; exact hlen _ hxe
end Nx.Lk09

set_option Elab.async false
set_option linter.all false
set_option maxRecDepth 100000
set_option maxHeartbeats 1000000
set_option autoImplicit false
namespace Nx.Lk09
open PySem L2 Nx
variable {P P' : Nat → Prop} {S S' : Sto} {Q : V → Sto → Prop}
/-! ### what stays so -/
theorem fl_mem : ∀ (o d : List Int), fl o d = -1 ∨ fl o d ∈ o
  | [], d => .inl rfl
  | m :: r, d => by
    unfold fl
    split
    · rcases fl_mem r d with h | h
      · exact .inl h
      · exact .inr (List.mem_cons_of_mem _ h)
    · exact .inr List.mem_cons_self
theorem pl_mem {s : Srv} {c : Int} {down : List Int} {x : Bool × Int} (h : c = -1 ∨ c ∈ s.ord) : pl s c down x = -1 ∨ pl s c down x ∈ s.ord := by
  unfold pl
  split
  · split
    · exact fl_mem _ _
    · exact h
  · unfold pbr
    split
    · exact h
    · rename_i hm
      have hm : x.2 ∈ s.ord := by simpa using hm
      split
      · exact .inr hm
      · split
        · exact .inr hm
        · split
          · exact .inr hm
          · exact h
theorem db_len (down : List Int) (x : Bool × Int) : (db down x).length ≤ down.length + 1 := by
  unfold db
  split
  · rw [(sortI_perm _).length_eq]; simp
  · exact Nat.le_trans (List.length_filter_le _ _) (Nat.le_succ _)
theorem POk.next {ss : List Srv} {p : List Int × List Int} {x : Bool × Int} (h : POk ss p) (hl : p.1.length < 62) : POk ss (pb ss p x) := by
  refine ⟨Nat.lt_of_le_of_lt (db_len _ _) (by omega), h.hs, (pls_len _ _ _ _ h.hn).symm, h.hg, fun i s c hs hc => ?_⟩
  have hi : i < p.2.length := by rw [← h.hn]; exact (List.getElem?_eq_some_iff.mp hs).1
  have e := pls_get ss p.2 (db p.1 x) x i s p.2[i] hs (List.getElem?_eq_getElem hi)
  rw [show (pb ss p x).2 = pls ss p.2 (db p.1 x) x from rfl, e] at hc
  cases hc
  exact pl_mem (h.hq i s _ hs (List.getElem?_eq_getElem hi))
def pbs (ss : List Srv) : List Int × List Int → List (Bool × Int) → List Int × List Int
  | p, [] => p
  | p, x :: r => pbs ss (pb ss p x) r
def Valid (k : Nat) (ss : List Srv) : List Int × List Int → List (Bool × Int) → Prop
  | _, [] => True
  | p, x :: r => CanCome k p.1 x ∧ Valid k ss (pb ss p x) r
theorem pbs_snoc (ss : List Srv) : ∀ (es : List (Bool × Int)) (p : List Int × List Int) (x : Bool × Int), pbs ss p (es ++ [x]) = pb ss (pbs ss p es) x
  | [], _, _ => rfl
  | e :: r, p, x => pbs_snoc ss r (pb ss p e) x
theorem valid_app (k : Nat) (ss : List Srv) : ∀ (es fs : List (Bool × Int)) (p : List Int × List Int), Valid k ss p (es ++ fs) ↔ Valid k ss p es ∧ Valid k ss (pbs ss p es) fs
  | [], fs, p => by simp [Valid, pbs]
  | e :: r, fs, p => by
    simp only [List.cons_append, Valid, pbs, valid_app k ss r fs (pb ss p e), and_assoc]
theorem pbs_len (ss : List Srv) : ∀ (es : List (Bool × Int)) (p : List Int × List Int), (pbs ss p es).1.length ≤ p.1.length + es.length
  | [], p => Nat.le_refl _
  | e :: r, p => by
    have h1 := pbs_len ss r (pb ss p e)
    have h2 := db_len p.1 e
    simp only [pbs, List.length_cons]
    have h3 : (pb ss p e).1.length = (db p.1 e).length := rfl
    omega
theorem POk.nexts {ss : List Srv} : ∀ (es : List (Bool × Int)) {p : List Int × List Int}, POk ss p → p.1.length + es.length < 62 → POk ss (pbs ss p es)
  | [], p, h, _ => h
  | e :: r, p, h, hl => by
    have h2 := db_len p.1 e
    simp only [List.length_cons] at hl
    exact POk.nexts r (h.next (by omega)) (by show (db p.1 e).length + _ < _; omega)
def pb0 (ss : List Srv) : List Int × List Int := ([], ss.map fun s => s.ord.headD (-1))
theorem POk.zero {ss : List Srv} (hs : ss.length < 64) (hg : ∀ s ∈ ss, Good s) : POk ss (pb0 ss) := by
  refine ⟨by simp [pb0], hs, by simp [pb0], hg, fun i s c h1 h2 => ?_⟩
  simp only [pb0, List.getElem?_map, h1, Option.map_some, Option.some.injEq] at h2
  cases ho : s.ord with
  | nil => rw [ho] at h2; exact .inl h2.symm
  | cons a r => rw [ho] at h2; exact .inr (by rw [← h2]; exact List.mem_cons_self)
/-! ### the beginning -/
theorem sp_beginning {h : V} {k : Nat} {ss : List Srv} (hh : HsAt P S h k ss) (hP : Lo P S) (hs : ss.length < 64) (hne : ∀ s ∈ ss, s.ord ≠ []) (q : ∀ v S', Ag NoP S S' → Pic P S' v (pb0 ss) → Q v S') : Ok (d_beginning [h] S) Q := by
  (refine (Nx.ok_den (by rfl)).mpr ?_)
  unfold b_beginning
  (simp only [Nx.oks_cons, Nx.oks_nil, Nx.x_ite, Nx.x_asg, Nx.x_par, Nx.x_expr, Nx.x_ret, Nx.x_for, Nx.x_setf, Nx.e_ite, Nx.e_and, Nx.e_or, Nx.e_chain, Nx.e_mc, Nx.e_cst, Nx.e_pn, Nx.es_nil, Nx.es_cons, Nx.es_star, Nx.e_lc,
  Nx.e_var, Nx.ok_val, Nx.ok_pv1, Nx.ok_pv2, Nx.ok_pNot, Nx.bl_ex, Nx.ref_ex,
  List.map_cons, List.map_nil, List.cons_append, List.nil_append, List.append_nil, List.replicate_succ, List.replicate_zero, Nat.reduceSub, Nat.reduceAdd, List.getElem?_cons_zero, List.getElem?_cons_succ, Nx.pb_nm, Nx.pbs_nil, Nx.pbs_nm, List.set_cons_zero, List.set_cons_succ, if_true, if_false, Bool.false_eq_true, Bool.not_eq_true', decide_eq_true_eq, decide_eq_false_iff_not, Bool.not_eq_false', Nx.wipeR, Option.some.injEq, exists_eq_left', and_true, true_and, false_imp_iff, true_imp_iff, Bool.true_eq_false, eq_self_iff_true])
  rw [ok_pTup (by simp)]
  have a1 : Ag NoP S (S ++ [.tup []]) := Ag.push
  have hh1 := hh.ag (a1.any (P := P))
  refine ⟨hs_ins hh1, sp_services hh1 fun vs fs => ?_⟩
  have a2 : Ag NoP S (S ++ [Ob.tup []] ++ [.lst vs]) := a1.trans Ag.push
  have hl2 : (S ++ [Ob.tup []] ++ [Ob.lst vs])[(S ++ [Ob.tup []]).length]? = some (.lst vs) := at_push
  have hd0 : TupI P (S ++ [Ob.tup []] ++ [.lst vs]) (.ref S.length) [] := ⟨_, rfl, hP _ (Nat.le_refl _), at_low at_push⟩
  generalize hS2 : S ++ [Ob.tup []] ++ [Ob.lst vs] = S2 at a2 hl2 fs hd0 ⊢
  have lv : vs.length = ss.length := fs.len
  refine ⟨_, it_start (k := true) hl2, ?_⟩
  refine lc_sq (vs := vs) (fun i acc S' => Ag NoP S2 S' ∧ acc = ((pb0 ss).2.take i).map V.int) (by simp [fuel]; omega) ?_ ?_ ?_ ⟨Ag.push, rfl⟩ at_push
  · rintro i acc S' ⟨a, rfl⟩
    exact ⟨a.at_ _ _ id hl2, by simp; omega⟩
  · rintro i acc S' x hx ⟨a, rfl⟩ hm
    obtain ⟨s, hsi⟩ : ∃ s, ss[i]? = some s := ⟨ss[i]'(by have := (List.getElem?_eq_some_iff.mp hx).1; omega), List.getElem?_eq_getElem _⟩
    obtain ⟨y', hy', sy⟩ := fs.get hsi
    rw [hx] at hy'; cases hy'
    obtain ⟨n, o, rfl, hn, hxn, ho⟩ := sy.ag (a.any (P := P))
    refine ⟨_, by rw [pb_tup hxn, pbs_nm, pbs_nm, pbs_nm, pbs_nil], ?_⟩
    unfold Lc
    (simp only [Nx.oks_cons, Nx.oks_nil, Nx.x_ite, Nx.x_asg, Nx.x_par, Nx.x_expr, Nx.x_ret, Nx.x_for, Nx.x_setf, Nx.e_ite, Nx.e_and, Nx.e_or, Nx.e_chain, Nx.e_mc, Nx.e_cst, Nx.e_pn, Nx.es_nil, Nx.es_cons, Nx.es_star, Nx.e_lc,
  Nx.e_var, Nx.ok_val, Nx.ok_pv1, Nx.ok_pv2, Nx.ok_pNot, Nx.bl_ex, Nx.ref_ex,
  List.map_cons, List.map_nil, List.cons_append, List.nil_append, List.append_nil, List.replicate_succ, List.replicate_zero, Nat.reduceSub, Nat.reduceAdd, List.getElem?_cons_zero, List.getElem?_cons_succ, Nx.pb_nm, Nx.pbs_nil, Nx.pbs_nm, List.set_cons_zero, List.set_cons_succ, if_true, if_false, Bool.false_eq_true, Bool.not_eq_true', decide_eq_true_eq, decide_eq_false_iff_not, Bool.not_eq_false', Nx.wipeR, Option.some.injEq, exists_eq_left', and_true, true_and, false_imp_iff, true_imp_iff, Bool.true_eq_false, eq_self_iff_true])
    have e3 : (pb0 ss).2[i]? = some (s.ord.headD (-1)) := by simp [pb0, hsi]
    cases ho' : s.ord with
    | nil => exact absurd ho' (hne s (List.mem_of_getElem? hsi))
    | cons c r =>
      refine .inr ((gE (gIx_seq ho.seq (v := .int c) (by rw [ho']; exact atI0))).mpr ?_)
      refine ⟨hm, a.setHi (Nat.le_refl _), ?_⟩
      rw [take_snoc e3, List.map_append, ho']; rfl
  · rintro acc S' ⟨a, rfl⟩ hm
    rw [ok_tupleOf hm, ok_pTup (by simp)]
    have a' : Ag NoP S S' := a2.trans a
    refine q _ _ ((a'.trans Ag.push).trans Ag.push) ⟨_, _, _, rfl, hP _ (by simp; have := a'.len; omega), at_push, ((hd0.ag a.any).ag Ag.push).ag Ag.push, ⟨_, rfl, hP _ a'.len, ?_⟩⟩
    have e : (pb0 ss).2.take vs.length = (pb0 ss).2 := by rw [lv]; exact List.take_of_length_le (by simp [pb0])
    rw [e]
    exact at_low at_push
/-! ### a new run -/
def Own (P : Nat → Prop) (n e : Nat) : Nat → Prop := fun i => P i ∨ i = n ∨ i = e
theorem own_lo {n e : Nat} (h : Lo P S) (hl : S.length ≤ S'.length) (hn : n < S'.length) (he : e < S'.length) : Lo (Own P n e) S' := fun i hi z => by
  rcases z with z | z | z
  · exact h i (Nat.le_trans hl hi) z
  · omega
  · omega
/-- data whose objects lie below are not touched by what is new -/
theorem HsAt.own {n e k : Nat} {ss : List Srv} {v : V} (h : HsAt P S v k ss) (hn : S.length ≤ n) (he : S.length ≤ e) : HsAt (Own P n e) S v k ss := by
  have ok : ∀ i o, ¬ P i → S[i]? = some o → ¬ Own P n e i := fun i o hi hx z => by
    have l := (List.getElem?_eq_some_iff.mp hx).1
    rcases z with z | z | z
    · exact hi z
    · omega
    · omega
  obtain ⟨m, a, b, xs, rfl, hm, hx, ha, hxa, hl, mm, vs, rfl, hmm, hxm, fs⟩ := h
  refine ⟨m, a, _, xs, rfl, ok _ _ hm hx, hx, ok _ _ ha hxa, hxa, hl, mm, vs, rfl, ok _ _ hmm hxm, hxm, fs.mono ?_⟩
  rintro y s ⟨c, o, rfl, hc, hxc, d, rfl, hd, hxd⟩
  exact ⟨c, _, rfl, ok _ _ hc hxc, hxc, d, rfl, ok _ _ hd hxd, hxd⟩
theorem sp_newRun {h : V} {k : Nat} {ss : List Srv} (hh : HsAt P S h k ss) (hP : Lo P S) (hs : ss.length < 64) (hne : ∀ s ∈ ss, s.ord ≠ [])
    (q : ∀ n e S', S.length ≤ n → S.length ≤ e → Ag NoP S S' → RnAt (Own P n e) S' n e k ss (pb0 ss) → Lo (Own P n e) S' → S'[e]? = some (.lst []) → Q (.ref n) S') : Ok (pMake 1 d_Run_m___init__ [h] S) Q := by
  unfold pMake
  rw [ok_bind]
  (refine (Nx.ok_den (by rfl)).mpr ?_)
  unfold b_Run_m___init__
  (simp only [Nx.oks_cons, Nx.oks_nil, Nx.x_ite, Nx.x_asg, Nx.x_par, Nx.x_expr, Nx.x_ret, Nx.x_for, Nx.x_setf, Nx.e_ite, Nx.e_and, Nx.e_or, Nx.e_chain, Nx.e_mc, Nx.e_cst, Nx.e_pn, Nx.es_nil, Nx.es_cons, Nx.es_star, Nx.e_lc,
  Nx.e_var, Nx.ok_val, Nx.ok_pv1, Nx.ok_pv2, Nx.ok_pNot, Nx.bl_ex, Nx.ref_ex,
  List.map_cons, List.map_nil, List.cons_append, List.nil_append, List.append_nil, List.replicate_succ, List.replicate_zero, Nat.reduceSub, Nat.reduceAdd, List.getElem?_cons_zero, List.getElem?_cons_succ, Nx.pb_nm, Nx.pbs_nil, Nx.pbs_nm, List.set_cons_zero, List.set_cons_succ, if_true, if_false, Bool.false_eq_true, Bool.not_eq_true', decide_eq_true_eq, decide_eq_false_iff_not, Bool.not_eq_false', Nx.wipeR, Option.some.injEq, exists_eq_left', and_true, true_and, false_imp_iff, true_imp_iff, Bool.true_eq_false, eq_self_iff_true])
  refine ⟨1, [], at_push, by decide, by simp, ?_⟩
  have s1 : List.set (S ++ [Ob.ins 1 []]) S.length (.ins 1 (L2.putF "house" h [])) = S ++ [Ob.ins 1 [("house", h)]] := by
    rw [List.set_append_right _ _ (Nat.le_refl _), Nat.sub_self]; rfl
  rw [s1]
  have a1 : Ag NoP S (S ++ [Ob.ins 1 [("house", h)]]) := Ag.push
  -- the beginning is told beside the new object: what is asked of it speaks of P with the new place
  have hP1 : Lo (Own P S.length S.length) (S ++ [Ob.ins 1 [("house", h)]]) := own_lo hP (by simp) (by simp) (by simp)
  have hh1 : HsAt (Own P S.length S.length) (S ++ [Ob.ins 1 [("house", h)]]) h k ss := (hh.own (Nat.le_refl _) (Nat.le_refl _)).ag Ag.push
  refine sp_beginning hh1 hP1 hs hne fun pv S2 a2 hp => ?_
  have hx2 : S2[S.length]? = some (.ins 1 [("house", h)]) := a2.at_ _ _ id at_push
  have hlen : S.length < S2.length := (List.getElem?_eq_some_iff.mp hx2).1
  refine ⟨1, _, hx2, by decide, by simp, ?_⟩
  have s2 : L2.putF "_picture" pv ([("house", h)] : List (Str × V)) = ([("house", h), ("_picture", pv)] : List (Str × V)) := rfl
  rw [s2]
  have hx3 : (S2.set S.length (.ins 1 [("house", h), ("_picture", pv)]))[S.length]? = some (.ins 1 [("house", h), ("_picture", pv)]) := at_set hx2
  have a3 : Ag (Own P S.length S.length) S2 (S2.set S.length (.ins 1 [("house", h), ("_picture", pv)])) := Ag.set (.inr (.inl rfl))
  have b3 : Ag NoP S (S2.set S.length (.ins 1 [("house", h), ("_picture", pv)])) := (a1.trans a2).setHi (Nat.le_refl _)
  have l3 : (S2.set S.length (.ins 1 [("house", h), ("_picture", pv)])).length = S2.length := by simp
  have hh3 := (hh1.ag (a2.any)).ag a3
  have hp3 := hp.ag a3
  generalize hS3 : S2.set S.length (.ins 1 [("house", h), ("_picture", pv)]) = S3 at hx3 b3 l3 hh3 hp3 ⊢
  rw [ok_pLst (by simp)]
  refine ⟨1, _, at_low hx3, by decide, by simp, ?_⟩
  have s3 : L2.putF "_events" (V.ref S3.length) ([("house", h), ("_picture", pv)] : List (Str × V)) = ([("house", h), ("_picture", pv), ("_events", V.ref S3.length)] : List (Str × V)) := rfl
  rw [s3]
  have hx4 : ((S3 ++ [Ob.lst []]).set S.length (.ins 1 [("house", h), ("_picture", pv), ("_events", V.ref S3.length)]))[S.length]? = some (.ins 1 [("house", h), ("_picture", pv), ("_events", V.ref S3.length)]) := at_set (at_low hx3)
  have hxe : ((S3 ++ [Ob.lst []]).set S.length (.ins 1 [("house", h), ("_picture", pv), ("_events", V.ref S3.length)]))[S3.length]? = some (.lst []) := at_ne at_push (by omega)
  have a4 : Ag (Own P S.length S.length) S3 ((S3 ++ [Ob.lst []]).set S.length (.ins 1 [("house", h), ("_picture", pv), ("_events", V.ref S3.length)])) := Ag.push.trans (Ag.set (.inr (.inl rfl)))
  have b4 : Ag NoP S ((S3 ++ [Ob.lst []]).set S.length (.ins 1 [("house", h), ("_picture", pv), ("_events", V.ref S3.length)])) := (b3.trans Ag.push).setHi (Nat.le_refl _)
  have up : ∀ i, Own P S.length S3.length i → i < S3.length → Own P S.length S.length i := fun i z l => by
    rcases z with z | z | z
    · exact .inl z
    · exact .inr (.inl z)
    · omega
  refine q S.length S3.length _ (Nat.le_refl _) (by omega) b4 ⟨by omega, .inr (.inl rfl), .inr (.inr rfl), h, pv, [], hx4, hxe, by simp, ?_, ?_⟩ (own_lo hP b4.len (by simp; omega) (by simp)) hxe
  · exact (hh.own (Nat.le_refl _) (by omega)).ag (b4.any)
  · obtain ⟨m, d, c, rfl, hm, hxm, ⟨d1, rfl, hd, hxd⟩, ⟨c1, rfl, hcc, hxc⟩⟩ := hp3
    have low : ∀ i o, ¬ Own P S.length S.length i → S3[i]? = some o → ¬ Own P S.length S3.length i := fun i o hi hx z => hi (up i z (List.getElem?_eq_some_iff.mp hx).1)
    exact ⟨m, _, _, rfl, low _ _ hm hxm, a4.at_ _ _ hm hxm, ⟨d1, rfl, low _ _ hd hxd, a4.at_ _ _ hd hxd⟩, ⟨c1, rfl, low _ _ hcc hxc, a4.at_ _ _ hcc hxc⟩⟩
end Nx.Lk09

set_option Elab.async false
set_option linter.all false
set_option maxRecDepth 100000
set_option maxHeartbeats 1000000
set_option autoImplicit false
namespace Nx.Lk09
open PySem L2 Nx
variable {P P' : Nat → Prop} {S S' : Sto} {Q : V → Sto → Prop}
def HiAt (P : Nat → Prop) (S : Sto) (v : V) (es : List (Bool × Int)) : Prop := ∃ n vs, v = .ref n ∧ ¬ P n ∧ S[n]? = some (.lst vs) ∧ F2 (EvAt P S) vs es
theorem HiAt.ag {v : V} {es : List (Bool × Int)} (h : HiAt P S v es) (a : Ag P S S') : HiAt P S' v es := let ⟨n, vs, e, hn, x, t⟩ := h; ⟨n, vs, e, hn, a.at_ _ _ hn x, t.mono fun _ _ q => q.ag a⟩
theorem HiAt.own {n e : Nat} {v : V} {es : List (Bool × Int)} (h : HiAt P S v es) (hn : S.length ≤ n) (he : S.length ≤ e) : HiAt (Own P n e) S v es := by
  have ok : ∀ i o, ¬ P i → S[i]? = some o → ¬ Own P n e i := fun i o hi hx z => by
    have l := (List.getElem?_eq_some_iff.mp hx).1
    rcases z with z | z | z
    · exact hi z
    · omega
    · omega
  obtain ⟨m, vs, rfl, hm, hx, fs⟩ := h
  refine ⟨m, vs, rfl, ok _ _ hm hx, hx, fs.mono ?_⟩
  rintro y s ⟨c, rfl, hc, hxc⟩
  exact ⟨c, rfl, ok _ _ hc hxc, hxc⟩
theorem valid_take {k : Nat} {ss : List Srv} {es : List (Bool × Int)} {p : List Int × List Int} (h : Valid k ss p es) {i : Nat} {x : Bool × Int} (hx : es[i]? = some x) : CanCome k (pbs ss p (es.take i)).1 x := by
  have e : es = es.take i ++ (x :: es.drop (i + 1)) := by
    obtain ⟨l, e⟩ := List.getElem?_eq_some_iff.mp hx
    rw [← e, List.getElem_cons_drop, List.take_append_drop]
  rw [e, valid_app] at h
  exact h.2.1
theorem sp_run_of {h hv : V} {k : Nat} {ss : List Srv} {es : List (Bool × Int)} (hh : HsAt P S h k ss) (hi : HiAt P S hv es) (hP : Lo P S) (hk : k < 1000) (hs : ss.length < 64) (hl : es.length < 60) (hg : ∀ s ∈ ss, Good s) (hne : ∀ s ∈ ss, s.ord ≠ []) (hva : Valid k ss (pb0 ss) es)
    (q : ∀ n e S', S.length ≤ n → S.length ≤ e → Ag NoP S S' → RnAt (Own P n e) S' n e k ss (pbs ss (pb0 ss) es) → Lo (Own P n e) S' → Q (.ref n) S') : Ok (d_run_of [h, hv] S) Q := by
  (refine (Nx.ok_den (by rfl)).mpr ?_)
  unfold b_run_of
  (simp only [Nx.oks_cons, Nx.oks_nil, Nx.x_ite, Nx.x_asg, Nx.x_par, Nx.x_expr, Nx.x_ret, Nx.x_for, Nx.x_setf, Nx.e_ite, Nx.e_and, Nx.e_or, Nx.e_chain, Nx.e_mc, Nx.e_cst, Nx.e_pn, Nx.es_nil, Nx.es_cons, Nx.es_star, Nx.e_lc,
  Nx.e_var, Nx.ok_val, Nx.ok_pv1, Nx.ok_pv2, Nx.ok_pNot, Nx.bl_ex, Nx.ref_ex,
  List.map_cons, List.map_nil, List.cons_append, List.nil_append, List.append_nil, List.replicate_succ, List.replicate_zero, Nat.reduceSub, Nat.reduceAdd, List.getElem?_cons_zero, List.getElem?_cons_succ, Nx.pb_nm, Nx.pbs_nil, Nx.pbs_nm, List.set_cons_zero, List.set_cons_succ, if_true, if_false, Bool.false_eq_true, Bool.not_eq_true', decide_eq_true_eq, decide_eq_false_iff_not, Bool.not_eq_false', Nx.wipeR, Option.some.injEq, exists_eq_left', and_true, true_and, false_imp_iff, true_imp_iff, Bool.true_eq_false, eq_self_iff_true])
  refine sp_newRun hh hP hs hne fun n e S1 hn he a1 hr hP1 hev => ?_
  have hi0 := hi
  obtain ⟨m, vs, rfl, hm, hx, fs⟩ := hi0
  have hx1 := a1.at_ _ _ id hx
  have hiO : HiAt (Own P n e) S1 (.ref m) es := (hi.own hn he).ag a1.any
  refine ⟨_, it_start (k := true) hx1, ?_⟩
  have lv : vs.length = es.length := fs.len
  have tw : ∀ i, Two n e i → Own P n e i := hr.two
  refine for_sq (vs := vs) (fun i ρ S' => (∃ u w, ρ = [some h, some (.ref m), some (.ref n), u, w]) ∧ Ag (Two n e) S1 S' ∧ RnAt (Own P n e) S' n e k ss (pbs ss (pb0 ss) (es.take i)) ∧ (∀ us, S'[e]? = some (.lst us) → us.length < i + 1)) (by simp [fuel]; omega) ?_ ?_ ?_ ?_
  · rintro i ρ S' ⟨_, a, _⟩
    have hiO' := hiO
    obtain ⟨m', vs', e1, hm', hx', _⟩ := hiO'
    cases e1
    rw [hx1] at hx'; cases hx'
    exact a.at_ _ _ (fun z => hm' (tw _ z)) hx1
  · rintro i ρ S' x hxi ⟨⟨u, w, rfl⟩, a, r, hle⟩
    obtain ⟨ev, hev'⟩ : ∃ ev, es[i]? = some ev := ⟨es[i]'(by have := (List.getElem?_eq_some_iff.mp hxi).1; omega), List.getElem?_eq_getElem _⟩
    have ilt := (List.getElem?_eq_some_iff.mp hev').1
    have hcc := valid_take hva hev'
    have hiO' := hiO
    obtain ⟨m', vs', e1, hm', hx', fs'⟩ := hiO'
    cases e1
    rw [hx1] at hx'; cases hx'
    obtain ⟨y', hy', sy⟩ := fs'.get hev'
    rw [hxi] at hy'; cases hy'
    obtain ⟨c, rfl, hc, hxc⟩ := sy.ag (a.mono tw)
    refine ⟨_, by rw [pb_tup hxc, pbs_nm, pbs_nm, pbs_nil], ?_⟩
    (simp only [Nx.oks_cons, Nx.oks_nil, Nx.x_ite, Nx.x_asg, Nx.x_par, Nx.x_expr, Nx.x_ret, Nx.x_for, Nx.x_setf, Nx.e_ite, Nx.e_and, Nx.e_or, Nx.e_chain, Nx.e_mc, Nx.e_cst, Nx.e_pn, Nx.es_nil, Nx.es_cons, Nx.es_star, Nx.e_lc,
  Nx.e_var, Nx.ok_val, Nx.ok_pv1, Nx.ok_pv2, Nx.ok_pNot, Nx.bl_ex, Nx.ref_ex,
  List.map_cons, List.map_nil, List.cons_append, List.nil_append, List.append_nil, List.replicate_succ, List.replicate_zero, Nat.reduceSub, Nat.reduceAdd, List.getElem?_cons_zero, List.getElem?_cons_succ, Nx.pb_nm, Nx.pbs_nil, Nx.pbs_nm, List.set_cons_zero, List.set_cons_succ, if_true, if_false, Bool.false_eq_true, Bool.not_eq_true', decide_eq_true_eq, decide_eq_false_iff_not, Bool.not_eq_false', Nx.wipeR, Option.some.injEq, exists_eq_left', and_true, true_and, false_imp_iff, true_imp_iff, Bool.true_eq_false, eq_self_iff_true])
    refine (gE (gEq_str (word_ok _) (by decide +kernel))).mpr ?_
    have pok : POk ss (pbs ss (pb0 ss) (es.take i)) := (POk.zero hs hg).nexts _ (by simp [pb0]; omega)
    have stp : pbs ss (pb0 ss) (es.take (i + 1)) = pb ss (pbs ss (pb0 ss) (es.take i)) ev := by rw [take_snoc hev', pbs_snoc]
    rw [stp]
    (simp only [Nx.oks_cons, Nx.oks_nil, Nx.x_ite, Nx.x_asg, Nx.x_par, Nx.x_expr, Nx.x_ret, Nx.x_for, Nx.x_setf, Nx.e_ite, Nx.e_and, Nx.e_or, Nx.e_chain, Nx.e_mc, Nx.e_cst, Nx.e_pn, Nx.es_nil, Nx.es_cons, Nx.es_star, Nx.e_lc,
  Nx.e_var, Nx.ok_val, Nx.ok_pv1, Nx.ok_pv2, Nx.ok_pNot, Nx.bl_ex, Nx.ref_ex,
  List.map_cons, List.map_nil, List.cons_append, List.nil_append, List.append_nil, List.replicate_succ, List.replicate_zero, Nat.reduceSub, Nat.reduceAdd, List.getElem?_cons_zero, List.getElem?_cons_succ, Nx.pb_nm, Nx.pbs_nil, Nx.pbs_nm, List.set_cons_zero, List.set_cons_succ, if_true, if_false, Bool.false_eq_true, Bool.not_eq_true', decide_eq_true_eq, decide_eq_false_iff_not, Bool.not_eq_false', Nx.wipeR, Option.some.injEq, exists_eq_left', and_true, true_and, false_imp_iff, true_imp_iff, Bool.true_eq_false, eq_self_iff_true])
    obtain ⟨b, mm⟩ := ev
    have hP' : Lo (Own P n e) S' := hP1.ag a
    cases b
    · refine ⟨fun z => absurd ((word_eq false).mp z) (by decide), fun _ => ⟨rn_ins r (by decide +kernel), ?_⟩⟩
      refine sp_rise (evs0 := i + 1) r hP' pok hk hcc hle (by omega) fun S2 a2 r2 l2 => ?_
      exact ⟨⟨_, _, rfl⟩, a.trans a2, r2, l2⟩
    · refine ⟨fun _ => ⟨rn_ins r (by decide +kernel), ?_⟩, fun z => absurd ((word_eq true).mpr rfl) z⟩
      refine sp_fall (evs0 := i + 1) r hP' pok hk hcc hle (by omega) fun S2 a2 r2 l2 => ?_
      exact ⟨⟨_, _, rfl⟩, a.trans a2, r2, l2⟩
  · rintro ρ S' ⟨⟨u, w, rfl⟩, a, r, hle⟩
    (simp only [Nx.oks_cons, Nx.oks_nil, Nx.x_ite, Nx.x_asg, Nx.x_par, Nx.x_expr, Nx.x_ret, Nx.x_for, Nx.x_setf, Nx.e_ite, Nx.e_and, Nx.e_or, Nx.e_chain, Nx.e_mc, Nx.e_cst, Nx.e_pn, Nx.es_nil, Nx.es_cons, Nx.es_star, Nx.e_lc,
  Nx.e_var, Nx.ok_val, Nx.ok_pv1, Nx.ok_pv2, Nx.ok_pNot, Nx.bl_ex, Nx.ref_ex,
  List.map_cons, List.map_nil, List.cons_append, List.nil_append, List.append_nil, List.replicate_succ, List.replicate_zero, Nat.reduceSub, Nat.reduceAdd, List.getElem?_cons_zero, List.getElem?_cons_succ, Nx.pb_nm, Nx.pbs_nil, Nx.pbs_nm, List.set_cons_zero, List.set_cons_succ, if_true, if_false, Bool.false_eq_true, Bool.not_eq_true', decide_eq_true_eq, decide_eq_false_iff_not, Bool.not_eq_false', Nx.wipeR, Option.some.injEq, exists_eq_left', and_true, true_and, false_imp_iff, true_imp_iff, Bool.true_eq_false, eq_self_iff_true])
    rw [lv, List.take_length] at r
    refine q n e S' hn he ?_ r (hP1.ag a)
    refine ⟨Nat.le_trans a1.len a.len, fun i o _ hio => ?_⟩
    have l := (List.getElem?_eq_some_iff.mp hio).1
    exact a.at_ _ _ (fun z' => by rcases z' with z' | z' <;> omega) (a1.at_ _ _ id hio)
  · exact ⟨⟨_, _, rfl⟩, Ag.refl, hr, fun us hu => by rw [hev] at hu; cases hu; simp⟩
/-! ### loads -/
def wl : List Srv → List Int → Int → List Int
  | s :: ss, p :: ps, m => if p = m then s.w :: wl ss ps m else wl ss ps m
  | _, _, _ => []
theorem wl_snoc : ∀ (ss : List Srv) (ps : List Int) (m : Int) (i : Nat) (s : Srv) (p : Int), ss[i]? = some s → ps[i]? = some p → wl (ss.take (i + 1)) (ps.take (i + 1)) m = if p = m then wl (ss.take i) (ps.take i) m ++ [s.w] else wl (ss.take i) (ps.take i) m
  | [], _, _, i, _, _, h, _ => by simp at h
  | _ :: _, [], _, i, _, _, _, h => by simp at h
  | s :: ss, p :: ps, m, 0, s', p', h1, h2 => by
    simp only [List.getElem?_cons_zero, Option.some.injEq] at h1 h2
    subst h1 h2
    by_cases c : p = m <;> simp [wl, c]
  | s :: ss, p :: ps, m, i + 1, s', p', h1, h2 => by
    simp only [List.getElem?_cons_succ] at h1 h2
    have ih := wl_snoc ss ps m i s' p' h1 h2
    simp only [List.take_succ_cons, wl, ih]
    by_cases c : p = m <;> by_cases c' : p' = m <;> simp [c, c']
theorem wl_len : ∀ (ss : List Srv) (ps : List Int) (m : Int), (wl ss ps m).length ≤ ss.length
  | [], _, _ => by simp [wl]
  | s :: ss, [], _ => by simp [wl]
  | s :: ss, p :: ps, m => by
    have := wl_len ss ps m
    simp only [wl]
    split <;> simp <;> omega
theorem sp_load_in {h pv : V} {k : Nat} {ss : List Srv} {p : List Int × List Int} {m : Int} (hh : HsAt P S h k ss) (hp : Pic P S pv p) (hP : Lo P S) (hs : ss.length < 64) (hn : ss.length = p.2.length)
    (q : ∀ S', Ag NoP S S' → Q (.int (wl ss p.2 m).sum) S') : Ok (d_load_in [h, pv, .int m] S) Q := by
  obtain ⟨n, d, ps, rfl, hn1, hx, hd, hps⟩ := hp
  (refine (Nx.ok_den (by rfl)).mpr ?_)
  unfold b_load_in
  (simp only [Nx.oks_cons, Nx.oks_nil, Nx.x_ite, Nx.x_asg, Nx.x_par, Nx.x_expr, Nx.x_ret, Nx.x_for, Nx.x_setf, Nx.e_ite, Nx.e_and, Nx.e_or, Nx.e_chain, Nx.e_mc, Nx.e_cst, Nx.e_pn, Nx.es_nil, Nx.es_cons, Nx.es_star, Nx.e_lc,
  Nx.e_var, Nx.ok_val, Nx.ok_pv1, Nx.ok_pv2, Nx.ok_pNot, Nx.bl_ex, Nx.ref_ex,
  List.map_cons, List.map_nil, List.cons_append, List.nil_append, List.append_nil, List.replicate_succ, List.replicate_zero, Nat.reduceSub, Nat.reduceAdd, List.getElem?_cons_zero, List.getElem?_cons_succ, Nx.pb_nm, Nx.pbs_nil, Nx.pbs_nm, List.set_cons_zero, List.set_cons_succ, if_true, if_false, Bool.false_eq_true, Bool.not_eq_true', decide_eq_true_eq, decide_eq_false_iff_not, Bool.not_eq_false', Nx.wipeR, Option.some.injEq, exists_eq_left', and_true, true_and, false_imp_iff, true_imp_iff, Bool.true_eq_false, eq_self_iff_true])
  refine (gE (gIx_seq (vs := [d, ps]) (by simp [seqOf, hx]) atI1)).mpr ?_
  refine ⟨hs_ins hh, sp_services hh fun vs fs => ?_⟩
  obtain ⟨np, rfl, hnp, hxp⟩ := hps.ag (S' := S ++ [Ob.lst vs]) Ag.push
  have lv : vs.length = ss.length := fs.len
  have a0 : Ag NoP S (S ++ [Ob.lst vs]) := Ag.push
  have hl0 : (S ++ [Ob.lst vs])[S.length]? = some (.lst vs) := at_push
  generalize S ++ [Ob.lst vs] = S2 at a0 hl0 fs hxp ⊢
  refine ⟨_, z_start (k := true) (l := false) (us := p.2.map V.int) hl0 hxp, ?_⟩
  refine lc_z (k := true) (l := false) (vs := vs) (us := p.2.map V.int) (fun i acc S' => Ag NoP S2 S' ∧ acc = (wl (ss.take i) (p.2.take i) m).map V.int) (by simp [fuel]; omega) (by simp; omega) ?_ ?_ ?_ ⟨Ag.push, by simp [wl]⟩ at_push
  · rintro i acc S' ⟨a, rfl⟩
    refine ⟨a.at_ _ _ id hl0, a.at_ _ _ id hxp, ?_⟩
    have := wl_len (ss.take i) (p.2.take i) m
    simp at this ⊢; omega
  · rintro i acc S' x y hxi hyi ⟨a, rfl⟩ hm
    obtain ⟨c, hc, rfl⟩ := get_int hyi
    obtain ⟨s, hsi⟩ : ∃ s, ss[i]? = some s := ⟨ss[i]'(by have := (List.getElem?_eq_some_iff.mp hxi).1; omega), List.getElem?_eq_getElem _⟩
    obtain ⟨y', hy', sy⟩ := fs.get hsi
    rw [hxi] at hy'; cases hy'
    refine ⟨_, by rw [pb_tpl at_push, pbs_nm, pbs_nm, pbs_nil], ?_⟩
    unfold Lc
    (simp only [Nx.oks_cons, Nx.oks_nil, Nx.x_ite, Nx.x_asg, Nx.x_par, Nx.x_expr, Nx.x_ret, Nx.x_for, Nx.x_setf, Nx.e_ite, Nx.e_and, Nx.e_or, Nx.e_chain, Nx.e_mc, Nx.e_cst, Nx.e_pn, Nx.es_nil, Nx.es_cons, Nx.es_star, Nx.e_lc,
  Nx.e_var, Nx.ok_val, Nx.ok_pv1, Nx.ok_pv2, Nx.ok_pNot, Nx.bl_ex, Nx.ref_ex,
  List.map_cons, List.map_nil, List.cons_append, List.nil_append, List.append_nil, List.replicate_succ, List.replicate_zero, Nat.reduceSub, Nat.reduceAdd, List.getElem?_cons_zero, List.getElem?_cons_succ, Nx.pb_nm, Nx.pbs_nil, Nx.pbs_nm, List.set_cons_zero, List.set_cons_succ, if_true, if_false, Bool.false_eq_true, Bool.not_eq_true', decide_eq_true_eq, decide_eq_false_iff_not, Bool.not_eq_false', Nx.wipeR, Option.some.injEq, exists_eq_left', and_true, true_and, false_imp_iff, true_imp_iff, Bool.true_eq_false, eq_self_iff_true])
    refine (gE gEq_int).mpr ?_
    rw [wl_snoc ss p.2 m i s c hsi hc]
    by_cases e : c = m
    · refine .inr ⟨by simp [e], ?_⟩
      obtain ⟨k1, o1, rfl, hk1, hxk, _⟩ := (sy.ag (a.any (P := P))).ag (S' := S' ++ [.tpl [x, .int c]]) Ag.push
      refine (gE (gIx_seq (vs := [.int s.w, o1, .str s.rule]) (by simp [seqOf, hxk]) atI0)).mpr ⟨at_low hm, ?_, ?_⟩
      · exact (a.trans Ag.push).setHi (Nat.le_refl _)
      · simp [e]
    · exact .inl ⟨by simp [e], at_low hm, a.trans Ag.push, by simp [e]⟩
  · rintro acc S' ⟨a, rfl⟩ hm
    have e1 : gSum (.ref S2.length) S' = some (.int (wl ss p.2 m).sum) := by
      have t1 : ss.take vs.length = ss := by rw [lv]; exact List.take_length
      have t2 : p.2.take vs.length = p.2 := by rw [lv, hn]; exact List.take_length
      rw [t1, t2] at hm
      unfold gSum
      simp only [lstInts, lstOf, hm, Option.bind_some, ints_map, Option.map_some]
    exact (gE e1).mpr (q _ (a0.trans a))
theorem sp_load {n e k : Nat} {ss : List Srv} {p : List Int × List Int} {m : Int} (hr : RnAt P S n e k ss p) (hP : Lo P S) (hs : ss.length < 64) (hn : ss.length = p.2.length) (q : ∀ S', Ag NoP S S' → Q (.int (wl ss p.2 m).sum) S') :
    insC 1 "load" (.ref n) S = true ∧ Ok (d_Run_m_load [.ref n, .int m] S) Q := by
  obtain ⟨hv, pv, evs, hx, hxe, hle, hh, hpc⟩ := hr.ex
  refine ⟨rn_ins hr (by decide +kernel), ?_⟩
  (refine (Nx.ok_den (by rfl)).mpr ?_)
  unfold b_Run_m_load
  (simp only [Nx.oks_cons, Nx.oks_nil, Nx.x_ite, Nx.x_asg, Nx.x_par, Nx.x_expr, Nx.x_ret, Nx.x_for, Nx.x_setf, Nx.e_ite, Nx.e_and, Nx.e_or, Nx.e_chain, Nx.e_mc, Nx.e_cst, Nx.e_pn, Nx.es_nil, Nx.es_cons, Nx.es_star, Nx.e_lc,
  Nx.e_var, Nx.ok_val, Nx.ok_pv1, Nx.ok_pv2, Nx.ok_pNot, Nx.bl_ex, Nx.ref_ex,
  List.map_cons, List.map_nil, List.cons_append, List.nil_append, List.append_nil, List.replicate_succ, List.replicate_zero, Nat.reduceSub, Nat.reduceAdd, List.getElem?_cons_zero, List.getElem?_cons_succ, Nx.pb_nm, Nx.pbs_nil, Nx.pbs_nm, List.set_cons_zero, List.set_cons_succ, if_true, if_false, Bool.false_eq_true, Bool.not_eq_true', decide_eq_true_eq, decide_eq_false_iff_not, Bool.not_eq_false', Nx.wipeR, Option.some.injEq, exists_eq_left', and_true, true_and, false_imp_iff, true_imp_iff, Bool.true_eq_false, eq_self_iff_true])
  have e1 : gFld [1] "house" (.ref n) S = some hv := by simp only [gFld, hx]; rfl
  have e2 : gFld [1] "_picture" (.ref n) S = some pv := by simp only [gFld, hx]; rfl
  refine (gE e1).mpr ((gE e2).mpr ?_)
  exact sp_load_in hh hpc hP hs hn q
theorem sp_picture {n e k : Nat} {ss : List Srv} {p : List Int × List Int} (hr : RnAt P S n e k ss p) (q : ∀ v, Pic P S v p → Q v S) : insC 1 "picture" (.ref n) S = true ∧ Ok (d_Run_m_picture [.ref n] S) Q := by
  obtain ⟨hv, pv, evs, hx, hxe, hle, hh, hpc⟩ := hr.ex
  refine ⟨rn_ins hr (by decide +kernel), ?_⟩
  (refine (Nx.ok_den (by rfl)).mpr ?_)
  unfold b_Run_m_picture
  (simp only [Nx.oks_cons, Nx.oks_nil, Nx.x_ite, Nx.x_asg, Nx.x_par, Nx.x_expr, Nx.x_ret, Nx.x_for, Nx.x_setf, Nx.e_ite, Nx.e_and, Nx.e_or, Nx.e_chain, Nx.e_mc, Nx.e_cst, Nx.e_pn, Nx.es_nil, Nx.es_cons, Nx.es_star, Nx.e_lc,
  Nx.e_var, Nx.ok_val, Nx.ok_pv1, Nx.ok_pv2, Nx.ok_pNot, Nx.bl_ex, Nx.ref_ex,
  List.map_cons, List.map_nil, List.cons_append, List.nil_append, List.append_nil, List.replicate_succ, List.replicate_zero, Nat.reduceSub, Nat.reduceAdd, List.getElem?_cons_zero, List.getElem?_cons_succ, Nx.pb_nm, Nx.pbs_nil, Nx.pbs_nm, List.set_cons_zero, List.set_cons_succ, if_true, if_false, Bool.false_eq_true, Bool.not_eq_true', decide_eq_true_eq, decide_eq_false_iff_not, Bool.not_eq_false', Nx.wipeR, Option.some.injEq, exists_eq_left', and_true, true_and, false_imp_iff, true_imp_iff, Bool.true_eq_false, eq_self_iff_true])
  have e2 : gFld [1] "_picture" (.ref n) S = some pv := by simp only [gFld, hx]; rfl
  exact (gE e2).mpr (q _ hpc)
end Nx.Lk09

set_option Elab.async false
set_option linter.all false
set_option maxRecDepth 100000
set_option maxHeartbeats 1000000
set_option autoImplicit false
namespace Nx.Lk09
open PySem L2 Nx
variable {P P' : Nat → Prop} {S S' : Sto} {Q : V → Sto → Prop}
/-! ### draws -/
def tk (a b m : Int) : Int × Int × Int := if 0 < a then (a % m, a / m, b) else (((b * 69069 + 12345) % 4294967311 / 65536) % m, a, (b * 69069 + 12345) % 4294967311)
theorem take_spec {f : Nat} {a b m : Int} (h : S[f]? = some (.lst [.int a, .int b])) (hm : 0 < m) (hm2 : m < 1073741824) (hb : 0 ≤ b) (hb2 : b < 4294967311) :
    d__law_take [.ref f, .int m] S = some (.val (.int (tk a b m).1) (S.set f (.lst [.int (tk a b m).2.1, .int (tk a b m).2.2]))) := by
  unfold tk
  have h1 : -18446744073709551616 < b ∧ b < 18446744073709551616 := by omega
  by_cases c : 0 < a
  · simp [den, b__law_take, exs, ex, ev, evs, M.bind, M.toS, pv2, pv1, gIx, seqOf, h, gInt, gGt, gMod, gFdiv, gInt1, atI, ixN, Pat.bind, hm, hm2, c]
  · have hb' : 0 ≤ (b * 69069 + 12345) % 4294967311 := Int.emod_nonneg _ (by decide)
    have sg : (S.set f (Ob.lst [V.int a, V.int ((b * 69069 + 12345) % 4294967311)]))[f]? = some (Ob.lst [V.int a, V.int ((b * 69069 + 12345) % 4294967311)]) := at_set h
    simp [den, b__law_take, exs, ex, ev, evs, M.bind, M.toS, pv2, pv1, gIx, seqOf, h, gInt, gGt, gMod, gFdiv, gInt1, atI, ixN, Pat.bind, hm, hm2, c, pMul, pAdd, h1, sg]
def Fd (S : Sto) (f : Nat) : Prop := ∃ a b, S[f]? = some (.lst [.int a, .int b]) ∧ 0 ≤ b ∧ b < 4294967311
def At (f : Nat) : Nat → Prop := fun i => i = f
theorem Fd.ag {f : Nat} (h : Fd S f) (a : Ag P S S') (hf : ¬ P f) : Fd S' f := let ⟨x, y, e, r⟩ := h; ⟨x, y, a.at_ _ _ hf e, r⟩
theorem sp_take {f : Nat} {m : Int} (h : Fd S f) (hm : 0 < m) (hm2 : m < 1000) (q : ∀ r S', 0 ≤ r → r < m → Ag (At f) S S' → Fd S' f → Q (.int r) S') : Ok (d__law_take [.ref f, .int m] S) Q := by
  obtain ⟨a, b, e, h0, h1⟩ := h
  refine ⟨_, _, take_spec e hm (by omega) h0 h1, ?_⟩
  have hr : 0 ≤ (tk a b m).1 ∧ (tk a b m).1 < m := by
    unfold tk
    split
    · exact ⟨Int.emod_nonneg _ (by omega), Int.emod_lt_of_pos _ hm⟩
    · exact ⟨Int.emod_nonneg _ (by omega), Int.emod_lt_of_pos _ hm⟩
  refine q _ _ hr.1 hr.2 (Ag.set rfl) ⟨_, _, at_set e, ?_⟩
  unfold tk
  split
  · exact ⟨h0, h1⟩
  · exact ⟨Int.emod_nonneg _ (by decide), Int.emod_lt_of_pos _ (by decide)⟩
theorem gLen_at {v : V} {vs : List V} (h : seqOf S v = some vs) : gLen v S = some (.int vs.length) := by unfold gLen; rw [h]; rfl
theorem gL_lst {n : Nat} {vs : List V} (h : S[n]? = some (.lst vs)) : gLen (.ref n) S = some (.int vs.length) := gLen_at (by simp [seqOf, h])
theorem gL_tup {n : Nat} {vs : List V} (h : S[n]? = some (.tup vs)) : gLen (.ref n) S = some (.int vs.length) := gLen_at (by simp [seqOf, h])
theorem pLen_lst {n : Nat} {vs : List V} {c : Nat} {d : Prim} (h : S[n]? = some (.lst vs)) : Ok (pLen c d [.ref n] S) Q ↔ Q (.int vs.length) S := by
  unfold pLen
  simp only [h]
  rw [ok_pv1]
  exact gE (gLen_at (by simp [seqOf, h]))
theorem pLen_tup {n : Nat} {vs : List V} {c : Nat} {d : Prim} (h : S[n]? = some (.tup vs)) : Ok (pLen c d [.ref n] S) Q ↔ Q (.int vs.length) S := by
  unfold pLen
  simp only [h]
  rw [ok_pv1]
  exact gE (gLen_at (by simp [seqOf, h]))
theorem sp_pick {f n : Nat} {vs : List V} (h : Fd S f) (hn : n ≠ f) (hx : S[n]? = some (.lst vs)) (h0 : 0 < vs.length) (hl : vs.length < 1000) (q : ∀ v S', v ∈ vs → Ag (At f) S S' → Fd S' f → Q v S') : Ok (d__law_pick [.ref f, .ref n] S) Q := by
  (refine (Nx.ok_den (by rfl)).mpr ?_)
  unfold b__law_pick
  (simp only [Nx.oks_cons, Nx.oks_nil, Nx.x_ite, Nx.x_asg, Nx.x_par, Nx.x_expr, Nx.x_ret, Nx.x_for, Nx.x_setf, Nx.e_ite, Nx.e_and, Nx.e_or, Nx.e_chain, Nx.e_mc, Nx.e_cst, Nx.e_pn, Nx.es_nil, Nx.es_cons, Nx.es_star, Nx.e_lc,
  Nx.e_var, Nx.ok_val, Nx.ok_pv1, Nx.ok_pv2, Nx.ok_pNot, Nx.bl_ex, Nx.ref_ex,
  List.map_cons, List.map_nil, List.cons_append, List.nil_append, List.append_nil, List.replicate_succ, List.replicate_zero, Nat.reduceSub, Nat.reduceAdd, List.getElem?_cons_zero, List.getElem?_cons_succ, Nx.pb_nm, Nx.pbs_nil, Nx.pbs_nm, List.set_cons_zero, List.set_cons_succ, if_true, if_false, Bool.false_eq_true, Bool.not_eq_true', decide_eq_true_eq, decide_eq_false_iff_not, Bool.not_eq_false', Nx.wipeR, Option.some.injEq, exists_eq_left', and_true, true_and, false_imp_iff, true_imp_iff, Bool.true_eq_false, eq_self_iff_true])
  rw [gE (gL_lst hx)]
  refine sp_take h (by omega) (by omega) fun r S1 r0 r1 a1 f1 => ?_
  have hx1 := a1.at_ _ _ hn hx
  have hr : r.toNat < vs.length := by omega
  have e : gIx (.ref n) (.int r) S1 = some vs[r.toNat] := by
    refine gIx_seq (vs := vs) (by simp [seqOf, hx1]) ?_
    have := atI_nat (xs := vs) (i := r.toNat) (x := vs[r.toNat]) (List.getElem?_eq_getElem hr)
    rwa [Int.toNat_of_nonneg r0] at this
  exact (gE e).mpr (q _ _ (List.getElem_mem hr) a1 f1)
theorem ok_append {n : Nat} {vs : List V} {v : V} (h : S[n]? = some (.lst vs)) (hl : vs.length < 100000) : Ok (pAppend [.ref n, v] S) Q ↔ Q .non (S.set n (.lst (vs ++ [v]))) := by
  unfold pAppend
  simp only [h, if_pos hl]
  exact ok_val
theorem isLst_at {n : Nat} {vs : List V} (h : S[n]? = some (.lst vs)) : isLst (.ref n) S = true := by simp [isLst, h]
theorem ok_popAt {n : Nat} {vs : List V} {r : Int} (h : S[n]? = some (.lst vs)) (h0 : 0 ≤ r) (h1 : r < vs.length) (hl : vs.length < 1000) : Ok (pPopAt [.ref n, .int r] S) Q ↔ Q (vs[r.toNat]'(by omega)) (S.set n (.lst (vs.eraseIdx r.toNat))) := by
  unfold pPopAt
  have e : seqIndex? r vs.length = some r.toNat := by
    unfold seqIndex?
    simp only [if_neg (show ¬ r < 0 by omega)]
    rw [if_pos (by simp; omega)]
  have e2 : vs[r.toNat]? = some (vs[r.toNat]'(by omega)) := List.getElem?_eq_getElem _
  simp only [h, if_pos (show -1000000 < r ∧ r < 1000000 by omega), e, e2]
  exact ok_val
theorem rgL_ints (k : Nat) : rgL 0 k = ((List.range k).map fun i : Nat => (i : Int)).map V.int := by
  unfold rgL
  simp
def rng (k : Nat) : List Int := (List.range k).map fun i : Nat => (i : Int)
theorem rng_nodup (k : Nat) : (rng k).Nodup := by
  unfold rng
  unfold List.Nodup
  rw [List.pairwise_map]
  exact List.nodup_range.imp fun h e => h (by omega)
theorem rng_mem {k : Nat} {m : Int} : m ∈ rng k ↔ 0 ≤ m ∧ m < k := by
  unfold rng
  simp only [List.mem_map, List.mem_range]
  constructor
  · rintro ⟨i, hi, rfl⟩; omega
  · rintro ⟨h0, h1⟩; exact ⟨m.toNat, by omega, by omega⟩
theorem ok_listRg {k : Nat} (h : k < 1000) : Ok (pListRg [.int k] S) Q ↔ Q (.ref S.length) (S ++ [.lst ((rng k).map V.int)]) := by
  unfold pListRg
  show Ok (if -1000 < (k : Int) ∧ (k : Int) < 1000 then some (Out.val (V.ref S.length) (S ++ [.lst (rgL 0 k)])) else none) Q ↔ _
  rw [if_pos (by omega), rgL_ints]
  exact ok_val
theorem erase_perm : ∀ (xs : List Int) (i : Nat) (hi : i < xs.length), (xs[i] :: xs.eraseIdx i).Perm xs
  | x :: r, 0, _ => by simp
  | x :: r, i + 1, hi => by
    have ih := erase_perm r i (by simpa using hi)
    simp only [List.getElem_cons_succ, List.eraseIdx_cons_succ]
    exact (List.Perm.swap _ _ _).trans (ih.cons x)
/-- draws without putting back: what is left and what was found make the whole -/
theorem perm_pop {xs fs ws : List Int} {i : Nat} (h : (xs ++ fs).Perm ws) (hi : i < xs.length) : (xs.eraseIdx i ++ (fs ++ [xs[i]])).Perm ws := by
  refine List.Perm.trans ?_ h
  have e : (xs[i] :: xs.eraseIdx i).Perm xs := erase_perm xs i hi
  have : (xs.eraseIdx i ++ (fs ++ [xs[i]])).Perm (xs[i] :: (xs.eraseIdx i ++ fs)) := by
    rw [← List.append_assoc]
    exact List.perm_append_comm
  exact this.trans (e.append_right fs)
theorem erase_map : ∀ (xs : List Int) (i : Nat), (xs.map V.int).eraseIdx i = (xs.eraseIdx i).map V.int
  | [], _ => by simp
  | x :: r, 0 => by simp
  | x :: r, i + 1 => by simp [erase_map r i]
/-! ### orders -/
theorem sp_order {f : Nat} {k : Nat} {least : Int} (h : Fd S f) (hk : k < 100) (h0 : 0 ≤ least) (h1 : least ≤ k) (q : ∀ v S' o, Ag (At f) S S' → Fd S' f → TupI (At f) S' v o → o.Nodup → (∀ m ∈ o, 0 ≤ m ∧ m < (k : Int)) → least ≤ o.length → o.length ≤ k → Q v S') :
    Ok (d__law_order [.ref f, .int k, .int least] S) Q := by
  have hf : f < S.length := by obtain ⟨a, b, e, _⟩ := h; exact (List.getElem?_eq_some_iff.mp e).1
  (refine (Nx.ok_den (by rfl)).mpr ?_)
  unfold b__law_order
  (simp only [Nx.oks_cons, Nx.oks_nil, Nx.x_ite, Nx.x_asg, Nx.x_par, Nx.x_expr, Nx.x_ret, Nx.x_for, Nx.x_setf, Nx.e_ite, Nx.e_and, Nx.e_or, Nx.e_chain, Nx.e_mc, Nx.e_cst, Nx.e_pn, Nx.es_nil, Nx.es_cons, Nx.es_star, Nx.e_lc,
  Nx.e_var, Nx.ok_val, Nx.ok_pv1, Nx.ok_pv2, Nx.ok_pNot, Nx.bl_ex, Nx.ref_ex,
  List.map_cons, List.map_nil, List.cons_append, List.nil_append, List.append_nil, List.replicate_succ, List.replicate_zero, Nat.reduceSub, Nat.reduceAdd, List.getElem?_cons_zero, List.getElem?_cons_succ, Nx.pb_nm, Nx.pbs_nil, Nx.pbs_nm, List.set_cons_zero, List.set_cons_succ, if_true, if_false, Bool.false_eq_true, Bool.not_eq_true', decide_eq_true_eq, decide_eq_false_iff_not, Bool.not_eq_false', Nx.wipeR, Option.some.injEq, exists_eq_left', and_true, true_and, false_imp_iff, true_imp_iff, Bool.true_eq_false, eq_self_iff_true])
  rw [ok_listRg (by omega), ok_pLst (by simp)]
  have hA : Ag (At f) S (S ++ [Ob.lst ((rng k).map V.int)] ++ [Ob.lst []]) := Ag.push.trans Ag.push
  have hx1 : (S ++ [Ob.lst ((rng k).map V.int)] ++ [Ob.lst []])[S.length]? = some (.lst ((rng k).map V.int)) := at_low at_push
  have hx2 : (S ++ [Ob.lst ((rng k).map V.int)] ++ [Ob.lst []])[(S ++ [Ob.lst ((rng k).map V.int)]).length]? = some (.lst []) := at_push
  have hl2 : (S ++ [Ob.lst ((rng k).map V.int)]).length = S.length + 1 := by simp
  rw [hl2] at hx2 ⊢
  have hF : Fd (S ++ [Ob.lst ((rng k).map V.int)] ++ [Ob.lst []]) f := h.ag (P := NoP) (Ag.push.trans Ag.push) id
  generalize S ++ [Ob.lst ((rng k).map V.int)] ++ [Ob.lst []] = S2 at hA hx1 hx2 hF ⊢
  have p1 : ∀ {S : Sto} {a b : Int} {Q : V → Sto → Prop}, Ok (pAdd [.int a, .int b] S) Q ↔ Q (.int (a + b)) S := fun {S a b Q} => by unfold pAdd; exact ok_val
  rw [p1]
  have g1 : gSub (.int ((k : Int) + 1)) (.int least) S2 = some (.int ((k : Int) + 1 - least)) := rfl
  refine (gE g1).mpr ?_
  refine sp_take hF (by omega) (by omega) fun r S3 r0 r1 a3 f3 => ?_
  rw [p1]
  obtain ⟨t, ht⟩ : ∃ t : Nat, (t : Int) = least + r := ⟨(least + r).toNat, by omega⟩
  rw [← ht]
  refine ⟨_, rg_start (by omega), ?_⟩
  refine for_rg (a := t) (fun i ρ S' => (∃ u, ρ = [some (.ref f), some (.int k), some (.int least), some (.ref S.length), some (.ref (S.length + 1)), u]) ∧ Ag (At f) S S' ∧ Fd S' f ∧ ∃ xs fs : List Int, S'[S.length]? = some (.lst (xs.map V.int)) ∧ S'[S.length + 1]? = some (.lst (fs.map V.int)) ∧ (xs ++ fs).Perm (rng k) ∧ fs.length = i) (by simp [fuel]; omega) ?_ ?_ ?_
  · rintro i ρ S' hi ⟨⟨u, rfl⟩, a, fd, xs, fs, hx, hy, pm, hl⟩
    refine ⟨_, pb_nm, ?_⟩
    have lk : xs.length + fs.length = k := by have := pm.length_eq; simpa [rng] using this
    (simp only [Nx.oks_cons, Nx.oks_nil, Nx.x_ite, Nx.x_asg, Nx.x_par, Nx.x_expr, Nx.x_ret, Nx.x_for, Nx.x_setf, Nx.e_ite, Nx.e_and, Nx.e_or, Nx.e_chain, Nx.e_mc, Nx.e_cst, Nx.e_pn, Nx.es_nil, Nx.es_cons, Nx.es_star, Nx.e_lc,
  Nx.e_var, Nx.ok_val, Nx.ok_pv1, Nx.ok_pv2, Nx.ok_pNot, Nx.bl_ex, Nx.ref_ex,
  List.map_cons, List.map_nil, List.cons_append, List.nil_append, List.append_nil, List.replicate_succ, List.replicate_zero, Nat.reduceSub, Nat.reduceAdd, List.getElem?_cons_zero, List.getElem?_cons_succ, Nx.pb_nm, Nx.pbs_nil, Nx.pbs_nm, List.set_cons_zero, List.set_cons_succ, if_true, if_false, Bool.false_eq_true, Bool.not_eq_true', decide_eq_true_eq, decide_eq_false_iff_not, Bool.not_eq_false', Nx.wipeR, Option.some.injEq, exists_eq_left', and_true, true_and, false_imp_iff, true_imp_iff, Bool.true_eq_false, eq_self_iff_true])
    refine ⟨isLst_at hy, isLst_at hx, ?_⟩
    rw [gE (gL_lst hx)]
    refine sp_take fd (by simp; omega) (by simp; omega) fun r2 S4 s0 s1 a4 f4 => ?_
    have n1 : S.length ≠ f := by omega
    have n2 : S.length + 1 ≠ f := by omega
    have hx4 := a4.at_ _ _ n1 hx
    have hy4 := a4.at_ _ _ n2 hy
    simp only [List.length_map] at s1
    rw [ok_popAt hx4 s0 (by simpa using s1) (by simp; omega)]
    have hy5 : (S4.set S.length (.lst ((xs.map V.int).eraseIdx r2.toNat)))[S.length + 1]? = some (.lst (fs.map V.int)) := at_ne hy4 (by omega)
    have hx5 : (S4.set S.length (.lst ((xs.map V.int).eraseIdx r2.toNat)))[S.length]? = some (.lst ((xs.map V.int).eraseIdx r2.toNat)) := at_set hx4
    rw [ok_append hy5 (by simp; omega)]
    have hr : r2.toNat < xs.length := by omega
    refine ⟨⟨_, rfl⟩, ((a.trans a4).setHi (Nat.le_refl _)).setHi (by omega), ?_, xs.eraseIdx r2.toNat, fs ++ [xs[r2.toNat]], ?_, ?_, perm_pop pm hr, by simp [hl]⟩
    · obtain ⟨c, d, e, r⟩ := f4
      exact ⟨c, d, at_ne (at_ne e (by omega)) (by omega), r⟩
    · rw [at_ne hx5 (by omega), erase_map]
    · rw [at_set hy5]; simp
  · rintro ρ S' ⟨⟨u, rfl⟩, a, fd, xs, fs, hx, hy, pm, hl⟩
    (simp only [Nx.oks_cons, Nx.oks_nil, Nx.x_ite, Nx.x_asg, Nx.x_par, Nx.x_expr, Nx.x_ret, Nx.x_for, Nx.x_setf, Nx.e_ite, Nx.e_and, Nx.e_or, Nx.e_chain, Nx.e_mc, Nx.e_cst, Nx.e_pn, Nx.es_nil, Nx.es_cons, Nx.es_star, Nx.e_lc,
  Nx.e_var, Nx.ok_val, Nx.ok_pv1, Nx.ok_pv2, Nx.ok_pNot, Nx.bl_ex, Nx.ref_ex,
  List.map_cons, List.map_nil, List.cons_append, List.nil_append, List.append_nil, List.replicate_succ, List.replicate_zero, Nat.reduceSub, Nat.reduceAdd, List.getElem?_cons_zero, List.getElem?_cons_succ, Nx.pb_nm, Nx.pbs_nil, Nx.pbs_nm, List.set_cons_zero, List.set_cons_succ, if_true, if_false, Bool.false_eq_true, Bool.not_eq_true', decide_eq_true_eq, decide_eq_false_iff_not, Bool.not_eq_false', Nx.wipeR, Option.some.injEq, exists_eq_left', and_true, true_and, false_imp_iff, true_imp_iff, Bool.true_eq_false, eq_self_iff_true])
    rw [ok_tupleOf hy]
    have nd : (xs ++ fs).Nodup := pm.nodup_iff.mpr (rng_nodup k)
    refine q _ _ fs (a.trans Ag.push) (fd.ag (P := NoP) Ag.push id) ⟨_, rfl, ?_, at_push⟩ (List.nodup_append.mp nd).2.1 (fun m hm => rng_mem.mp (pm.mem_iff.mp (List.mem_append_right _ hm))) (by omega) (by omega)
    have := a.len
    show ¬ S'.length = f
    omega
  · refine ⟨⟨_, rfl⟩, hA.trans a3, f3, rng k, [], a3.at_ _ _ (show ¬ S.length = f by omega) hx1, a3.at_ _ _ (show ¬ S.length + 1 = f by omega) hx2, by simp, rfl⟩
end Nx.Lk09

set_option Elab.async false
set_option linter.all false
set_option maxRecDepth 100000
set_option maxHeartbeats 1000000
set_option autoImplicit false
namespace Nx.Lk09
open PySem L2 Nx
variable {P P' : Nat → Prop} {S S' : Sto} {Q : V → Sto → Prop}
theorem ok_add {a b : Int} : Ok (pAdd [.int a, .int b] S) Q ↔ Q (.int (a + b)) S := by unfold pAdd; exact ok_val
theorem pow9 : gPow (.int 10) (.int 9) S = some (.int 1000000000) := by simp [gPow, gInt]
theorem pow8 : gPow (.int 10) (.int 8) S = some (.int 100000000) := by simp [gPow, gInt]
theorem pow10 : gPow (.int 10) (.int 10) S = some (.int 10000000000) := by simp [gPow, gInt]
theorem mul5 : Ok (pMul [.int 5, .int 100000000] S) Q ↔ Q (.int 500000000) S := by
  unfold pMul
  exact ok_val
/-- a list from which one may draw -/
def Menu (f : Nat) (R : V → Prop) (S : Sto) (v : V) : Prop := ∃ n vs, v = .ref n ∧ n ≠ f ∧ S[n]? = some (.lst vs) ∧ 0 < vs.length ∧ vs.length < 1000 ∧ ∀ x ∈ vs, R x
theorem Menu.ag {f : Nat} {R : V → Prop} {v : V} (h : Menu f R S v) (a : Ag (At f) S S') : Menu f R S' v := let ⟨n, vs, e, hn, x, r⟩ := h; ⟨n, vs, e, hn, a.at_ _ _ hn x, r⟩
theorem sp_pickM {f : Nat} {R : V → Prop} {m : V} (h : Fd S f) (hm : Menu f R S m) (q : ∀ v S', R v → Ag (At f) S S' → Fd S' f → Q v S') : Ok (d__law_pick [.ref f, m] S) Q := by
  obtain ⟨n, vs, rfl, hn, hx, h0, h1, hr⟩ := hm
  exact sp_pick h hn hx h0 h1 fun v S' hv a fd => q v S' (hr v hv) a fd
def RW (v : V) : Prop := ∃ w : Int, v = .int w ∧ 1 ≤ w ∧ w ≤ 1000000000
def RR (v : V) : Prop := ∃ r : Str, v = .str r ∧ (r = ("first" : Str) ∨ r = ("home" : Str) ∨ r = ("stay" : Str))
def RT (v : V) : Prop := ∃ w : Int, v = .int w ∧ 0 ≤ w ∧ w ≤ 10000000000
/-- a service as the law draws it -/
structure Drawn (k : Nat) (s : Srv) : Prop where
  w1 : 1 ≤ s.w
  w2 : s.w ≤ 1000000000
  nd : s.ord.Nodup
  rg : ∀ m ∈ s.ord, 0 ≤ m ∧ m < (k : Int)
  ne : s.ord ≠ []
  ln : s.ord.length ≤ k
  ru : s.rule = ("first" : Str) ∨ s.rule = ("home" : Str) ∨ s.rule = ("stay" : Str)
theorem menu_mk {f n : Nat} {R : V → Prop} {vs : List V} (hn : n ≠ f) (hx : S[n]? = some (.lst vs)) (h0 : 0 < vs.length) (h1 : vs.length < 1000) (h : ∀ x ∈ vs, R x) : Menu f R S (.ref n) := ⟨n, vs, rfl, hn, hx, h0, h1, h⟩
theorem fd_push {f : Nat} {o : Ob} (h : Fd S f) : Fd (S ++ [o]) f := h.ag (P := NoP) Ag.push id
theorem fd_lt {f : Nat} (h : Fd S f) : f < S.length := by obtain ⟨a, b, e, _⟩ := h; exact (List.getElem?_eq_some_iff.mp e).1
theorem sp_menuW {f : Nat} (h : Fd S f) (q : ∀ v S', Menu f RW S' v → Ag (At f) S S' → Fd S' f → Q v S') :
    Ok (pLst [V.int 1, V.int 2, V.int 3] S) fun v S1 => Ok (pLst [V.int 5, V.int 5, V.int 7, V.int 1] S1) fun v_1 S1 => ∃ v_2, gPow (V.int 10) (V.int 9) S1 = some v_2 ∧ ∃ v_3, gPow (V.int 10) (V.int 8) S1 = some v_3 ∧
      Ok (pMul [V.int 5, v_3] S1) fun v_4 S1 => Ok (pLst [v_2, V.int 1, v_4] S1) fun v_5 S1 => Ok (pLst [V.int 1, V.int 2, V.int 4, V.int 8, V.int 16] S1) fun v_6 S1 => Ok (pLst [v, v_1, v_5, v_6] S1) fun v S1 => Ok (d__law_pick [V.ref f, v] S1) Q := by
  have hl := fd_lt h
  rw [ok_pLst (by simp), ok_pLst (by simp)]
  refine (gE pow9).mpr ((gE pow8).mpr ?_)
  rw [mul5, ok_pLst (by simp), ok_pLst (by simp), ok_pLst (by simp)]
  have ag : Ag (At f) S (S ++ [Ob.lst [V.int 1, V.int 2, V.int 3]] ++ [Ob.lst [V.int 5, V.int 5, V.int 7, V.int 1]] ++ [Ob.lst [V.int 1000000000, V.int 1, V.int 500000000]] ++ [Ob.lst [V.int 1, V.int 2, V.int 4, V.int 8, V.int 16]]) := ((Ag.push.trans Ag.push).trans Ag.push).trans Ag.push
  have fd1 : Fd (S ++ [Ob.lst [V.int 1, V.int 2, V.int 3]] ++ [Ob.lst [V.int 5, V.int 5, V.int 7, V.int 1]] ++ [Ob.lst [V.int 1000000000, V.int 1, V.int 500000000]] ++ [Ob.lst [V.int 1, V.int 2, V.int 4, V.int 8, V.int 16]]) f := fd_push (fd_push (fd_push (fd_push h)))
  refine sp_pick (fd_push fd1) (by simp; omega) at_push (by simp) (by simp) fun v S' hv a fd => ?_
  refine q v S' ?_ ((ag.trans Ag.push).trans a) fd
  refine Menu.ag ?_ a
  simp only [List.mem_cons, List.not_mem_nil, or_false] at hv
  rcases hv with rfl | rfl | rfl | rfl
  · exact menu_mk (by omega) (at_low (at_low (at_low (at_low at_push)))) (by simp) (by simp) (by simp [RW])
  · exact menu_mk (by simp; omega) (at_low (at_low (at_low at_push))) (by simp) (by simp) (by simp [RW])
  · exact menu_mk (by simp; omega) (at_low (at_low at_push)) (by simp) (by simp) (by simp [RW])
  · exact menu_mk (by simp; omega) (at_low at_push) (by simp) (by simp) (by simp [RW])
theorem sp_menuR {f : Nat} (h : Fd S f) (q : ∀ v S', Menu f RR S' v → Ag (At f) S S' → Fd S' f → Q v S') :
    Ok (pLst [V.str (Str.ofString "first"), V.str (Str.ofString "home"), V.str (Str.ofString "stay")] S) fun v_7 S1 => Ok (pLst [V.str (Str.ofString "home")] S1) fun v_8 S1 => Ok (pLst [V.str (Str.ofString "home"), V.str (Str.ofString "stay")] S1) fun v_9 S1 =>
      Ok (pLst [V.str (Str.ofString "first"), V.str (Str.ofString "home")] S1) fun v_10 S1 => Ok (pLst [v_7, v_8, v_9, v_10] S1) fun v_11 S1 => Ok (d__law_pick [V.ref f, v_11] S1) Q := by
  have hl := fd_lt h
  rw [ok_pLst (by simp), ok_pLst (by simp), ok_pLst (by simp), ok_pLst (by simp), ok_pLst (by simp)]
  refine sp_pick (fd_push (fd_push (fd_push (fd_push (fd_push h))))) (by simp; omega) at_push (by simp) (by simp) fun v S' hv a fd => ?_
  refine q v S' ?_ (((((Ag.push.trans Ag.push).trans Ag.push).trans Ag.push).trans Ag.push).trans a) fd
  refine Menu.ag ?_ a
  simp only [List.mem_cons, List.not_mem_nil, or_false] at hv
  rcases hv with rfl | rfl | rfl | rfl
  · exact menu_mk (by omega) (at_low (at_low (at_low (at_low at_push)))) (by simp) (by simp) (by simp [RR])
  · exact menu_mk (by simp; omega) (at_low (at_low (at_low at_push))) (by simp) (by simp) (by simp [RR])
  · exact menu_mk (by simp; omega) (at_low (at_low at_push)) (by simp) (by simp) (by simp [RR])
  · exact menu_mk (by simp; omega) (at_low at_push) (by simp) (by simp) (by simp [RR])
end Nx.Lk09

set_option Elab.async false
set_option linter.all false
set_option maxRecDepth 100000
set_option maxHeartbeats 1000000
set_option autoImplicit false
namespace Nx.Lk09
open PySem L2 Nx
variable {P P' : Nat → Prop} {S S' : Sto} {Q : V → Sto → Prop}
def At2 (f B : Nat) : Nat → Prop := fun i => i = f ∨ i = B
theorem gMin2_int {a b : Int} : gMin2 (.int a) (.int b) S = some (.int (if b < a then b else a)) := rfl
theorem F2.ag2 {vs : List V} {ss : List Srv} (h : F2 (SvAt P S) vs ss) (a : Ag P S S') : F2 (SvAt P S') vs ss := h.mono fun _ _ q => q.ag a
theorem sp_law_house {f : Nat} (h : Fd S f) (q : ∀ S' k sa sb xs ss, Ag (At f) S S' → Fd S' f → 1 ≤ k → k ≤ 5 → SvsAt (At f) S' (.ref sb) ss → S.length ≤ sb → S.length ≤ sa → LstI (At f) S' (.ref sa) xs → xs.length = k → (∀ x ∈ xs, 0 ≤ x ∧ x ≤ 10000000000) → (∀ s ∈ ss, Drawn k s) → ss.length ≤ 5 → Q (.ref S'.length) (S' ++ [.lst [.ref sa, .ref sb]])) :
    Ok (d__law_house [.ref f, .int 5, .int 5] S) Q := by
  have hlt := fd_lt h
  (refine (Nx.ok_den (by rfl)).mpr ?_)
  unfold b__law_house
  rw [oks_cons]
  (simp only [Nx.oks_cons, Nx.oks_nil, Nx.x_ite, Nx.x_asg, Nx.x_par, Nx.x_expr, Nx.x_ret, Nx.x_for, Nx.x_setf, Nx.e_ite, Nx.e_and, Nx.e_or, Nx.e_chain, Nx.e_mc, Nx.e_cst, Nx.e_pn, Nx.es_nil, Nx.es_cons, Nx.es_star, Nx.e_lc,
  Nx.e_var, Nx.ok_val, Nx.ok_pv1, Nx.ok_pv2, Nx.ok_pNot, Nx.bl_ex, Nx.ref_ex,
  List.map_cons, List.map_nil, List.cons_append, List.nil_append, List.append_nil, List.replicate_succ, List.replicate_zero, Nat.reduceSub, Nat.reduceAdd, List.getElem?_cons_zero, List.getElem?_cons_succ, Nx.pb_nm, Nx.pbs_nil, Nx.pbs_nm, List.set_cons_zero, List.set_cons_succ, if_true, if_false, Bool.false_eq_true, Bool.not_eq_true', decide_eq_true_eq, decide_eq_false_iff_not, Bool.not_eq_false', Nx.wipeR, Option.some.injEq, exists_eq_left', and_true, true_and, false_imp_iff, true_imp_iff, Bool.true_eq_false, eq_self_iff_true])
  refine sp_take h (by omega) (by omega) fun r S1 r0 r1 a1 f1 => ?_
  rw [ok_add]
  obtain ⟨k, hk⟩ : ∃ k : Nat, (k : Int) = 1 + r := ⟨(1 + r).toNat, by omega⟩
  rw [← hk]
  refine sp_menuW f1 fun mw S2 hW a2 f2 => ?_
  refine sp_menuR f2 fun mr S3 hR a3 f3 => ?_
  rw [ok_pLst (by simp), ok_add]
  have hlt3 := fd_lt f3
  have hW3 : Menu f RW S3 mw := hW.ag a3
  have f4 : Fd (S3 ++ [Ob.lst []]) f := fd_push f3
  have hB4 : (S3 ++ [Ob.lst []])[S3.length]? = some (.lst []) := at_push
  have aS : Ag (At f) S S3 := (a1.trans a2).trans a3
  have a4 : Ag (At f) S3 (S3 ++ [Ob.lst []]) := Ag.push
  generalize S3 ++ [Ob.lst []] = S4 at f4 hB4 a4 ⊢
  refine sp_take f4 (by decide) (by decide) fun t S5 t0 t1 a5 f5 => ?_
  obtain ⟨n, hn⟩ : ∃ n : Nat, (n : Int) = t := ⟨t.toNat, by omega⟩
  rw [← hn]
  refine ⟨_, rg_start (by omega), ?_⟩
  refine for_rg (a := n) (fun i ρ S' => (∃ u w, ρ = [some (.ref f), some (.int 5), some (.int 5), some (.int k), some mw, some mr, some (.ref S3.length), u, w, none, none]) ∧ Ag (At f) S3 S' ∧ Fd S' f ∧ ∃ vs ss, S'[S3.length]? = some (.lst vs) ∧ F2 (SvAt (At2 f S3.length) S') vs ss ∧ (∀ s ∈ ss, Drawn k s) ∧ ss.length = i) (by simp [fuel]; omega) ?_ ?_ ?_
  · rintro i ρ S' hi ⟨⟨u, w, rfl⟩, a, fd, vs, ss, hB, fs, dr, hl⟩
    refine ⟨_, pb_nm, ?_⟩
    have lv : vs.length = ss.length := fs.len
    (simp only [Nx.oks_cons, Nx.oks_nil, Nx.x_ite, Nx.x_asg, Nx.x_par, Nx.x_expr, Nx.x_ret, Nx.x_for, Nx.x_setf, Nx.e_ite, Nx.e_and, Nx.e_or, Nx.e_chain, Nx.e_mc, Nx.e_cst, Nx.e_pn, Nx.es_nil, Nx.es_cons, Nx.es_star, Nx.e_lc,
  Nx.e_var, Nx.ok_val, Nx.ok_pv1, Nx.ok_pv2, Nx.ok_pNot, Nx.bl_ex, Nx.ref_ex,
  List.map_cons, List.map_nil, List.cons_append, List.nil_append, List.append_nil, List.replicate_succ, List.replicate_zero, Nat.reduceSub, Nat.reduceAdd, List.getElem?_cons_zero, List.getElem?_cons_succ, Nx.pb_nm, Nx.pbs_nil, Nx.pbs_nm, List.set_cons_zero, List.set_cons_succ, if_true, if_false, Bool.false_eq_true, Bool.not_eq_true', decide_eq_true_eq, decide_eq_false_iff_not, Bool.not_eq_false', Nx.wipeR, Option.some.injEq, exists_eq_left', and_true, true_and, false_imp_iff, true_imp_iff, Bool.true_eq_false, eq_self_iff_true])
    rw [ok_pLst (by simp)]
    refine sp_pick (fd_push fd) (by have := fd_lt fd; omega) at_push (by simp) (by simp) fun v S6 hv a6 f6 => ?_
    obtain ⟨lst, hlst⟩ : ∃ l : Int, v = .int l ∧ 1 ≤ l ∧ l ≤ 3 := by
      simp only [List.mem_cons, List.not_mem_nil, or_false] at hv
      rcases hv with rfl | rfl | rfl | rfl <;> exact ⟨_, rfl, by decide, by decide⟩
    obtain ⟨rfl, l1, l3⟩ := hlst
    refine (gE gMin2_int).mpr ?_
    have a06 : Ag (At f) S' S6 := Ag.push.trans a6
    refine sp_order f6 (by omega) (by split <;> omega) (by split <;> omega) fun ov S7 o a7 f7 ho nd rg lo hi' => ?_
    have a07 := a06.trans a7
    have hB7 := a07.at_ _ _ (show ¬ S3.length = f by omega) hB
    refine ⟨isLst_at hB7, ?_⟩
    refine sp_pickM f7 ((hW3.ag a).ag a07) fun wv S8 hw a8 f8 => ?_
    refine sp_pickM f8 (((hR.ag a).ag a07).ag a8) fun rv S9 hr' a9 f9 => ?_
    obtain ⟨wt, rfl, w1, w2⟩ := hw
    obtain ⟨ru, rfl, hru⟩ := hr'
    have a09 := (a07.trans a8).trans a9
    rw [ok_pTup (by simp)]
    have hB9 := a09.at_ _ _ (show ¬ S3.length = f by omega) hB
    rw [ok_append (at_low hB9) (by omega)]
    have a10 : Ag (At f) S' (S9 ++ [.tup [V.int wt, ov, V.str ru]]) := a09.trans Ag.push
    have ag2 : ∀ i, At f i → At2 f S3.length i := fun i z => .inl z
    have hb : S3.length < S'.length := (List.getElem?_eq_some_iff.mp hB).1
    have ho9 : TupI (At f) (S9 ++ [.tup [V.int wt, ov, V.str ru]]) ov o := (((ho.ag a8).ag a9).ag Ag.push)
    have hov : TupI (At2 f S3.length) (S9 ++ [.tup [V.int wt, ov, V.str ru]]) ov o := by
      obtain ⟨no, rfl, hno, hxo⟩ := ho9
      refine ⟨no, rfl, fun z => ?_, hxo⟩
      rcases z with z | z
      · exact hno z
      · rw [z, at_low hB9] at hxo; cases hxo
    have l9 := a09.len
    refine ⟨⟨_, _, rfl⟩, (a.trans a10).setHi (Nat.le_refl _), ?_, vs ++ [.ref S9.length], ss ++ [⟨wt, o, ru⟩], at_set (at_low hB9), ?_, ?_, by simp [hl]⟩
    · obtain ⟨c, d, e, r⟩ := f9
      exact ⟨c, d, at_ne (at_low e) (by omega), r⟩
    · refine F2.ag2 ((F2.ag2 fs (a10.mono ag2)).snoc ?_) (Ag.set (.inr rfl))
      exact ⟨S9.length, ov, rfl, fun z => by rcases z with z | z <;> omega, at_push, hov⟩
    · intro s hs
      rcases List.mem_append.mp hs with hs | hs
      · exact dr s hs
      · simp only [List.mem_singleton] at hs
        subst hs
        refine ⟨w1, w2, nd, rg, fun z => ?_, hi', hru⟩
        simp only at z
        rw [z] at lo
        split at lo <;> simp at lo <;> omega
  · rintro ρ S' ⟨⟨u, w, rfl⟩, a, fd, vs, ss, hB, fs, dr, hl⟩
    (simp only [Nx.oks_cons, Nx.oks_nil, Nx.x_ite, Nx.x_asg, Nx.x_par, Nx.x_expr, Nx.x_ret, Nx.x_for, Nx.x_setf, Nx.e_ite, Nx.e_and, Nx.e_or, Nx.e_chain, Nx.e_mc, Nx.e_cst, Nx.e_pn, Nx.es_nil, Nx.es_cons, Nx.es_star, Nx.e_lc,
  Nx.e_var, Nx.ok_val, Nx.ok_pv1, Nx.ok_pv2, Nx.ok_pNot, Nx.bl_ex, Nx.ref_ex,
  List.map_cons, List.map_nil, List.cons_append, List.nil_append, List.append_nil, List.replicate_succ, List.replicate_zero, Nat.reduceSub, Nat.reduceAdd, List.getElem?_cons_zero, List.getElem?_cons_succ, Nx.pb_nm, Nx.pbs_nil, Nx.pbs_nm, List.set_cons_zero, List.set_cons_succ, if_true, if_false, Bool.false_eq_true, Bool.not_eq_true', decide_eq_true_eq, decide_eq_false_iff_not, Bool.not_eq_false', Nx.wipeR, Option.some.injEq, exists_eq_left', and_true, true_and, false_imp_iff, true_imp_iff, Bool.true_eq_false, eq_self_iff_true])
    refine ⟨_, rg_start (by omega), ?_⟩
    refine lc_rg (a := k) (fun i acc S'' => Ag (At f) S' S'' ∧ Fd S'' f ∧ ∃ xs : List Int, acc = xs.map V.int ∧ xs.length = i ∧ ∀ x ∈ xs, 0 ≤ x ∧ x ≤ 10000000000) (by simp [fuel]; omega) ?_ ?_ ?_ ⟨Ag.push, fd_push fd, [], rfl, rfl, by simp⟩ at_push
    · rintro i acc S'' ⟨_, _, xs, rfl, hx, _⟩
      simp [hx]
    · rintro i acc S'' hi ⟨b, fd', xs, rfl, hx, hr⟩ hm
      refine ⟨_, pb_nm, ?_⟩
      unfold Lc
      (simp only [Nx.oks_cons, Nx.oks_nil, Nx.x_ite, Nx.x_asg, Nx.x_par, Nx.x_expr, Nx.x_ret, Nx.x_for, Nx.x_setf, Nx.e_ite, Nx.e_and, Nx.e_or, Nx.e_chain, Nx.e_mc, Nx.e_cst, Nx.e_pn, Nx.es_nil, Nx.es_cons, Nx.es_star, Nx.e_lc,
  Nx.e_var, Nx.ok_val, Nx.ok_pv1, Nx.ok_pv2, Nx.ok_pNot, Nx.bl_ex, Nx.ref_ex,
  List.map_cons, List.map_nil, List.cons_append, List.nil_append, List.append_nil, List.replicate_succ, List.replicate_zero, Nat.reduceSub, Nat.reduceAdd, List.getElem?_cons_zero, List.getElem?_cons_succ, Nx.pb_nm, Nx.pbs_nil, Nx.pbs_nm, List.set_cons_zero, List.set_cons_succ, if_true, if_false, Bool.false_eq_true, Bool.not_eq_true', decide_eq_true_eq, decide_eq_false_iff_not, Bool.not_eq_false', Nx.wipeR, Option.some.injEq, exists_eq_left', and_true, true_and, false_imp_iff, true_imp_iff, Bool.true_eq_false, eq_self_iff_true])
      refine .inr ((gE pow9).mpr ((gE pow10).mpr ?_))
      rw [ok_pLst (by simp)]
      have hf := fd_lt fd'
      refine sp_pick (fd_push fd') (by omega) at_push (by simp) (by simp) fun v S6 hv a6 f6 => ?_
      obtain ⟨l, rfl, l1, l3⟩ : ∃ l : Int, v = .int l ∧ 0 ≤ l ∧ l ≤ 10000000000 := by
        simp only [List.mem_cons, List.not_mem_nil, or_false] at hv
        rcases hv with rfl | rfl | rfl | rfl | rfl | rfl | rfl | rfl <;> exact ⟨_, rfl, by decide, by decide⟩
      have lf := fd_lt fd
      refine ⟨a6.at_ _ _ (show ¬ S'.length = f by omega) (at_low hm), (b.trans (Ag.push.trans a6)).setHi (Nat.le_refl _), ?_, xs ++ [l], by simp, by simp [hx], ?_⟩
      · obtain ⟨c, d, e, r⟩ := f6
        exact ⟨c, d, at_ne e (by omega), r⟩
      · intro x hx'
        rcases List.mem_append.mp hx' with z | z
        · exact hr x z
        · simp only [List.mem_singleton] at z; subst z; exact ⟨l1, l3⟩
    · rintro acc S'' ⟨b, fd', xs, rfl, hx, hr⟩ hm
      rw [ok_pLst (by simp)]
      have lf := fd_lt fd
      refine q S'' k S'.length S3.length xs ss (aS.trans (a.trans b)) fd' (by omega) (by omega) ⟨_, vs, rfl, show ¬ S3.length = f by omega, b.at_ _ _ (show ¬ S3.length = f by omega) hB, ?_⟩ aS.len (Nat.le_trans aS.len a.len) ⟨_, rfl, show ¬ S'.length = f by omega, hm⟩ hx hr dr (by omega)
      exact (fs.mono fun _ _ z => z.weak (P' := At f) fun i z => .inl z).mono fun _ _ z => z.ag b
  · exact ⟨⟨_, _, rfl⟩, a4.trans a5, f5, [], [], a5.at_ _ _ (show ¬ S3.length = f by omega) hB4, .nil, by simp, rfl⟩
end Nx.Lk09

set_option Elab.async false
set_option linter.all false
set_option maxRecDepth 100000
set_option maxHeartbeats 1000000
set_option autoImplicit false
namespace Nx.Lk09
open PySem L2 Nx
variable {P P' : Nat → Prop} {S S' : Sto} {Q : V → Sto → Prop}
theorem ty_lst {n : Nat} {vs : List V} (h : S[n]? = some (.lst vs)) : gIsT "list" (.ref n) S = some (.bl true) := by simp only [gIsT, tyN, h]; rfl
theorem ty_tup {n : Nat} {vs : List V} (h : S[n]? = some (.tup vs)) : gIsT "tuple" (.ref n) S = some (.bl true) := by simp only [gIsT, tyN, h]; rfl
theorem all_bls : ∀ (n : Nat), blsOf (List.replicate n (V.bl true)) = some (List.replicate n true)
  | 0 => rfl
  | n + 1 => by simp [List.replicate_succ, blsOf, all_bls n]
theorem gAll_true {n m : Nat} (h : S[m]? = some (.lst (List.replicate n (V.bl true)))) : gAll (.ref m) S = some (.bl true) := by
  simp only [gAll, lstBls, lstOf, h, Option.bind_some, all_bls, Option.map_some]
  simp
theorem rep_snoc {α : Type} {x : α} {i : Nat} : List.replicate i x ++ [x] = x :: List.replicate i x := List.replicate_succ'.symm.trans List.replicate_succ
theorem dd_nodup : ∀ {ns : List Int}, ns.Nodup → dd ns = ns
  | [], _ => rfl
  | x :: r, h => by
    have h' := List.nodup_cons.mp h
    unfold dd
    rw [if_neg h'.1, dd_nodup h'.2]
theorem sp_are_strengths {v : V} {xs : List Int} (h : LstI P S v xs) (h1 : 1 ≤ xs.length) (h5 : xs.length ≤ 5) (hb : ∀ x ∈ xs, 0 ≤ x ∧ x ≤ 10000000000) (q : ∀ S', Ag NoP S S' → Q (.bl true) S') : Ok (d__are_strengths [v] S) Q := by
  obtain ⟨n, rfl, hn, hx⟩ := h
  (refine (Nx.ok_den (by rfl)).mpr ?_)
  unfold b__are_strengths
  (simp only [Nx.oks_cons, Nx.oks_nil, Nx.x_ite, Nx.x_asg, Nx.x_par, Nx.x_expr, Nx.x_ret, Nx.x_for, Nx.x_setf, Nx.e_ite, Nx.e_and, Nx.e_or, Nx.e_chain, Nx.e_mc, Nx.e_cst, Nx.e_pn, Nx.es_nil, Nx.es_cons, Nx.es_star, Nx.e_lc,
  Nx.e_var, Nx.ok_val, Nx.ok_pv1, Nx.ok_pv2, Nx.ok_pNot, Nx.bl_ex, Nx.ref_ex,
  List.map_cons, List.map_nil, List.cons_append, List.nil_append, List.append_nil, List.replicate_succ, List.replicate_zero, Nat.reduceSub, Nat.reduceAdd, List.getElem?_cons_zero, List.getElem?_cons_succ, Nx.pb_nm, Nx.pbs_nil, Nx.pbs_nm, List.set_cons_zero, List.set_cons_succ, if_true, if_false, Bool.false_eq_true, Bool.not_eq_true', decide_eq_true_eq, decide_eq_false_iff_not, Bool.not_eq_false', Nx.wipeR, Option.some.injEq, exists_eq_left', and_true, true_and, false_imp_iff, true_imp_iff, Bool.true_eq_false, eq_self_iff_true])
  refine (gE (ty_lst hx)).mpr ?_
  (simp only [Nx.oks_cons, Nx.oks_nil, Nx.x_ite, Nx.x_asg, Nx.x_par, Nx.x_expr, Nx.x_ret, Nx.x_for, Nx.x_setf, Nx.e_ite, Nx.e_and, Nx.e_or, Nx.e_chain, Nx.e_mc, Nx.e_cst, Nx.e_pn, Nx.es_nil, Nx.es_cons, Nx.es_star, Nx.e_lc,
  Nx.e_var, Nx.ok_val, Nx.ok_pv1, Nx.ok_pv2, Nx.ok_pNot, Nx.bl_ex, Nx.ref_ex,
  List.map_cons, List.map_nil, List.cons_append, List.nil_append, List.append_nil, List.replicate_succ, List.replicate_zero, Nat.reduceSub, Nat.reduceAdd, List.getElem?_cons_zero, List.getElem?_cons_succ, Nx.pb_nm, Nx.pbs_nil, Nx.pbs_nm, List.set_cons_zero, List.set_cons_succ, if_true, if_false, Bool.false_eq_true, Bool.not_eq_true', decide_eq_true_eq, decide_eq_false_iff_not, Bool.not_eq_false', Nx.wipeR, Option.some.injEq, exists_eq_left', and_true, true_and, false_imp_iff, true_imp_iff, Bool.true_eq_false, eq_self_iff_true])
  have hx' : gLen (.ref n) S = some (.int xs.length) := by rw [gLen_at (vs := xs.map V.int) (by simp [seqOf, hx])]; simp
  first | rw [pLen_lst hx, List.length_map] | rw [gE (gL_lst hx), List.length_map]
  refine (gE gLe_int).mpr ?_
  (simp only [Nx.oks_cons, Nx.oks_nil, Nx.x_ite, Nx.x_asg, Nx.x_par, Nx.x_expr, Nx.x_ret, Nx.x_for, Nx.x_setf, Nx.e_ite, Nx.e_and, Nx.e_or, Nx.e_chain, Nx.e_mc, Nx.e_cst, Nx.e_pn, Nx.es_nil, Nx.es_cons, Nx.es_star, Nx.e_lc,
  Nx.e_var, Nx.ok_val, Nx.ok_pv1, Nx.ok_pv2, Nx.ok_pNot, Nx.bl_ex, Nx.ref_ex,
  List.map_cons, List.map_nil, List.cons_append, List.nil_append, List.append_nil, List.replicate_succ, List.replicate_zero, Nat.reduceSub, Nat.reduceAdd, List.getElem?_cons_zero, List.getElem?_cons_succ, Nx.pb_nm, Nx.pbs_nil, Nx.pbs_nm, List.set_cons_zero, List.set_cons_succ, if_true, if_false, Bool.false_eq_true, Bool.not_eq_true', decide_eq_true_eq, decide_eq_false_iff_not, Bool.not_eq_false', Nx.wipeR, Option.some.injEq, exists_eq_left', and_true, true_and, false_imp_iff, true_imp_iff, Bool.true_eq_false, eq_self_iff_true])
  refine ⟨fun _ => (gE gLe_int).mpr ?_, fun z => absurd (by omega) z⟩
  (simp only [Nx.oks_cons, Nx.oks_nil, Nx.x_ite, Nx.x_asg, Nx.x_par, Nx.x_expr, Nx.x_ret, Nx.x_for, Nx.x_setf, Nx.e_ite, Nx.e_and, Nx.e_or, Nx.e_chain, Nx.e_mc, Nx.e_cst, Nx.e_pn, Nx.es_nil, Nx.es_cons, Nx.es_star, Nx.e_lc,
  Nx.e_var, Nx.ok_val, Nx.ok_pv1, Nx.ok_pv2, Nx.ok_pNot, Nx.bl_ex, Nx.ref_ex,
  List.map_cons, List.map_nil, List.cons_append, List.nil_append, List.append_nil, List.replicate_succ, List.replicate_zero, Nat.reduceSub, Nat.reduceAdd, List.getElem?_cons_zero, List.getElem?_cons_succ, Nx.pb_nm, Nx.pbs_nil, Nx.pbs_nm, List.set_cons_zero, List.set_cons_succ, if_true, if_false, Bool.false_eq_true, Bool.not_eq_true', decide_eq_true_eq, decide_eq_false_iff_not, Bool.not_eq_false', Nx.wipeR, Option.some.injEq, exists_eq_left', and_true, true_and, false_imp_iff, true_imp_iff, Bool.true_eq_false, eq_self_iff_true])
  refine ⟨fun z => absurd (show ((xs.length : Nat) : Int) ≤ 5 by omega) z, fun _ => ⟨_, it_start (k := true) hx, ?_⟩⟩
  refine lc_sq (vs := xs.map V.int) (fun i acc S' => Ag NoP S S' ∧ acc = List.replicate i (V.bl true)) (by simp [fuel]; omega) ?_ ?_ ?_ ⟨Ag.push, rfl⟩ at_push
  · rintro i acc S' ⟨a, rfl⟩; exact ⟨a.at_ _ _ id hx, by simp⟩
  · rintro i acc S' x hxi ⟨a, rfl⟩ hm
    obtain ⟨m, hmi, rfl⟩ := get_int hxi
    obtain ⟨b0, b1⟩ := hb m (List.mem_of_getElem? hmi)
    refine ⟨_, pb_nm, ?_⟩
    unfold Lc
    (simp only [Nx.oks_cons, Nx.oks_nil, Nx.x_ite, Nx.x_asg, Nx.x_par, Nx.x_expr, Nx.x_ret, Nx.x_for, Nx.x_setf, Nx.e_ite, Nx.e_and, Nx.e_or, Nx.e_chain, Nx.e_mc, Nx.e_cst, Nx.e_pn, Nx.es_nil, Nx.es_cons, Nx.es_star, Nx.e_lc,
  Nx.e_var, Nx.ok_val, Nx.ok_pv1, Nx.ok_pv2, Nx.ok_pNot, Nx.bl_ex, Nx.ref_ex,
  List.map_cons, List.map_nil, List.cons_append, List.nil_append, List.append_nil, List.replicate_succ, List.replicate_zero, Nat.reduceSub, Nat.reduceAdd, List.getElem?_cons_zero, List.getElem?_cons_succ, Nx.pb_nm, Nx.pbs_nil, Nx.pbs_nm, List.set_cons_zero, List.set_cons_succ, if_true, if_false, Bool.false_eq_true, Bool.not_eq_true', decide_eq_true_eq, decide_eq_false_iff_not, Bool.not_eq_false', Nx.wipeR, Option.some.injEq, exists_eq_left', and_true, true_and, false_imp_iff, true_imp_iff, Bool.true_eq_false, eq_self_iff_true])
    refine .inr (sp_is_whole ?_)
    (simp only [Nx.oks_cons, Nx.oks_nil, Nx.x_ite, Nx.x_asg, Nx.x_par, Nx.x_expr, Nx.x_ret, Nx.x_for, Nx.x_setf, Nx.e_ite, Nx.e_and, Nx.e_or, Nx.e_chain, Nx.e_mc, Nx.e_cst, Nx.e_pn, Nx.es_nil, Nx.es_cons, Nx.es_star, Nx.e_lc,
  Nx.e_var, Nx.ok_val, Nx.ok_pv1, Nx.ok_pv2, Nx.ok_pNot, Nx.bl_ex, Nx.ref_ex,
  List.map_cons, List.map_nil, List.cons_append, List.nil_append, List.append_nil, List.replicate_succ, List.replicate_zero, Nat.reduceSub, Nat.reduceAdd, List.getElem?_cons_zero, List.getElem?_cons_succ, Nx.pb_nm, Nx.pbs_nil, Nx.pbs_nm, List.set_cons_zero, List.set_cons_succ, if_true, if_false, Bool.false_eq_true, Bool.not_eq_true', decide_eq_true_eq, decide_eq_false_iff_not, Bool.not_eq_false', Nx.wipeR, Option.some.injEq, exists_eq_left', and_true, true_and, false_imp_iff, true_imp_iff, Bool.true_eq_false, eq_self_iff_true])
    refine (gE gLe_int).mpr ?_
    (simp only [Nx.oks_cons, Nx.oks_nil, Nx.x_ite, Nx.x_asg, Nx.x_par, Nx.x_expr, Nx.x_ret, Nx.x_for, Nx.x_setf, Nx.e_ite, Nx.e_and, Nx.e_or, Nx.e_chain, Nx.e_mc, Nx.e_cst, Nx.e_pn, Nx.es_nil, Nx.es_cons, Nx.es_star, Nx.e_lc,
  Nx.e_var, Nx.ok_val, Nx.ok_pv1, Nx.ok_pv2, Nx.ok_pNot, Nx.bl_ex, Nx.ref_ex,
  List.map_cons, List.map_nil, List.cons_append, List.nil_append, List.append_nil, List.replicate_succ, List.replicate_zero, Nat.reduceSub, Nat.reduceAdd, List.getElem?_cons_zero, List.getElem?_cons_succ, Nx.pb_nm, Nx.pbs_nil, Nx.pbs_nm, List.set_cons_zero, List.set_cons_succ, if_true, if_false, Bool.false_eq_true, Bool.not_eq_true', decide_eq_true_eq, decide_eq_false_iff_not, Bool.not_eq_false', Nx.wipeR, Option.some.injEq, exists_eq_left', and_true, true_and, false_imp_iff, true_imp_iff, Bool.true_eq_false, eq_self_iff_true])
    refine ⟨fun _ => (gE gLe_int).mpr ⟨hm, a.setHi (Nat.le_refl _), ?_⟩, fun z => absurd b0 z⟩
    rw [show decide (m ≤ 10000000000) = true by simp [b1]]
    exact rep_snoc
  · rintro acc S' ⟨a, rfl⟩ hm
    exact (gE (gAll_true hm)).mpr (q _ a)
theorem sp_can_be {n : Nat} {vs : List V} (hx : S[n]? = some (.lst vs)) (h5 : vs.length ≤ 5) (q : Q (.bl true) S) : Ok (d__can_be_services [.ref n] S) Q := by
  (refine (Nx.ok_den (by rfl)).mpr ?_)
  unfold b__can_be_services
  (simp only [Nx.oks_cons, Nx.oks_nil, Nx.x_ite, Nx.x_asg, Nx.x_par, Nx.x_expr, Nx.x_ret, Nx.x_for, Nx.x_setf, Nx.e_ite, Nx.e_and, Nx.e_or, Nx.e_chain, Nx.e_mc, Nx.e_cst, Nx.e_pn, Nx.es_nil, Nx.es_cons, Nx.es_star, Nx.e_lc,
  Nx.e_var, Nx.ok_val, Nx.ok_pv1, Nx.ok_pv2, Nx.ok_pNot, Nx.bl_ex, Nx.ref_ex,
  List.map_cons, List.map_nil, List.cons_append, List.nil_append, List.append_nil, List.replicate_succ, List.replicate_zero, Nat.reduceSub, Nat.reduceAdd, List.getElem?_cons_zero, List.getElem?_cons_succ, Nx.pb_nm, Nx.pbs_nil, Nx.pbs_nm, List.set_cons_zero, List.set_cons_succ, if_true, if_false, Bool.false_eq_true, Bool.not_eq_true', decide_eq_true_eq, decide_eq_false_iff_not, Bool.not_eq_false', Nx.wipeR, Option.some.injEq, exists_eq_left', and_true, true_and, false_imp_iff, true_imp_iff, Bool.true_eq_false, eq_self_iff_true])
  refine (gE (ty_lst hx)).mpr ?_
  (simp only [Nx.oks_cons, Nx.oks_nil, Nx.x_ite, Nx.x_asg, Nx.x_par, Nx.x_expr, Nx.x_ret, Nx.x_for, Nx.x_setf, Nx.e_ite, Nx.e_and, Nx.e_or, Nx.e_chain, Nx.e_mc, Nx.e_cst, Nx.e_pn, Nx.es_nil, Nx.es_cons, Nx.es_star, Nx.e_lc,
  Nx.e_var, Nx.ok_val, Nx.ok_pv1, Nx.ok_pv2, Nx.ok_pNot, Nx.bl_ex, Nx.ref_ex,
  List.map_cons, List.map_nil, List.cons_append, List.nil_append, List.append_nil, List.replicate_succ, List.replicate_zero, Nat.reduceSub, Nat.reduceAdd, List.getElem?_cons_zero, List.getElem?_cons_succ, Nx.pb_nm, Nx.pbs_nil, Nx.pbs_nm, List.set_cons_zero, List.set_cons_succ, if_true, if_false, Bool.false_eq_true, Bool.not_eq_true', decide_eq_true_eq, decide_eq_false_iff_not, Bool.not_eq_false', Nx.wipeR, Option.some.injEq, exists_eq_left', and_true, true_and, false_imp_iff, true_imp_iff, Bool.true_eq_false, eq_self_iff_true])
  rw [gE (gL_lst hx)]
  refine (gE gLe_int).mpr ?_
  rw [show decide (((vs.length : Nat) : Int) ≤ 5) = true by simp; omega]
  exact q
theorem sp_is_order {v : V} {o : List Int} {k : Nat} (h : TupI P S v o) (nd : o.Nodup) (rg : ∀ m ∈ o, 0 ≤ m ∧ m < (k : Int)) (ne : o ≠ []) (ln : o.length ≤ k) (hk : k < 100) (q : ∀ S', Ag NoP S S' → Q (.bl true) S') : Ok (d_is_order [v, .int k] S) Q := by
  have ht := h.tup
  obtain ⟨n, rfl, hn, hx⟩ := h
  have h1 : 0 < o.length := List.length_pos_iff.mpr ne
  (refine (Nx.ok_den (by rfl)).mpr ?_)
  unfold b_is_order
  (simp only [Nx.oks_cons, Nx.oks_nil, Nx.x_ite, Nx.x_asg, Nx.x_par, Nx.x_expr, Nx.x_ret, Nx.x_for, Nx.x_setf, Nx.e_ite, Nx.e_and, Nx.e_or, Nx.e_chain, Nx.e_mc, Nx.e_cst, Nx.e_pn, Nx.es_nil, Nx.es_cons, Nx.es_star, Nx.e_lc,
  Nx.e_var, Nx.ok_val, Nx.ok_pv1, Nx.ok_pv2, Nx.ok_pNot, Nx.bl_ex, Nx.ref_ex,
  List.map_cons, List.map_nil, List.cons_append, List.nil_append, List.append_nil, List.replicate_succ, List.replicate_zero, Nat.reduceSub, Nat.reduceAdd, List.getElem?_cons_zero, List.getElem?_cons_succ, Nx.pb_nm, Nx.pbs_nil, Nx.pbs_nm, List.set_cons_zero, List.set_cons_succ, if_true, if_false, Bool.false_eq_true, Bool.not_eq_true', decide_eq_true_eq, decide_eq_false_iff_not, Bool.not_eq_false', Nx.wipeR, Option.some.injEq, exists_eq_left', and_true, true_and, false_imp_iff, true_imp_iff, Bool.true_eq_false, eq_self_iff_true])
  refine (gE (ty_tup hx)).mpr ?_
  (simp only [Nx.oks_cons, Nx.oks_nil, Nx.x_ite, Nx.x_asg, Nx.x_par, Nx.x_expr, Nx.x_ret, Nx.x_for, Nx.x_setf, Nx.e_ite, Nx.e_and, Nx.e_or, Nx.e_chain, Nx.e_mc, Nx.e_cst, Nx.e_pn, Nx.es_nil, Nx.es_cons, Nx.es_star, Nx.e_lc,
  Nx.e_var, Nx.ok_val, Nx.ok_pv1, Nx.ok_pv2, Nx.ok_pNot, Nx.bl_ex, Nx.ref_ex,
  List.map_cons, List.map_nil, List.cons_append, List.nil_append, List.append_nil, List.replicate_succ, List.replicate_zero, Nat.reduceSub, Nat.reduceAdd, List.getElem?_cons_zero, List.getElem?_cons_succ, Nx.pb_nm, Nx.pbs_nil, Nx.pbs_nm, List.set_cons_zero, List.set_cons_succ, if_true, if_false, Bool.false_eq_true, Bool.not_eq_true', decide_eq_true_eq, decide_eq_false_iff_not, Bool.not_eq_false', Nx.wipeR, Option.some.injEq, exists_eq_left', and_true, true_and, false_imp_iff, true_imp_iff, Bool.true_eq_false, eq_self_iff_true])
  first | rw [pLen_tup hx, List.length_map] | rw [gE (gL_tup hx), List.length_map]
  refine (gE gLe_int).mpr ?_
  (simp only [Nx.oks_cons, Nx.oks_nil, Nx.x_ite, Nx.x_asg, Nx.x_par, Nx.x_expr, Nx.x_ret, Nx.x_for, Nx.x_setf, Nx.e_ite, Nx.e_and, Nx.e_or, Nx.e_chain, Nx.e_mc, Nx.e_cst, Nx.e_pn, Nx.es_nil, Nx.es_cons, Nx.es_star, Nx.e_lc,
  Nx.e_var, Nx.ok_val, Nx.ok_pv1, Nx.ok_pv2, Nx.ok_pNot, Nx.bl_ex, Nx.ref_ex,
  List.map_cons, List.map_nil, List.cons_append, List.nil_append, List.append_nil, List.replicate_succ, List.replicate_zero, Nat.reduceSub, Nat.reduceAdd, List.getElem?_cons_zero, List.getElem?_cons_succ, Nx.pb_nm, Nx.pbs_nil, Nx.pbs_nm, List.set_cons_zero, List.set_cons_succ, if_true, if_false, Bool.false_eq_true, Bool.not_eq_true', decide_eq_true_eq, decide_eq_false_iff_not, Bool.not_eq_false', Nx.wipeR, Option.some.injEq, exists_eq_left', and_true, true_and, false_imp_iff, true_imp_iff, Bool.true_eq_false, eq_self_iff_true])
  refine ⟨fun _ => (gE gLe_int).mpr ?_, fun z => absurd (by omega) z⟩
  (simp only [Nx.oks_cons, Nx.oks_nil, Nx.x_ite, Nx.x_asg, Nx.x_par, Nx.x_expr, Nx.x_ret, Nx.x_for, Nx.x_setf, Nx.e_ite, Nx.e_and, Nx.e_or, Nx.e_chain, Nx.e_mc, Nx.e_cst, Nx.e_pn, Nx.es_nil, Nx.es_cons, Nx.es_star, Nx.e_lc,
  Nx.e_var, Nx.ok_val, Nx.ok_pv1, Nx.ok_pv2, Nx.ok_pNot, Nx.bl_ex, Nx.ref_ex,
  List.map_cons, List.map_nil, List.cons_append, List.nil_append, List.append_nil, List.replicate_succ, List.replicate_zero, Nat.reduceSub, Nat.reduceAdd, List.getElem?_cons_zero, List.getElem?_cons_succ, Nx.pb_nm, Nx.pbs_nil, Nx.pbs_nm, List.set_cons_zero, List.set_cons_succ, if_true, if_false, Bool.false_eq_true, Bool.not_eq_true', decide_eq_true_eq, decide_eq_false_iff_not, Bool.not_eq_false', Nx.wipeR, Option.some.injEq, exists_eq_left', and_true, true_and, false_imp_iff, true_imp_iff, Bool.true_eq_false, eq_self_iff_true])
  refine ⟨fun z => absurd (show ((o.length : Nat) : Int) ≤ k by omega) z, fun _ => ⟨_, it_start (k := false) hx, ?_⟩⟩
  refine lc_sq (vs := o.map V.int) (fun i acc S' => Ag NoP S S' ∧ acc = List.replicate i (V.bl true)) (by simp [fuel]; omega) ?_ ?_ ?_ ⟨Ag.push, rfl⟩ at_push
  · rintro i acc S' ⟨a, rfl⟩; exact ⟨a.at_ _ _ id hx, by simp⟩
  · rintro i acc S' x hxi ⟨a, rfl⟩ hm
    obtain ⟨m, hmi, rfl⟩ := get_int hxi
    obtain ⟨b0, b1⟩ := rg m (List.mem_of_getElem? hmi)
    refine ⟨_, pb_nm, ?_⟩
    unfold Lc
    (simp only [Nx.oks_cons, Nx.oks_nil, Nx.x_ite, Nx.x_asg, Nx.x_par, Nx.x_expr, Nx.x_ret, Nx.x_for, Nx.x_setf, Nx.e_ite, Nx.e_and, Nx.e_or, Nx.e_chain, Nx.e_mc, Nx.e_cst, Nx.e_pn, Nx.es_nil, Nx.es_cons, Nx.es_star, Nx.e_lc,
  Nx.e_var, Nx.ok_val, Nx.ok_pv1, Nx.ok_pv2, Nx.ok_pNot, Nx.bl_ex, Nx.ref_ex,
  List.map_cons, List.map_nil, List.cons_append, List.nil_append, List.append_nil, List.replicate_succ, List.replicate_zero, Nat.reduceSub, Nat.reduceAdd, List.getElem?_cons_zero, List.getElem?_cons_succ, Nx.pb_nm, Nx.pbs_nil, Nx.pbs_nm, List.set_cons_zero, List.set_cons_succ, if_true, if_false, Bool.false_eq_true, Bool.not_eq_true', decide_eq_true_eq, decide_eq_false_iff_not, Bool.not_eq_false', Nx.wipeR, Option.some.injEq, exists_eq_left', and_true, true_and, false_imp_iff, true_imp_iff, Bool.true_eq_false, eq_self_iff_true])
    refine .inr (sp_is_machine ⟨hm, a.setHi (Nat.le_refl _), ?_⟩)
    rw [show decide (0 ≤ m ∧ m < (k : Int)) = true by simp [b0, b1]]
    exact rep_snoc
  · rintro acc S' ⟨a, rfl⟩ hm
    refine (gE (gAll_true hm)).mpr ?_
    (simp only [Nx.oks_cons, Nx.oks_nil, Nx.x_ite, Nx.x_asg, Nx.x_par, Nx.x_expr, Nx.x_ret, Nx.x_for, Nx.x_setf, Nx.e_ite, Nx.e_and, Nx.e_or, Nx.e_chain, Nx.e_mc, Nx.e_cst, Nx.e_pn, Nx.es_nil, Nx.es_cons, Nx.es_star, Nx.e_lc,
  Nx.e_var, Nx.ok_val, Nx.ok_pv1, Nx.ok_pv2, Nx.ok_pNot, Nx.bl_ex, Nx.ref_ex,
  List.map_cons, List.map_nil, List.cons_append, List.nil_append, List.append_nil, List.replicate_succ, List.replicate_zero, Nat.reduceSub, Nat.reduceAdd, List.getElem?_cons_zero, List.getElem?_cons_succ, Nx.pb_nm, Nx.pbs_nil, Nx.pbs_nm, List.set_cons_zero, List.set_cons_succ, if_true, if_false, Bool.false_eq_true, Bool.not_eq_true', decide_eq_true_eq, decide_eq_false_iff_not, Bool.not_eq_false', Nx.wipeR, Option.some.injEq, exists_eq_left', and_true, true_and, false_imp_iff, true_imp_iff, Bool.true_eq_false, eq_self_iff_true])
    have hx' := a.at_ _ _ id hx
    have e : gLenSet (.ref n) S' = some (.int o.length) := by
      have ht' : tupOf S' (.ref n) = some (o.map V.int) := by simp [tupOf, hx']
      unfold gLenSet
      simp only [ht', Option.bind_some, ints_map, dd_nodup nd, if_pos (show o.length ≤ 1000 by omega)]
    refine (gE e).mpr ?_
    first | rw [pLen_tup hx', List.length_map] | rw [gE (gL_tup hx'), List.length_map]
    refine (gE gEq_int).mpr ?_
    simpa using q _ a
theorem inK_true {r : Str} (h : r = ("first" : Str) ∨ r = ("home" : Str) ∨ r = ("stay" : Str)) : gInK false ks_RULES (.str r) S = some (.bl true) := by
  rcases h with rfl | rfl | rfl <;> (unfold gInK ks_RULES; rw [if_pos (by decide +kernel)]; simp only [Bool.false_eq_true, if_false]; congr 2)
theorem sp_is_service {v : V} {s : Srv} {k : Nat} (h : SvAt P S v s) (d : Drawn k s) (hk : k < 100) (q : ∀ S', Ag NoP S S' → Q (.bl true) S') : Ok (d__is_service [v, .int k] S) Q := by
  obtain ⟨n, o, rfl, hn, hx, ho⟩ := h
  (refine (Nx.ok_den (by rfl)).mpr ?_)
  unfold b__is_service
  (simp only [Nx.oks_cons, Nx.oks_nil, Nx.x_ite, Nx.x_asg, Nx.x_par, Nx.x_expr, Nx.x_ret, Nx.x_for, Nx.x_setf, Nx.e_ite, Nx.e_and, Nx.e_or, Nx.e_chain, Nx.e_mc, Nx.e_cst, Nx.e_pn, Nx.es_nil, Nx.es_cons, Nx.es_star, Nx.e_lc,
  Nx.e_var, Nx.ok_val, Nx.ok_pv1, Nx.ok_pv2, Nx.ok_pNot, Nx.bl_ex, Nx.ref_ex,
  List.map_cons, List.map_nil, List.cons_append, List.nil_append, List.append_nil, List.replicate_succ, List.replicate_zero, Nat.reduceSub, Nat.reduceAdd, List.getElem?_cons_zero, List.getElem?_cons_succ, Nx.pb_nm, Nx.pbs_nil, Nx.pbs_nm, List.set_cons_zero, List.set_cons_succ, if_true, if_false, Bool.false_eq_true, Bool.not_eq_true', decide_eq_true_eq, decide_eq_false_iff_not, Bool.not_eq_false', Nx.wipeR, Option.some.injEq, exists_eq_left', and_true, true_and, false_imp_iff, true_imp_iff, Bool.true_eq_false, eq_self_iff_true])
  refine (gE (ty_tup hx)).mpr ?_
  (simp only [Nx.oks_cons, Nx.oks_nil, Nx.x_ite, Nx.x_asg, Nx.x_par, Nx.x_expr, Nx.x_ret, Nx.x_for, Nx.x_setf, Nx.e_ite, Nx.e_and, Nx.e_or, Nx.e_chain, Nx.e_mc, Nx.e_cst, Nx.e_pn, Nx.es_nil, Nx.es_cons, Nx.es_star, Nx.e_lc,
  Nx.e_var, Nx.ok_val, Nx.ok_pv1, Nx.ok_pv2, Nx.ok_pNot, Nx.bl_ex, Nx.ref_ex,
  List.map_cons, List.map_nil, List.cons_append, List.nil_append, List.append_nil, List.replicate_succ, List.replicate_zero, Nat.reduceSub, Nat.reduceAdd, List.getElem?_cons_zero, List.getElem?_cons_succ, Nx.pb_nm, Nx.pbs_nil, Nx.pbs_nm, List.set_cons_zero, List.set_cons_succ, if_true, if_false, Bool.false_eq_true, Bool.not_eq_true', decide_eq_true_eq, decide_eq_false_iff_not, Bool.not_eq_false', Nx.wipeR, Option.some.injEq, exists_eq_left', and_true, true_and, false_imp_iff, true_imp_iff, Bool.true_eq_false, eq_self_iff_true])
  rw [gE (gL_tup hx)]
  refine (gE gEq_int).mpr ?_
  simp only [List.length_cons, List.length_nil, if_true]
  (simp only [Nx.oks_cons, Nx.oks_nil, Nx.x_ite, Nx.x_asg, Nx.x_par, Nx.x_expr, Nx.x_ret, Nx.x_for, Nx.x_setf, Nx.e_ite, Nx.e_and, Nx.e_or, Nx.e_chain, Nx.e_mc, Nx.e_cst, Nx.e_pn, Nx.es_nil, Nx.es_cons, Nx.es_star, Nx.e_lc,
  Nx.e_var, Nx.ok_val, Nx.ok_pv1, Nx.ok_pv2, Nx.ok_pNot, Nx.bl_ex, Nx.ref_ex,
  List.map_cons, List.map_nil, List.cons_append, List.nil_append, List.append_nil, List.replicate_succ, List.replicate_zero, Nat.reduceSub, Nat.reduceAdd, List.getElem?_cons_zero, List.getElem?_cons_succ, Nx.pb_nm, Nx.pbs_nil, Nx.pbs_nm, List.set_cons_zero, List.set_cons_succ, if_true, if_false, Bool.false_eq_true, Bool.not_eq_true', decide_eq_true_eq, decide_eq_false_iff_not, Bool.not_eq_false', Nx.wipeR, Option.some.injEq, exists_eq_left', and_true, true_and, false_imp_iff, true_imp_iff, Bool.true_eq_false, eq_self_iff_true])
  refine ⟨fun z => absurd z (by decide), fun _ => ?_⟩
  rw [pb_tup hx]
  (simp only [Nx.oks_cons, Nx.oks_nil, Nx.x_ite, Nx.x_asg, Nx.x_par, Nx.x_expr, Nx.x_ret, Nx.x_for, Nx.x_setf, Nx.e_ite, Nx.e_and, Nx.e_or, Nx.e_chain, Nx.e_mc, Nx.e_cst, Nx.e_pn, Nx.es_nil, Nx.es_cons, Nx.es_star, Nx.e_lc,
  Nx.e_var, Nx.ok_val, Nx.ok_pv1, Nx.ok_pv2, Nx.ok_pNot, Nx.bl_ex, Nx.ref_ex,
  List.map_cons, List.map_nil, List.cons_append, List.nil_append, List.append_nil, List.replicate_succ, List.replicate_zero, Nat.reduceSub, Nat.reduceAdd, List.getElem?_cons_zero, List.getElem?_cons_succ, Nx.pb_nm, Nx.pbs_nil, Nx.pbs_nm, List.set_cons_zero, List.set_cons_succ, if_true, if_false, Bool.false_eq_true, Bool.not_eq_true', decide_eq_true_eq, decide_eq_false_iff_not, Bool.not_eq_false', Nx.wipeR, Option.some.injEq, exists_eq_left', and_true, true_and, false_imp_iff, true_imp_iff, Bool.true_eq_false, eq_self_iff_true])
  refine sp_is_whole ?_
  (simp only [Nx.oks_cons, Nx.oks_nil, Nx.x_ite, Nx.x_asg, Nx.x_par, Nx.x_expr, Nx.x_ret, Nx.x_for, Nx.x_setf, Nx.e_ite, Nx.e_and, Nx.e_or, Nx.e_chain, Nx.e_mc, Nx.e_cst, Nx.e_pn, Nx.es_nil, Nx.es_cons, Nx.es_star, Nx.e_lc,
  Nx.e_var, Nx.ok_val, Nx.ok_pv1, Nx.ok_pv2, Nx.ok_pNot, Nx.bl_ex, Nx.ref_ex,
  List.map_cons, List.map_nil, List.cons_append, List.nil_append, List.append_nil, List.replicate_succ, List.replicate_zero, Nat.reduceSub, Nat.reduceAdd, List.getElem?_cons_zero, List.getElem?_cons_succ, Nx.pb_nm, Nx.pbs_nil, Nx.pbs_nm, List.set_cons_zero, List.set_cons_succ, if_true, if_false, Bool.false_eq_true, Bool.not_eq_true', decide_eq_true_eq, decide_eq_false_iff_not, Bool.not_eq_false', Nx.wipeR, Option.some.injEq, exists_eq_left', and_true, true_and, false_imp_iff, true_imp_iff, Bool.true_eq_false, eq_self_iff_true])
  refine (gE gLe_int).mpr ?_
  (simp only [Nx.oks_cons, Nx.oks_nil, Nx.x_ite, Nx.x_asg, Nx.x_par, Nx.x_expr, Nx.x_ret, Nx.x_for, Nx.x_setf, Nx.e_ite, Nx.e_and, Nx.e_or, Nx.e_chain, Nx.e_mc, Nx.e_cst, Nx.e_pn, Nx.es_nil, Nx.es_cons, Nx.es_star, Nx.e_lc,
  Nx.e_var, Nx.ok_val, Nx.ok_pv1, Nx.ok_pv2, Nx.ok_pNot, Nx.bl_ex, Nx.ref_ex,
  List.map_cons, List.map_nil, List.cons_append, List.nil_append, List.append_nil, List.replicate_succ, List.replicate_zero, Nat.reduceSub, Nat.reduceAdd, List.getElem?_cons_zero, List.getElem?_cons_succ, Nx.pb_nm, Nx.pbs_nil, Nx.pbs_nm, List.set_cons_zero, List.set_cons_succ, if_true, if_false, Bool.false_eq_true, Bool.not_eq_true', decide_eq_true_eq, decide_eq_false_iff_not, Bool.not_eq_false', Nx.wipeR, Option.some.injEq, exists_eq_left', and_true, true_and, false_imp_iff, true_imp_iff, Bool.true_eq_false, eq_self_iff_true])
  refine ⟨fun _ => (gE gLe_int).mpr ?_, fun z => absurd d.w1 z⟩
  (simp only [Nx.oks_cons, Nx.oks_nil, Nx.x_ite, Nx.x_asg, Nx.x_par, Nx.x_expr, Nx.x_ret, Nx.x_for, Nx.x_setf, Nx.e_ite, Nx.e_and, Nx.e_or, Nx.e_chain, Nx.e_mc, Nx.e_cst, Nx.e_pn, Nx.es_nil, Nx.es_cons, Nx.es_star, Nx.e_lc,
  Nx.e_var, Nx.ok_val, Nx.ok_pv1, Nx.ok_pv2, Nx.ok_pNot, Nx.bl_ex, Nx.ref_ex,
  List.map_cons, List.map_nil, List.cons_append, List.nil_append, List.append_nil, List.replicate_succ, List.replicate_zero, Nat.reduceSub, Nat.reduceAdd, List.getElem?_cons_zero, List.getElem?_cons_succ, Nx.pb_nm, Nx.pbs_nil, Nx.pbs_nm, List.set_cons_zero, List.set_cons_succ, if_true, if_false, Bool.false_eq_true, Bool.not_eq_true', decide_eq_true_eq, decide_eq_false_iff_not, Bool.not_eq_false', Nx.wipeR, Option.some.injEq, exists_eq_left', and_true, true_and, false_imp_iff, true_imp_iff, Bool.true_eq_false, eq_self_iff_true])
  refine ⟨fun z => absurd d.w2 z, fun _ => ?_⟩
  refine sp_is_order ho d.nd d.rg d.ne d.ln hk fun S' a => ?_
  (simp only [Nx.oks_cons, Nx.oks_nil, Nx.x_ite, Nx.x_asg, Nx.x_par, Nx.x_expr, Nx.x_ret, Nx.x_for, Nx.x_setf, Nx.e_ite, Nx.e_and, Nx.e_or, Nx.e_chain, Nx.e_mc, Nx.e_cst, Nx.e_pn, Nx.es_nil, Nx.es_cons, Nx.es_star, Nx.e_lc,
  Nx.e_var, Nx.ok_val, Nx.ok_pv1, Nx.ok_pv2, Nx.ok_pNot, Nx.bl_ex, Nx.ref_ex,
  List.map_cons, List.map_nil, List.cons_append, List.nil_append, List.append_nil, List.replicate_succ, List.replicate_zero, Nat.reduceSub, Nat.reduceAdd, List.getElem?_cons_zero, List.getElem?_cons_succ, Nx.pb_nm, Nx.pbs_nil, Nx.pbs_nm, List.set_cons_zero, List.set_cons_succ, if_true, if_false, Bool.false_eq_true, Bool.not_eq_true', decide_eq_true_eq, decide_eq_false_iff_not, Bool.not_eq_false', Nx.wipeR, Option.some.injEq, exists_eq_left', and_true, true_and, false_imp_iff, true_imp_iff, Bool.true_eq_false, eq_self_iff_true])
  have e : gIsT "str" (.str s.rule) S' = some (.bl true) := rfl
  refine (gE e).mpr ?_
  (simp only [Nx.oks_cons, Nx.oks_nil, Nx.x_ite, Nx.x_asg, Nx.x_par, Nx.x_expr, Nx.x_ret, Nx.x_for, Nx.x_setf, Nx.e_ite, Nx.e_and, Nx.e_or, Nx.e_chain, Nx.e_mc, Nx.e_cst, Nx.e_pn, Nx.es_nil, Nx.es_cons, Nx.es_star, Nx.e_lc,
  Nx.e_var, Nx.ok_val, Nx.ok_pv1, Nx.ok_pv2, Nx.ok_pNot, Nx.bl_ex, Nx.ref_ex,
  List.map_cons, List.map_nil, List.cons_append, List.nil_append, List.append_nil, List.replicate_succ, List.replicate_zero, Nat.reduceSub, Nat.reduceAdd, List.getElem?_cons_zero, List.getElem?_cons_succ, Nx.pb_nm, Nx.pbs_nil, Nx.pbs_nm, List.set_cons_zero, List.set_cons_succ, if_true, if_false, Bool.false_eq_true, Bool.not_eq_true', decide_eq_true_eq, decide_eq_false_iff_not, Bool.not_eq_false', Nx.wipeR, Option.some.injEq, exists_eq_left', and_true, true_and, false_imp_iff, true_imp_iff, Bool.true_eq_false, eq_self_iff_true])
  exact (gE (inK_true d.ru)).mpr (q _ a)
theorem sp_newHouse {sv tv : V} {xs : List Int} {ss : List Srv} {k : Nat} (hx : LstI P S tv xs) (hs : SvsAt P S sv ss) (hP : Lo P S) (hk : xs.length = k) (h1 : 1 ≤ k) (h5 : k ≤ 5) (hb : ∀ x ∈ xs, 0 ≤ x ∧ x ≤ 10000000000) (hd : ∀ s ∈ ss, Drawn k s) (hl : ss.length ≤ 5)
    (q : ∀ n S', S.length ≤ n → Ag NoP S S' → HsAt P S' (.ref n) k ss → Q (.ref n) S') : Ok (pMake 0 d_House_m___init__ [tv, sv] S) Q := by
  unfold pMake
  rw [ok_bind]
  (refine (Nx.ok_den (by rfl)).mpr ?_)
  unfold b_House_m___init__
  (simp only [Nx.oks_cons, Nx.oks_nil, Nx.x_ite, Nx.x_asg, Nx.x_par, Nx.x_expr, Nx.x_ret, Nx.x_for, Nx.x_setf, Nx.e_ite, Nx.e_and, Nx.e_or, Nx.e_chain, Nx.e_mc, Nx.e_cst, Nx.e_pn, Nx.es_nil, Nx.es_cons, Nx.es_star, Nx.e_lc,
  Nx.e_var, Nx.ok_val, Nx.ok_pv1, Nx.ok_pv2, Nx.ok_pNot, Nx.bl_ex, Nx.ref_ex,
  List.map_cons, List.map_nil, List.cons_append, List.nil_append, List.append_nil, List.replicate_succ, List.replicate_zero, Nat.reduceSub, Nat.reduceAdd, List.getElem?_cons_zero, List.getElem?_cons_succ, Nx.pb_nm, Nx.pbs_nil, Nx.pbs_nm, List.set_cons_zero, List.set_cons_succ, if_true, if_false, Bool.false_eq_true, Bool.not_eq_true', decide_eq_true_eq, decide_eq_false_iff_not, Bool.not_eq_false', Nx.wipeR, Option.some.injEq, exists_eq_left', and_true, true_and, false_imp_iff, true_imp_iff, Bool.true_eq_false, eq_self_iff_true])
  have a0 : Ag NoP S (S ++ [Ob.ins 0 []]) := Ag.push
  have hI : (S ++ [Ob.ins 0 []])[S.length]? = some (.ins 0 []) := at_push
  generalize S ++ [Ob.ins 0 []] = S0 at a0 hI ⊢
  refine sp_are_strengths (hx.ag (a0.any (P := P))) (by omega) (by omega) hb fun S1 a1 => ?_
  (simp only [Nx.oks_cons, Nx.oks_nil, Nx.x_ite, Nx.x_asg, Nx.x_par, Nx.x_expr, Nx.x_ret, Nx.x_for, Nx.x_setf, Nx.e_ite, Nx.e_and, Nx.e_or, Nx.e_chain, Nx.e_mc, Nx.e_cst, Nx.e_pn, Nx.es_nil, Nx.es_cons, Nx.es_star, Nx.e_lc,
  Nx.e_var, Nx.ok_val, Nx.ok_pv1, Nx.ok_pv2, Nx.ok_pNot, Nx.bl_ex, Nx.ref_ex,
  List.map_cons, List.map_nil, List.cons_append, List.nil_append, List.append_nil, List.replicate_succ, List.replicate_zero, Nat.reduceSub, Nat.reduceAdd, List.getElem?_cons_zero, List.getElem?_cons_succ, Nx.pb_nm, Nx.pbs_nil, Nx.pbs_nm, List.set_cons_zero, List.set_cons_succ, if_true, if_false, Bool.false_eq_true, Bool.not_eq_true', decide_eq_true_eq, decide_eq_false_iff_not, Bool.not_eq_false', Nx.wipeR, Option.some.injEq, exists_eq_left', and_true, true_and, false_imp_iff, true_imp_iff, Bool.true_eq_false, eq_self_iff_true])
  have hs1 := (hs.ag (a0.any (P := P))).ag (a1.any (P := P))
  obtain ⟨m, vs, rfl, hm, hxm, fs⟩ := hs1
  have lv : vs.length = ss.length := fs.len
  refine sp_can_be hxm (by omega) ?_
  (simp only [Nx.oks_cons, Nx.oks_nil, Nx.x_ite, Nx.x_asg, Nx.x_par, Nx.x_expr, Nx.x_ret, Nx.x_for, Nx.x_setf, Nx.e_ite, Nx.e_and, Nx.e_or, Nx.e_chain, Nx.e_mc, Nx.e_cst, Nx.e_pn, Nx.es_nil, Nx.es_cons, Nx.es_star, Nx.e_lc,
  Nx.e_var, Nx.ok_val, Nx.ok_pv1, Nx.ok_pv2, Nx.ok_pNot, Nx.bl_ex, Nx.ref_ex,
  List.map_cons, List.map_nil, List.cons_append, List.nil_append, List.append_nil, List.replicate_succ, List.replicate_zero, Nat.reduceSub, Nat.reduceAdd, List.getElem?_cons_zero, List.getElem?_cons_succ, Nx.pb_nm, Nx.pbs_nil, Nx.pbs_nm, List.set_cons_zero, List.set_cons_succ, if_true, if_false, Bool.false_eq_true, Bool.not_eq_true', decide_eq_true_eq, decide_eq_false_iff_not, Bool.not_eq_false', Nx.wipeR, Option.some.injEq, exists_eq_left', and_true, true_and, false_imp_iff, true_imp_iff, Bool.true_eq_false, eq_self_iff_true])
  have lsm : lstOf S1 (.ref m) = some vs := by simp [lstOf, hxm]
  refine ⟨[.ref m, .bl true], by simp only [itEnumB, kindOf, hxm, sqOf, lsm], ?_⟩
  have nx : ∀ S' : Sto, S'[m]? = some (.lst vs) → ∀ i u, vs[i]? = some u → itEnumB.next [.ref m, .bl true] i S' = some (some (V.ref S'.length, S' ++ [Ob.tpl [.int i, u]])) := fun S' h i u hu => by
    have e : lstOf S' (.ref m) = some vs := by simp [lstOf, h]
    simp only [itEnumB, sqOf, e, hu]
  have ne : ∀ S' : Sto, S'[m]? = some (.lst vs) → itEnumB.next [.ref m, .bl true] vs.length S' = some none := fun S' h => by
    have e : lstOf S' (.ref m) = some vs := by simp [lstOf, h]
    simp only [itEnumB, sqOf, e, List.getElem?_eq_none (Nat.le_refl _), if_true]
  refine ok_for vs.length (fun i ρ S' => (∃ u w, ρ = [some (.ref S.length), some tv, some (.ref m), u, w]) ∧ Ag NoP S1 S') ?_ ?_ _ 0 _ _ (Nat.zero_le _) (by simp [fuel]; omega) ⟨⟨_, _, rfl⟩, Ag.refl⟩
  · rintro i ρ S' hi ⟨⟨u, w, rfl⟩, a⟩
    have hm' := a.at_ _ _ id hxm
    have e1 : vs[i]? = some vs[i] := List.getElem?_eq_getElem hi
    refine ⟨_, _, _, nx S' hm' i _ e1, by rw [pb_tpl at_push, pbs_nm, pbs_nm, pbs_nil], ?_⟩
    (simp only [Nx.oks_cons, Nx.oks_nil, Nx.x_ite, Nx.x_asg, Nx.x_par, Nx.x_expr, Nx.x_ret, Nx.x_for, Nx.x_setf, Nx.e_ite, Nx.e_and, Nx.e_or, Nx.e_chain, Nx.e_mc, Nx.e_cst, Nx.e_pn, Nx.es_nil, Nx.es_cons, Nx.es_star, Nx.e_lc,
  Nx.e_var, Nx.ok_val, Nx.ok_pv1, Nx.ok_pv2, Nx.ok_pNot, Nx.bl_ex, Nx.ref_ex,
  List.map_cons, List.map_nil, List.cons_append, List.nil_append, List.append_nil, List.replicate_succ, List.replicate_zero, Nat.reduceSub, Nat.reduceAdd, List.getElem?_cons_zero, List.getElem?_cons_succ, Nx.pb_nm, Nx.pbs_nil, Nx.pbs_nm, List.set_cons_zero, List.set_cons_succ, if_true, if_false, Bool.false_eq_true, Bool.not_eq_true', decide_eq_true_eq, decide_eq_false_iff_not, Bool.not_eq_false', Nx.wipeR, Option.some.injEq, exists_eq_left', and_true, true_and, false_imp_iff, true_imp_iff, Bool.true_eq_false, eq_self_iff_true])
    have htv := ((hx.ag (a0.any (P := P))).ag (a1.any (P := P))).ag (a.any (P := P))
    obtain ⟨t, rfl, ht, hxt⟩ := htv.ag (S' := S' ++ [.tpl [V.int i, vs[i]]]) Ag.push
    first | rw [pLen_lst hxt, List.length_map, hk] | rw [gE (gL_lst hxt), List.length_map, hk]
    obtain ⟨s, hsi⟩ : ∃ s, ss[i]? = some s := ⟨ss[i]'(by omega), List.getElem?_eq_getElem _⟩
    obtain ⟨y', hy', sy⟩ := fs.get hsi
    rw [e1] at hy'; cases hy'
    refine sp_is_service ((sy.ag (a.any (P := P))).ag Ag.push) (hd s (List.mem_of_getElem? hsi)) (by omega) fun S2 a2 => ?_
    (simp only [Nx.oks_cons, Nx.oks_nil, Nx.x_ite, Nx.x_asg, Nx.x_par, Nx.x_expr, Nx.x_ret, Nx.x_for, Nx.x_setf, Nx.e_ite, Nx.e_and, Nx.e_or, Nx.e_chain, Nx.e_mc, Nx.e_cst, Nx.e_pn, Nx.es_nil, Nx.es_cons, Nx.es_star, Nx.e_lc,
  Nx.e_var, Nx.ok_val, Nx.ok_pv1, Nx.ok_pv2, Nx.ok_pNot, Nx.bl_ex, Nx.ref_ex,
  List.map_cons, List.map_nil, List.cons_append, List.nil_append, List.append_nil, List.replicate_succ, List.replicate_zero, Nat.reduceSub, Nat.reduceAdd, List.getElem?_cons_zero, List.getElem?_cons_succ, Nx.pb_nm, Nx.pbs_nil, Nx.pbs_nm, List.set_cons_zero, List.set_cons_succ, if_true, if_false, Bool.false_eq_true, Bool.not_eq_true', decide_eq_true_eq, decide_eq_false_iff_not, Bool.not_eq_false', Nx.wipeR, Option.some.injEq, exists_eq_left', and_true, true_and, false_imp_iff, true_imp_iff, Bool.true_eq_false, eq_self_iff_true])
    exact ⟨⟨_, _, rfl⟩, (a.trans Ag.push).trans a2⟩
  · rintro ρ S' ⟨⟨u, w, rfl⟩, a⟩
    have hm' := a.at_ _ _ id hxm
    refine ⟨ne S' hm', ?_⟩
    (simp only [Nx.oks_cons, Nx.oks_nil, Nx.x_ite, Nx.x_asg, Nx.x_par, Nx.x_expr, Nx.x_ret, Nx.x_for, Nx.x_setf, Nx.e_ite, Nx.e_and, Nx.e_or, Nx.e_chain, Nx.e_mc, Nx.e_cst, Nx.e_pn, Nx.es_nil, Nx.es_cons, Nx.es_star, Nx.e_lc,
  Nx.e_var, Nx.ok_val, Nx.ok_pv1, Nx.ok_pv2, Nx.ok_pNot, Nx.bl_ex, Nx.ref_ex,
  List.map_cons, List.map_nil, List.cons_append, List.nil_append, List.append_nil, List.replicate_succ, List.replicate_zero, Nat.reduceSub, Nat.reduceAdd, List.getElem?_cons_zero, List.getElem?_cons_succ, Nx.pb_nm, Nx.pbs_nil, Nx.pbs_nm, List.set_cons_zero, List.set_cons_succ, if_true, if_false, Bool.false_eq_true, Bool.not_eq_true', decide_eq_true_eq, decide_eq_false_iff_not, Bool.not_eq_false', Nx.wipeR, Option.some.injEq, exists_eq_left', and_true, true_and, false_imp_iff, true_imp_iff, Bool.true_eq_false, eq_self_iff_true])
    have htv := ((hx.ag (a0.any (P := P))).ag (a1.any (P := P))).ag (a.any (P := P))
    obtain ⟨t, rfl, ht, hxt⟩ := htv
    rw [ok_listOf (vs := xs.map V.int) (by simp [seqOf, hxt])]
    have hI' := a.at_ _ _ id (a1.at_ _ _ id hI)
    have b1 : Ag NoP S S' := (a0.trans a1).trans a
    have lS : S.length < S'.length := (List.getElem?_eq_some_iff.mp hI').1
    refine ⟨0, [], at_low hI', by decide, by simp, ?_⟩
    have pf1 : L2.putF "_strengths" (V.ref S'.length) ([] : List (Str × V)) = ([("_strengths", V.ref S'.length)] : List (Str × V)) := rfl
    rw [pf1]
    have c1 : Ag NoP S ((S' ++ [Ob.lst (xs.map V.int)]).set S.length (.ins 0 [("_strengths", V.ref S'.length)])) := (b1.trans Ag.push).setHi (Nat.le_refl _)
    have hI2 : ((S' ++ [Ob.lst (xs.map V.int)]).set S.length (.ins 0 [("_strengths", V.ref S'.length)]))[S.length]? = some (.ins 0 [("_strengths", V.ref S'.length)]) := at_set (at_low hI')
    have hT2 : ((S' ++ [Ob.lst (xs.map V.int)]).set S.length (.ins 0 [("_strengths", V.ref S'.length)]))[S'.length]? = some (.lst (xs.map V.int)) := at_ne at_push (by omega)
    have hM2 : ((S' ++ [Ob.lst (xs.map V.int)]).set S.length (.ins 0 [("_strengths", V.ref S'.length)]))[m]? = some (.lst vs) := at_ne (at_low hm') (fun z => by rw [← z, hI'] at hm'; cases hm')
    have l2 : ((S' ++ [Ob.lst (xs.map V.int)]).set S.length (.ins 0 [("_strengths", V.ref S'.length)])).length = S'.length + 1 := by simp
    generalize (S' ++ [Ob.lst (xs.map V.int)]).set S.length (.ins 0 [("_strengths", V.ref S'.length)]) = S2 at c1 hI2 hT2 hM2 l2 ⊢
    rw [ok_listOf (vs := vs) (by simp [seqOf, hM2])]
    refine ⟨0, _, at_low hI2, by decide, by simp, ?_⟩
    have pf2 : L2.putF "_services" (V.ref S2.length) ([("_strengths", V.ref S'.length)] : List (Str × V)) = ([("_strengths", V.ref S'.length), ("_services", V.ref S2.length)] : List (Str × V)) := rfl
    rw [pf2]
    have c2 : Ag NoP S ((S2 ++ [Ob.lst vs]).set S.length (.ins 0 [("_strengths", V.ref S'.length), ("_services", V.ref S2.length)])) := (c1.trans Ag.push).setHi (Nat.le_refl _)
    refine q S.length _ (Nat.le_refl _) c2 ⟨S.length, S'.length, .ref S2.length, xs.map V.int, rfl, hP _ (Nat.le_refl _), at_set (at_low hI2), hP _ (by omega), at_ne (at_low hT2) (by omega), by simp [hk], S2.length, vs, rfl, hP _ (by omega), at_ne at_push (by omega), ?_⟩
    -- the services themselves stand since S
    have f0 := hs.ag (c2.any (P := P))
    obtain ⟨m', vs', e', hm1, hx1, fs'⟩ := f0
    cases e'
    have : ((S2 ++ [Ob.lst vs]).set S.length (.ins 0 [("_strengths", V.ref S'.length), ("_services", V.ref S2.length)]))[m]? = some (.lst vs) := at_ne (at_low hM2) (fun z => by rw [← z, hI2] at hM2; cases hM2)
    rw [this] at hx1; cases hx1
    exact fs'
end Nx.Lk09

set_option Elab.async false
set_option linter.all false
set_option maxRecDepth 100000
set_option maxHeartbeats 1000000
set_option autoImplicit false
namespace Nx.Lk09
open PySem L2 Nx
variable {P P' : Nat → Prop} {S S' : Sto} {Q : V → Sto → Prop}
/-- integers in a list or a tuple -/
def SeI (P : Nat → Prop) (S : Sto) (v : V) (xs : List Int) : Prop := ∃ n k, v = .ref n ∧ ¬ P n ∧ S[n]? = some (obB k (xs.map V.int))
theorem SeI.ag {v : V} {xs : List Int} (h : SeI P S v xs) (a : Ag P S S') : SeI P S' v xs := let ⟨n, k, e, hn, x⟩ := h; ⟨n, k, e, hn, a.at_ _ _ hn x⟩
theorem SeI.seq {v : V} {xs : List Int} (h : SeI P S v xs) : seqOf S v = some (xs.map V.int) := by
  obtain ⟨n, k, rfl, _, q⟩ := h; cases k <;> (simp only [obB] at q; simp [seqOf, q])
theorem TupI.se {v : V} {xs : List Int} (h : TupI P S v xs) : SeI P S v xs := let ⟨n, e, hn, x⟩ := h; ⟨n, false, e, hn, x⟩
theorem LstI.se {v : V} {xs : List Int} (h : LstI P S v xs) : SeI P S v xs := let ⟨n, e, hn, x⟩ := h; ⟨n, true, e, hn, x⟩
theorem pLen_se {v : V} {xs : List Int} {c : Nat} {d : Prim} (h : SeI P S v xs) : Ok (pLen c d [v] S) Q ↔ Q (.int xs.length) S := by
  obtain ⟨n, k, rfl, _, q⟩ := h
  cases k
  · first | rw [pLen_tup q, List.length_map] | rw [gE (gL_tup q), List.length_map]
  · first | rw [pLen_lst q, List.length_map] | rw [gE (gL_lst q), List.length_map]
theorem gL_se {v : V} {xs : List Int} (h : SeI P S v xs) : gLen v S = some (.int xs.length) := by
  rw [gLen_at h.seq, List.length_map]
def OwnB (P : Nat → Prop) (B : Nat) : Nat → Prop := fun i => P i ∨ i = B
theorem F2.evag {vs : List V} {es : List (Bool × Int)} (h : F2 (EvAt P S) vs es) (a : Ag P S S') : F2 (EvAt P S') vs es := h.mono fun _ _ q => q.ag a
theorem sp_events {d : V} {down : List Int} {k : Nat} {cap : Int} (hd : SeI P S d down) (hP : Lo P S) (hk : k < 100) (q : ∀ n es S', S.length ≤ n → Ag NoP S S' → HiAt P S' (.ref n) es → es.length < 1000 → (∀ x ∈ es, CanCome k down x) → Q (.ref n) S') :
    Ok (d__law_events [.int k, d, .int cap] S) Q := by
  (refine (Nx.ok_den (by rfl)).mpr ?_)
  unfold b__law_events
  (simp only [Nx.oks_cons, Nx.oks_nil, Nx.x_ite, Nx.x_asg, Nx.x_par, Nx.x_expr, Nx.x_ret, Nx.x_for, Nx.x_setf, Nx.e_ite, Nx.e_and, Nx.e_or, Nx.e_chain, Nx.e_mc, Nx.e_cst, Nx.e_pn, Nx.es_nil, Nx.es_cons, Nx.es_star, Nx.e_lc,
  Nx.e_var, Nx.ok_val, Nx.ok_pv1, Nx.ok_pv2, Nx.ok_pNot, Nx.bl_ex, Nx.ref_ex,
  List.map_cons, List.map_nil, List.cons_append, List.nil_append, List.append_nil, List.replicate_succ, List.replicate_zero, Nat.reduceSub, Nat.reduceAdd, List.getElem?_cons_zero, List.getElem?_cons_succ, Nx.pb_nm, Nx.pbs_nil, Nx.pbs_nm, List.set_cons_zero, List.set_cons_succ, if_true, if_false, Bool.false_eq_true, Bool.not_eq_true', decide_eq_true_eq, decide_eq_false_iff_not, Bool.not_eq_false', Nx.wipeR, Option.some.injEq, exists_eq_left', and_true, true_and, false_imp_iff, true_imp_iff, Bool.true_eq_false, eq_self_iff_true])
  rw [ok_pLst (by simp)]
  have a0 : Ag NoP S (S ++ [Ob.lst []]) := Ag.push
  have hB : (S ++ [Ob.lst []])[S.length]? = some (.lst []) := at_push
  generalize S ++ [Ob.lst []] = S0 at a0 hB ⊢
  refine ⟨_, rg_start (by omega), ?_⟩
  refine for_rg (a := k) (fun i ρ S' => (∃ u, ρ = [some (.int k), some d, some (.int cap), some (.ref S.length), u]) ∧ Ag NoP S S' ∧ ∃ vs es, S'[S.length]? = some (.lst vs) ∧ F2 (EvAt (OwnB P S.length) S') vs es ∧ es.length ≤ 2 * i ∧ ∀ x ∈ es, CanCome k down x) (by simp [fuel]; omega) ?_ ?_ ⟨⟨_, rfl⟩, a0, [], [], hB, .nil, by simp, by simp⟩
  · rintro i ρ S' hi ⟨⟨u, rfl⟩, a, vs, es, hB, fs, hl, hc⟩
    refine ⟨_, pb_nm, ?_⟩
    have lv : vs.length = es.length := fs.len
    have hd' := hd.ag (a.any (P := P))
    -- adding one event
    have add : ∀ (S1 : Sto) (vs : List V) (es : List (Bool × Int)) (b : Bool), Ag NoP S S1 → S1[S.length]? = some (.lst vs) → F2 (EvAt (OwnB P S.length) S1) vs es → (∀ x ∈ es, CanCome k down x) → (if b = true then (i : Int) ∉ down else (i : Int) ∈ down) → vs.length < 100000 →
        ∀ Q' : V → Sto → Prop, (∀ S2, Ag NoP S S2 → S2[S.length]? = some (.lst (vs ++ [.ref S1.length])) → F2 (EvAt (OwnB P S.length) S2) (vs ++ [.ref S1.length]) (es ++ [(b, (i : Int))]) → (∀ x ∈ es ++ [(b, (i : Int))], CanCome k down x) → Q' .non S2) →
        Ok (pAppend [.ref S.length, .ref S1.length] (S1 ++ [.tup [.str (word b), .int i]])) Q' := by
      intro S1 vs es b a1 h1 f1 c1 hb hl Q' q'
      rw [ok_append (at_low h1) hl]
      have lS : S.length < S1.length := (List.getElem?_eq_some_iff.mp h1).1
      refine q' _ ((a1.trans Ag.push).setHi (Nat.le_refl _)) (at_set (at_low h1)) ?_ ?_
      · refine ((F2.evag f1 Ag.push).snoc ?_).mono fun _ _ z => z.ag (Ag.set (.inr rfl))
        exact ⟨S1.length, rfl, fun z => by
          rcases z with z | z
          · exact hP _ a1.len z
          · omega, at_push⟩
      · intro x hx
        rcases List.mem_append.mp hx with hx | hx
        · exact c1 x hx
        · simp only [List.mem_singleton] at hx
          subst hx
          exact ⟨by simp, by simpa using hi, hb⟩
    -- the second question, from any state
    have snd : ∀ (S1 : Sto) (vs : List V) (es : List (Bool × Int)), Ag NoP S S1 → S1[S.length]? = some (.lst vs) → F2 (EvAt (OwnB P S.length) S1) vs es → (∀ x ∈ es, CanCome k down x) → es.length ≤ 2 * i + 1 →
        OkS (ex (.ite (.and (.pn (pv2 (gIn true)) (.cons (.var 4) (.cons (.var 1) .nil))) (.pn (pv2 gLt) (.cons (.pn (pv1 gLen) (.cons (.var 1) .nil)) (.cons (.var 2) .nil)))) (.cons (.expr (.mc isLst pAppend (.var 3) (.cons (.pn pTup (.cons (.cst (.str "fall")) (.cons (.var 4) .nil))) .nil))) .nil) .nil) [some (.int k), some d, some (.int cap), some (.ref S.length), some (.int i)] S1)
          (fun ρ S2 => (∃ u, ρ = [some (.int k), some d, some (.int cap), some (.ref S.length), u]) ∧ Ag NoP S S2 ∧ ∃ vs es, S2[S.length]? = some (.lst vs) ∧ F2 (EvAt (OwnB P S.length) S2) vs es ∧ es.length ≤ 2 * (i + 1) ∧ ∀ x ∈ es, CanCome k down x) Q := by
      intro S1 vs es a1 h1 f1 c1 l1
      have hd1 := hd.ag (a1.any (P := P))
      have lv : vs.length = es.length := f1.len
      (simp only [Nx.oks_cons, Nx.oks_nil, Nx.x_ite, Nx.x_asg, Nx.x_par, Nx.x_expr, Nx.x_ret, Nx.x_for, Nx.x_setf, Nx.e_ite, Nx.e_and, Nx.e_or, Nx.e_chain, Nx.e_mc, Nx.e_cst, Nx.e_pn, Nx.es_nil, Nx.es_cons, Nx.es_star, Nx.e_lc,
  Nx.e_var, Nx.ok_val, Nx.ok_pv1, Nx.ok_pv2, Nx.ok_pNot, Nx.bl_ex, Nx.ref_ex,
  List.map_cons, List.map_nil, List.cons_append, List.nil_append, List.append_nil, List.replicate_succ, List.replicate_zero, Nat.reduceSub, Nat.reduceAdd, List.getElem?_cons_zero, List.getElem?_cons_succ, Nx.pb_nm, Nx.pbs_nil, Nx.pbs_nm, List.set_cons_zero, List.set_cons_succ, if_true, if_false, Bool.false_eq_true, Bool.not_eq_true', decide_eq_true_eq, decide_eq_false_iff_not, Bool.not_eq_false', Nx.wipeR, Option.some.injEq, exists_eq_left', and_true, true_and, false_imp_iff, true_imp_iff, Bool.true_eq_false, eq_self_iff_true])
      refine (gE (gIn_ints hd1.seq)).mpr ?_
      (simp only [Nx.oks_cons, Nx.oks_nil, Nx.x_ite, Nx.x_asg, Nx.x_par, Nx.x_expr, Nx.x_ret, Nx.x_for, Nx.x_setf, Nx.e_ite, Nx.e_and, Nx.e_or, Nx.e_chain, Nx.e_mc, Nx.e_cst, Nx.e_pn, Nx.es_nil, Nx.es_cons, Nx.es_star, Nx.e_lc,
  Nx.e_var, Nx.ok_val, Nx.ok_pv1, Nx.ok_pv2, Nx.ok_pNot, Nx.bl_ex, Nx.ref_ex,
  List.map_cons, List.map_nil, List.cons_append, List.nil_append, List.append_nil, List.replicate_succ, List.replicate_zero, Nat.reduceSub, Nat.reduceAdd, List.getElem?_cons_zero, List.getElem?_cons_succ, Nx.pb_nm, Nx.pbs_nil, Nx.pbs_nm, List.set_cons_zero, List.set_cons_succ, if_true, if_false, Bool.false_eq_true, Bool.not_eq_true', decide_eq_true_eq, decide_eq_false_iff_not, Bool.not_eq_false', Nx.wipeR, Option.some.injEq, exists_eq_left', and_true, true_and, false_imp_iff, true_imp_iff, Bool.true_eq_false, eq_self_iff_true])
      refine ⟨fun hn => ?_, fun _ => ⟨⟨_, rfl⟩, a1, vs, es, h1, f1, by omega, c1⟩⟩
      refine (gE (gL_se hd1)).mpr ?_
      refine (gE gLt_int).mpr ?_
      (simp only [Nx.oks_cons, Nx.oks_nil, Nx.x_ite, Nx.x_asg, Nx.x_par, Nx.x_expr, Nx.x_ret, Nx.x_for, Nx.x_setf, Nx.e_ite, Nx.e_and, Nx.e_or, Nx.e_chain, Nx.e_mc, Nx.e_cst, Nx.e_pn, Nx.es_nil, Nx.es_cons, Nx.es_star, Nx.e_lc,
  Nx.e_var, Nx.ok_val, Nx.ok_pv1, Nx.ok_pv2, Nx.ok_pNot, Nx.bl_ex, Nx.ref_ex,
  List.map_cons, List.map_nil, List.cons_append, List.nil_append, List.append_nil, List.replicate_succ, List.replicate_zero, Nat.reduceSub, Nat.reduceAdd, List.getElem?_cons_zero, List.getElem?_cons_succ, Nx.pb_nm, Nx.pbs_nil, Nx.pbs_nm, List.set_cons_zero, List.set_cons_succ, if_true, if_false, Bool.false_eq_true, Bool.not_eq_true', decide_eq_true_eq, decide_eq_false_iff_not, Bool.not_eq_false', Nx.wipeR, Option.some.injEq, exists_eq_left', and_true, true_and, false_imp_iff, true_imp_iff, Bool.true_eq_false, eq_self_iff_true])
      refine ⟨fun _ => ⟨isLst_at h1, ?_⟩, fun _ => ⟨⟨_, rfl⟩, a1, vs, es, h1, f1, by omega, c1⟩⟩
      rw [ok_pTup (by simp)]
      exact add S1 vs es true a1 h1 f1 c1 hn (by omega) _ fun S2 a2 h2 f2 c2 => ⟨⟨_, rfl⟩, a2, _, _, h2, f2, by simp; omega, c2⟩
    rw [oks_cons]
    refine OkS.mono (N := fun ρ' S1 => ρ' = [some (.int k), some d, some (.int cap), some (.ref S.length), some (.int i)] ∧ ∃ vs es, Ag NoP S S1 ∧ S1[S.length]? = some (.lst vs) ∧ F2 (EvAt (OwnB P S.length) S1) vs es ∧ (∀ x ∈ es, CanCome k down x) ∧ es.length ≤ 2 * i + 1) (R := Q) ?_ (fun ρ' S1 h => ?_) (fun _ _ h => h)
    · (simp only [Nx.oks_cons, Nx.oks_nil, Nx.x_ite, Nx.x_asg, Nx.x_par, Nx.x_expr, Nx.x_ret, Nx.x_for, Nx.x_setf, Nx.e_ite, Nx.e_and, Nx.e_or, Nx.e_chain, Nx.e_mc, Nx.e_cst, Nx.e_pn, Nx.es_nil, Nx.es_cons, Nx.es_star, Nx.e_lc,
  Nx.e_var, Nx.ok_val, Nx.ok_pv1, Nx.ok_pv2, Nx.ok_pNot, Nx.bl_ex, Nx.ref_ex,
  List.map_cons, List.map_nil, List.cons_append, List.nil_append, List.append_nil, List.replicate_succ, List.replicate_zero, Nat.reduceSub, Nat.reduceAdd, List.getElem?_cons_zero, List.getElem?_cons_succ, Nx.pb_nm, Nx.pbs_nil, Nx.pbs_nm, List.set_cons_zero, List.set_cons_succ, if_true, if_false, Bool.false_eq_true, Bool.not_eq_true', decide_eq_true_eq, decide_eq_false_iff_not, Bool.not_eq_false', Nx.wipeR, Option.some.injEq, exists_eq_left', and_true, true_and, false_imp_iff, true_imp_iff, Bool.true_eq_false, eq_self_iff_true])
      refine (gE (gIn_ints hd'.seq)).mpr ?_
      (simp only [Nx.oks_cons, Nx.oks_nil, Nx.x_ite, Nx.x_asg, Nx.x_par, Nx.x_expr, Nx.x_ret, Nx.x_for, Nx.x_setf, Nx.e_ite, Nx.e_and, Nx.e_or, Nx.e_chain, Nx.e_mc, Nx.e_cst, Nx.e_pn, Nx.es_nil, Nx.es_cons, Nx.es_star, Nx.e_lc,
  Nx.e_var, Nx.ok_val, Nx.ok_pv1, Nx.ok_pv2, Nx.ok_pNot, Nx.bl_ex, Nx.ref_ex,
  List.map_cons, List.map_nil, List.cons_append, List.nil_append, List.append_nil, List.replicate_succ, List.replicate_zero, Nat.reduceSub, Nat.reduceAdd, List.getElem?_cons_zero, List.getElem?_cons_succ, Nx.pb_nm, Nx.pbs_nil, Nx.pbs_nm, List.set_cons_zero, List.set_cons_succ, if_true, if_false, Bool.false_eq_true, Bool.not_eq_true', decide_eq_true_eq, decide_eq_false_iff_not, Bool.not_eq_false', Nx.wipeR, Option.some.injEq, exists_eq_left', and_true, true_and, false_imp_iff, true_imp_iff, Bool.true_eq_false, eq_self_iff_true])
      refine ⟨fun hn => ?_, fun _ => ⟨vs, es, a, hB, fs, hc, by omega⟩⟩
      first | rw [pLen_se hd', ok_add] | rw [gE (gL_se hd'), ok_add]
      refine (gE gLe_int).mpr ?_
      (simp only [Nx.oks_cons, Nx.oks_nil, Nx.x_ite, Nx.x_asg, Nx.x_par, Nx.x_expr, Nx.x_ret, Nx.x_for, Nx.x_setf, Nx.e_ite, Nx.e_and, Nx.e_or, Nx.e_chain, Nx.e_mc, Nx.e_cst, Nx.e_pn, Nx.es_nil, Nx.es_cons, Nx.es_star, Nx.e_lc,
  Nx.e_var, Nx.ok_val, Nx.ok_pv1, Nx.ok_pv2, Nx.ok_pNot, Nx.bl_ex, Nx.ref_ex,
  List.map_cons, List.map_nil, List.cons_append, List.nil_append, List.append_nil, List.replicate_succ, List.replicate_zero, Nat.reduceSub, Nat.reduceAdd, List.getElem?_cons_zero, List.getElem?_cons_succ, Nx.pb_nm, Nx.pbs_nil, Nx.pbs_nm, List.set_cons_zero, List.set_cons_succ, if_true, if_false, Bool.false_eq_true, Bool.not_eq_true', decide_eq_true_eq, decide_eq_false_iff_not, Bool.not_eq_false', Nx.wipeR, Option.some.injEq, exists_eq_left', and_true, true_and, false_imp_iff, true_imp_iff, Bool.true_eq_false, eq_self_iff_true])
      refine ⟨fun _ => ⟨isLst_at hB, ?_⟩, fun _ => ⟨vs, es, a, hB, fs, hc, by omega⟩⟩
      rw [ok_pTup (by simp)]
      exact add S' vs es false a hB fs hc hn (by omega) _ fun S2 a2 h2 f2 c2 => ⟨_, _, a2, h2, f2, c2, by simp; omega⟩
    · obtain ⟨rfl, vs1, es1, a1, h1, f1, c1, l1⟩ := h
      rw [oks_cons]
      refine (snd S1 vs1 es1 a1 h1 f1 c1 l1).mono (fun ρ2 S2 h => ?_) fun _ _ h => h
      rw [oks_nil]
      exact h
  · rintro ρ S' ⟨⟨u, rfl⟩, a, vs, es, hB, fs, hl, hc⟩
    (simp only [Nx.oks_cons, Nx.oks_nil, Nx.x_ite, Nx.x_asg, Nx.x_par, Nx.x_expr, Nx.x_ret, Nx.x_for, Nx.x_setf, Nx.e_ite, Nx.e_and, Nx.e_or, Nx.e_chain, Nx.e_mc, Nx.e_cst, Nx.e_pn, Nx.es_nil, Nx.es_cons, Nx.es_star, Nx.e_lc,
  Nx.e_var, Nx.ok_val, Nx.ok_pv1, Nx.ok_pv2, Nx.ok_pNot, Nx.bl_ex, Nx.ref_ex,
  List.map_cons, List.map_nil, List.cons_append, List.nil_append, List.append_nil, List.replicate_succ, List.replicate_zero, Nat.reduceSub, Nat.reduceAdd, List.getElem?_cons_zero, List.getElem?_cons_succ, Nx.pb_nm, Nx.pbs_nil, Nx.pbs_nm, List.set_cons_zero, List.set_cons_succ, if_true, if_false, Bool.false_eq_true, Bool.not_eq_true', decide_eq_true_eq, decide_eq_false_iff_not, Bool.not_eq_false', Nx.wipeR, Option.some.injEq, exists_eq_left', and_true, true_and, false_imp_iff, true_imp_iff, Bool.true_eq_false, eq_self_iff_true])
    exact q _ es S' (Nat.le_refl _) a ⟨_, vs, rfl, hP _ (Nat.le_refl _), hB, fs.mono fun _ _ z => z.weak fun i z => .inl z⟩ (by omega) hc
end Nx.Lk09

set_option Elab.async false
set_option linter.all false
set_option maxRecDepth 100000
set_option maxHeartbeats 1000000
set_option autoImplicit false
namespace Nx.Lk09
open PySem L2 Nx
variable {P P' : Nat → Prop} {S S' : Sto} {Q : V → Sto → Prop}
def nd (down : List Int) (e : Bool × Int) : List Int := (down.filter fun x => x ≠ e.2) ++ (if e.1 = true then [e.2] else [])
def ValidM (k : Nat) : List Int → List (Bool × Int) → Prop
  | _, [] => True
  | down, e :: r => CanCome k down e ∧ ValidM k (nd down e) r
def nds : List Int → List (Bool × Int) → List Int
  | d, [] => d
  | d, e :: r => nds (nd d e) r
theorem nds_snoc : ∀ (es : List (Bool × Int)) (d : List Int) (x : Bool × Int), nds d (es ++ [x]) = nd (nds d es) x
  | [], _, _ => rfl
  | e :: r, d, x => nds_snoc r (nd d e) x
theorem validM_app {k : Nat} : ∀ (es fs : List (Bool × Int)) (d : List Int), ValidM k d (es ++ fs) ↔ ValidM k d es ∧ ValidM k (nds d es) fs
  | [], fs, d => by simp [ValidM, nds]
  | e :: r, fs, d => by simp only [List.cons_append, ValidM, nds, validM_app r fs (nd d e), and_assoc]
theorem mem_nd {down : List Int} {e : Bool × Int} {m : Int} : m ∈ nd down e ↔ (m ∈ down ∧ m ≠ e.2) ∨ (e.1 = true ∧ m = e.2) := by
  unfold nd
  rw [List.mem_append, List.mem_filter]
  by_cases h : e.1 = true <;> simp [h]
theorem mem_db {down : List Int} {e : Bool × Int} {m : Int} : m ∈ db down e ↔ (m ∈ down ∧ m ≠ e.2) ∨ (e.1 = true ∧ m = e.2) := by
  unfold db
  by_cases h : e.1 = true
  · simp only [h, if_true]
    rw [(sortI_perm _).mem_iff, List.mem_append, List.mem_singleton]
    by_cases z : m = e.2 <;> simp [z]
  · simp [h, List.mem_filter]
theorem canCome_mem {k : Nat} {d d' : List Int} {e : Bool × Int} (h : ∀ m, m ∈ d ↔ m ∈ d') : CanCome k d e ↔ CanCome k d' e := by
  unfold CanCome
  by_cases c : e.1 = true <;> simp [c, h]
theorem valid_of {k : Nat} {ss : List Srv} : ∀ (es : List (Bool × Int)) (d : List Int) (p : List Int × List Int), (∀ m, m ∈ d ↔ m ∈ p.1) → ValidM k d es → Valid k ss p es
  | [], _, _, _, _ => trivial
  | e :: r, d, p, h, v => ⟨(canCome_mem h).mp v.1, valid_of r (nd d e) (pb ss p e) (fun m => by
      show m ∈ nd d e ↔ m ∈ db p.1 e
      rw [mem_nd, mem_db, h]) v.2⟩
theorem nds_mem {ss : List Srv} : ∀ (es : List (Bool × Int)) (d : List Int) (p : List Int × List Int), (∀ m, m ∈ d ↔ m ∈ p.1) → ∀ m, m ∈ nds d es ↔ m ∈ (pbs ss p es).1
  | [], _, _, h => h
  | e :: r, d, p, h => nds_mem r (nd d e) (pb ss p e) fun m => by
      show m ∈ nd d e ↔ m ∈ db p.1 e
      rw [mem_nd, mem_db, h]
/-! ### lists of events beside the empty list -/
def EvD (e : Bool × Int) : PyData := .tuple [.str (word e.1), .int e.2]
theorem EvAt.rd {v : V} {e : Bool × Int} {k : Nat} (h : EvAt P S v e) : Nx.rd S (k + 1) v = some (EvD e) := by
  obtain ⟨n, rfl, _, q⟩ := h
  simp [Nx.rd, q, rds, EvD]
theorem rds_ev {k : Nat} {vs : List V} {es : List (Bool × Int)} (h : F2 (EvAt P S) vs es) : rds S (k + 1) vs = some (es.map EvD) := by
  induction h with
  | nil => simp [rds]
  | cons h _ ih => simp [rds, EvAt.rd h, ih]
theorem lay_ev : ∀ (es : List (Bool × Int)), PyData.canLayAll0 (es.map EvD) = true
  | [] => rfl
  | e :: r => by simp [PyData.canLayAll0, PyData.canLay0, EvD, word_ok, lay_ev r]
theorem dep_ev : ∀ (es : List (Bool × Int)), PyData.depthAll (es.map EvD) ≤ 1
  | [] => by simp [PyData.depthAll]
  | e :: r => by
    have := dep_ev r
    simp [PyData.depthAll, PyData.depth, EvD]; omega
theorem gEq_noEv {neg : Bool} {v : V} {es : List (Bool × Int)} {m : Nat} (h : HiAt P S v es) (hm : S[m]? = some (.lst [])) : gEq neg v (.ref m) S = some (.bl (if neg then !decide (es = []) else decide (es = []))) := by
  obtain ⟨n, vs, rfl, hn, hx, fs⟩ := h
  have r1 : Nx.rd S deep (.ref n) = some (.list (es.map EvD)) := by
    unfold deep
    unfold Nx.rd
    simp only [hx, rds_ev (k := 48) fs, Option.map_some]
  have r2 : Nx.rd S deep (.ref m) = some (.list []) := by
    unfold deep
    unfold Nx.rd
    simp [hm, rds]
  have e : PyData.eqv (.list (es.map EvD)) (.list []) = decide (es = []) := by
    cases es <;> simp [PyData.eqv, PyData.eqvAll]
  have s1 : SeqAt.shaped (.list (es.map EvD)) = true := by
    have := dep_ev es
    simp [SeqAt.shaped, PyData.canLay0, lay_ev, PyData.depth]; omega
  unfold gEq
  simp only [r1, r2, e]
  rw [if_pos ⟨s1, by decide +kernel⟩]
theorem F2.mem {α β : Type} {R : α → β → Prop} {as : List α} {bs : List β} (h : F2 R as bs) {a : α} (e : a ∈ as) : ∃ b ∈ bs, R a b := by
  induction h with
  | nil => cases e
  | cons h _ ih =>
    cases e with
    | head => exact ⟨_, List.mem_cons_self, h⟩
    | tail _ e => obtain ⟨b, hb, r⟩ := ih e; exact ⟨b, List.mem_cons_of_mem _ hb, r⟩
/-- the integers of a list but one -/
theorem lc_but {v : V} {xs : List Int} {m : Nat} {ρw : Rho} {j : Nat} {t : Rho → Sto → M V} {x0 : Int} (h : LstI P S v xs) (hs : xs.length < 1000) (hm : m = S.length) (hj : ∀ w : V, (ρw.set j (some w))[j]? = some (some w))
    (ht : ∀ (y : Int) (S' : Sto), Ag NoP S S' → Ok (t (ρw.set j (some (.int y))) S') fun b S2 => b = .bl (!decide (y = x0)) ∧ S2 = S')
    (q : ∀ S', Ag NoP S S' → S'[S.length]? = some (.lst ((xs.filter fun x => x ≠ x0).map V.int)) → Q (.ref S.length) S') :
    ∃ st, itSeq.start [v] S = some st ∧ Ok (compLoop itSeq.next st (.nm j) ρw m t (ev (.var j)) fuel 0 (S ++ [.lst []])) Q := by
  subst hm
  obtain ⟨n, rfl, hn, hx⟩ := h
  refine ⟨_, it_start (k := true) hx, ?_⟩
  refine lc_sq (vs := xs.map V.int) (fun i acc S' => Ag NoP S S' ∧ acc = ((xs.take i).filter fun x => x ≠ x0).map V.int) (by simp [fuel]; omega) ?_ ?_ ?_ ⟨Ag.push, by simp⟩ at_push
  · rintro i acc S' ⟨a, rfl⟩
    refine ⟨a.at_ _ _ id hx, ?_⟩
    rw [List.length_map]
    exact Nat.le_trans (List.length_filter_le _ _) (by simp; omega)
  · rintro i acc S' x hx' ⟨a, rfl⟩ hm'
    obtain ⟨y, hy, rfl⟩ := get_int hx'
    refine ⟨_, pb_nm, ?_⟩
    unfold Lc
    refine (ht y S' a).mono ?_
    rintro b S2 ⟨rfl, rfl⟩
    rw [filter_snoc hy]
    by_cases c : y = x0
    · refine .inl ⟨by simp [c], hm', a, by simp [c]⟩
    · refine .inr ⟨by simp [c], ?_⟩
      rw [e_var]
      exact ⟨_, hj _, hm', a.setHi (Nat.le_refl _), by simp [c]⟩
  · rintro acc S' ⟨a, rfl⟩ hm'
    rw [List.length_map, List.take_length] at hm'
    exact q S' a hm'
end Nx.Lk09

set_option Elab.async false
set_option linter.all false
set_option maxRecDepth 100000
set_option maxHeartbeats 1000000
set_option autoImplicit false
namespace Nx.Lk09
open PySem L2 Nx
variable {P P' : Nat → Prop} {S S' : Sto} {Q : V → Sto → Prop}
theorem ok_addL {n m : Nat} {xs ys : List V} (h : S[n]? = some (.lst xs)) (h' : S[m]? = some (.lst ys)) (hl : xs.length + ys.length ≤ 100000) : Ok (pAdd [.ref n, .ref m] S) Q ↔ Q (.ref S.length) (S ++ [.lst (xs ++ ys)]) := by
  unfold pAdd
  simp only [h, h', if_pos hl]
  exact ok_val
theorem ev_ix0 {v : V} {e : Bool × Int} (h : EvAt P S v e) : gIx v (.int 0) S = some (.str (word e.1)) := by
  obtain ⟨n, rfl, _, x⟩ := h; exact gIx_seq (vs := [.str (word e.1), .int e.2]) (by simp [seqOf, x]) atI0
theorem ev_ix1 {v : V} {e : Bool × Int} (h : EvAt P S v e) : gIx v (.int 1) S = some (.int e.2) := by
  obtain ⟨n, rfl, _, x⟩ := h; exact gIx_seq (vs := [.str (word e.1), .int e.2]) (by simp [seqOf, x]) atI1
theorem sp_walk {f k long : Nat} (h : Fd S f) (hk : k < 100) (hlong : long < 50) (q : ∀ n es S', S.length ≤ n → Ag (At f) S S' → Fd S' f → HiAt (At f) S' (.ref n) es → es.length ≤ long → ValidM k [] es → Q (.ref n) S') : Ok (d__law_walk [.ref f, .int k, .int 4, .int long] S) Q := by
  have hlt := fd_lt h
  (refine (Nx.ok_den (by rfl)).mpr ?_)
  unfold b__law_walk
  (simp only [Nx.oks_cons, Nx.oks_nil, Nx.x_ite, Nx.x_asg, Nx.x_par, Nx.x_expr, Nx.x_ret, Nx.x_for, Nx.x_setf, Nx.e_ite, Nx.e_and, Nx.e_or, Nx.e_chain, Nx.e_mc, Nx.e_cst, Nx.e_pn, Nx.es_nil, Nx.es_cons, Nx.es_star, Nx.e_lc,
  Nx.e_var, Nx.ok_val, Nx.ok_pv1, Nx.ok_pv2, Nx.ok_pNot, Nx.bl_ex, Nx.ref_ex,
  List.map_cons, List.map_nil, List.cons_append, List.nil_append, List.append_nil, List.replicate_succ, List.replicate_zero, Nat.reduceSub, Nat.reduceAdd, List.getElem?_cons_zero, List.getElem?_cons_succ, Nx.pb_nm, Nx.pbs_nil, Nx.pbs_nm, List.set_cons_zero, List.set_cons_succ, if_true, if_false, Bool.false_eq_true, Bool.not_eq_true', decide_eq_true_eq, decide_eq_false_iff_not, Bool.not_eq_false', Nx.wipeR, Option.some.injEq, exists_eq_left', and_true, true_and, false_imp_iff, true_imp_iff, Bool.true_eq_false, eq_self_iff_true])
  rw [ok_pLst (by simp), ok_pLst (by simp)]
  have a0 : Ag (At f) S (S ++ [Ob.lst []] ++ [Ob.lst []]) := Ag.push.trans Ag.push
  have f0 : Fd (S ++ [Ob.lst []] ++ [Ob.lst []]) f := fd_push (fd_push h)
  have hD : (S ++ [Ob.lst []] ++ [Ob.lst []])[S.length]? = some (.lst []) := at_low at_push
  have hB : (S ++ [Ob.lst []] ++ [Ob.lst []])[S.length + 1]? = some (.lst []) := by have := at_push (S := S ++ [Ob.lst []]) (o := Ob.lst []); simpa using this
  have e1 : (S ++ [Ob.lst []]).length = S.length + 1 := by simp
  rw [e1]
  generalize S ++ [Ob.lst []] ++ [Ob.lst []] = S0 at a0 f0 hD hB ⊢
  refine ⟨_, rg_start (by omega), ?_⟩
  refine for_rg (a := long) (fun i ρ S' => (∃ dv u6 u7 u8 u9, ρ = [some (.ref f), some (.int k), some (.int 4), some (.int long), some dv, some (.ref (S.length + 1)), u6, u7, u8, u9] ∧ ∃ es, LstI (OwnB (At f) (S.length + 1)) S' dv (nds [] es) ∧ (nds [] es).length ≤ i ∧ ∃ vs, S'[S.length + 1]? = some (.lst vs) ∧ F2 (EvAt (OwnB (At f) (S.length + 1)) S') vs es ∧ es.length ≤ i ∧ ValidM k [] es) ∧ Ag (At f) S S' ∧ Fd S' f) (by simp [fuel]; omega) ?_ ?_
    ⟨⟨_, _, _, _, _, rfl, [], ⟨_, rfl, fun z => by rcases z with z | z; exact absurd z (show ¬ S.length = f by omega); omega, hD⟩, by simp [nds], [], hB, .nil, by simp, trivial⟩, a0, f0⟩
  · rintro i ρ S' hi ⟨⟨dv, u6, u7, u8, u9, rfl, es, hd, hdl, vs, hB', fs, hl, hv⟩, a, fd⟩
    have lB : S.length + 1 < S'.length := (List.getElem?_eq_some_iff.mp hB').1
    have lf := fd_lt fd
    have lo : Lo (OwnB (At f) (S.length + 1)) S' := fun j hj z => by
      rcases z with z | z
      · have : j = f := z; omega
      · omega
    refine ⟨_, pb_nm, ?_⟩
    rw [oks_cons, x_asg]
    (simp only [Nx.oks_cons, Nx.oks_nil, Nx.x_ite, Nx.x_asg, Nx.x_par, Nx.x_expr, Nx.x_ret, Nx.x_for, Nx.x_setf, Nx.e_ite, Nx.e_and, Nx.e_or, Nx.e_chain, Nx.e_mc, Nx.e_cst, Nx.e_pn, Nx.es_nil, Nx.es_cons, Nx.es_star, Nx.e_lc,
  Nx.e_var, Nx.ok_val, Nx.ok_pv1, Nx.ok_pv2, Nx.ok_pNot, Nx.bl_ex, Nx.ref_ex,
  List.map_cons, List.map_nil, List.cons_append, List.nil_append, List.append_nil, List.replicate_succ, List.replicate_zero, Nat.reduceSub, Nat.reduceAdd, List.getElem?_cons_zero, List.getElem?_cons_succ, Nx.pb_nm, Nx.pbs_nil, Nx.pbs_nm, List.set_cons_zero, List.set_cons_succ, if_true, if_false, Bool.false_eq_true, Bool.not_eq_true', decide_eq_true_eq, decide_eq_false_iff_not, Bool.not_eq_false', Nx.wipeR, Option.some.injEq, exists_eq_left', and_true, true_and, false_imp_iff, true_imp_iff, Bool.true_eq_false, eq_self_iff_true])
    refine sp_events (LstI.se hd) lo hk fun ne es' S1 hne a1 h1 l1 c1 => ?_
    have fd1 := fd.ag a1 id
    rw [ok_pLst (by simp)]
    have h1' := h1.ag (Ag.push (P := OwnB (At f) (S.length + 1)) (o := Ob.lst []))
    refine (gE (gEq_noEv h1' at_push)).mpr ?_
    (simp only [Nx.oks_cons, Nx.oks_nil, Nx.x_ite, Nx.x_asg, Nx.x_par, Nx.x_expr, Nx.x_ret, Nx.x_for, Nx.x_setf, Nx.e_ite, Nx.e_and, Nx.e_or, Nx.e_chain, Nx.e_mc, Nx.e_cst, Nx.e_pn, Nx.es_nil, Nx.es_cons, Nx.es_star, Nx.e_lc,
  Nx.e_var, Nx.ok_val, Nx.ok_pv1, Nx.ok_pv2, Nx.ok_pNot, Nx.bl_ex, Nx.ref_ex,
  List.map_cons, List.map_nil, List.cons_append, List.nil_append, List.append_nil, List.replicate_succ, List.replicate_zero, Nat.reduceSub, Nat.reduceAdd, List.getElem?_cons_zero, List.getElem?_cons_succ, Nx.pb_nm, Nx.pbs_nil, Nx.pbs_nm, List.set_cons_zero, List.set_cons_succ, if_true, if_false, Bool.false_eq_true, Bool.not_eq_true', decide_eq_true_eq, decide_eq_false_iff_not, Bool.not_eq_false', Nx.wipeR, Option.some.injEq, exists_eq_left', and_true, true_and, false_imp_iff, true_imp_iff, Bool.true_eq_false, eq_self_iff_true])
    have a1' : Ag NoP S' (S1 ++ [Ob.lst []]) := a1.trans Ag.push
    have fd1' : Fd (S1 ++ [Ob.lst []]) f := fd_push fd1
    generalize S1 ++ [Ob.lst []] = S2 at h1' a1' fd1' ⊢
    have hd2 := hd.ag (a1'.any (P := OwnB (At f) (S.length + 1)))
    have hB2 := a1'.at_ _ _ id hB'
    have fs2 := F2.evag fs (a1'.any (P := OwnB (At f) (S.length + 1)))
    refine ⟨fun hnn => ?_, fun _ => ⟨⟨_, _, _, _, _, rfl, es, hd2, by omega, vs, hB2, fs2, by omega, hv⟩, a.trans a1'.any, fd1'⟩⟩
    have h1'' := h1'
    obtain ⟨nn, vs', e', hnn', hx', fs'⟩ := h1''
    cases e'
    have lv' : vs'.length = es'.length := fs'.len
    have pos : 0 < es'.length := List.length_pos_iff.mpr hnn
    refine sp_pick fd1' (fun z => hnn' (.inl z)) hx' (by omega) (by omega) fun v S3 hvv a3 fd3 => ?_
    obtain ⟨e, he, hev⟩ := F2.mem fs' hvv
    have sub : ∀ j, At f j → OwnB (At f) (S.length + 1) j := fun j z => .inl z
    have hev3 := hev.ag (a3.mono sub)
    have hd3 := hd2.ag (a3.mono sub)
    have fs3 := F2.evag fs2 (a3.mono sub)
    have hB3 := a3.at_ _ _ (show ¬ S.length + 1 = f by omega) hB2
    have lvs : vs.length = es.length := fs.len
    refine ⟨isLst_at hB3, ?_⟩
    rw [ok_append hB3 (by omega)]
    have aset : Ag (OwnB (At f) (S.length + 1)) S3 (S3.set (S.length + 1) (.lst (vs ++ [v]))) := Ag.set (.inr rfl)
    have hB4 : (S3.set (S.length + 1) (.lst (vs ++ [v])))[S.length + 1]? = some (.lst (vs ++ [v])) := at_set hB3
    have fd4 : Fd (S3.set (S.length + 1) (.lst (vs ++ [v]))) f := by
      obtain ⟨c, d, e, r⟩ := fd3
      exact ⟨c, d, at_ne e (by omega), r⟩
    have a4 : Ag (At f) S (S3.set (S.length + 1) (.lst (vs ++ [v]))) := ((a.trans a1'.any).trans a3).setHi (by omega)
    have hd4 := hd3.ag aset
    have hev4 := hev3.ag aset
    have fs4 := F2.evag (fs3.snoc hev3) aset
    generalize S3.set (S.length + 1) (.lst (vs ++ [v])) = S4 at hB4 fd4 a4 hd4 hev4 fs4 ⊢
    have hcc := c1 e he
    have lf4 := fd_lt fd4
    have lB4 : S.length + 1 < S4.length := (List.getElem?_eq_some_iff.mp hB4).1
    have hvm : ValidM k [] (es ++ [e]) := by rw [validM_app]; exact ⟨hv, hcc, trivial⟩
    refine lc_but (x0 := e.2) hd4 (by omega) rfl (fun w => rfl) (fun y S5 a5 => ?_) fun S5 a5 h5 => ?_
    · (simp only [Nx.oks_cons, Nx.oks_nil, Nx.x_ite, Nx.x_asg, Nx.x_par, Nx.x_expr, Nx.x_ret, Nx.x_for, Nx.x_setf, Nx.e_ite, Nx.e_and, Nx.e_or, Nx.e_chain, Nx.e_mc, Nx.e_cst, Nx.e_pn, Nx.es_nil, Nx.es_cons, Nx.es_star, Nx.e_lc,
  Nx.e_var, Nx.ok_val, Nx.ok_pv1, Nx.ok_pv2, Nx.ok_pNot, Nx.bl_ex, Nx.ref_ex,
  List.map_cons, List.map_nil, List.cons_append, List.nil_append, List.append_nil, List.replicate_succ, List.replicate_zero, Nat.reduceSub, Nat.reduceAdd, List.getElem?_cons_zero, List.getElem?_cons_succ, Nx.pb_nm, Nx.pbs_nil, Nx.pbs_nm, List.set_cons_zero, List.set_cons_succ, if_true, if_false, Bool.false_eq_true, Bool.not_eq_true', decide_eq_true_eq, decide_eq_false_iff_not, Bool.not_eq_false', Nx.wipeR, Option.some.injEq, exists_eq_left', and_true, true_and, false_imp_iff, true_imp_iff, Bool.true_eq_false, eq_self_iff_true])
      refine (gE (ev_ix1 (hev4.ag a5.any))).mpr ((gE gEq_int).mpr ?_)
      simp
    · have hev5 := hev4.ag (a5.any (P := OwnB (At f) (S.length + 1)))
      have hB5 := a5.at_ _ _ id hB4
      have fs5 := F2.evag fs4 (a5.any (P := OwnB (At f) (S.length + 1)))
      have fd5 := fd4.ag a5 id
      have fl : ((nds [] es).filter fun x => x ≠ e.2).length ≤ i := Nat.le_trans (List.length_filter_le _ _) hdl
      have nS4 : ¬ OwnB (At f) (S.length + 1) S4.length := fun z => by
        rcases z with z | z
        · have : S4.length = f := z; omega
        · omega
      refine (gE (ev_ix0 hev5)).mpr ((gE (gEq_str (word_ok _) (by decide +kernel))).mpr ?_)
      (simp only [Nx.oks_cons, Nx.oks_nil, Nx.x_ite, Nx.x_asg, Nx.x_par, Nx.x_expr, Nx.x_ret, Nx.x_for, Nx.x_setf, Nx.e_ite, Nx.e_and, Nx.e_or, Nx.e_chain, Nx.e_mc, Nx.e_cst, Nx.e_pn, Nx.es_nil, Nx.es_cons, Nx.es_star, Nx.e_lc,
  Nx.e_var, Nx.ok_val, Nx.ok_pv1, Nx.ok_pv2, Nx.ok_pNot, Nx.bl_ex, Nx.ref_ex,
  List.map_cons, List.map_nil, List.cons_append, List.nil_append, List.append_nil, List.replicate_succ, List.replicate_zero, Nat.reduceSub, Nat.reduceAdd, List.getElem?_cons_zero, List.getElem?_cons_succ, Nx.pb_nm, Nx.pbs_nil, Nx.pbs_nm, List.set_cons_zero, List.set_cons_succ, if_true, if_false, Bool.false_eq_true, Bool.not_eq_true', decide_eq_true_eq, decide_eq_false_iff_not, Bool.not_eq_false', Nx.wipeR, Option.some.injEq, exists_eq_left', and_true, true_and, false_imp_iff, true_imp_iff, Bool.true_eq_false, eq_self_iff_true])
      refine ⟨fun hw => ?_, fun hw => ?_⟩
      · have ht := (word_eq _).mp hw
        refine (gE (ev_ix1 hev5)).mpr ?_
        rw [ok_pLst (by simp), ok_addL (at_low h5) at_push (by simp at fl ⊢; omega)]
        have e0 : nds [] (es ++ [e]) = (nds [] es).filter (fun x => x ≠ e.2) ++ [e.2] := by rw [nds_snoc]; simp [nd, ht]
        have a6 : Ag NoP S5 (S5 ++ [Ob.lst [V.int e.2]] ++ [Ob.lst (((nds [] es).filter fun x => x ≠ e.2).map V.int ++ [V.int e.2])]) := Ag.push.trans Ag.push
        refine ⟨⟨_, _, _, _, _, rfl, es ++ [e], ?_, by rw [e0]; simp at fl ⊢; omega, vs ++ [v], a6.at_ _ _ id hB5, F2.evag fs5 a6.any, by simp; omega, hvm⟩, (a4.trans a5.any).trans a6.any, fd5.ag a6 id⟩
        rw [e0]
        refine ⟨_, rfl, fun z => ?_, by rw [List.map_append]; exact at_push⟩
        have := a5.len
        rcases z with z | z
        · have : (S5 ++ [Ob.lst [V.int e.2]]).length = f := z; simp at this; omega
        · simp at z; omega
      · have ht : ¬ e.1 = true := fun z => hw ((word_eq _).mpr z)
        have e0 : nds [] (es ++ [e]) = (nds [] es).filter (fun x => x ≠ e.2) := by rw [nds_snoc]; simp [nd, ht]
        refine ⟨⟨_, _, _, _, _, rfl, es ++ [e], ?_, by rw [e0]; omega, vs ++ [v], hB5, fs5, by simp; omega, hvm⟩, a4.trans a5.any, fd5⟩
        rw [e0]
        exact ⟨_, rfl, nS4, h5⟩
  · rintro ρ S' ⟨⟨dv, u6, u7, u8, u9, rfl, es, hd, hdl, vs, hB', fs, hl, hv⟩, a, fd⟩
    (simp only [Nx.oks_cons, Nx.oks_nil, Nx.x_ite, Nx.x_asg, Nx.x_par, Nx.x_expr, Nx.x_ret, Nx.x_for, Nx.x_setf, Nx.e_ite, Nx.e_and, Nx.e_or, Nx.e_chain, Nx.e_mc, Nx.e_cst, Nx.e_pn, Nx.es_nil, Nx.es_cons, Nx.es_star, Nx.e_lc,
  Nx.e_var, Nx.ok_val, Nx.ok_pv1, Nx.ok_pv2, Nx.ok_pNot, Nx.bl_ex, Nx.ref_ex,
  List.map_cons, List.map_nil, List.cons_append, List.nil_append, List.append_nil, List.replicate_succ, List.replicate_zero, Nat.reduceSub, Nat.reduceAdd, List.getElem?_cons_zero, List.getElem?_cons_succ, Nx.pb_nm, Nx.pbs_nil, Nx.pbs_nm, List.set_cons_zero, List.set_cons_succ, if_true, if_false, Bool.false_eq_true, Bool.not_eq_true', decide_eq_true_eq, decide_eq_false_iff_not, Bool.not_eq_false', Nx.wipeR, Option.some.injEq, exists_eq_left', and_true, true_and, false_imp_iff, true_imp_iff, Bool.true_eq_false, eq_self_iff_true])
    exact q _ es S' (by omega) a fd ⟨_, vs, rfl, show ¬ S.length + 1 = f by omega, hB', fs.mono fun _ _ z => z.weak fun j z => .inl z⟩ hl hv
end Nx.Lk09

set_option Elab.async false
set_option linter.all false
set_option maxRecDepth 100000
set_option maxHeartbeats 1000000
set_option autoImplicit false
namespace Nx.Lk09
open PySem L2 Nx
variable {P P' : Nat → Prop} {S S' : Sto} {Q : V → Sto → Prop}
theorem sp_mixed {f : Nat} {tv : V} {things : List Int} (h : Fd S f) (ht : LstI (At f) S tv things) (hl : things.length < 100) (q : ∀ n S' o, S.length ≤ n → Ag (At f) S S' → Fd S' f → LstI (At f) S' (.ref n) o → o.Perm things → Q (.ref n) S') :
    Ok (d__law_mixed [.ref f, tv] S) Q := by
  have hf := fd_lt h
  obtain ⟨nt, rfl, hnt, hxt⟩ := ht
  (refine (Nx.ok_den (by rfl)).mpr ?_)
  unfold b__law_mixed
  (simp only [Nx.oks_cons, Nx.oks_nil, Nx.x_ite, Nx.x_asg, Nx.x_par, Nx.x_expr, Nx.x_ret, Nx.x_for, Nx.x_setf, Nx.e_ite, Nx.e_and, Nx.e_or, Nx.e_chain, Nx.e_mc, Nx.e_cst, Nx.e_pn, Nx.es_nil, Nx.es_cons, Nx.es_star, Nx.e_lc,
  Nx.e_var, Nx.ok_val, Nx.ok_pv1, Nx.ok_pv2, Nx.ok_pNot, Nx.bl_ex, Nx.ref_ex,
  List.map_cons, List.map_nil, List.cons_append, List.nil_append, List.append_nil, List.replicate_succ, List.replicate_zero, Nat.reduceSub, Nat.reduceAdd, List.getElem?_cons_zero, List.getElem?_cons_succ, Nx.pb_nm, Nx.pbs_nil, Nx.pbs_nm, List.set_cons_zero, List.set_cons_succ, if_true, if_false, Bool.false_eq_true, Bool.not_eq_true', decide_eq_true_eq, decide_eq_false_iff_not, Bool.not_eq_false', Nx.wipeR, Option.some.injEq, exists_eq_left', and_true, true_and, false_imp_iff, true_imp_iff, Bool.true_eq_false, eq_self_iff_true])
  rw [ok_listOf (vs := things.map V.int) (by simp [seqOf, hxt]), ok_pLst (by simp)]
  have hA : Ag (At f) S (S ++ [Ob.lst (things.map V.int)] ++ [Ob.lst []]) := Ag.push.trans Ag.push
  have hx1 : (S ++ [Ob.lst (things.map V.int)] ++ [Ob.lst []])[S.length]? = some (.lst (things.map V.int)) := at_low at_push
  have hx2 : (S ++ [Ob.lst (things.map V.int)] ++ [Ob.lst []])[S.length + 1]? = some (.lst []) := by have := at_push (S := S ++ [Ob.lst (things.map V.int)]) (o := Ob.lst []); simpa using this
  have hl2 : (S ++ [Ob.lst (things.map V.int)]).length = S.length + 1 := by simp
  rw [hl2]
  have hF : Fd (S ++ [Ob.lst (things.map V.int)] ++ [Ob.lst []]) f := fd_push (fd_push h)
  generalize S ++ [Ob.lst (things.map V.int)] ++ [Ob.lst []] = S2 at hA hx1 hx2 hF ⊢
  first | rw [pLen_lst hx1, List.length_map] | rw [gE (gL_lst hx1), List.length_map]
  refine ⟨_, rg_start (by omega), ?_⟩
  refine for_rg (a := things.length) (fun i ρ S' => (∃ u, ρ = [some (.ref f), some (.ref nt), some (.ref S.length), some (.ref (S.length + 1)), u]) ∧ Ag (At f) S S' ∧ Fd S' f ∧ ∃ xs fs : List Int, S'[S.length]? = some (.lst (xs.map V.int)) ∧ S'[S.length + 1]? = some (.lst (fs.map V.int)) ∧ (xs ++ fs).Perm things ∧ fs.length = i) (by simp [fuel]; omega) ?_ ?_ ?_
  · rintro i ρ S' hi ⟨⟨u, rfl⟩, a, fd, xs, fs, hx, hy, pm, hl'⟩
    refine ⟨_, pb_nm, ?_⟩
    have lk : xs.length + fs.length = things.length := by have := pm.length_eq; simpa using this
    (simp only [Nx.oks_cons, Nx.oks_nil, Nx.x_ite, Nx.x_asg, Nx.x_par, Nx.x_expr, Nx.x_ret, Nx.x_for, Nx.x_setf, Nx.e_ite, Nx.e_and, Nx.e_or, Nx.e_chain, Nx.e_mc, Nx.e_cst, Nx.e_pn, Nx.es_nil, Nx.es_cons, Nx.es_star, Nx.e_lc,
  Nx.e_var, Nx.ok_val, Nx.ok_pv1, Nx.ok_pv2, Nx.ok_pNot, Nx.bl_ex, Nx.ref_ex,
  List.map_cons, List.map_nil, List.cons_append, List.nil_append, List.append_nil, List.replicate_succ, List.replicate_zero, Nat.reduceSub, Nat.reduceAdd, List.getElem?_cons_zero, List.getElem?_cons_succ, Nx.pb_nm, Nx.pbs_nil, Nx.pbs_nm, List.set_cons_zero, List.set_cons_succ, if_true, if_false, Bool.false_eq_true, Bool.not_eq_true', decide_eq_true_eq, decide_eq_false_iff_not, Bool.not_eq_false', Nx.wipeR, Option.some.injEq, exists_eq_left', and_true, true_and, false_imp_iff, true_imp_iff, Bool.true_eq_false, eq_self_iff_true])
    refine ⟨isLst_at hy, isLst_at hx, ?_⟩
    rw [gE (gL_lst hx)]
    refine sp_take fd (by simp; omega) (by simp; omega) fun r2 S4 s0 s1 a4 f4 => ?_
    have hx4 := a4.at_ _ _ (show ¬ S.length = f by omega) hx
    have hy4 := a4.at_ _ _ (show ¬ S.length + 1 = f by omega) hy
    simp only [List.length_map] at s1
    rw [ok_popAt hx4 s0 (by simpa using s1) (by simp; omega)]
    have hy5 : (S4.set S.length (.lst ((xs.map V.int).eraseIdx r2.toNat)))[S.length + 1]? = some (.lst (fs.map V.int)) := at_ne hy4 (by omega)
    have hx5 : (S4.set S.length (.lst ((xs.map V.int).eraseIdx r2.toNat)))[S.length]? = some (.lst ((xs.map V.int).eraseIdx r2.toNat)) := at_set hx4
    rw [ok_append hy5 (by simp; omega)]
    have hr : r2.toNat < xs.length := by omega
    refine ⟨⟨_, rfl⟩, ((a.trans a4).setHi (Nat.le_refl _)).setHi (by omega), ?_, xs.eraseIdx r2.toNat, fs ++ [xs[r2.toNat]], ?_, ?_, perm_pop pm hr, by simp [hl']⟩
    · obtain ⟨c, d, e, r⟩ := f4
      exact ⟨c, d, at_ne (at_ne e (by omega)) (by omega), r⟩
    · rw [at_ne hx5 (by omega), erase_map]
    · rw [at_set hy5]; simp
  · rintro ρ S' ⟨⟨u, rfl⟩, a, fd, xs, fs, hx, hy, pm, hl'⟩
    (simp only [Nx.oks_cons, Nx.oks_nil, Nx.x_ite, Nx.x_asg, Nx.x_par, Nx.x_expr, Nx.x_ret, Nx.x_for, Nx.x_setf, Nx.e_ite, Nx.e_and, Nx.e_or, Nx.e_chain, Nx.e_mc, Nx.e_cst, Nx.e_pn, Nx.es_nil, Nx.es_cons, Nx.es_star, Nx.e_lc,
  Nx.e_var, Nx.ok_val, Nx.ok_pv1, Nx.ok_pv2, Nx.ok_pNot, Nx.bl_ex, Nx.ref_ex,
  List.map_cons, List.map_nil, List.cons_append, List.nil_append, List.append_nil, List.replicate_succ, List.replicate_zero, Nat.reduceSub, Nat.reduceAdd, List.getElem?_cons_zero, List.getElem?_cons_succ, Nx.pb_nm, Nx.pbs_nil, Nx.pbs_nm, List.set_cons_zero, List.set_cons_succ, if_true, if_false, Bool.false_eq_true, Bool.not_eq_true', decide_eq_true_eq, decide_eq_false_iff_not, Bool.not_eq_false', Nx.wipeR, Option.some.injEq, exists_eq_left', and_true, true_and, false_imp_iff, true_imp_iff, Bool.true_eq_false, eq_self_iff_true])
    have lk : xs.length + fs.length = things.length := by have := pm.length_eq; simpa using this
    have xe : xs = [] := List.length_eq_zero_iff.mp (by omega)
    subst xe
    exact q _ _ fs (by omega) a fd ⟨_, rfl, show ¬ S.length + 1 = f by omega, hy⟩ (by simpa using pm)
  · exact ⟨⟨_, rfl⟩, hA, hF, things, [], hx1, hx2, by simp, rfl⟩
/-! ### the law's look at the rules -/
theorem fl_head : ∀ (o down : List Int), fl o down = ((o.filter fun m => m ∉ down).head?).getD (-1)
  | [], _ => rfl
  | m :: r, down => by
    unfold fl
    by_cases h : m ∈ down
    · rw [if_pos h, fl_head r down]; simp [h]
    · simp [h]
theorem sp_first {o d : V} {order down : List Int} (ho : TupI P S o order) (hs : order.length < 64) (hd : SeI P S d down) (q : ∀ S', Ag NoP S S' → Q (.int (fl order down)) S') : Ok (d__law_first [o, d] S) Q := by
  obtain ⟨n, rfl, hn, hx⟩ := ho
  (refine (Nx.ok_den (by rfl)).mpr ?_)
  unfold b__law_first
  (simp only [Nx.oks_cons, Nx.oks_nil, Nx.x_ite, Nx.x_asg, Nx.x_par, Nx.x_expr, Nx.x_ret, Nx.x_for, Nx.x_setf, Nx.e_ite, Nx.e_and, Nx.e_or, Nx.e_chain, Nx.e_mc, Nx.e_cst, Nx.e_pn, Nx.es_nil, Nx.es_cons, Nx.es_star, Nx.e_lc,
  Nx.e_var, Nx.ok_val, Nx.ok_pv1, Nx.ok_pv2, Nx.ok_pNot, Nx.bl_ex, Nx.ref_ex,
  List.map_cons, List.map_nil, List.cons_append, List.nil_append, List.append_nil, List.replicate_succ, List.replicate_zero, Nat.reduceSub, Nat.reduceAdd, List.getElem?_cons_zero, List.getElem?_cons_succ, Nx.pb_nm, Nx.pbs_nil, Nx.pbs_nm, List.set_cons_zero, List.set_cons_succ, if_true, if_false, Bool.false_eq_true, Bool.not_eq_true', decide_eq_true_eq, decide_eq_false_iff_not, Bool.not_eq_false', Nx.wipeR, Option.some.injEq, exists_eq_left', and_true, true_and, false_imp_iff, true_imp_iff, Bool.true_eq_false, eq_self_iff_true])
  refine ⟨_, it_start (k := false) hx, ?_⟩
  refine lc_sq (vs := order.map V.int) (fun i acc S' => Ag NoP S S' ∧ acc = ((order.take i).filter fun x => x ∉ down).map V.int) (by simp [fuel]; omega) ?_ ?_ ?_ ⟨Ag.push, by simp⟩ at_push
  · rintro i acc S' ⟨a, rfl⟩
    refine ⟨a.at_ _ _ id hx, ?_⟩
    rw [List.length_map]
    exact Nat.le_trans (List.length_filter_le _ _) (by simp; omega)
  · rintro i acc S' x hx' ⟨a, rfl⟩ hm'
    obtain ⟨y, hy, rfl⟩ := get_int hx'
    refine ⟨_, pb_nm, ?_⟩
    unfold Lc
    (simp only [Nx.oks_cons, Nx.oks_nil, Nx.x_ite, Nx.x_asg, Nx.x_par, Nx.x_expr, Nx.x_ret, Nx.x_for, Nx.x_setf, Nx.e_ite, Nx.e_and, Nx.e_or, Nx.e_chain, Nx.e_mc, Nx.e_cst, Nx.e_pn, Nx.es_nil, Nx.es_cons, Nx.es_star, Nx.e_lc,
  Nx.e_var, Nx.ok_val, Nx.ok_pv1, Nx.ok_pv2, Nx.ok_pNot, Nx.bl_ex, Nx.ref_ex,
  List.map_cons, List.map_nil, List.cons_append, List.nil_append, List.append_nil, List.replicate_succ, List.replicate_zero, Nat.reduceSub, Nat.reduceAdd, List.getElem?_cons_zero, List.getElem?_cons_succ, Nx.pb_nm, Nx.pbs_nil, Nx.pbs_nm, List.set_cons_zero, List.set_cons_succ, if_true, if_false, Bool.false_eq_true, Bool.not_eq_true', decide_eq_true_eq, decide_eq_false_iff_not, Bool.not_eq_false', Nx.wipeR, Option.some.injEq, exists_eq_left', and_true, true_and, false_imp_iff, true_imp_iff, Bool.true_eq_false, eq_self_iff_true])
    refine (gE (gIn_ints (hd.ag (a.any (P := P))).seq)).mpr ?_
    rw [filter_snoc hy]
    by_cases c : y ∈ down
    · exact .inl ⟨by simp [c], hm', a, by simp [c]⟩
    · exact .inr ⟨by simp [c], hm', a.setHi (Nat.le_refl _), by simp [c]⟩
  · rintro acc S' ⟨a, rfl⟩ hm'
    rw [List.length_map, List.take_length] at hm'
    rw [ok_pLst (by simp)]
    have g1 : LstI NoP (S' ++ [Ob.lst []]) (.ref S.length) (order.filter fun x => x ∉ down) := ⟨_, rfl, id, at_low hm'⟩
    have g2 : LstI NoP (S' ++ [Ob.lst []]) (.ref S'.length) [] := ⟨_, rfl, id, at_push⟩
    refine (gE (gEq_lints g1 g2)).mpr ?_
    (simp only [Nx.oks_cons, Nx.oks_nil, Nx.x_ite, Nx.x_asg, Nx.x_par, Nx.x_expr, Nx.x_ret, Nx.x_for, Nx.x_setf, Nx.e_ite, Nx.e_and, Nx.e_or, Nx.e_chain, Nx.e_mc, Nx.e_cst, Nx.e_pn, Nx.es_nil, Nx.es_cons, Nx.es_star, Nx.e_lc,
  Nx.e_var, Nx.ok_val, Nx.ok_pv1, Nx.ok_pv2, Nx.ok_pNot, Nx.bl_ex, Nx.ref_ex,
  List.map_cons, List.map_nil, List.cons_append, List.nil_append, List.append_nil, List.replicate_succ, List.replicate_zero, Nat.reduceSub, Nat.reduceAdd, List.getElem?_cons_zero, List.getElem?_cons_succ, Nx.pb_nm, Nx.pbs_nil, Nx.pbs_nm, List.set_cons_zero, List.set_cons_succ, if_true, if_false, Bool.false_eq_true, Bool.not_eq_true', decide_eq_true_eq, decide_eq_false_iff_not, Bool.not_eq_false', Nx.wipeR, Option.some.injEq, exists_eq_left', and_true, true_and, false_imp_iff, true_imp_iff, Bool.true_eq_false, eq_self_iff_true])
    have q' := q (S' ++ [Ob.lst []]) (a.trans Ag.push)
    rw [fl_head] at q'
    refine ⟨fun hne => ?_, fun he => ?_⟩
    · cases hc : order.filter (fun x => x ∉ down) with
      | nil => exact absurd hc hne
      | cons c r =>
        rw [hc] at q' g1
        exact (gE (gIx_seq (LstI.seq g1) (v := .int c) atI0)).mpr q'
    · have e1 : gNeg (.int 1) (S' ++ [Ob.lst []]) = some (.int (-1)) := rfl
      refine (gE e1).mpr ?_
      rw [he] at q'
      exact q'
end Nx.Lk09

set_option Elab.async false
set_option linter.all false
set_option maxRecDepth 100000
set_option maxHeartbeats 1000000
set_option autoImplicit false
namespace Nx.Lk09
open PySem L2 Nx
variable {P P' : Nat → Prop} {S S' : Sto} {Q : V → Sto → Prop}
structure RH (s : Srv) (c : Int) (down : List Int) : Prop where
  r1 : c ≠ -1 → c ∈ s.ord ∧ c ∉ down
  r2 : c = -1 ↔ fl s.ord down = -1
  r3 : s.rule = ("first" : Str) → c = fl s.ord down
  r4 : s.rule = ("home" : Str) → ∀ m, s.ord.head? = some m → m ∉ down → c = m
theorem neg1 : gNeg (.int 1) S = some (.int (-1)) := rfl
theorem sp_rules_hold {sv pv : V} {ss : List Srv} {p : List Int × List Int} (hs : SvsAt P S sv ss) (hp : Pic P S pv p) (hl : ss.length < 64) (hn : ss.length = p.2.length) (hg : ∀ s ∈ ss, Good s) (hne : ∀ s ∈ ss, s.ord ≠ [])
    (hr : ∀ (i : Nat) (s : Srv) (c : Int), ss[i]? = some s → p.2[i]? = some c → RH s c p.1) (q : ∀ S', Ag NoP S S' → Q (.bl true) S') : Ok (d__law_rules_hold [sv, pv] S) Q := by
  obtain ⟨n, d, ps, rfl, hn1, hx, hd, hps⟩ := hp
  obtain ⟨m, vs, rfl, hm, hxm, fs⟩ := hs
  obtain ⟨np, rfl, hnp, hxp⟩ := hps
  have lv : vs.length = ss.length := fs.len
  (refine (Nx.ok_den (by rfl)).mpr ?_)
  unfold b__law_rules_hold
  rw [oks_cons, x_asg]
  (simp only [Nx.oks_cons, Nx.oks_nil, Nx.x_ite, Nx.x_asg, Nx.x_par, Nx.x_expr, Nx.x_ret, Nx.x_for, Nx.x_setf, Nx.e_ite, Nx.e_and, Nx.e_or, Nx.e_chain, Nx.e_mc, Nx.e_cst, Nx.e_pn, Nx.es_nil, Nx.es_cons, Nx.es_star, Nx.e_lc,
  Nx.e_var, Nx.ok_val, Nx.ok_pv1, Nx.ok_pv2, Nx.ok_pNot, Nx.bl_ex, Nx.ref_ex,
  List.map_cons, List.map_nil, List.cons_append, List.nil_append, List.append_nil, List.replicate_succ, List.replicate_zero, Nat.reduceSub, Nat.reduceAdd, List.getElem?_cons_zero, List.getElem?_cons_succ, Nx.pb_nm, Nx.pbs_nil, Nx.pbs_nm, List.set_cons_zero, List.set_cons_succ, if_true, if_false, Bool.false_eq_true, Bool.not_eq_true', decide_eq_true_eq, decide_eq_false_iff_not, Bool.not_eq_false', Nx.wipeR, Option.some.injEq, exists_eq_left', and_true, true_and, false_imp_iff, true_imp_iff, Bool.true_eq_false, eq_self_iff_true])
  rw [pb_tup hx]
  (simp only [Nx.oks_cons, Nx.oks_nil, Nx.x_ite, Nx.x_asg, Nx.x_par, Nx.x_expr, Nx.x_ret, Nx.x_for, Nx.x_setf, Nx.e_ite, Nx.e_and, Nx.e_or, Nx.e_chain, Nx.e_mc, Nx.e_cst, Nx.e_pn, Nx.es_nil, Nx.es_cons, Nx.es_star, Nx.e_lc,
  Nx.e_var, Nx.ok_val, Nx.ok_pv1, Nx.ok_pv2, Nx.ok_pNot, Nx.bl_ex, Nx.ref_ex,
  List.map_cons, List.map_nil, List.cons_append, List.nil_append, List.append_nil, List.replicate_succ, List.replicate_zero, Nat.reduceSub, Nat.reduceAdd, List.getElem?_cons_zero, List.getElem?_cons_succ, Nx.pb_nm, Nx.pbs_nil, Nx.pbs_nm, List.set_cons_zero, List.set_cons_succ, if_true, if_false, Bool.false_eq_true, Bool.not_eq_true', decide_eq_true_eq, decide_eq_false_iff_not, Bool.not_eq_false', Nx.wipeR, Option.some.injEq, exists_eq_left', and_true, true_and, false_imp_iff, true_imp_iff, Bool.true_eq_false, eq_self_iff_true])
  refine ⟨_, z_start (k := true) (l := false) (us := p.2.map V.int) hxm hxp, ?_⟩
  refine for_z (k := true) (l := false) (vs := vs) (us := p.2.map V.int) (fun i ρ S' => (∃ u4 u5 u6 u7, ρ = [some (.ref m), some (.ref n), some d, some (.ref np), u4, u5, u6, u7]) ∧ Ag NoP S S') (by simp [fuel]; omega) (by simp; omega) ?_ ?_ ?_ ⟨⟨_, _, _, _, rfl⟩, Ag.refl⟩
  · rintro i ρ S' ⟨_, a⟩
    exact ⟨a.at_ _ _ id hxm, a.at_ _ _ id hxp⟩
  · rintro i ρ S' x y hxi hyi ⟨⟨u4, u5, u6, u7, rfl⟩, a⟩
    obtain ⟨c, hc, rfl⟩ := get_int hyi
    obtain ⟨s, hsi⟩ : ∃ s, ss[i]? = some s := ⟨ss[i]'(by have := (List.getElem?_eq_some_iff.mp hxi).1; omega), List.getElem?_eq_getElem _⟩
    obtain ⟨y', hy', sy⟩ := fs.get hsi
    rw [hxi] at hy'; cases hy'
    have a1 : Ag NoP S (S' ++ [.tpl [x, .int c]]) := a.trans Ag.push
    obtain ⟨k1, o, rfl, hk1, hxk, ho⟩ := sy.ag (a1.any (P := P))
    have rh := hr i s c hsi hc
    have hd1 := hd.ag (a1.any (P := P))
    have gd := hg s (List.mem_of_getElem? hsi)
    refine ⟨_, by rw [pb_tpl at_push, pbs_tp (by rw [pb_tup hxk, pbs_nm, pbs_nm, pbs_nm, pbs_nil]), pbs_nm, pbs_nil], ?_⟩
    generalize S' ++ [Ob.tpl [V.ref k1, V.int c]] = S1 at a1 hxk ho hd1 ⊢
    rw [oks_cons]
    refine OkS.mono (N := fun ρ' S2 => ρ' = [some (.ref m), some (.ref n), some d, some (.ref np), some (.int s.w), some o, some (.str s.rule), some (.int c)] ∧ S2 = S1) (R := Q) ?_ (fun ρ' S2 h => ?_) (fun _ _ h => h)
    · (simp only [Nx.oks_cons, Nx.oks_nil, Nx.x_ite, Nx.x_asg, Nx.x_par, Nx.x_expr, Nx.x_ret, Nx.x_for, Nx.x_setf, Nx.e_ite, Nx.e_and, Nx.e_or, Nx.e_chain, Nx.e_mc, Nx.e_cst, Nx.e_pn, Nx.es_nil, Nx.es_cons, Nx.es_star, Nx.e_lc,
  Nx.e_var, Nx.ok_val, Nx.ok_pv1, Nx.ok_pv2, Nx.ok_pNot, Nx.bl_ex, Nx.ref_ex,
  List.map_cons, List.map_nil, List.cons_append, List.nil_append, List.append_nil, List.replicate_succ, List.replicate_zero, Nat.reduceSub, Nat.reduceAdd, List.getElem?_cons_zero, List.getElem?_cons_succ, Nx.pb_nm, Nx.pbs_nil, Nx.pbs_nm, List.set_cons_zero, List.set_cons_succ, if_true, if_false, Bool.false_eq_true, Bool.not_eq_true', decide_eq_true_eq, decide_eq_false_iff_not, Bool.not_eq_false', Nx.wipeR, Option.some.injEq, exists_eq_left', and_true, true_and, false_imp_iff, true_imp_iff, Bool.true_eq_false, eq_self_iff_true])
      refine (gE neg1).mpr ((gE gEq_int).mpr ?_)
      (simp only [Nx.oks_cons, Nx.oks_nil, Nx.x_ite, Nx.x_asg, Nx.x_par, Nx.x_expr, Nx.x_ret, Nx.x_for, Nx.x_setf, Nx.e_ite, Nx.e_and, Nx.e_or, Nx.e_chain, Nx.e_mc, Nx.e_cst, Nx.e_pn, Nx.es_nil, Nx.es_cons, Nx.es_star, Nx.e_lc,
  Nx.e_var, Nx.ok_val, Nx.ok_pv1, Nx.ok_pv2, Nx.ok_pNot, Nx.bl_ex, Nx.ref_ex,
  List.map_cons, List.map_nil, List.cons_append, List.nil_append, List.append_nil, List.replicate_succ, List.replicate_zero, Nat.reduceSub, Nat.reduceAdd, List.getElem?_cons_zero, List.getElem?_cons_succ, Nx.pb_nm, Nx.pbs_nil, Nx.pbs_nm, List.set_cons_zero, List.set_cons_succ, if_true, if_false, Bool.false_eq_true, Bool.not_eq_true', decide_eq_true_eq, decide_eq_false_iff_not, Bool.not_eq_false', Nx.wipeR, Option.some.injEq, exists_eq_left', and_true, true_and, false_imp_iff, true_imp_iff, Bool.true_eq_false, eq_self_iff_true])
      refine ⟨fun h1 => (gE (gIn_ints ho.seq)).mpr ?_, fun _ => by simp⟩
      (simp only [Nx.oks_cons, Nx.oks_nil, Nx.x_ite, Nx.x_asg, Nx.x_par, Nx.x_expr, Nx.x_ret, Nx.x_for, Nx.x_setf, Nx.e_ite, Nx.e_and, Nx.e_or, Nx.e_chain, Nx.e_mc, Nx.e_cst, Nx.e_pn, Nx.es_nil, Nx.es_cons, Nx.es_star, Nx.e_lc,
  Nx.e_var, Nx.ok_val, Nx.ok_pv1, Nx.ok_pv2, Nx.ok_pNot, Nx.bl_ex, Nx.ref_ex,
  List.map_cons, List.map_nil, List.cons_append, List.nil_append, List.append_nil, List.replicate_succ, List.replicate_zero, Nat.reduceSub, Nat.reduceAdd, List.getElem?_cons_zero, List.getElem?_cons_succ, Nx.pb_nm, Nx.pbs_nil, Nx.pbs_nm, List.set_cons_zero, List.set_cons_succ, if_true, if_false, Bool.false_eq_true, Bool.not_eq_true', decide_eq_true_eq, decide_eq_false_iff_not, Bool.not_eq_false', Nx.wipeR, Option.some.injEq, exists_eq_left', and_true, true_and, false_imp_iff, true_imp_iff, Bool.true_eq_false, eq_self_iff_true])
      obtain ⟨r1, r2⟩ := rh.r1 h1
      refine ⟨fun z => absurd r1 z, fun _ => (gE (gIn_ints hd1.seq)).mpr ?_⟩
      (simp only [Nx.oks_cons, Nx.oks_nil, Nx.x_ite, Nx.x_asg, Nx.x_par, Nx.x_expr, Nx.x_ret, Nx.x_for, Nx.x_setf, Nx.e_ite, Nx.e_and, Nx.e_or, Nx.e_chain, Nx.e_mc, Nx.e_cst, Nx.e_pn, Nx.es_nil, Nx.es_cons, Nx.es_star, Nx.e_lc,
  Nx.e_var, Nx.ok_val, Nx.ok_pv1, Nx.ok_pv2, Nx.ok_pNot, Nx.bl_ex, Nx.ref_ex,
  List.map_cons, List.map_nil, List.cons_append, List.nil_append, List.append_nil, List.replicate_succ, List.replicate_zero, Nat.reduceSub, Nat.reduceAdd, List.getElem?_cons_zero, List.getElem?_cons_succ, Nx.pb_nm, Nx.pbs_nil, Nx.pbs_nm, List.set_cons_zero, List.set_cons_succ, if_true, if_false, Bool.false_eq_true, Bool.not_eq_true', decide_eq_true_eq, decide_eq_false_iff_not, Bool.not_eq_false', Nx.wipeR, Option.some.injEq, exists_eq_left', and_true, true_and, false_imp_iff, true_imp_iff, Bool.true_eq_false, eq_self_iff_true])
      exact ⟨fun z => absurd z r2, fun _ => by simp⟩
    · obtain ⟨rfl, rfl⟩ := h
      rw [oks_cons]
      refine OkS.mono (N := fun ρ' S3 => ρ' = [some (.ref m), some (.ref n), some d, some (.ref np), some (.int s.w), some o, some (.str s.rule), some (.int c)] ∧ Ag NoP S2 S3) (R := Q) ?_ (fun ρ' S3 h => ?_) (fun _ _ h => h)
      · (simp only [Nx.oks_cons, Nx.oks_nil, Nx.x_ite, Nx.x_asg, Nx.x_par, Nx.x_expr, Nx.x_ret, Nx.x_for, Nx.x_setf, Nx.e_ite, Nx.e_and, Nx.e_or, Nx.e_chain, Nx.e_mc, Nx.e_cst, Nx.e_pn, Nx.es_nil, Nx.es_cons, Nx.es_star, Nx.e_lc,
  Nx.e_var, Nx.ok_val, Nx.ok_pv1, Nx.ok_pv2, Nx.ok_pNot, Nx.bl_ex, Nx.ref_ex,
  List.map_cons, List.map_nil, List.cons_append, List.nil_append, List.append_nil, List.replicate_succ, List.replicate_zero, Nat.reduceSub, Nat.reduceAdd, List.getElem?_cons_zero, List.getElem?_cons_succ, Nx.pb_nm, Nx.pbs_nil, Nx.pbs_nm, List.set_cons_zero, List.set_cons_succ, if_true, if_false, Bool.false_eq_true, Bool.not_eq_true', decide_eq_true_eq, decide_eq_false_iff_not, Bool.not_eq_false', Nx.wipeR, Option.some.injEq, exists_eq_left', and_true, true_and, false_imp_iff, true_imp_iff, Bool.true_eq_false, eq_self_iff_true])
        refine (gE neg1).mpr ((gE gEq_int).mpr ?_)
        refine sp_first ho gd.2 (TupI.se hd1) fun S3 a3 => ?_
        refine (gE neg1).mpr ((gE gEq_int).mpr ((gE gEq_bl).mpr ?_))
        have e : decide (c = -1) = decide (fl s.ord p.1 = -1) := by simp [rh.r2]
        simp [e]
        exact a3
      · obtain ⟨rfl, a3⟩ := h
        have ho3 := ho.ag (a3.any (P := P))
        have hd3 := hd1.ag (a3.any (P := P))
        rw [oks_cons]
        refine OkS.mono (N := fun ρ' S4 => ρ' = [some (.ref m), some (.ref n), some d, some (.ref np), some (.int s.w), some o, some (.str s.rule), some (.int c)] ∧ Ag NoP S3 S4) (R := Q) ?_ (fun ρ' S4 h => ?_) (fun _ _ h => h)
        · (simp only [Nx.oks_cons, Nx.oks_nil, Nx.x_ite, Nx.x_asg, Nx.x_par, Nx.x_expr, Nx.x_ret, Nx.x_for, Nx.x_setf, Nx.e_ite, Nx.e_and, Nx.e_or, Nx.e_chain, Nx.e_mc, Nx.e_cst, Nx.e_pn, Nx.es_nil, Nx.es_cons, Nx.es_star, Nx.e_lc,
  Nx.e_var, Nx.ok_val, Nx.ok_pv1, Nx.ok_pv2, Nx.ok_pNot, Nx.bl_ex, Nx.ref_ex,
  List.map_cons, List.map_nil, List.cons_append, List.nil_append, List.append_nil, List.replicate_succ, List.replicate_zero, Nat.reduceSub, Nat.reduceAdd, List.getElem?_cons_zero, List.getElem?_cons_succ, Nx.pb_nm, Nx.pbs_nil, Nx.pbs_nm, List.set_cons_zero, List.set_cons_succ, if_true, if_false, Bool.false_eq_true, Bool.not_eq_true', decide_eq_true_eq, decide_eq_false_iff_not, Bool.not_eq_false', Nx.wipeR, Option.some.injEq, exists_eq_left', and_true, true_and, false_imp_iff, true_imp_iff, Bool.true_eq_false, eq_self_iff_true])
          refine (gE (gEq_str gd.1 (by decide +kernel))).mpr ?_
          (simp only [Nx.oks_cons, Nx.oks_nil, Nx.x_ite, Nx.x_asg, Nx.x_par, Nx.x_expr, Nx.x_ret, Nx.x_for, Nx.x_setf, Nx.e_ite, Nx.e_and, Nx.e_or, Nx.e_chain, Nx.e_mc, Nx.e_cst, Nx.e_pn, Nx.es_nil, Nx.es_cons, Nx.es_star, Nx.e_lc,
  Nx.e_var, Nx.ok_val, Nx.ok_pv1, Nx.ok_pv2, Nx.ok_pNot, Nx.bl_ex, Nx.ref_ex,
  List.map_cons, List.map_nil, List.cons_append, List.nil_append, List.append_nil, List.replicate_succ, List.replicate_zero, Nat.reduceSub, Nat.reduceAdd, List.getElem?_cons_zero, List.getElem?_cons_succ, Nx.pb_nm, Nx.pbs_nil, Nx.pbs_nm, List.set_cons_zero, List.set_cons_succ, if_true, if_false, Bool.false_eq_true, Bool.not_eq_true', decide_eq_true_eq, decide_eq_false_iff_not, Bool.not_eq_false', Nx.wipeR, Option.some.injEq, exists_eq_left', and_true, true_and, false_imp_iff, true_imp_iff, Bool.true_eq_false, eq_self_iff_true])
          refine ⟨fun hf => ?_, fun _ => by simp [Ag.refl]⟩
          refine sp_first ho3 gd.2 (TupI.se hd3) fun S4 a4 => (gE gEq_int).mpr ?_
          have e := rh.r3 hf
          simp [e]
          exact a4
        · obtain ⟨rfl, a4⟩ := h
          have ho4 := ho3.ag (a4.any (P := P))
          have hd4 := hd3.ag (a4.any (P := P))
          have fin : (∃ u4 u5 u6 u7, ([some (.ref m), some (.ref n), some d, some (.ref np), some (.int s.w), some o, some (.str s.rule), some (.int c)] : Rho) = [some (.ref m), some (.ref n), some d, some (.ref np), u4, u5, u6, u7]) ∧ Ag NoP S S4 := ⟨⟨_, _, _, _, rfl⟩, (a1.trans a3).trans a4⟩
          (simp only [Nx.oks_cons, Nx.oks_nil, Nx.x_ite, Nx.x_asg, Nx.x_par, Nx.x_expr, Nx.x_ret, Nx.x_for, Nx.x_setf, Nx.e_ite, Nx.e_and, Nx.e_or, Nx.e_chain, Nx.e_mc, Nx.e_cst, Nx.e_pn, Nx.es_nil, Nx.es_cons, Nx.es_star, Nx.e_lc,
  Nx.e_var, Nx.ok_val, Nx.ok_pv1, Nx.ok_pv2, Nx.ok_pNot, Nx.bl_ex, Nx.ref_ex,
  List.map_cons, List.map_nil, List.cons_append, List.nil_append, List.append_nil, List.replicate_succ, List.replicate_zero, Nat.reduceSub, Nat.reduceAdd, List.getElem?_cons_zero, List.getElem?_cons_succ, Nx.pb_nm, Nx.pbs_nil, Nx.pbs_nm, List.set_cons_zero, List.set_cons_succ, if_true, if_false, Bool.false_eq_true, Bool.not_eq_true', decide_eq_true_eq, decide_eq_false_iff_not, Bool.not_eq_false', Nx.wipeR, Option.some.injEq, exists_eq_left', and_true, true_and, false_imp_iff, true_imp_iff, Bool.true_eq_false, eq_self_iff_true])
          refine (gE (gEq_str gd.1 (by decide +kernel))).mpr ?_
          (simp only [Nx.oks_cons, Nx.oks_nil, Nx.x_ite, Nx.x_asg, Nx.x_par, Nx.x_expr, Nx.x_ret, Nx.x_for, Nx.x_setf, Nx.e_ite, Nx.e_and, Nx.e_or, Nx.e_chain, Nx.e_mc, Nx.e_cst, Nx.e_pn, Nx.es_nil, Nx.es_cons, Nx.es_star, Nx.e_lc,
  Nx.e_var, Nx.ok_val, Nx.ok_pv1, Nx.ok_pv2, Nx.ok_pNot, Nx.bl_ex, Nx.ref_ex,
  List.map_cons, List.map_nil, List.cons_append, List.nil_append, List.append_nil, List.replicate_succ, List.replicate_zero, Nat.reduceSub, Nat.reduceAdd, List.getElem?_cons_zero, List.getElem?_cons_succ, Nx.pb_nm, Nx.pbs_nil, Nx.pbs_nm, List.set_cons_zero, List.set_cons_succ, if_true, if_false, Bool.false_eq_true, Bool.not_eq_true', decide_eq_true_eq, decide_eq_false_iff_not, Bool.not_eq_false', Nx.wipeR, Option.some.injEq, exists_eq_left', and_true, true_and, false_imp_iff, true_imp_iff, Bool.true_eq_false, eq_self_iff_true])
          refine ⟨fun hh => ?_, fun _ => fin⟩
          cases ho' : s.ord with
          | nil => exact absurd ho' (hne s (List.mem_of_getElem? hsi))
          | cons b r =>
            have e0 : gIx o (.int 0) S4 = some (.int b) := gIx_seq ho4.seq (by rw [ho']; exact atI0)
            refine (gE e0).mpr ((gE (gIn_ints hd4.seq)).mpr ?_)
            (simp only [Nx.oks_cons, Nx.oks_nil, Nx.x_ite, Nx.x_asg, Nx.x_par, Nx.x_expr, Nx.x_ret, Nx.x_for, Nx.x_setf, Nx.e_ite, Nx.e_and, Nx.e_or, Nx.e_chain, Nx.e_mc, Nx.e_cst, Nx.e_pn, Nx.es_nil, Nx.es_cons, Nx.es_star, Nx.e_lc,
  Nx.e_var, Nx.ok_val, Nx.ok_pv1, Nx.ok_pv2, Nx.ok_pNot, Nx.bl_ex, Nx.ref_ex,
  List.map_cons, List.map_nil, List.cons_append, List.nil_append, List.append_nil, List.replicate_succ, List.replicate_zero, Nat.reduceSub, Nat.reduceAdd, List.getElem?_cons_zero, List.getElem?_cons_succ, Nx.pb_nm, Nx.pbs_nil, Nx.pbs_nm, List.set_cons_zero, List.set_cons_succ, if_true, if_false, Bool.false_eq_true, Bool.not_eq_true', decide_eq_true_eq, decide_eq_false_iff_not, Bool.not_eq_false', Nx.wipeR, Option.some.injEq, exists_eq_left', and_true, true_and, false_imp_iff, true_imp_iff, Bool.true_eq_false, eq_self_iff_true])
            refine ⟨fun hb => (gE e0).mpr ((gE gEq_int).mpr ?_), fun _ => fin⟩
            have e := rh.r4 hh b (by rw [ho']; rfl) hb
            (simp only [Nx.oks_cons, Nx.oks_nil, Nx.x_ite, Nx.x_asg, Nx.x_par, Nx.x_expr, Nx.x_ret, Nx.x_for, Nx.x_setf, Nx.e_ite, Nx.e_and, Nx.e_or, Nx.e_chain, Nx.e_mc, Nx.e_cst, Nx.e_pn, Nx.es_nil, Nx.es_cons, Nx.es_star, Nx.e_lc,
  Nx.e_var, Nx.ok_val, Nx.ok_pv1, Nx.ok_pv2, Nx.ok_pNot, Nx.bl_ex, Nx.ref_ex,
  List.map_cons, List.map_nil, List.cons_append, List.nil_append, List.append_nil, List.replicate_succ, List.replicate_zero, Nat.reduceSub, Nat.reduceAdd, List.getElem?_cons_zero, List.getElem?_cons_succ, Nx.pb_nm, Nx.pbs_nil, Nx.pbs_nm, List.set_cons_zero, List.set_cons_succ, if_true, if_false, Bool.false_eq_true, Bool.not_eq_true', decide_eq_true_eq, decide_eq_false_iff_not, Bool.not_eq_false', Nx.wipeR, Option.some.injEq, exists_eq_left', and_true, true_and, false_imp_iff, true_imp_iff, Bool.true_eq_false, eq_self_iff_true])
            exact ⟨fun z => absurd e z, fun _ => fin⟩
  · rintro ρ S' ⟨⟨u4, u5, u6, u7, rfl⟩, a⟩
    exact q S' a
end Nx.Lk09

set_option Elab.async false
set_option linter.all false
set_option maxRecDepth 100000
set_option maxHeartbeats 1000000
set_option autoImplicit false
namespace Nx.Lk09
open PySem L2 Nx
/-! ## What the law says, of lists and numbers -/
theorem fl_add : ∀ {o D D' : List Int} {b : Int}, (∀ x, x ∈ D' ↔ x ∈ D ∨ x = b) → fl o D ≠ b → fl o D' = fl o D
  | [], _, _, _, _, _ => rfl
  | m :: r, D, D', b, h, hn => by
    unfold fl at hn ⊢
    by_cases c : m ∈ D
    · rw [if_pos c] at hn
      rw [if_pos ((h m).mpr (.inl c)), if_pos c]
      exact fl_add h hn
    · rw [if_neg c] at hn
      rw [if_neg (fun z => ((h m).mp z).elim c hn), if_neg c]
theorem fl_congr : ∀ {o D D' : List Int}, (∀ x, x ∈ D' ↔ x ∈ D) → fl o D' = fl o D
  | [], _, _, _ => rfl
  | m :: r, D, D', h => by
    unfold fl
    by_cases c : m ∈ D
    · rw [if_pos ((h m).mpr c), if_pos c, fl_congr h]
    · rw [if_neg (fun z => c ((h m).mp z)), if_neg c]
theorem fl_out : ∀ {o D : List Int}, fl o D ≠ -1 → fl o D ∈ o ∧ fl o D ∉ D
  | [], _, h => absurd rfl h
  | m :: r, D, h => by
    unfold fl at h ⊢
    by_cases c : m ∈ D
    · rw [if_pos c] at h ⊢
      obtain ⟨h1, h2⟩ := fl_out h
      exact ⟨List.mem_cons_of_mem _ h1, h2⟩
    · rw [if_neg c]; exact ⟨List.mem_cons_self, c⟩
theorem fl_none : ∀ {o D : List Int}, (∀ m ∈ o, 0 ≤ m) → (fl o D = -1 ↔ ∀ m ∈ o, m ∈ D)
  | [], _, _ => by simp [fl]
  | m :: r, D, h => by
    have ih := fl_none (o := r) (D := D) fun x hx => h x (List.mem_cons_of_mem _ hx)
    unfold fl
    by_cases c : m ∈ D
    · rw [if_pos c, ih]; simp [c]
    · rw [if_neg c]
      have h0 := h m List.mem_cons_self
      constructor
      · intro z; omega
      · intro z; exact absurd (z m List.mem_cons_self) c
theorem idx_ne {x y : Int} {r : List Int} (h : x ≠ y) : (x :: r).idxOf y = r.idxOf y + 1 := by
  rw [List.idxOf_cons, beq_false_of_ne h]; rfl
theorem fl_rise : ∀ {o D D' : List Int} {m : Int}, (∀ x ∈ o, 0 ≤ x) → (∀ x, x ∈ D' ↔ x ∈ D ∧ x ≠ m) → m ∈ o → m ∈ D →
    fl o D' = if fl o D = -1 then m else if o.idxOf m < o.idxOf (fl o D) then m else fl o D
  | [], _, _, _, _, _, h, _ => by cases h
  | x :: r, D, D', m, hp, h, hm, hd => by
    have x0 := hp x List.mem_cons_self
    by_cases e : x = m
    · subst e
      have n1 : x ∉ D' := fun z => ((h x).mp z).2 rfl
      have l : fl (x :: r) D' = x := by unfold fl; rw [if_neg n1]
      rw [l]
      by_cases c : fl (x :: r) D = -1
      · rw [if_pos c]
      · have c2 := (fl_out c).2
        have ne : fl (x :: r) D ≠ x := fun z => c2 (by rw [z]; exact hd)
        rw [if_neg c, if_pos]
        rw [List.idxOf_cons_self, idx_ne (Ne.symm ne)]
        omega
    · have hm' : m ∈ r := by
        cases hm with
        | head => exact absurd rfl e
        | tail _ z => exact z
      by_cases c : x ∈ D
      · have c' : x ∈ D' := (h x).mpr ⟨c, e⟩
        have ih := fl_rise (o := r) (fun y hy => hp y (List.mem_cons_of_mem _ hy)) h hm' hd
        have l1 : fl (x :: r) D' = fl r D' := by rw [fl, if_pos c']
        have l2 : fl (x :: r) D = fl r D := by rw [fl, if_pos c]
        rw [l1, l2, ih]
        by_cases z : fl r D = -1
        · rw [if_pos z, if_pos z]
        · have ne : fl r D ≠ x := fun w => (fl_out z).2 (by rw [w]; exact c)
          rw [if_neg z, if_neg z, idx_ne e, idx_ne (Ne.symm ne)]
          simp only [Nat.add_lt_add_iff_right]
      · have c' : x ∉ D' := fun z => c ((h x).mp z).1
        have l1 : fl (x :: r) D' = x := by rw [fl, if_neg c']
        have l2 : fl (x :: r) D = x := by rw [fl, if_neg c]
        rw [l1, l2, if_neg (by omega), if_neg]
        rw [List.idxOf_cons_self]; omega
/-- an event keeps what the rules say -/
theorem RH.next {k : Nat} {s : Srv} {c : Int} {D D' : List Int} {e : Bool × Int} (h : RH s c D) (hc : CanCome k D e) (hp : ∀ m ∈ s.ord, 0 ≤ m) (hm : ∀ x, x ∈ D' ↔ (x ∈ D ∧ x ≠ e.2) ∨ (e.1 = true ∧ x = e.2)) : RH s (pl s c D' e) D' := by
  obtain ⟨b, m⟩ := e
  simp only at hm
  have m0 : 0 ≤ m := hc.1
  cases b
  · -- a rising
    have hd : m ∈ D := by simpa [CanCome] using hc.2.2
    have hm' : ∀ x, x ∈ D' ↔ x ∈ D ∧ x ≠ m := fun x => by rw [hm]; simp
    have sub : ∀ x, x ∉ D → x ∉ D' := fun x z w => z ((hm' x).mp w).1
    show RH s (pbr s c m) D'
    unfold pbr
    by_cases mo : m ∈ s.ord
    · rw [if_neg (by simpa using mo)]
      have fr := fl_rise hp hm' mo hd
      have n1 : m ∉ D' := fun z => ((hm' m).mp z).2 rfl
      have fne : fl s.ord D' ≠ -1 := by
        intro z
        exact n1 ((fl_none hp).mp z m mo)
      by_cases c1 : c = -1
      · rw [if_pos c1]
        have f1 := h.r2.mp c1
        rw [if_pos f1] at fr
        refine ⟨fun _ => ⟨mo, n1⟩, ⟨fun z => by omega, fun z => absurd z fne⟩, fun _ => fr.symm, fun hh y hy hn => ?_⟩
        by_cases ym : y = m
        · exact ym.symm
        · have yo : y ∈ s.ord := List.mem_of_mem_head? hy
          exact absurd ((hm' y).mpr ⟨(fl_none hp).mp f1 y yo, ym⟩) hn
      · rw [if_neg c1]
        have f1 : fl s.ord D ≠ -1 := fun z => c1 (h.r2.mpr z)
        rw [if_neg f1] at fr
        obtain ⟨co, cd⟩ := h.r1 c1
        by_cases c2 : s.rule = ("first" : Str) ∧ s.ord.idxOf m < s.ord.idxOf c
        · rw [if_pos c2]
          have e := h.r3 c2.1
          rw [← e, if_pos c2.2] at fr
          refine ⟨fun _ => ⟨mo, n1⟩, ⟨fun z => by omega, fun z => absurd z fne⟩, fun _ => fr.symm, fun hh => ?_⟩
          rw [c2.1] at hh; exact absurd hh (by decide +kernel)
        · rw [if_neg c2]
          by_cases c3 : s.rule = ("home" : Str) ∧ s.ord.head? = some m
          · rw [if_pos c3]
            refine ⟨fun _ => ⟨mo, n1⟩, ⟨fun z => by omega, fun z => absurd z fne⟩, fun hh => ?_, fun _ y hy _ => ?_⟩
            · rw [c3.1] at hh; exact absurd hh (by decide +kernel)
            · rw [c3.2] at hy; cases hy; rfl
          · rw [if_neg c3]
            refine ⟨fun _ => ⟨co, sub c cd⟩, ⟨fun z => absurd z c1, fun z => absurd z fne⟩, fun hh => ?_, fun hh y hy hn => ?_⟩
            · have e := h.r3 hh
              rw [← e, if_neg (fun z => c2 ⟨hh, z⟩)] at fr
              exact fr.symm
            · have ym : y ≠ m := fun z => c3 ⟨hh, by rw [← z]; exact hy⟩
              exact h.r4 hh y hy fun z => hn ((hm' y).mpr ⟨z, ym⟩)
    · rw [if_pos mo]
      have fe : fl s.ord D' = fl s.ord D := by
        have : ∀ (o : List Int), m ∉ o → fl o D' = fl o D := by
          intro o
          induction o with
          | nil => intro _; rfl
          | cons x r ih =>
            intro hx
            have hx' : m ≠ x ∧ m ∉ r := not_or.mp fun z => hx (List.mem_cons.mpr z)
            unfold fl
            by_cases c : x ∈ D
            · rw [if_pos ((hm' x).mpr ⟨c, fun z => hx'.1 z.symm⟩), if_pos c, ih hx'.2]
            · rw [if_neg (sub x c), if_neg c]
        exact this _ mo
      refine ⟨fun z => ⟨(h.r1 z).1, sub c (h.r1 z).2⟩, by rw [fe]; exact h.r2, fun hh => by rw [fe]; exact h.r3 hh, fun hh y hy hn => ?_⟩
      have yo : y ∈ s.ord := List.mem_of_mem_head? hy
      exact h.r4 hh y hy fun z => hn ((hm' y).mpr ⟨z, fun w => mo (by rw [← w]; exact yo)⟩)
  · -- a fall
    have hd : m ∉ D := by simpa [CanCome] using hc.2.2
    have hm' : ∀ x, x ∈ D' ↔ x ∈ D ∨ x = m := fun x => by
      rw [hm]
      by_cases z : x = m <;> simp [z]
    show RH s (if c = m then fl s.ord D' else c) D'
    by_cases c1 : c = m
    · rw [if_pos c1]
      refine ⟨fun z => fl_out z, Iff.rfl, fun _ => rfl, fun hh y hy hn => ?_⟩
      cases ho : s.ord with
      | nil => rw [ho] at hy; cases hy
      | cons x r =>
        rw [ho] at hy; cases hy
        rw [fl, if_neg hn]
    · rw [if_neg c1]
      by_cases c2 : c = -1
      · have f1 := h.r2.mp c2
        have f2 : fl s.ord D' = fl s.ord D := fl_add hm' (by omega)
        refine ⟨fun z => absurd c2 z, by rw [f2]; exact h.r2, fun hh => by rw [f2]; exact h.r3 hh, fun hh y hy hn => h.r4 hh y hy fun z => hn ((hm' y).mpr (.inl z))⟩
      · obtain ⟨co, cd⟩ := h.r1 c2
        have cn : c ∉ D' := fun z => ((hm' c).mp z).elim cd c1
        refine ⟨fun _ => ⟨co, cn⟩, ⟨fun z => absurd z c2, fun z => absurd ((fl_none hp).mp z c co) cn⟩, fun hh => ?_, fun hh y hy hn => h.r4 hh y hy fun z => hn ((hm' y).mpr (.inl z))⟩
        have e := h.r3 hh
        rw [fl_add hm' (by rw [← e]; exact c1)]; exact e
/-! ### from the beginning on -/
theorem rh_zero {s : Srv} (hn : s.ord ≠ []) : RH s (s.ord.headD (-1)) [] := by
  cases ho : s.ord with
  | nil => exact absurd ho hn
  | cons a r =>
    have f : fl s.ord [] = a := by rw [ho, fl, if_neg (by simp)]
    refine ⟨fun _ => ⟨by rw [ho]; simp, by simp⟩, by rw [f]; rfl, fun _ => f.symm, fun _ m hm _ => ?_⟩
    rw [ho] at hm; cases hm; rfl
def RHs (ss : List Srv) (p : List Int × List Int) : Prop := ∀ (i : Nat) (s : Srv) (c : Int), ss[i]? = some s → p.2[i]? = some c → RH s c p.1
theorem rhs_next {k : Nat} {ss : List Srv} {p : List Int × List Int} {e : Bool × Int} (h : RHs ss p) (hl : ss.length = p.2.length) (hc : CanCome k p.1 e) (hp : ∀ s ∈ ss, ∀ m ∈ s.ord, 0 ≤ m) : RHs ss (pb ss p e) := by
  intro i s c hs hcc
  have hi : i < p.2.length := by rw [← hl]; exact (List.getElem?_eq_some_iff.mp hs).1
  have e1 := pls_get ss p.2 (db p.1 e) e i s p.2[i] hs (List.getElem?_eq_getElem hi)
  rw [show (pb ss p e).2 = pls ss p.2 (db p.1 e) e from rfl, e1] at hcc
  cases hcc
  exact (h i s _ hs (List.getElem?_eq_getElem hi)).next hc (hp s (List.mem_of_getElem? hs)) fun x => mem_db
theorem rhs_all {k : Nat} {ss : List Srv} : ∀ (es : List (Bool × Int)) {p : List Int × List Int}, RHs ss p → ss.length = p.2.length → Valid k ss p es → (∀ s ∈ ss, ∀ m ∈ s.ord, 0 ≤ m) → RHs ss (pbs ss p es)
  | [], p, h, _, _, _ => h
  | e :: r, p, h, hl, v, hp => rhs_all r (rhs_next h hl v.1 hp) (pls_len _ _ _ _ hl).symm v.2 hp
theorem rhs_zero {ss : List Srv} (h : ∀ s ∈ ss, s.ord ≠ []) : RHs ss (pb0 ss) := by
  intro i s c hs hc
  simp only [pb0, List.getElem?_map, hs, Option.map_some, Option.some.injEq] at hc
  subst hc
  exact rh_zero (h s (List.mem_of_getElem? hs))
/-! ### falls in any order -/
theorem db_swap (d : List Int) (a b : Int) : db (db d (true, a)) (true, b) = db (db d (true, b)) (true, a) := by
  simp only [db, if_true]
  refine sorted_unique ?_ (sortI_sorted _) (sortI_sorted _)
  refine ((sortI_perm _).trans ((sortI_perm _).append_right _)).trans (List.Perm.trans ?_ ((sortI_perm _).trans ((sortI_perm _).append_right _)).symm)
  rw [List.append_assoc, List.append_assoc]
  exact List.Perm.append_left _ List.perm_append_comm
theorem pl_swap (s : Srv) (c : Int) (d : List Int) (a b : Int) : pl s (pl s c (db d (true, a)) (true, a)) (db (db d (true, a)) (true, b)) (true, b) = pl s (pl s c (db d (true, b)) (true, b)) (db (db d (true, b)) (true, a)) (true, a) := by
  have key : ∀ (c a b : Int), pl s (pl s c (db d (true, a)) (true, a)) (db (db d (true, a)) (true, b)) (true, b) = if c = a ∨ c = b then fl s.ord (db (db d (true, a)) (true, b)) else c := by
    intro c a b
    simp only [pl, if_true]
    by_cases h1 : c = a
    · rw [if_pos h1]
      by_cases h2 : fl s.ord (db d (true, a)) = b
      · rw [if_pos h2, if_pos (Or.inl h1)]
      · rw [if_neg h2, if_pos (Or.inl h1)]
        refine (fl_add (b := b) (fun x => ?_) h2).symm
        rw [mem_db]
        by_cases z : x = b <;> simp [z]
    · rw [if_neg h1]
      by_cases h2 : c = b
      · rw [if_pos h2, if_pos (Or.inr h2)]
      · rw [if_neg h2, if_neg (fun z => z.elim h1 h2)]
  rw [key, key, db_swap d b a]
  by_cases h : c = a ∨ c = b
  · rw [if_pos h, if_pos h.symm]
  · rw [if_neg h, if_neg (fun z => h z.symm)]
theorem pls_swap (d : List Int) (a b : Int) : ∀ (ss : List Srv) (ps : List Int), pls ss (pls ss ps (db d (true, a)) (true, a)) (db (db d (true, a)) (true, b)) (true, b) = pls ss (pls ss ps (db d (true, b)) (true, b)) (db (db d (true, b)) (true, a)) (true, a)
  | [], _ => by simp [pls]
  | s :: ss, [] => by simp [pls]
  | s :: ss, p :: ps => by
    simp only [pls]
    rw [pl_swap, pls_swap d a b ss ps]
theorem pb_swap (ss : List Srv) (p : List Int × List Int) (a b : Int) : pb ss (pb ss p (true, a)) (true, b) = pb ss (pb ss p (true, b)) (true, a) := by
  unfold pb
  exact Prod.ext (db_swap _ _ _) (pls_swap _ _ _ _ _)
def falls (o : List Int) : List (Bool × Int) := o.map fun m => (true, m)
theorem pbs_perm {ss : List Srv} {o o' : List Int} (h : o.Perm o') : ∀ p, pbs ss p (falls o) = pbs ss p (falls o') := by
  induction h with
  | nil => intro p; rfl
  | cons x _ ih => intro p; exact ih _
  | swap x y l => intro p; show pbs ss (pb ss (pb ss p (true, y)) (true, x)) (falls l) = pbs ss (pb ss (pb ss p (true, x)) (true, y)) (falls l); rw [pb_swap]
  | trans _ _ ih1 ih2 => intro p; rw [ih1, ih2]
theorem pbs_app (ss : List Srv) : ∀ (es fs : List (Bool × Int)) (p : List Int × List Int), pbs ss p (es ++ fs) = pbs ss (pbs ss p es) fs
  | [], _, _ => rfl
  | e :: r, fs, p => pbs_app ss r fs (pb ss p e)
theorem valid_falls {k : Nat} {ss : List Srv} : ∀ (o : List Int) (p : List Int × List Int), o.Nodup → (∀ m ∈ o, 0 ≤ m ∧ m < (k : Int) ∧ m ∉ p.1) → Valid k ss p (falls o)
  | [], _, _, _ => trivial
  | m :: r, p, nd, h => by
    have nd' := List.nodup_cons.mp nd
    have h0 := h m List.mem_cons_self
    refine ⟨⟨h0.1, h0.2.1, by simpa using h0.2.2⟩, valid_falls r (pb ss p (true, m)) nd'.2 fun x hx => ?_⟩
    have hx' := h x (List.mem_cons_of_mem _ hx)
    refine ⟨hx'.1, hx'.2.1, fun z => ?_⟩
    rcases (mem_db (down := p.1) (e := (true, m)) (m := x)).mp z with w | w
    · exact hx'.2.2 w.1
    · have w2 : x = m := w.2
      exact nd'.1 (by rw [← w2]; exact hx)
/-! ### loads -/
theorem wl_fall {m j : Int} (hj : m ≠ j) : ∀ (ss : List Srv) (ps : List Int) (d : List Int), (∀ s ∈ ss, 0 ≤ s.w) → (wl ss ps j).sum ≤ (wl ss (pls ss ps d (true, m)) j).sum
  | [], _, _, _ => by simp [wl]
  | s :: ss, [], _, _ => by simp [wl, pls]
  | s :: ss, p :: ps, d, h => by
    have ih := wl_fall hj ss ps d fun x hx => h x (List.mem_cons_of_mem _ hx)
    have h0 := h s List.mem_cons_self
    simp only [wl, pls]
    by_cases c : p = j
    · have e : pl s p d (true, m) = p := by simp only [pl, if_true]; rw [if_neg (by omega)]
      rw [e, if_pos c, if_pos c, List.sum_cons, List.sum_cons]
      omega
    · rw [if_neg c]
      split
      · rw [List.sum_cons]; omega
      · exact ih
theorem pbr_to (s : Srv) (p m : Int) : pbr s p m = p ∨ pbr s p m = m := by
  unfold pbr
  repeat' split
  all_goals first | exact .inl rfl | exact .inr rfl
theorem wl_rise {m j : Int} (hj : m ≠ j) : ∀ (ss : List Srv) (ps : List Int) (d : List Int), (∀ s ∈ ss, 0 ≤ s.w) → (wl ss (pls ss ps d (false, m)) j).sum ≤ (wl ss ps j).sum
  | [], _, _, _ => by simp [wl]
  | s :: ss, [], _, _ => by simp [wl, pls]
  | s :: ss, p :: ps, d, h => by
    have ih := wl_rise hj ss ps d fun x hx => h x (List.mem_cons_of_mem _ hx)
    have h0 := h s List.mem_cons_self
    have e : pl s p d (false, m) = pbr s p m := rfl
    simp only [wl, pls, e]
    by_cases c : pbr s p m = j
    · have : p = j := by
        rcases pbr_to s p m with z | z
        · rw [← z]; exact c
        · omega
      rw [if_pos c, if_pos this, List.sum_cons, List.sum_cons]
      omega
    · rw [if_neg c]
      split
      · rw [List.sum_cons]; omega
      · exact ih
end Nx.Lk09

set_option Elab.async false
set_option linter.all false
set_option maxRecDepth 100000
set_option maxHeartbeats 1000000
set_option autoImplicit false
namespace Nx
open PySem L2
theorem e_sl {f : V → Option Int → Option Int → Sto → M V} {o : Ex} {lo hi : Exs} {ρ : Rho} {S : Sto} {Q : V → Sto → Prop} : Ok (ev (.sl f o lo hi) ρ S) Q ↔ Ok (ev o ρ S) fun v S1 => Ok (evs lo ρ S1) fun l S2 => ∃ a, part l = some a ∧ Ok (evs hi ρ S2) fun h S3 => ∃ b, part h = some b ∧ Ok (f v a b S3) Q := by
  rw [ev, ok_bind]
  constructor
  · intro h
    refine h.mono fun v S1 h => ?_
    rw [ok_bind] at h
    refine h.mono fun l S2 q => ?_
    split at q
    · exact (ok_none.mp q).elim
    · rename_i a ha
      refine ⟨a, ha, ?_⟩
      rw [ok_bind] at q
      refine q.mono fun h S3 q => ?_
      split at q
      · exact (ok_none.mp q).elim
      · rename_i b hb; exact ⟨b, hb, q⟩
  · intro h
    refine h.mono fun v S1 h => ?_
    rw [ok_bind]
    refine h.mono fun l S2 q => ?_
    obtain ⟨a, ha, q⟩ := q
    rw [ha]
    show Ok (M.bind _ _) Q
    rw [ok_bind]
    refine q.mono fun h S3 q => ?_
    obtain ⟨b, hb, q⟩ := q
    rw [hb]; exact q
end Nx
namespace Nx.Lk09
open PySem L2 Nx
variable {P P' : Nat → Prop} {S S' : Sto} {Q : V → Sto → Prop}
def Scr (o : Ob) (xs : List Int) : Prop := o = .scr (xs.map V.int) ∨ o = .kon (xs.map V.int)
theorem scr_seq {o : Ob} {xs : List Int} (h : Scr o xs) (h0 : S[0]? = some o) : lstOf S (.ref 0) = some (xs.map V.int) ∧ tupOf S (.ref 0) = none ∧ seqOf S (.ref 0) = some (xs.map V.int) := by
  rcases h with rfl | rfl <;> simp [lstOf, tupOf, seqOf, h0]
theorem cut_ints (xs : List Int) (lo hi : Option Int) : ∃ ys : List Int, cutV (xs.map V.int) lo hi = ys.map V.int ∧ ys.length ≤ xs.length := by
  refine ⟨(xs.drop (HT.sIx xs.length 0 lo)).take (HT.sIx xs.length xs.length hi - HT.sIx xs.length 0 lo), ?_, ?_⟩
  · unfold cutV; simp
  · simp; omega
theorem abs_int {z : Int} : gAbs (.int z) S = some (.int (if z < 0 then -z else z)) := rfl
theorem pow18 : gPow (.int 10) (.int 18) S = some (.int 1000000000000000000) := by simp [gPow, gInt]
theorem sub_int {a b : Int} : gSub (.int a) (.int b) S = some (.int (a - b)) := rfl
theorem max_int {a b : Int} : gMax2 (.int a) (.int b) S = some (.int (if b > a then b else a)) := rfl
theorem mod_int {a b : Int} (h : 0 < b) : gMod (.int a) (.int b) S = some (.int (a % b)) := by unfold gMod gInt; simp [h]
theorem int1 {a : Int} : gInt1 (.int a) S = some (.int a) := rfl
theorem mul_int {a b : Int} (h : -18446744073709551616 < a ∧ a < 18446744073709551616) : Ok (pMul [.int a, .int b] S) Q ↔ Q (.int (a * b)) S := by
  unfold pMul
  show Ok (if (-(2 ^ 64) < a ∧ a < 2 ^ 64) ∨ (-(2 ^ 64) < b ∧ b < 2 ^ 64) then some (.val (.int (a * b)) S) else none) Q ↔ _
  rw [if_pos (.inl (by omega))]; exact ok_val
theorem sp_feed {o : Ob} {xs : List Int} {k : Nat} (ho : Scr o xs) (h0 : S[0]? = some o) (hl : xs.length ≤ 63) (hk : k < 100) (q : ∀ n S', S.length ≤ n → Ag NoP S S' → Fd S' n → Q (.ref n) S') : Ok (d__law_feed [.ref 0, .int k]  S) Q := by
  obtain ⟨l0, t0, s0⟩ := scr_seq ho h0
  (refine (Nx.ok_den (by rfl)).mpr ?_)
  unfold b__law_feed
  rw [oks_cons, x_asg]
  simp only [e_pn, es_cons, es_nil, e_sl, e_var, e_cst, List.map_cons, List.map_nil, List.cons_append, List.nil_append, List.replicate_succ, List.replicate_zero, Nat.reduceSub, Nat.reduceAdd, List.getElem?_cons_zero, List.getElem?_cons_succ, Option.some.injEq, exists_eq_left', ok_add, part, ok_pv2, ok_pv1, List.length_cons, List.length_nil]
  obtain ⟨ys, hy, ly⟩ := cut_ints xs (some (k : Int)) (some ((k : Int) + 1))
  have e1 : fSl (V.ref 0) (some (k : Int)) (some ((k : Int) + 1)) S = some (.val (.ref S.length) (S ++ [.lst (ys.map V.int)])) := by
    unfold fSl
    simp only [t0, l0, hy]
  rw [e1, ok_val, ok_listOf (vs := ys.map V.int) (by simp [seqOf, at_push]), mul_int (by decide), ok_add, ok_pLst (by simp)]
  have hL : (S ++ [Ob.lst (ys.map V.int)] ++ [Ob.lst (ys.map V.int)])[(S ++ [Ob.lst (ys.map V.int)]).length]? = some (.lst (ys.map V.int)) := at_push
  have a1 : Ag NoP S (S ++ [Ob.lst (ys.map V.int)] ++ [Ob.lst (ys.map V.int)]) := Ag.push.trans Ag.push
  generalize (S ++ [Ob.lst (ys.map V.int)]).length = n1 at hL ⊢
  generalize S ++ [Ob.lst (ys.map V.int)] ++ [Ob.lst (ys.map V.int)] = S1 at hL a1 ⊢
  rw [ok_addL (at_low hL) at_push (by simp; omega)]
  obtain ⟨z, hz⟩ : ∃ z : Int, atI (ys.map V.int ++ [V.int (71 * (k : Int) + 23)]) 0 = some (.int z) := by
    cases ys with
    | nil => exact ⟨_, atI0⟩
    | cons y r => exact ⟨y, atI0⟩
  refine (gE (gIx_seq (vs := ys.map V.int ++ [V.int (71 * (k : Int) + 23)]) (by simp [seqOf, at_push]) hz)).mpr ?_
  have a2 : Ag NoP S (S1 ++ [Ob.lst [V.int (71 * (k : Int) + 23)]] ++ [Ob.lst (ys.map V.int ++ [V.int (71 * (k : Int) + 23)])]) := (a1.trans Ag.push).trans Ag.push
  generalize S1 ++ [Ob.lst [V.int (71 * (k : Int) + 23)]] ++ [Ob.lst (ys.map V.int ++ [V.int (71 * (k : Int) + 23)])] = S2 at a2 ⊢
  refine ⟨_, pb_nm, ?_⟩
  (simp only [Nx.oks_cons, Nx.oks_nil, Nx.x_ite, Nx.x_asg, Nx.x_par, Nx.x_expr, Nx.x_ret, Nx.x_for, Nx.x_setf, Nx.e_ite, Nx.e_and, Nx.e_or, Nx.e_chain, Nx.e_mc, Nx.e_cst, Nx.e_pn, Nx.es_nil, Nx.es_cons, Nx.es_star, Nx.e_lc,
  Nx.e_var, Nx.ok_val, Nx.ok_pv1, Nx.ok_pv2, Nx.ok_pNot, Nx.bl_ex, Nx.ref_ex,
  List.map_cons, List.map_nil, List.cons_append, List.nil_append, List.append_nil, List.replicate_succ, List.replicate_zero, Nat.reduceSub, Nat.reduceAdd, List.getElem?_cons_zero, List.getElem?_cons_succ, Nx.pb_nm, Nx.pbs_nil, Nx.pbs_nm, List.set_cons_zero, List.set_cons_succ, if_true, if_false, Bool.false_eq_true, Bool.not_eq_true', decide_eq_true_eq, decide_eq_false_iff_not, Bool.not_eq_false', Nx.wipeR, Option.some.injEq, exists_eq_left', and_true, true_and, false_imp_iff, true_imp_iff, Bool.true_eq_false, eq_self_iff_true])
  refine (gE abs_int).mpr ((gE pow18).mpr ((gE sub_int).mpr ((gE max_int).mpr ?_)))
  refine (gE abs_int).mpr ((gE int1).mpr ((gE (mod_int (by decide))).mpr ?_))
  have zz : -18446744073709551616 < (if z < 0 then -z else z) % 1000003 ∧ (if z < 0 then -z else z) % 1000003 < 18446744073709551616 := by
    have h1 := Int.emod_nonneg (if z < 0 then -z else z) (show (1000003 : Int) ≠ 0 by decide)
    have h2 := Int.emod_lt_of_pos (if z < 0 then -z else z) (show (0 : Int) < 1000003 by decide)
    omega
  rw [mul_int zz, mul_int (by decide), ok_add, ok_add]
  refine (gE int1).mpr ((gE (mod_int (by decide))).mpr ?_)
  rw [ok_pLst (by simp)]
  refine q _ _ a2.len (a2.trans Ag.push) ⟨_, _, at_push, Int.emod_nonneg _ (by decide), ?_⟩
  exact Int.lt_trans (Int.emod_lt_of_pos _ (by decide)) (by decide)
end Nx.Lk09

set_option Elab.async false
set_option linter.all false
set_option maxRecDepth 100000
set_option maxHeartbeats 4000000
set_option autoImplicit false
namespace Nx.Lk09
open PySem L2 Nx
variable {P P' : Nat → Prop} {S S' : Sto} {Q : V → Sto → Prop}
theorem RnAt.keep {f n e k : Nat} {ss : List Srv} {p : List Int × List Int} (h : RnAt (Own (At f) n e) S n e k ss p) (a : Ag (At f) S S') (hn : n ≠ f) (he : e ≠ f) : RnAt (Own (At f) n e) S' n e k ss p := by
  obtain ⟨hv, pv, evs, hx, hxe, hl, hh, hp⟩ := h.ex
  have sub : ∀ i, At f i → Own (At f) n e i := fun i z => .inl z
  exact ⟨h.ne, h.pn, h.pe, hv, pv, evs, a.at_ _ _ hn hx, a.at_ _ _ he hxe, hl, hh.ag (a.mono sub), hp.ag (a.mono sub)⟩
theorem RnAt.agN {n e k : Nat} {ss : List Srv} {p : List Int × List Int} (h : RnAt P S n e k ss p) (a : Ag NoP S S') : RnAt P S' n e k ss p := by
  obtain ⟨hv, pv, evs, hx, hxe, hl, hh, hp⟩ := h.ex
  exact ⟨h.ne, h.pn, h.pe, hv, pv, evs, a.at_ _ _ id hx, a.at_ _ _ id hxe, hl, hh.ag a.any, hp.ag a.any⟩
theorem gGt_int {a b : Int} : gGt (.int a) (.int b) S = some (.bl (decide (b < a))) := rfl
theorem word_rise (b : Bool) : (word b = ("rise" : Str)) ↔ b = false := by cases b <;> decide +kernel
theorem min3 {n : Nat} : gMin2 (.int 3) (.int n) S = some (.int (if (n : Int) < 3 then n else 3)) := rfl
theorem pLen_scr {o : Ob} {xs : List Int} {c : Nat} {d : Prim} (ho : Scr o xs) (h0 : S[0]? = some o) : Ok (pLen c d [.ref 0] S) Q ↔ Q (.int xs.length) S := by
  have s0 := (scr_seq ho h0).2.2
  have e : gLen (.ref 0) S = some (.int xs.length) := by rw [gLen_at s0]; simp
  unfold pLen
  rcases ho with rfl | rfl <;> (simp only [h0]; rw [ok_pv1]; exact gE e)
theorem gL_scr {o : Ob} {xs : List Int} (ho : Scr o xs) (h0 : S[0]? = some o) : gLen (.ref 0) S = some (.int xs.length) := by
  rw [gLen_at (scr_seq ho h0).2.2]; simp
theorem _root_.Nx.Pic.offB {f B : Nat} {v : V} {p : List Int × List Int} {us : List V} (h : Pic P S v p) (hB : S[B]? = some (.lst us)) (sub : ∀ j, At f j → P j) : Pic (OwnB (At f) B) S v p := by
  obtain ⟨n, d, q, rfl, hn, hx, ⟨d1, rfl, hd, hxd⟩, ⟨q1, rfl, hq, hxq⟩⟩ := h
  have ok : ∀ i t, ¬ P i → S[i]? = some (.tup t) → ¬ OwnB (At f) B i := fun i t hi ht z => by
    rcases z with z | z
    · exact hi (sub i z)
    · rw [z, hB] at ht; cases ht
  exact ⟨n, _, _, rfl, ok _ _ hn hx, hx, ⟨d1, rfl, ok _ _ hd hxd, hxd⟩, ⟨q1, rfl, ok _ _ hq hxq, hxq⟩⟩
theorem HsAt.run {f n e k : Nat} {ss : List Srv} {v : V} (h : HsAt (At f) S v k ss) : True := trivial
theorem law_ok {o : Ob} {xs : List Int} (ho : Scr o xs) (hl : xs.length ≤ 63) : Ok (d_law [.ref 0] [o]) fun v _ => v = .bl true := by
  (refine (Nx.ok_den (by rfl)).mpr ?_)
  unfold b_law
  rw [oks_cons, x_for]
  simp only [e_pn, es_cons, es_nil, e_var, e_cst, List.map_cons, List.map_nil, List.cons_append, List.nil_append, List.replicate_succ, List.replicate_zero, Nat.reduceSub, Nat.reduceAdd, List.getElem?_cons_zero, List.getElem?_cons_succ, Option.some.injEq, exists_eq_left', ok_pv2, List.length_cons, List.length_nil]
  rw [ok_pv1]
  refine (gE (gL_scr ho (S := [o]) rfl)).mpr ?_
  refine (gE min3).mpr ((gE max_int).mpr ?_)
  obtain ⟨n, hn, n3⟩ : ∃ n : Nat, (n : Int) = (if (if (xs.length : Int) < 3 then (xs.length : Int) else 3) > 1 then (if (xs.length : Int) < 3 then (xs.length : Int) else 3) else 1) ∧ n ≤ 3 := by
    refine ⟨(if (if (xs.length : Int) < 3 then (xs.length : Int) else 3) > 1 then (if (xs.length : Int) < 3 then (xs.length : Int) else 3) else 1).toNat, ?_, ?_⟩ <;> (split <;> split <;> omega)
  rw [← hn]
  refine ⟨_, rg_start (by omega), ?_⟩
  refine for_rg (a := n) (fun i ρ S' => (∃ u1 u2 u3 u4 u5 u6 u7 u8 u9 u10 u11 u12 u13 u14 u15 u16 u17 u18, ρ = [some (.ref 0), u1, u2, u3, u4, u5, u6, u7, u8, u9, u10, u11, u12, u13, u14, u15, u16, u17, u18]) ∧ S'[0]? = some o) (by simp [fuel]; omega) ?_ ?_ ⟨⟨_, _, _, _, _, _, _, _, _, _, _, _, _, _, _, _, _, _, rfl⟩, rfl⟩
  · rintro i ρ S hi ⟨⟨u1, u2, u3, u4, u5, u6, u7, u8, u9, u10, u11, u12, u13, u14, u15, u16, u17, u18, rfl⟩, h0⟩
    refine ⟨_, pb_nm, ?_⟩
    have lS : 0 < S.length := (List.getElem?_eq_some_iff.mp h0).1
    rw [oks_cons, x_asg]
    (simp only [Nx.e_ite, Nx.e_and, Nx.e_or, Nx.e_chain, Nx.e_mc, Nx.e_cst, Nx.e_pn, Nx.es_nil, Nx.es_cons, Nx.es_star, Nx.e_lc,
  Nx.e_var, Nx.ok_pv1, Nx.ok_pv2, Nx.ok_pNot, Nx.bl_ex, Nx.ref_ex, List.set_cons_zero, List.set_cons_succ, Nx.wipeR, Option.some.injEq, exists_eq_left', List.getElem?_cons_zero, List.getElem?_cons_succ, Nx.pb_nm])
    refine sp_feed ho h0 hl (by omega) fun f S1 lf a1 fd1 => ?_
    rw [oks_cons, x_asg]
    (simp only [Nx.e_ite, Nx.e_and, Nx.e_or, Nx.e_chain, Nx.e_mc, Nx.e_cst, Nx.e_pn, Nx.es_nil, Nx.es_cons, Nx.es_star, Nx.e_lc,
  Nx.e_var, Nx.ok_pv1, Nx.ok_pv2, Nx.ok_pNot, Nx.bl_ex, Nx.ref_ex, List.set_cons_zero, List.set_cons_succ, Nx.wipeR, Option.some.injEq, exists_eq_left', List.getElem?_cons_zero, List.getElem?_cons_succ, Nx.pb_nm])
    refine sp_law_house fd1 fun S2 k sa sb sx ss a2 fd2 k1 k5 hsv lsb lsa hst hsx hsr hdr hss => ?_
    have l2 := a2.len
    have lf1 := fd_lt fd1
    refine ⟨_, by rw [pb_lst at_push, pbs_nm, pbs_nm, pbs_nil], ?_⟩
    have fd3 : Fd (S2 ++ [Ob.lst [V.ref sa, V.ref sb]]) f := fd_push fd2
    have hsv3 := hsv.ag (Ag.push (P := At f) (o := Ob.lst [V.ref sa, V.ref sb]))
    have hst3 := hst.ag (Ag.push (P := At f) (o := Ob.lst [V.ref sa, V.ref sb]))
    have a3 : Ag (At f) S (S2 ++ [Ob.lst [V.ref sa, V.ref sb]]) := (a1.any.trans a2).trans Ag.push
    generalize S2 ++ [Ob.lst [V.ref sa, V.ref sb]] = S3 at fd3 hsv3 hst3 a3 ⊢
    have lf3 := fd_lt fd3
    have lo3 : Lo (At f) S3 := fun j hj z => by have : j = f := z; omega
    rw [oks_cons, x_par]
    (simp only [Nx.e_ite, Nx.e_and, Nx.e_or, Nx.e_chain, Nx.e_mc, Nx.e_cst, Nx.e_pn, Nx.es_nil, Nx.es_cons, Nx.es_star, Nx.e_lc,
  Nx.e_var, Nx.ok_pv1, Nx.ok_pv2, Nx.ok_pNot, Nx.bl_ex, Nx.ref_ex, List.set_cons_zero, List.set_cons_succ, Nx.wipeR, Option.some.injEq, exists_eq_left', List.getElem?_cons_zero, List.getElem?_cons_succ, Nx.pb_nm])
    refine sp_newHouse hst3 hsv3 lo3 hsx k1 k5 hsr hdr hss fun hn S4 lhn a4 hh4 => ?_
    have hst4 := hst3.ag (a4.any (P := At f))
    have hsv4 := hsv3.ag (a4.any (P := At f))
    have fd4 := fd3.ag a4 id
    have a04 : Ag (At f) S S4 := a3.trans a4.any
    obtain ⟨tn, e5, htn, htx⟩ := id hst4
    cases e5
    first | rw [pLen_lst htx, List.length_map, hsx] | rw [gE (gL_lst htx), List.length_map, hsx]
    rw [oks_cons, x_asg]
    (simp only [Nx.e_ite, Nx.e_and, Nx.e_or, Nx.e_chain, Nx.e_mc, Nx.e_cst, Nx.e_pn, Nx.es_nil, Nx.es_cons, Nx.es_star, Nx.e_lc,
  Nx.e_var, Nx.ok_pv1, Nx.ok_pv2, Nx.ok_pNot, Nx.bl_ex, Nx.ref_ex, List.set_cons_zero, List.set_cons_succ, Nx.wipeR, Option.some.injEq, exists_eq_left', List.getElem?_cons_zero, List.getElem?_cons_succ, Nx.pb_nm])
    refine sp_take fd4 (by decide) (by decide) fun t S5 t0 t1 a5 fd5 => ?_
    obtain ⟨long, hlong⟩ : ∃ n : Nat, (n : Int) = t := ⟨t.toNat, by omega⟩
    rw [← hlong]
    refine sp_walk fd5 (by omega) (by omega) fun wn es S6 lwn a6 fd6 hi6 les vM => ?_
    have a46 : Ag (At f) S4 S6 := a5.trans a6
    have hh6 := hh4.ag a46
    have hsv6 := hsv4.ag a46
    have hgood : ∀ s ∈ ss, Good s := fun s hs => ⟨by rcases (hdr s hs).ru with z | z | z <;> rw [z] <;> decide +kernel, by have := (hdr s hs).ln; omega⟩
    have hne : ∀ s ∈ ss, s.ord ≠ [] := fun s hs => (hdr s hs).ne
    have hpos : ∀ s ∈ ss, ∀ m ∈ s.ord, 0 ≤ m := fun s hs m hm => ((hdr s hs).rg m hm).1
    have hw0 : ∀ s ∈ ss, 0 ≤ s.w := fun s hs => by have := (hdr s hs).w1; omega
    have va : Valid k ss (pb0 ss) es := valid_of es [] (pb0 ss) (fun m => by simp [pb0]) vM
    have lf6 := fd_lt fd6
    have lo6 : Lo (At f) S6 := fun j hj z => by have : j = f := z; omega
    rw [oks_cons, x_asg]
    (simp only [Nx.e_ite, Nx.e_and, Nx.e_or, Nx.e_chain, Nx.e_mc, Nx.e_cst, Nx.e_pn, Nx.es_nil, Nx.es_cons, Nx.es_star, Nx.e_lc,
  Nx.e_var, Nx.ok_pv1, Nx.ok_pv2, Nx.ok_pNot, Nx.bl_ex, Nx.ref_ex, List.set_cons_zero, List.set_cons_succ, Nx.wipeR, Option.some.injEq, exists_eq_left', List.getElem?_cons_zero, List.getElem?_cons_succ, Nx.pb_nm])
    refine sp_run_of hh6 hi6 lo6 (by omega) (by omega) (by omega) hgood hne va fun rn re S7 lrn lre a7 hr7 lo7 => ?_
    have fd7 := fd6.ag a7 id
    have a47 : Ag (At f) S4 S7 := a46.trans a7.any
    have hh7 := hh6.ag (a7.any (P := At f))
    have hi7 := hi6.ag (a7.any (P := At f))
    have hsv7 := hsv6.ag (a7.any (P := At f))
    rw [oks_cons, x_asg]
    (simp only [Nx.e_ite, Nx.e_and, Nx.e_or, Nx.e_chain, Nx.e_mc, Nx.e_cst, Nx.e_pn, Nx.es_nil, Nx.es_cons, Nx.es_star, Nx.e_lc,
  Nx.e_var, Nx.ok_pv1, Nx.ok_pv2, Nx.ok_pNot, Nx.bl_ex, Nx.ref_ex, List.set_cons_zero, List.set_cons_succ, Nx.wipeR, Option.some.injEq, exists_eq_left', List.getElem?_cons_zero, List.getElem?_cons_succ, Nx.pb_nm])
    refine sp_picture hr7 fun pv hpv => ?_
    obtain ⟨dv, edv, hdv0⟩ := pic_ix hpv
    refine (gE edv).mpr ?_
    have hdv : TupI (At f) S7 dv (pbs ss (pb0 ss) es).1 := hdv0.weak fun j z => .inl z
    rw [oks_cons, x_asg]
    (simp only [Nx.e_ite, Nx.e_and, Nx.e_or, Nx.e_chain, Nx.e_mc, Nx.e_cst, Nx.e_pn, Nx.es_nil, Nx.es_cons, Nx.es_star, Nx.e_lc,
  Nx.e_var, Nx.ok_pv1, Nx.ok_pv2, Nx.ok_pNot, Nx.bl_ex, Nx.ref_ex, List.set_cons_zero, List.set_cons_succ, Nx.wipeR, Option.some.injEq, exists_eq_left', List.getElem?_cons_zero, List.getElem?_cons_succ, Nx.pb_nm])
    refine ⟨_, rg_start (by omega), ?_⟩
    refine lc_rg (a := k) (fun i acc S' => Ag (At f) S7 S' ∧ Fd S' f ∧ ∃ ls : List Int, acc = ls.map V.int ∧ ls.length ≤ i ∧ ls.Nodup ∧ ∀ m ∈ ls, 0 ≤ m ∧ m < (i : Int) ∧ m ∉ (pbs ss (pb0 ss) es).1) (by simp [fuel]; omega) ?_ ?_ ?_ ⟨Ag.push, fd_push fd7, [], rfl, Nat.le_refl _, .nil, by simp⟩ at_push
    · rintro i acc S' ⟨_, _, ls, rfl, hx, _⟩
      simpa using hx
    · rintro i acc S' hi' ⟨b, fd', ls, rfl, hx, nd, hr⟩ hm
      refine ⟨_, pb_nm, ?_⟩
      unfold Lc
      (simp only [Nx.e_ite, Nx.e_and, Nx.e_or, Nx.e_chain, Nx.e_mc, Nx.e_cst, Nx.e_pn, Nx.es_nil, Nx.es_cons, Nx.es_star, Nx.e_lc,
  Nx.e_var, Nx.ok_pv1, Nx.ok_pv2, Nx.ok_pNot, Nx.bl_ex, Nx.ref_ex, List.set_cons_zero, List.set_cons_succ, Nx.wipeR, Option.some.injEq, exists_eq_left', List.getElem?_cons_zero, List.getElem?_cons_succ, Nx.pb_nm])
      refine (gE (gIn_ints (hdv.ag b).seq)).mpr ?_
      refine ⟨_, rfl, fun hc => ?_, fun hc => ?_⟩
      · refine sp_take fd' (by decide) (by decide) fun r S9 r0 r1 a9 fd9 => (gE gEq_int).mpr ?_
        have lf' := fd_lt fd'
        have nm : S7.length ≠ f := by have := fd_lt fd7; omega
        have hm9 := a9.at_ _ _ (show ¬ S7.length = f from nm) hm
        by_cases c : r = 0
        · refine .inr ⟨by simp [c], hm9, (b.trans a9).setHi (Nat.le_refl _), ?_, ls ++ [(i : Int)], by simp, by simp; omega, ?_, ?_⟩
          · obtain ⟨x, y, e, rr⟩ := fd9
            exact ⟨x, y, at_ne e nm, rr⟩
          · refine List.nodup_append.mpr ⟨nd, by simp, ?_⟩
            intro x hx' y hy e
            simp only [List.mem_singleton] at hy
            have := (hr x hx').2.1
            omega
          · intro m hm'
            rcases List.mem_append.mp hm' with z | z
            · have := hr m z; exact ⟨this.1, by omega, this.2.2⟩
            · simp only [List.mem_singleton] at z
              subst z
              exact ⟨by omega, by omega, by simpa using hc⟩
        · exact .inl ⟨by simp [c], hm9, b.trans a9, fd9, ls, rfl, by omega, nd, fun m hm' => by have := hr m hm'; exact ⟨this.1, by omega, this.2.2⟩⟩
      · exact .inl ⟨by simp, hm, b, fd', ls, rfl, by omega, nd, fun m hm' => by have := hr m hm'; exact ⟨this.1, by omega, this.2.2⟩⟩
    · rintro acc S8 ⟨a8, fd8, ls, rfl, hxl, nd, hlr⟩ hm8
      have lf7 := fd_lt fd7
      have lf8 := fd_lt fd8
      have hls8 : LstI (At f) S8 (.ref S7.length) ls := ⟨_, rfl, show ¬ S7.length = f by omega, hm8⟩
      have a48 : Ag (At f) S4 S8 := a47.trans a8
      have hh8 := hh7.ag a8
      have hi8 := hi7.ag a8
      have hsv8 := hsv7.ag a8
      have hdv8 := hdv.ag a8
      have hr8 := hr7.keep a8 (by omega) (by omega)
      rw [oks_cons, x_asg]
      (simp only [Nx.e_ite, Nx.e_and, Nx.e_or, Nx.e_chain, Nx.e_mc, Nx.e_cst, Nx.e_pn, Nx.es_nil, Nx.es_cons, Nx.es_star, Nx.e_lc,
  Nx.e_var, Nx.ok_pv1, Nx.ok_pv2, Nx.ok_pNot, Nx.bl_ex, Nx.ref_ex, List.set_cons_zero, List.set_cons_succ, Nx.wipeR, Option.some.injEq, exists_eq_left', List.getElem?_cons_zero, List.getElem?_cons_succ, Nx.pb_nm])
      rw [ok_pLst (by simp)]
      rw [oks_cons, x_for]
      (simp only [Nx.e_ite, Nx.e_and, Nx.e_or, Nx.e_chain, Nx.e_mc, Nx.e_cst, Nx.e_pn, Nx.es_nil, Nx.es_cons, Nx.es_star, Nx.e_lc,
  Nx.e_var, Nx.ok_pv1, Nx.ok_pv2, Nx.ok_pNot, Nx.bl_ex, Nx.ref_ex, List.set_cons_zero, List.set_cons_succ, Nx.wipeR, Option.some.injEq, exists_eq_left', List.getElem?_cons_zero, List.getElem?_cons_succ, Nx.pb_nm])
      have hE : ∀ o : List Int, o.Perm ls → pbs ss (pb0 ss) (es ++ falls o) = pbs ss (pb0 ss) (es ++ falls ls) := fun o h => by rw [pbs_app, pbs_app, pbs_perm h]
      have hV : ∀ o : List Int, o.Perm ls → Valid k ss (pb0 ss) (es ++ falls o) := fun o h => by
        rw [valid_app]
        refine ⟨va, valid_falls o _ (h.nodup_iff.mpr nd) fun m hm => ?_⟩
        have := hlr m (h.mem_iff.mp hm)
        exact this
      have a89 : Ag NoP S8 (S8 ++ [Ob.lst []]) := Ag.push
      have hen9 : (S8 ++ [Ob.lst []])[S8.length]? = some (.lst []) := at_push
      have fd9 : Fd (S8 ++ [Ob.lst []]) f := fd_push fd8
      generalize S8 ++ [Ob.lst []] = S9 at a89 hen9 fd9 ⊢
      refine ⟨_, rg_start (by decide), ?_⟩
      have sub9 : ∀ j, At f j → OwnB (At f) S8.length j := fun j z => .inl z
      refine for_rg (a := 3) (fun i ρ S' => (∃ u12, ρ = [some (.ref 0), _, _, _, _, _, _, _, _, _, _, _, u12, _, _, _, _, _, _]) ∧ Ag (At f) S8 S' ∧ Fd S' f ∧ ∃ vs, S'[S8.length]? = some (.lst vs) ∧ F2 (Pic (OwnB (At f) S8.length) S') vs (List.replicate i (pbs ss (pb0 ss) (es ++ falls ls)))) (by simp [fuel]) ?_ ?_ ⟨⟨_, rfl⟩, a89.any, fd9, [], hen9, .nil⟩
      · rintro j ρ S' hj ⟨⟨u12', rfl⟩, b, fd', vs, hvs, fvs⟩
        refine ⟨_, pb_nm, ?_⟩
        have lvs : vs.length = j := by rw [fvs.len, List.length_replicate]
        have lf' := fd_lt fd'
        have len' : S8.length < S'.length := (List.getElem?_eq_some_iff.mp hvs).1
        rw [oks_cons, x_expr]
        (simp only [Nx.e_ite, Nx.e_and, Nx.e_or, Nx.e_chain, Nx.e_mc, Nx.e_cst, Nx.e_pn, Nx.es_nil, Nx.es_cons, Nx.es_star, Nx.e_lc,
  Nx.e_var, Nx.ok_pv1, Nx.ok_pv2, Nx.ok_pNot, Nx.bl_ex, Nx.ref_ex, List.set_cons_zero, List.set_cons_succ, Nx.wipeR, Option.some.injEq, exists_eq_left', List.getElem?_cons_zero, List.getElem?_cons_succ, Nx.pb_nm])
        refine ⟨isLst_at hvs, ?_⟩
        refine sp_mixed fd' (hls8.ag b) (by omega) fun mn Sa o lmn aa fda ho hperm => ?_
        have lo' : o.length = ls.length := hperm.length_eq
        obtain ⟨_, e', hmn, hmx⟩ := id ho
        cases e'
        refine ⟨_, it_start (k := true) hmx, ?_⟩
        -- the falls, as a list of events
        refine lc_sq (vs := o.map V.int) (fun i acc S' => Ag NoP Sa S' ∧ F2 (EvAt (OwnB (At f) Sa.length) S') acc (falls (o.take i))) (by simp [fuel]; omega) ?_ ?_ ?_ ⟨Ag.push, by simp [falls]; exact .nil⟩ at_push
        · rintro i acc Sb ⟨bb, fb⟩
          refine ⟨bb.at_ _ _ id hmx, ?_⟩
          rw [fb.len]; simp [falls]; omega
        · rintro i acc Sb x hxi ⟨bb, fb⟩ hmb
          obtain ⟨y, hy, rfl⟩ := get_int hxi
          refine ⟨_, pb_nm, ?_⟩
          unfold Lc
          (simp only [Nx.e_ite, Nx.e_and, Nx.e_or, Nx.e_chain, Nx.e_mc, Nx.e_cst, Nx.e_pn, Nx.es_nil, Nx.es_cons, Nx.es_star, Nx.e_lc,
  Nx.e_var, Nx.ok_pv1, Nx.ok_pv2, Nx.ok_pNot, Nx.bl_ex, Nx.ref_ex, List.set_cons_zero, List.set_cons_succ, Nx.wipeR, Option.some.injEq, exists_eq_left', List.getElem?_cons_zero, List.getElem?_cons_succ, Nx.pb_nm])
          refine .inr ⟨by simp, ?_⟩
          rw [ok_pTup (by simp)]
          have lSb : Sa.length < Sb.length := (List.getElem?_eq_some_iff.mp hmb).1
          refine ⟨at_low hmb, (bb.trans Ag.push).setHi (Nat.le_refl _), ?_⟩
          have e1 : falls (o.take (i + 1)) = falls (o.take i) ++ [(true, y)] := by rw [take_snoc hy]; simp [falls]
          rw [e1]
          refine F2.evag ((F2.evag fb Ag.push).snoc ?_) (Ag.set (.inr rfl))
          refine ⟨_, rfl, fun z => ?_, at_push⟩
          rcases z with z | z
          · have : Sb.length = f := z
            have := aa.len; omega
          · omega
        · rintro acc Sb ⟨bb, fb⟩ hmb
          rw [List.length_map, List.take_length] at fb
          have ab : Ag (At f) S' Sb := aa.trans bb.any
          have hib := (hi8.ag b).ag ab
          obtain ⟨hn', hvs', e', hhn, hhx, hfs⟩ := hib
          cases e'
          have lac : acc.length = o.length := by rw [fb.len]; simp [falls]
          have lhv : hvs'.length = es.length := hfs.len
          rw [ok_addL hhx hmb (by omega)]
          have hh' : HsAt (At f) (Sb ++ [Ob.lst (hvs' ++ acc)]) (.ref hn) k ss := ((hh8.ag b).ag ab).ag Ag.push
          have lfa := fd_lt fda
          have lab := bb.len
          have hiN : HiAt (At f) (Sb ++ [Ob.lst (hvs' ++ acc)]) (.ref Sb.length) (es ++ falls o) := by
            refine ⟨_, _, rfl, ?_, at_push, ?_⟩
            · intro z
              have : Sb.length = f := z
              omega
            · exact F2.evag (hfs.app (fb.mono fun _ _ z => z.weak fun i z => .inl z)) Ag.push
          have fdN : Fd (Sb ++ [Ob.lst (hvs' ++ acc)]) f := fd_push (fda.ag bb id)
          have aN : Ag (At f) S' (Sb ++ [Ob.lst (hvs' ++ acc)]) := ab.trans Ag.push
          generalize Sb ++ [Ob.lst (hvs' ++ acc)] = Sc at hh' hiN fdN aN ⊢
          have lfc := fd_lt fdN
          have loc : Lo (At f) Sc := fun j hj z => by have : j = f := z; omega
          have lsk : ls.length ≤ 5 := by omega
          refine sp_run_of hh' hiN loc (by omega) (by omega) (by simp [falls]; omega) hgood hne (hV o hperm) fun rn2 re2 Sd l1 l2' ad hrd lod => ?_
          refine sp_picture hrd fun pv2 hpv2 => ?_
          have aS : Ag (At f) S' Sd := aN.trans ad.any
          have hvsd := aS.at_ _ _ (show ¬ S8.length = f by omega) hvs
          rw [ok_append hvsd (by omega), oks_nil]
          have lfd : f < Sd.length := fd_lt (fdN.ag ad id)
          have hN2 := hpv2.offB (f := f) hvsd fun j z => .inl z
          rw [hE o hperm] at hN2
          refine ⟨⟨_, rfl⟩, (b.trans aS).setHi (Nat.le_refl _), ?_, _, at_set hvsd, ?_⟩
          · obtain ⟨x, y, e, r⟩ := fdN.ag ad id
            exact ⟨x, y, at_ne e (by omega), r⟩
          · rw [List.replicate_succ']
            exact F2.mono ((F2.mono fvs fun _ _ z => Pic.ag z (aS.mono sub9)).snoc hN2) fun _ _ z => Pic.ag z (Ag.set (.inr rfl))
      · rintro ρ Se ⟨⟨u12', rfl⟩, b, fde, vs, hvs, fvs⟩
        have lfe := fd_lt fde
        obtain ⟨v0, hv0, p0⟩ := fvs.get (i := 0) (b := pbs ss (pb0 ss) (es ++ falls ls)) rfl
        obtain ⟨v1, hv1, p1⟩ := fvs.get (i := 1) (b := pbs ss (pb0 ss) (es ++ falls ls)) rfl
        obtain ⟨v2, hv2, p2⟩ := fvs.get (i := 2) (b := pbs ss (pb0 ss) (es ++ falls ls)) rfl
        have i0 : gIx (.ref S8.length) (.int 0) Se = some v0 := gIx_seq (vs := vs) (by simp [seqOf, hvs]) (by have := atI_nat hv0; simpa using this)
        have i1 : gIx (.ref S8.length) (.int 1) Se = some v1 := gIx_seq (vs := vs) (by simp [seqOf, hvs]) (by have := atI_nat hv1; simpa using this)
        have i2 : gIx (.ref S8.length) (.int 2) Se = some v2 := gIx_seq (vs := vs) (by simp [seqOf, hvs]) (by have := atI_nat hv2; simpa using this)
        rw [oks_cons]
        (simp only [Nx.oks_cons, Nx.oks_nil, Nx.x_ite, Nx.x_asg, Nx.x_par, Nx.x_expr, Nx.x_ret, Nx.x_for, Nx.x_setf, Nx.e_ite, Nx.e_and, Nx.e_or, Nx.e_chain, Nx.e_mc, Nx.e_cst, Nx.e_pn, Nx.es_nil, Nx.es_cons, Nx.es_star, Nx.e_lc,
  Nx.e_var, Nx.ok_val, Nx.ok_pv1, Nx.ok_pv2, Nx.ok_pNot, Nx.bl_ex, Nx.ref_ex,
  List.map_cons, List.map_nil, List.cons_append, List.nil_append, List.append_nil, List.replicate_succ, List.replicate_zero, Nat.reduceSub, Nat.reduceAdd, List.getElem?_cons_zero, List.getElem?_cons_succ, Nx.pb_nm, Nx.pbs_nil, Nx.pbs_nm, List.set_cons_zero, List.set_cons_succ, if_true, if_false, Bool.false_eq_true, Bool.not_eq_true', decide_eq_true_eq, decide_eq_false_iff_not, Bool.not_eq_false', Nx.wipeR, Option.some.injEq, exists_eq_left', and_true, true_and, false_imp_iff, true_imp_iff, Bool.true_eq_false, eq_self_iff_true])
        refine (gE i0).mpr ((gE i1).mpr ((gE (gEq_pic p0 p1)).mpr ?_))
        (simp only [Nx.oks_cons, Nx.oks_nil, Nx.x_ite, Nx.x_asg, Nx.x_par, Nx.x_expr, Nx.x_ret, Nx.x_for, Nx.x_setf, Nx.e_ite, Nx.e_and, Nx.e_or, Nx.e_chain, Nx.e_mc, Nx.e_cst, Nx.e_pn, Nx.es_nil, Nx.es_cons, Nx.es_star, Nx.e_lc,
  Nx.e_var, Nx.ok_val, Nx.ok_pv1, Nx.ok_pv2, Nx.ok_pNot, Nx.bl_ex, Nx.ref_ex,
  List.map_cons, List.map_nil, List.cons_append, List.nil_append, List.append_nil, List.replicate_succ, List.replicate_zero, Nat.reduceSub, Nat.reduceAdd, List.getElem?_cons_zero, List.getElem?_cons_succ, Nx.pb_nm, Nx.pbs_nil, Nx.pbs_nm, List.set_cons_zero, List.set_cons_succ, if_true, if_false, Bool.false_eq_true, Bool.not_eq_true', decide_eq_true_eq, decide_eq_false_iff_not, Bool.not_eq_false', Nx.wipeR, Option.some.injEq, exists_eq_left', and_true, true_and, false_imp_iff, true_imp_iff, Bool.true_eq_false, eq_self_iff_true])
        refine ⟨fun z => absurd trivial z, (gE i0).mpr ((gE i2).mpr ((gE (gEq_pic p0 p2)).mpr ?_))⟩
        (simp only [Nx.oks_cons, Nx.oks_nil, Nx.x_ite, Nx.x_asg, Nx.x_par, Nx.x_expr, Nx.x_ret, Nx.x_for, Nx.x_setf, Nx.e_ite, Nx.e_and, Nx.e_or, Nx.e_chain, Nx.e_mc, Nx.e_cst, Nx.e_pn, Nx.es_nil, Nx.es_cons, Nx.es_star, Nx.e_lc,
  Nx.e_var, Nx.ok_val, Nx.ok_pv1, Nx.ok_pv2, Nx.ok_pNot, Nx.bl_ex, Nx.ref_ex,
  List.map_cons, List.map_nil, List.cons_append, List.nil_append, List.append_nil, List.replicate_succ, List.replicate_zero, Nat.reduceSub, Nat.reduceAdd, List.getElem?_cons_zero, List.getElem?_cons_succ, Nx.pb_nm, Nx.pbs_nil, Nx.pbs_nm, List.set_cons_zero, List.set_cons_succ, if_true, if_false, Bool.false_eq_true, Bool.not_eq_true', decide_eq_true_eq, decide_eq_false_iff_not, Bool.not_eq_false', Nx.wipeR, Option.some.injEq, exists_eq_left', and_true, true_and, false_imp_iff, true_imp_iff, Bool.true_eq_false, eq_self_iff_true])
        refine ⟨fun z => absurd trivial z, (gE i0).mpr ?_⟩
        have a4e : Ag (At f) S4 Se := a48.trans b
        have hsve := hsv4.ag a4e
        have lsk : ls.length ≤ 5 := by
          have h5 : ls.length ≤ k := hxl
          omega
        have hss : ss.length < 64 := by omega
        have pE : POk ss (pbs ss (pb0 ss) (es ++ falls ls)) := (POk.zero hss hgood).nexts _ (by simp [pb0, falls]; omega)
        have z0 : ss.length = (pb0 ss).2.length := by simp [pb0]
        have rE : RHs ss (pbs ss (pb0 ss) (es ++ falls ls)) := rhs_all _ (rhs_zero hne) z0 (hV ls (.refl _)) hpos
        refine sp_rules_hold hsve (p0.weak fun j z => .inl z) hss pE.hn hgood hne rE fun Sf af => ?_
        (simp only [Nx.oks_cons, Nx.oks_nil, Nx.x_ite, Nx.x_asg, Nx.x_par, Nx.x_expr, Nx.x_ret, Nx.x_for, Nx.x_setf, Nx.e_ite, Nx.e_and, Nx.e_or, Nx.e_chain, Nx.e_mc, Nx.e_cst, Nx.e_pn, Nx.es_nil, Nx.es_cons, Nx.es_star, Nx.e_lc,
  Nx.e_var, Nx.ok_val, Nx.ok_pv1, Nx.ok_pv2, Nx.ok_pNot, Nx.bl_ex, Nx.ref_ex,
  List.map_cons, List.map_nil, List.cons_append, List.nil_append, List.append_nil, List.replicate_succ, List.replicate_zero, Nat.reduceSub, Nat.reduceAdd, List.getElem?_cons_zero, List.getElem?_cons_succ, Nx.pb_nm, Nx.pbs_nil, Nx.pbs_nm, List.set_cons_zero, List.set_cons_succ, if_true, if_false, Bool.false_eq_true, Bool.not_eq_true', decide_eq_true_eq, decide_eq_false_iff_not, Bool.not_eq_false', Nx.wipeR, Option.some.injEq, exists_eq_left', and_true, true_and, false_imp_iff, true_imp_iff, Bool.true_eq_false, eq_self_iff_true])
        have fdf := fde.ag af id
        have lff := fd_lt fdf
        have lof : Lo (At f) Sf := fun j hj z => by have : j = f := z; omega
        have a8f : Ag (At f) S8 Sf := b.trans af.any
        have hdvf := hdv8.ag a8f
        refine sp_events (TupI.se hdvf) lof (by omega) fun ne es' Sg lne ag hig les' hcc => ?_
        obtain ⟨_, vs', e', hnn, hnx, hfs⟩ := id hig
        cases e'
        have lv' : vs'.length = es'.length := hfs.len
        refine ⟨_, it_start (k := true) hnx, ?_⟩
        have a8g : Ag (At f) S8 Sg := a8f.trans ag.any
        refine for_sq (vs := vs') (fun i ρ S' => (∃ u13 u14 u15 u16 u17, ρ = [some (.ref 0), _, _, _, _, _, _, _, _, _, _, _, _, u13, u14, u15, u16, u17, _]) ∧ Ag NoP Sg S') (by simp [fuel]; omega) ?_ ?_ ?_ ⟨⟨_, _, _, _, _, rfl⟩, Ag.refl⟩
        · rintro i ρ S' ⟨_, c⟩; exact c.at_ _ _ id hnx
        · rintro i ρ S' x hxi ⟨⟨u13, u14, u15, u16, u17, rfl⟩, c⟩
          obtain ⟨ev, hev⟩ : ∃ ev, es'[i]? = some ev := ⟨es'[i]'(by have := (List.getElem?_eq_some_iff.mp hxi).1; omega), List.getElem?_eq_getElem _⟩
          obtain ⟨y', hy', sy⟩ := hfs.get hev
          rw [hxi] at hy'; cases hy'
          have hev' := sy.ag (c.any (P := At f))
          have cc := hcc ev (List.mem_of_getElem? hev)
          have a8s : Ag (At f) S8 S' := a8g.trans c.any
          have his := hi8.ag a8s
          obtain ⟨_, hvs', e', hhn, hhx, hhf⟩ := id his
          cases e'
          have lhv : hvs'.length = es.length := hhf.len
          refine ⟨_, pb_nm, ?_⟩
          rw [oks_cons, x_asg]
          (simp only [Nx.e_ite, Nx.e_and, Nx.e_or, Nx.e_chain, Nx.e_mc, Nx.e_cst, Nx.e_pn, Nx.es_nil, Nx.es_cons, Nx.es_star, Nx.e_lc,
  Nx.e_var, Nx.ok_pv1, Nx.ok_pv2, Nx.ok_pNot, Nx.bl_ex, Nx.ref_ex, List.set_cons_zero, List.set_cons_succ, Nx.wipeR, Option.some.injEq, exists_eq_left', List.getElem?_cons_zero, List.getElem?_cons_succ, Nx.pb_nm])
          rw [ok_pLst (by simp), ok_addL (at_low hhx) at_push (by simp; omega)]
          have acN : Ag NoP S' (S' ++ [Ob.lst [x]] ++ [Ob.lst (hvs' ++ [x])]) := Ag.push.trans Ag.push
          have lS' : f < S'.length := Nat.lt_of_lt_of_le (Nat.lt_of_lt_of_le lff ag.len) c.len
          have hiN : HiAt (At f) (S' ++ [Ob.lst [x]] ++ [Ob.lst (hvs' ++ [x])]) (.ref (S' ++ [Ob.lst [x]]).length) (es ++ [ev]) := by
            refine ⟨_, _, rfl, ?_, at_push, F2.evag (F2.snoc hhf hev') acN.any⟩
            intro z
            have : (S' ++ [Ob.lst [x]]).length = f := z
            simp at this; omega
          have hhN : HsAt (At f) (S' ++ [Ob.lst [x]] ++ [Ob.lst (hvs' ++ [x])]) (.ref hn) k ss := (hh8.ag a8s).ag acN.any
          have lN : S'.length ≤ (S' ++ [Ob.lst [x]] ++ [Ob.lst (hvs' ++ [x])]).length := acN.len
          generalize (S' ++ [Ob.lst [x]]).length = hn2 at hiN ⊢
          generalize S' ++ [Ob.lst [x]] ++ [Ob.lst (hvs' ++ [x])] = Sh at acN hiN hhN lN ⊢
          have loh : Lo (At f) Sh := fun j hj z => by have : j = f := z; omega
          have vN : Valid k ss (pb0 ss) (es ++ [ev]) := by rw [valid_app]; exact ⟨va, cc, trivial⟩
          refine sp_run_of hhN hiN loh (by omega) hss (by simp; omega) hgood hne vN fun rn3 re3 Si l1 l3 ai hr3 lo3 => ?_
          have pN : POk ss (pbs ss (pb0 ss) (es ++ [ev])) := (POk.zero hss hgood).nexts _ (by simp [pb0]; omega)
          have pO : POk ss (pbs ss (pb0 ss) es) := (POk.zero hss hgood).nexts _ (by simp [pb0]; omega)
          have rN : RHs ss (pbs ss (pb0 ss) (es ++ [ev])) := rhs_all _ (rhs_zero hne) z0 vN hpos
          have asi : Ag NoP S' Si := acN.trans ai
          have hsvi := (hsv8.ag a8s).ag (asi.any (P := At f))
          have hevi := hev'.ag (asi.any (P := At f))
          have hri := (hr8.keep a8s (by omega) (by omega)).keep (asi.any (P := At f)) (by omega) (by omega)
          rw [oks_cons, x_ite]
          (simp only [Nx.e_ite, Nx.e_and, Nx.e_or, Nx.e_chain, Nx.e_mc, Nx.e_cst, Nx.e_pn, Nx.es_nil, Nx.es_cons, Nx.es_star, Nx.e_lc,
  Nx.e_var, Nx.ok_pv1, Nx.ok_pv2, Nx.ok_pNot, Nx.bl_ex, Nx.ref_ex, List.set_cons_zero, List.set_cons_succ, Nx.wipeR, Option.some.injEq, exists_eq_left', List.getElem?_cons_zero, List.getElem?_cons_succ, Nx.pb_nm])
          refine sp_picture hr3 fun pv3 hpv3 => ?_
          refine sp_rules_hold hsvi (hpv3.weak fun j z => .inl z) hss pN.hn hgood hne rN fun Sj aj => ?_
          (simp only [Nx.oks_cons, Nx.oks_nil, Nx.x_ite, Nx.x_asg, Nx.x_par, Nx.x_expr, Nx.x_ret, Nx.x_for, Nx.x_setf, Nx.e_ite, Nx.e_and, Nx.e_or, Nx.e_chain, Nx.e_mc, Nx.e_cst, Nx.e_pn, Nx.es_nil, Nx.es_cons, Nx.es_star, Nx.e_lc,
  Nx.e_var, Nx.ok_val, Nx.ok_pv1, Nx.ok_pv2, Nx.ok_pNot, Nx.bl_ex, Nx.ref_ex,
  List.map_cons, List.map_nil, List.cons_append, List.nil_append, List.append_nil, List.replicate_succ, List.replicate_zero, Nat.reduceSub, Nat.reduceAdd, List.getElem?_cons_zero, List.getElem?_cons_succ, Nx.pb_nm, Nx.pbs_nil, Nx.pbs_nm, List.set_cons_zero, List.set_cons_succ, if_true, if_false, Bool.false_eq_true, Bool.not_eq_true', decide_eq_true_eq, decide_eq_false_iff_not, Bool.not_eq_false', Nx.wipeR, Option.some.injEq, exists_eq_left', and_true, true_and, false_imp_iff, true_imp_iff, Bool.true_eq_false, eq_self_iff_true])
          have loj : ∀ {j : Nat}, Sj.length ≤ j → j ≠ f := fun {j} hj z => by have := asi.len; have := aj.len; omega
          refine ⟨_, rg_start (by omega), ?_⟩
          refine lc_rg (a := k) (fun i acc S' => Ag NoP Sj S' ∧ ∃ ms : List Int, acc = ms.map V.int ∧ ms.length ≤ i ∧ ∀ m ∈ ms, m ≠ ev.2) (by simp [fuel]; omega) ?_ ?_ ?_ ⟨Ag.push, [], rfl, Nat.le_refl _, by simp⟩ at_push
          · rintro i acc Sk ⟨_, ms, rfl, hx, _⟩; simpa using hx
          · rintro i acc Sk hi2 ⟨d, ms, rfl, hx, hr⟩ hm
            refine ⟨_, pb_nm, ?_⟩
            unfold Lc
            (simp only [Nx.e_ite, Nx.e_and, Nx.e_or, Nx.e_chain, Nx.e_mc, Nx.e_cst, Nx.e_pn, Nx.es_nil, Nx.es_cons, Nx.es_star, Nx.e_lc,
  Nx.e_var, Nx.ok_pv1, Nx.ok_pv2, Nx.ok_pNot, Nx.bl_ex, Nx.ref_ex, List.set_cons_zero, List.set_cons_succ, Nx.wipeR, Option.some.injEq, exists_eq_left', List.getElem?_cons_zero, List.getElem?_cons_succ, Nx.pb_nm])
            refine (gE (ev_ix1 ((hevi.ag (aj.any (P := At f))).ag d.any))).mpr ((gE gEq_int).mpr ?_)
            by_cases c0 : (i : Int) = ev.2
            · exact .inl ⟨by simp [c0], hm, d, ms, rfl, by omega, hr⟩
            · refine .inr ⟨by simp [c0], hm, d.setHi (Nat.le_refl _), ms ++ [(i : Int)], by simp, by simp; omega, ?_⟩
              intro m hm'
              rcases List.mem_append.mp hm' with z | z
              · exact hr m z
              · simp only [List.mem_singleton] at z; subst z; exact c0
          · rintro acc Sk ⟨d, ms, rfl, hxm, hrm⟩ hmk
            refine ⟨_, it_start (k := true) hmk, ?_⟩
            refine for_sq (vs := ms.map V.int) (fun i ρ S' => (∃ u15 u16 u17, ρ = [some (.ref 0), _, _, _, _, _, _, _, _, _, _, _, _, _, _, u15, u16, u17, _]) ∧ Ag NoP Sk S') (by simp [fuel]; omega) ?_ ?_ ?_ ⟨⟨_, _, _, rfl⟩, Ag.refl⟩
            · rintro i ρ Sl ⟨_, c⟩; exact c.at_ _ _ id hmk
            · rintro i ρ Sl xx hxi2 ⟨⟨u15, u16, u17, rfl⟩, g⟩
              obtain ⟨m, hmi, rfl⟩ := get_int hxi2
              have hm' := hrm m (List.mem_of_getElem? hmi)
              refine ⟨_, pb_nm, ?_⟩
              have ail : Ag NoP Si Sl := (aj.trans d).trans g
              have lol : Lo (Own (At f) rn re) Sl := lo7.ag ((((a8.trans a8s).trans asi.any)).trans (ail.any (P := At f)))
              have lo3l : Lo (Own (At f) rn3 re3) Sl := lo3.ag ail
              rw [oks_cons, x_par]
              (simp only [Nx.e_ite, Nx.e_and, Nx.e_or, Nx.e_chain, Nx.e_mc, Nx.e_cst, Nx.e_pn, Nx.es_nil, Nx.es_cons, Nx.es_star, Nx.e_lc,
  Nx.e_var, Nx.ok_pv1, Nx.ok_pv2, Nx.ok_pNot, Nx.bl_ex, Nx.ref_ex, List.set_cons_zero, List.set_cons_succ, Nx.wipeR, Option.some.injEq, exists_eq_left', List.getElem?_cons_zero, List.getElem?_cons_succ, Nx.pb_nm])
              refine sp_load (hri.agN ail) lol hss pO.hn fun Sm am => ?_
              refine sp_load ((hr3.agN ail).agN am) (lo3l.ag am) hss pN.hn fun Sn an => ?_
              have evn := (((hevi.ag (ail.any (P := At f))).ag am.any).ag an.any)
              have w1 : (pbs ss (pb0 ss) (es ++ [ev])).2 = pls ss (pbs ss (pb0 ss) es).2 (db (pbs ss (pb0 ss) es).1 ev) ev := by rw [pbs_snoc]; rfl
              rw [w1]
              (simp only [Nx.oks_cons, Nx.oks_nil, Nx.x_ite, Nx.x_asg, Nx.x_par, Nx.x_expr, Nx.x_ret, Nx.x_for, Nx.x_setf, Nx.e_ite, Nx.e_and, Nx.e_or, Nx.e_chain, Nx.e_mc, Nx.e_cst, Nx.e_pn, Nx.es_nil, Nx.es_cons, Nx.es_star, Nx.e_lc,
  Nx.e_var, Nx.ok_val, Nx.ok_pv1, Nx.ok_pv2, Nx.ok_pNot, Nx.bl_ex, Nx.ref_ex,
  List.map_cons, List.map_nil, List.cons_append, List.nil_append, List.append_nil, List.replicate_succ, List.replicate_zero, Nat.reduceSub, Nat.reduceAdd, List.getElem?_cons_zero, List.getElem?_cons_succ, Nx.pb_nm, Nx.pbs_nil, Nx.pbs_nm, List.set_cons_zero, List.set_cons_succ, if_true, if_false, Bool.false_eq_true, Bool.not_eq_true', decide_eq_true_eq, decide_eq_false_iff_not, Bool.not_eq_false', Nx.wipeR, Option.some.injEq, exists_eq_left', and_true, true_and, false_imp_iff, true_imp_iff, Bool.true_eq_false, eq_self_iff_true])
              refine (gE (ev_ix0 evn)).mpr ((gE (gEq_str (word_ok _) (by decide +kernel))).mpr ?_)
              have agk : Ag NoP Sk Sn := (g.trans am).trans an
              obtain ⟨eb, em⟩ := ev
              have hm2 : em ≠ m := fun z => hm' z.symm
              cases eb
              · have le := wl_rise hm2 ss (pbs ss (pb0 ss) es).2 (db (pbs ss (pb0 ss) es).1 (false, em)) hw0
                have n1 : decide (word (false, em).1 = ("fall" : Str)) = false := by rw [decide_eq_false_iff_not]; exact fun z => absurd ((word_eq false).mp z) (by decide)
                have n2 : decide (word (false, em).1 = ("rise" : Str)) = true := by rw [decide_eq_true_iff]; exact (word_rise false).mpr rfl
                have e2 : gEq false (V.str (word (false, em).1)) (V.str (Str.ofString "rise")) Sn = some (.bl true) := by rw [gEq_str (word_ok _) (by decide +kernel)]; simp only [Bool.false_eq_true, if_false, n2]
                refine ⟨false, by simp only [Bool.false_eq_true, if_false, n1], fun z => absurd z (by decide), fun _ => ?_⟩
                refine (gE (ev_ix0 evn)).mpr ((gE e2).mpr ⟨true, rfl, fun _ => (gE gGt_int).mpr ⟨_, rfl, fun z => absurd (of_decide_eq_true z) (by omega), fun _ => ⟨⟨_, _, _, rfl⟩, agk⟩⟩, fun z => absurd z (by decide)⟩)
              · have le := wl_fall hm2 ss (pbs ss (pb0 ss) es).2 (db (pbs ss (pb0 ss) es).1 (true, em)) hw0
                have n1 : decide (word (true, em).1 = ("fall" : Str)) = true := by rw [decide_eq_true_iff]; exact (word_eq true).mpr rfl
                have n2 : decide (word (true, em).1 = ("rise" : Str)) = false := by rw [decide_eq_false_iff_not]; exact fun z => absurd ((word_rise true).mp z) (by decide)
                have e2 : gEq false (V.str (word (true, em).1)) (V.str (Str.ofString "rise")) Sn = some (.bl false) := by rw [gEq_str (word_ok _) (by decide +kernel)]; simp only [Bool.false_eq_true, if_false, n2]
                refine ⟨true, by simp only [Bool.false_eq_true, if_false, n1], fun _ => (gE gLt_int).mpr ⟨_, rfl, fun z => absurd (of_decide_eq_true z) (by omega), fun _ => ?_⟩, fun z => absurd z (by decide)⟩
                exact (gE (ev_ix0 evn)).mpr ((gE e2).mpr ⟨false, rfl, fun z => absurd z (by decide), fun _ => ⟨⟨_, _, _, rfl⟩, agk⟩⟩)
            · rintro ρ Sl ⟨⟨u15, u16, u17, rfl⟩, g⟩
              exact ⟨⟨_, _, _, _, _, rfl⟩, (((c.trans asi).trans aj).trans d).trans g⟩
        · rintro ρ S' ⟨⟨u13, u14, u15, u16, u17, rfl⟩, c⟩
          refine ⟨⟨_, _, _, _, _, _, _, _, _, _, _, _, _, _, _, _, _, _, rfl⟩, ?_⟩
          exact c.at_ _ _ id ((a04.trans (a48.trans a8g)).at_ _ _ (show ¬ 0 = f by omega) h0)
  · rintro ρ S ⟨⟨u1, u2, u3, u4, u5, u6, u7, u8, u9, u10, u11, u12, u13, u14, u15, u16, u17, u18, rfl⟩, h0⟩
    (simp only [Nx.oks_cons, Nx.oks_nil, Nx.x_ite, Nx.x_asg, Nx.x_par, Nx.x_expr, Nx.x_ret, Nx.x_for, Nx.x_setf, Nx.e_ite, Nx.e_and, Nx.e_or, Nx.e_chain, Nx.e_mc, Nx.e_cst, Nx.e_pn, Nx.es_nil, Nx.es_cons, Nx.es_star, Nx.e_lc,
  Nx.e_var, Nx.ok_val, Nx.ok_pv1, Nx.ok_pv2, Nx.ok_pNot, Nx.bl_ex, Nx.ref_ex,
  List.map_cons, List.map_nil, List.cons_append, List.nil_append, List.append_nil, List.replicate_succ, List.replicate_zero, Nat.reduceSub, Nat.reduceAdd, List.getElem?_cons_zero, List.getElem?_cons_succ, Nx.pb_nm, Nx.pbs_nil, Nx.pbs_nm, List.set_cons_zero, List.set_cons_succ, if_true, if_false, Bool.false_eq_true, Bool.not_eq_true', decide_eq_true_eq, decide_eq_false_iff_not, Bool.not_eq_false', Nx.wipeR, Option.some.injEq, exists_eq_left', and_true, true_and, false_imp_iff, true_imp_iff, Bool.true_eq_false, eq_self_iff_true])
end Nx.Lk09

end

set_option Elab.async false
open PySem PySem.W PyProof.Rows
theorem Nx.Lk09.law_true : Nx.LawTrue Nx.Lk09.d_law := fun ns hl o ho => by
  obtain ⟨v, S', e, q⟩ := Nx.Lk09.law_ok ho hl
  subst q
  exact ⟨S', e⟩
set_option maxRecDepth 100000 in
set_option maxHeartbeats 0 in
theorem PySem.Challenge.cw_nextalive_k09_whole_falls_in_any_order_holds : PySem.Challenge.rw_nextalive_k09_whole_falls_in_any_order.Holds := by
  w_on; o_law; k_head; (case hw => w_witness2)
  k_fill
  refine Nx.walk (l := PySem.Challenge.rw_nextalive_k09_whole_falls_in_any_order) (k := 7) (by decide) rfl rfl (fun w h Y => PySem.W.kIn_of Y) ?F
  case F =>
    intro w mg fa h KX G hmg
    suffices hT : ∃ A : Nx.Lk09.Ad, Nx.Lk09.Txt _ _ mg A ∧ (∃ kV dc pm an cd ct, A.e_law = PySem.W.fnOf "law" "law" (L2.defArgs Nx.Lk09.st_law) (L2.defBody Nx.Lk09.st_law) (L2.defScope Nx.Lk09.st_law) .none kV dc pm an cd ct) by
      obtain ⟨A, T, kV, dc, pm, an, cd, ct, he⟩ := hT
      have ef := hmg.symm.trans T.m_law
      cases ef
      exact ⟨A.e_law, fun s v => by rw [he]; exact .of_eq rfl, fun base _ _ => (Nx.Lk09.okT_law T).imp (Nx.law_imp Nx.Lk09.law_true (Nx.Lk09.ccOf A _ _))⟩
    refine' ⟨_, Nx.Lk09.txt_mk KX G ?hg_House ?hpg_House ?hhd_House ?hpo_House ?hsa_House ?hmk_House ?hkc_House ?hg_Run ?hpg_Run ?hhd_Run ?hpo_Run ?hsa_Run ?hmk_Run ?hkc_Run ?ha_is_whole ?hl_is_whole ?hc_is_whole ?hk_is_whole ?ha__are_strengths ?hl__are_strengths ?hc__are_strengths ?hk__are_strengths ?ha__can_be_services ?hl__can_be_services ?hc__can_be_services ?hk__can_be_services ?ha_is_machine ?hl_is_machine ?hc_is_machine ?hk_is_machine ?ha_is_order ?hl_is_order ?hc_is_order ?hk_is_order ?ha__is_service ?hl__is_service ?hc__is_service ?hk__is_service ?ha_House_m___init__ ?hi_House_m___init__ ?hl_House_m___init__ ?hc_House_m___init__ ?hk_House_m___init__ ?ha_House_m_services ?hi_House_m_services ?hl_House_m_services ?hc_House_m_services ?hk_House_m_services ?ha_load_in ?hl_load_in ?hc_load_in ?hk_load_in ?ha_Run_m_load ?hi_Run_m_load ?hl_Run_m_load ?hc_Run_m_load ?hk_Run_m_load ?ha_Run_m_picture ?hi_Run_m_picture ?hl_Run_m_picture ?hc_Run_m_picture ?hk_Run_m_picture ?ha__law_events ?hl__law_events ?hc__law_events ?hk__law_events ?ha__law_feed ?hl__law_feed ?hc__law_feed ?hk__law_feed ?ha__law_take ?hl__law_take ?hc__law_take ?hk__law_take ?ha__law_order ?hl__law_order ?hc__law_order ?hk__law_order ?ha__law_pick ?hl__law_pick ?hc__law_pick ?hk__law_pick ?ha__law_house ?hl__law_house ?hc__law_house ?hk__law_house ?ha__law_mixed ?hl__law_mixed ?hc__law_mixed ?hk__law_mixed ?ha__law_first ?hl__law_first ?hc__law_first ?hk__law_first ?ha__law_rules_hold ?hl__law_rules_hold ?hc__law_rules_hold ?hk__law_rules_hold ?ha__law_walk ?hl__law_walk ?hc__law_walk ?hk__law_walk ?ha_beginning ?hl_beginning ?hc_beginning ?hk_beginning ?ha_Run_m___init__ ?hi_Run_m___init__ ?hl_Run_m___init__ ?hc_Run_m___init__ ?hk_Run_m___init__ ?ha_down_behind ?hl_down_behind ?hc_down_behind ?hk_down_behind ?ha_first_living ?hl_first_living ?hc_first_living ?hk_first_living ?ha_place_behind ?hl_place_behind ?hc_place_behind ?hk_place_behind ?ha_picture_behind ?hl_picture_behind ?hc_picture_behind ?hk_picture_behind ?ha_Run_m__lead ?hi_Run_m__lead ?hl_Run_m__lead ?hc_Run_m__lead ?hk_Run_m__lead ?ha_House_m___len__ ?hi_House_m___len__ ?hl_House_m___len__ ?hc_House_m___len__ ?hk_House_m___len__ ?ha_can_fall ?hl_can_fall ?hc_can_fall ?hk_can_fall ?ha_Run_m_fall ?hi_Run_m_fall ?hl_Run_m_fall ?hc_Run_m_fall ?hk_Run_m_fall ?ha_can_rise ?hl_can_rise ?hc_can_rise ?hk_can_rise ?ha_Run_m_rise ?hi_Run_m_rise ?hl_Run_m_rise ?hc_Run_m_rise ?hk_Run_m_rise ?ha_run_of ?hl_run_of ?hc_run_of ?hk_run_of ?ha_law ?hl_law ?hc_law ?hk_law ?hna_House__strengths ?hna_House__services ?hna_Run_house ?hna_Run__picture ?hna_Run__events ?hb_abs ?hb_all ?hb_bool ?hb_enumerate ?hb_int ?hb_isinstance ?hb_len ?hb_list ?hb_max ?hb_min ?hb_range ?hb_set ?hb_sorted ?hb_str ?hb_sum ?hb_tuple ?hb_zip ?hkc_MOST_MACHINES ?hkc_MOST_SERVICES ?hkc_MOST_STRENGTH ?hkc_MOST_WEIGHT ?hkc_NOWHERE ?hkc_RULES ?hkl_RULES ?hxg_BadHouse ?hxl_BadHouse ?hxr_BadHouse ?hxs_BadHouse ?hxe_BadHouse ?hxt_BadHouse ?hxk_BadHouse ?hxi_BadHouse ?hxf_BadHouse ?hxF_BadHouse ?hxc_BadHouse ?hxC_BadHouse ?hxv_BadHouse ?hxp_BadHouse ?hxx_BadHouse ?hxm_BadHouse ?hxu_BadHouse ?hxT_BadHouse ?hxo_BadHouse ?hxM_BadHouse ?hxV_BadHouse ?hxd_BadHouse ?hxa_BadHouse ?hxb_BadHouse ?hxD_BadHouse ?hxy_BadHouse ?hxg_NoFall ?hxl_NoFall ?hxr_NoFall ?hxs_NoFall ?hxe_NoFall ?hxt_NoFall ?hxk_NoFall ?hxi_NoFall ?hxf_NoFall ?hxF_NoFall ?hxc_NoFall ?hxC_NoFall ?hxv_NoFall ?hxp_NoFall ?hxx_NoFall ?hxm_NoFall ?hxu_NoFall ?hxT_NoFall ?hxo_NoFall ?hxM_NoFall ?hxV_NoFall ?hxd_NoFall ?hxa_NoFall ?hxb_NoFall ?hxD_NoFall ?hxy_NoFall ?hxg_NoRise ?hxl_NoRise ?hxr_NoRise ?hxs_NoRise ?hxe_NoRise ?hxt_NoRise ?hxk_NoRise ?hxi_NoRise ?hxf_NoRise ?hxF_NoRise ?hxc_NoRise ?hxC_NoRise ?hxv_NoRise ?hxp_NoRise ?hxx_NoRise ?hxm_NoRise ?hxu_NoRise ?hxT_NoRise ?hxo_NoRise ?hxM_NoRise ?hxV_NoRise ?hxd_NoRise ?hxa_NoRise ?hxb_NoRise ?hxD_NoRise ?hxy_NoRise, ⟨_, _, _, _, _, _, rfl⟩⟩
    (case hg_House => k_is)
    (case hpg_House => k_is)
    (case hhd_House => k_is)
    (case hpo_House => k_is)
    (case hsa_House => k_is)
    (case hmk_House => k_is)
    (case hkc_House => k_is)
    (case hg_Run => k_is)
    (case hpg_Run => k_is)
    (case hhd_Run => k_is)
    (case hpo_Run => k_is)
    (case hsa_Run => k_is)
    (case hmk_Run => k_is)
    (case hkc_Run => k_is)
    (case ha_is_whole => k_is)
    (case hl_is_whole => k_is)
    (case hc_is_whole => k_is)
    (case hk_is_whole => k_is)
    (case ha__are_strengths => k_is)
    (case hl__are_strengths => k_is)
    (case hc__are_strengths => k_is)
    (case hk__are_strengths => k_is)
    (case ha__can_be_services => k_is)
    (case hl__can_be_services => k_is)
    (case hc__can_be_services => k_is)
    (case hk__can_be_services => k_is)
    (case ha_is_machine => k_is)
    (case hl_is_machine => k_is)
    (case hc_is_machine => k_is)
    (case hk_is_machine => k_is)
    (case ha_is_order => k_is)
    (case hl_is_order => k_is)
    (case hc_is_order => k_is)
    (case hk_is_order => k_is)
    (case ha__is_service => k_is)
    (case hl__is_service => k_is)
    (case hc__is_service => k_is)
    (case hk__is_service => k_is)
    (case ha_House_m___init__ => k_is)
    (case hi_House_m___init__ => k_is)
    (case hl_House_m___init__ => k_is)
    (case hc_House_m___init__ => k_is)
    (case hk_House_m___init__ => k_is)
    (case ha_House_m_services => k_is)
    (case hi_House_m_services => k_is)
    (case hl_House_m_services => k_is)
    (case hc_House_m_services => k_is)
    (case hk_House_m_services => k_is)
    (case ha_load_in => k_is)
    (case hl_load_in => k_is)
    (case hc_load_in => k_is)
    (case hk_load_in => k_is)
    (case ha_Run_m_load => k_is)
    (case hi_Run_m_load => k_is)
    (case hl_Run_m_load => k_is)
    (case hc_Run_m_load => k_is)
    (case hk_Run_m_load => k_is)
    (case ha_Run_m_picture => k_is)
    (case hi_Run_m_picture => k_is)
    (case hl_Run_m_picture => k_is)
    (case hc_Run_m_picture => k_is)
    (case hk_Run_m_picture => k_is)
    (case ha__law_events => k_is)
    (case hl__law_events => k_is)
    (case hc__law_events => k_is)
    (case hk__law_events => k_is)
    (case ha__law_feed => k_is)
    (case hl__law_feed => k_is)
    (case hc__law_feed => k_is)
    (case hk__law_feed => k_is)
    (case ha__law_take => k_is)
    (case hl__law_take => k_is)
    (case hc__law_take => k_is)
    (case hk__law_take => k_is)
    (case ha__law_order => k_is)
    (case hl__law_order => k_is)
    (case hc__law_order => k_is)
    (case hk__law_order => k_is)
    (case ha__law_pick => k_is)
    (case hl__law_pick => k_is)
    (case hc__law_pick => k_is)
    (case hk__law_pick => k_is)
    (case ha__law_house => k_is)
    (case hl__law_house => k_is)
    (case hc__law_house => k_is)
    (case hk__law_house => k_is)
    (case ha__law_mixed => k_is)
    (case hl__law_mixed => k_is)
    (case hc__law_mixed => k_is)
    (case hk__law_mixed => k_is)
    (case ha__law_first => k_is)
    (case hl__law_first => k_is)
    (case hc__law_first => k_is)
    (case hk__law_first => k_is)
    (case ha__law_rules_hold => k_is)
    (case hl__law_rules_hold => k_is)
    (case hc__law_rules_hold => k_is)
    (case hk__law_rules_hold => k_is)
    (case ha__law_walk => k_is)
    (case hl__law_walk => k_is)
    (case hc__law_walk => k_is)
    (case hk__law_walk => k_is)
    (case ha_beginning => k_is)
    (case hl_beginning => k_is)
    (case hc_beginning => k_is)
    (case hk_beginning => k_is)
    (case ha_Run_m___init__ => k_is)
    (case hi_Run_m___init__ => k_is)
    (case hl_Run_m___init__ => k_is)
    (case hc_Run_m___init__ => k_is)
    (case hk_Run_m___init__ => k_is)
    (case ha_down_behind => k_is)
    (case hl_down_behind => k_is)
    (case hc_down_behind => k_is)
    (case hk_down_behind => k_is)
    (case ha_first_living => k_is)
    (case hl_first_living => k_is)
    (case hc_first_living => k_is)
    (case hk_first_living => k_is)
    (case ha_place_behind => k_is)
    (case hl_place_behind => k_is)
    (case hc_place_behind => k_is)
    (case hk_place_behind => k_is)
    (case ha_picture_behind => k_is)
    (case hl_picture_behind => k_is)
    (case hc_picture_behind => k_is)
    (case hk_picture_behind => k_is)
    (case ha_Run_m__lead => k_is)
    (case hi_Run_m__lead => k_is)
    (case hl_Run_m__lead => k_is)
    (case hc_Run_m__lead => k_is)
    (case hk_Run_m__lead => k_is)
    (case ha_House_m___len__ => k_is)
    (case hi_House_m___len__ => k_is)
    (case hl_House_m___len__ => k_is)
    (case hc_House_m___len__ => k_is)
    (case hk_House_m___len__ => k_is)
    (case ha_can_fall => k_is)
    (case hl_can_fall => k_is)
    (case hc_can_fall => k_is)
    (case hk_can_fall => k_is)
    (case ha_Run_m_fall => k_is)
    (case hi_Run_m_fall => k_is)
    (case hl_Run_m_fall => k_is)
    (case hc_Run_m_fall => k_is)
    (case hk_Run_m_fall => k_is)
    (case ha_can_rise => k_is)
    (case hl_can_rise => k_is)
    (case hc_can_rise => k_is)
    (case hk_can_rise => k_is)
    (case ha_Run_m_rise => k_is)
    (case hi_Run_m_rise => k_is)
    (case hl_Run_m_rise => k_is)
    (case hc_Run_m_rise => k_is)
    (case hk_Run_m_rise => k_is)
    (case ha_run_of => k_is)
    (case hl_run_of => k_is)
    (case hc_run_of => k_is)
    (case hk_run_of => k_is)
    (case ha_law => k_is)
    (case hl_law => k_is)
    (case hc_law => k_is)
    (case hk_law => k_is)
    (case hna_House__strengths => k_is)
    (case hna_House__services => k_is)
    (case hna_Run_house => k_is)
    (case hna_Run__picture => k_is)
    (case hna_Run__events => k_is)
    (case hb_abs => k_is)
    (case hb_all => k_is)
    (case hb_bool => k_is)
    (case hb_enumerate => k_is)
    (case hb_int => k_is)
    (case hb_isinstance => k_is)
    (case hb_len => k_is)
    (case hb_list => k_is)
    (case hb_max => k_is)
    (case hb_min => k_is)
    (case hb_range => k_is)
    (case hb_set => k_is)
    (case hb_sorted => k_is)
    (case hb_str => k_is)
    (case hb_sum => k_is)
    (case hb_tuple => k_is)
    (case hb_zip => k_is)
    (case hkc_MOST_MACHINES => k_is)
    (case hkc_MOST_SERVICES => k_is)
    (case hkc_MOST_STRENGTH => k_is)
    (case hkc_MOST_WEIGHT => k_is)
    (case hkc_NOWHERE => k_is)
    (case hkc_RULES => k_is)
    (case hkl_RULES => k_is)
    (case hxg_BadHouse => first | k_is | kernel_rfl | decide +kernel)
    (case hxl_BadHouse => first | k_is | kernel_rfl | decide +kernel)
    (case hxr_BadHouse => first | k_is | kernel_rfl | decide +kernel)
    (case hxs_BadHouse => first | k_is | kernel_rfl | decide +kernel)
    (case hxe_BadHouse => first | k_is | kernel_rfl | decide +kernel)
    (case hxt_BadHouse => first | k_is | kernel_rfl | decide +kernel)
    (case hxk_BadHouse => first | k_is | kernel_rfl | decide +kernel)
    (case hxi_BadHouse => first | k_is | kernel_rfl | decide +kernel)
    (case hxf_BadHouse => first | k_is | kernel_rfl | decide +kernel)
    (case hxF_BadHouse => first | k_is | kernel_rfl | decide +kernel)
    (case hxc_BadHouse => first | k_is | kernel_rfl | decide +kernel)
    (case hxC_BadHouse => first | k_is | kernel_rfl | decide +kernel)
    (case hxv_BadHouse => exact rfl)
    (case hxp_BadHouse => first | k_is | kernel_rfl | decide +kernel)
    (case hxx_BadHouse => first | k_is | kernel_rfl | decide +kernel)
    (case hxm_BadHouse => first | k_is | kernel_rfl | decide +kernel)
    (case hxu_BadHouse => first | k_is | kernel_rfl | decide +kernel)
    (case hxT_BadHouse => first | k_is | kernel_rfl | decide +kernel)
    (case hxo_BadHouse => first | k_is | kernel_rfl | decide +kernel)
    (case hxM_BadHouse => first | k_is | kernel_rfl | decide +kernel)
    (case hxV_BadHouse => first | k_is | kernel_rfl | decide +kernel)
    (case hxd_BadHouse => first | k_is | kernel_rfl | decide +kernel)
    (case hxa_BadHouse => first | k_is | kernel_rfl | decide +kernel)
    (case hxb_BadHouse => first | k_is | kernel_rfl | decide +kernel)
    (case hxD_BadHouse => first | k_is | kernel_rfl | decide +kernel)
    (case hxy_BadHouse => first | k_is | kernel_rfl | decide +kernel)
    (case hxg_NoFall => first | k_is | kernel_rfl | decide +kernel)
    (case hxl_NoFall => first | k_is | kernel_rfl | decide +kernel)
    (case hxr_NoFall => first | k_is | kernel_rfl | decide +kernel)
    (case hxs_NoFall => first | k_is | kernel_rfl | decide +kernel)
    (case hxe_NoFall => first | k_is | kernel_rfl | decide +kernel)
    (case hxt_NoFall => first | k_is | kernel_rfl | decide +kernel)
    (case hxk_NoFall => first | k_is | kernel_rfl | decide +kernel)
    (case hxi_NoFall => first | k_is | kernel_rfl | decide +kernel)
    (case hxf_NoFall => first | k_is | kernel_rfl | decide +kernel)
    (case hxF_NoFall => first | k_is | kernel_rfl | decide +kernel)
    (case hxc_NoFall => first | k_is | kernel_rfl | decide +kernel)
    (case hxC_NoFall => first | k_is | kernel_rfl | decide +kernel)
    (case hxv_NoFall => exact rfl)
    (case hxp_NoFall => first | k_is | kernel_rfl | decide +kernel)
    (case hxx_NoFall => first | k_is | kernel_rfl | decide +kernel)
    (case hxm_NoFall => first | k_is | kernel_rfl | decide +kernel)
    (case hxu_NoFall => first | k_is | kernel_rfl | decide +kernel)
    (case hxT_NoFall => first | k_is | kernel_rfl | decide +kernel)
    (case hxo_NoFall => first | k_is | kernel_rfl | decide +kernel)
    (case hxM_NoFall => first | k_is | kernel_rfl | decide +kernel)
    (case hxV_NoFall => first | k_is | kernel_rfl | decide +kernel)
    (case hxd_NoFall => first | k_is | kernel_rfl | decide +kernel)
    (case hxa_NoFall => first | k_is | kernel_rfl | decide +kernel)
    (case hxb_NoFall => first | k_is | kernel_rfl | decide +kernel)
    (case hxD_NoFall => first | k_is | kernel_rfl | decide +kernel)
    (case hxy_NoFall => first | k_is | kernel_rfl | decide +kernel)
    (case hxg_NoRise => first | k_is | kernel_rfl | decide +kernel)
    (case hxl_NoRise => first | k_is | kernel_rfl | decide +kernel)
    (case hxr_NoRise => first | k_is | kernel_rfl | decide +kernel)
    (case hxs_NoRise => first | k_is | kernel_rfl | decide +kernel)
    (case hxe_NoRise => first | k_is | kernel_rfl | decide +kernel)
    (case hxt_NoRise => first | k_is | kernel_rfl | decide +kernel)
    (case hxk_NoRise => first | k_is | kernel_rfl | decide +kernel)
    (case hxi_NoRise => first | k_is | kernel_rfl | decide +kernel)
    (case hxf_NoRise => first | k_is | kernel_rfl | decide +kernel)
    (case hxF_NoRise => first | k_is | kernel_rfl | decide +kernel)
    (case hxc_NoRise => first | k_is | kernel_rfl | decide +kernel)
    (case hxC_NoRise => first | k_is | kernel_rfl | decide +kernel)
    (case hxv_NoRise => exact rfl)
    (case hxp_NoRise => first | k_is | kernel_rfl | decide +kernel)
    (case hxx_NoRise => first | k_is | kernel_rfl | decide +kernel)
    (case hxm_NoRise => first | k_is | kernel_rfl | decide +kernel)
    (case hxu_NoRise => first | k_is | kernel_rfl | decide +kernel)
    (case hxT_NoRise => first | k_is | kernel_rfl | decide +kernel)
    (case hxo_NoRise => first | k_is | kernel_rfl | decide +kernel)
    (case hxM_NoRise => first | k_is | kernel_rfl | decide +kernel)
    (case hxV_NoRise => first | k_is | kernel_rfl | decide +kernel)
    (case hxd_NoRise => first | k_is | kernel_rfl | decide +kernel)
    (case hxa_NoRise => first | k_is | kernel_rfl | decide +kernel)
    (case hxb_NoRise => first | k_is | kernel_rfl | decide +kernel)
    (case hxD_NoRise => first | k_is | kernel_rfl | decide +kernel)
    (case hxy_NoRise => first | k_is | kernel_rfl | decide +kernel)
