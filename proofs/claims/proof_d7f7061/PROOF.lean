import PyProof.Rows.All
import Lean
import Wide.Loose
import Si33Spec
import PySi33
import Wide.All
import OpenK.AllK
import Wide.FinOn
import PyProof.EqAt
import PyProof.EqKinds
import PyProof.TupleCall
import KE.BitLaws
import Open.SpecLaws
import KE.OsHead
import KE.OsGo
import PySem.Challenge.RW_wordhouse_s01_answers
import KE.KLam
import PyProof.Rows.SortG.SortRunsSt
import PyProof.Rows.SortShellAny
import KE.KSortKey
import KE.KSortTup
import KE.KSortTupUse
import KE.KDictList
import KE.KMinKey
import PyFlatLaws
import KE.KNestM
set_option linter.all false
set_option Elab.async false
set_option genSizeOfSpec false
set_option compiler.extract_closed false
set_option compiler.reuse false
set_option maxRecDepth 100000
set_option maxHeartbeats 4000000
namespace Z
open Lean
def n2 (n : Nat) : String := String.ofList [Char.ofNat (40 + n / 80), Char.ofNat (40 + n % 80)]
/-- a number: one sign below 80, else ~ and two -/
def nv (n : Nat) : String := if n < 80 then String.ofList [Char.ofNat (40 + n)] else "~" ++ n2 n
def hs : String := "ψχωτρξζηθιμνπυεΨΦΩΞΔΘ"
def ser (z : Bool) : Nat → Array Name × String × Nat → Syntax → Array Name × String × Nat
  | 0, a, _ => a
  | f + 1, (ks, o, r), s => match s with
    | .missing => (ks, o ++ "M", r)
    | .atom _ v => (ks, o ++ "A" ++ nv v.utf8ByteSize ++ v, r)
    | .ident _ v _ _ => let v := v.toString
      let i := hs.toList.idxOf (v.toList.headD ' ')
      if v.length == 1 && i < 21 then (ks, o ++ "H" ++ nv i, max r (i + 1)) else (ks, o ++ "I" ++ nv v.utf8ByteSize ++ v, r)
    | .node _ k a =>
      let i := ks.idxOf k
      let b := a.getD 1 .missing
      if z && (k == `Lean.Parser.Tactic.exact || k == `Lean.Parser.Tactic.rwRule) && b.isIdent && b.getId.toString.length == 1 && hs.contains (b.getId.toString.toList.headD ' ') then ser z f (ks, o, r) b else
      a.foldl (ser z f) (if i < ks.size then ks else ks.push k, o ++ "N" ++ nv i ++ nv a.size, r)
def table (z : Bool) (l : Array Syntax) : Syntax := Id.run do
  let mut ks : Array Name := #[]
  let mut es : String := ""
  let mut ix : String := ""
  for s in l do
    let (k, e, r) := ser z 999 (ks, "", 0) (if s.isOfKind `Lean.Parser.Term.paren then s[1] else s)
    ks := k
    ix := ix ++ n2 (es.utf8ByteSize / 6400) ++ n2 (es.utf8ByteSize % 6400)
    es := es ++ n2 (if s.isOfKind `Lean.Parser.Term.hole then 99 else r) ++ e
  return Syntax.mkStrLit (" ".intercalate (ks.toList.map toString) ++ "\n" ++ toString l.size ++ "\n" ++ ix ++ es)
def num (s : String) (p : Nat) : Nat := ((String.Pos.Raw.get s ⟨p⟩).toNat - 40) * 80 + (String.Pos.Raw.get s ⟨p + 1⟩).toNat - 40
def sub (s : String) (p n : Nat) : String := String.Pos.Raw.extract s ⟨p⟩ ⟨p + n⟩
def rd (s : String) (p : Nat) : Nat × Nat := let c := (String.Pos.Raw.get s ⟨p⟩).toNat; if c < 120 then (c - 40, p + 1) else (num s (p + 1), p + 3)
def dec (s : String) (ks : Array Name) (g : Array Syntax) : Nat → Nat → Syntax × Nat
  | 0, p => (.missing, p)
  | f + 1, p => match String.Pos.Raw.get s ⟨p⟩, rd s (p + 1) with
    | 'A', (n, p) => (.atom .none (sub s p n), p + n)
    | 'I', (n, p) => let t := sub s p n; (.ident .none t.toRawSubstring t.toName [], p + n)
    | 'H', (n, p) => (g.getD n .missing, p)
    | 'N', (k, p) =>
      let (n, p) := rd s p
      let (a, q) := (List.range n).foldl (fun (a, q) _ => let (x, q) := dec s ks g f q; (a.push x, q)) ((#[] : Array Syntax), p)
      (.node .none (ks.getD k .anonymous) a, q)
    | _, _ => (.missing, p + 1)
/-- the number of a word -/
def wi (v : Name) : Option Nat := match v with
  | .str .anonymous t =>
    let d (i : Nat) : Nat := let c := (String.Pos.Raw.get t ⟨i⟩).toNat; if 97 ≤ c && c ≤ 122 then c - 97 else if 65 ≤ c && c ≤ 90 then c - 39 else if 48 ≤ c && c ≤ 57 then c + 4 else 99
    let z := t.utf8ByteSize
    let a := d 0
    let b := d 1
    let c := d 2
    if z < 2 || 3 < z || 51 < a || 51 < b then none
    else if z == 2 then (if 26 ≤ b then some (a * 26 + b - 26) else if 26 ≤ a then some (676 + a * 26 + b) else none)
    else if b < 26 || 61 < c then none else some (2028 + (a * 26 + b - 26) * 62 + c)
  | _ => none
structure T where
  s : String
  ks : Array Name
  n : Nat
  o : Nat
def T.of (s : String) : T := match s.splitOn "\n" with
  | k :: n :: _ => ⟨s, ((k.splitOn " ").map String.toName).toArray, n.toNat!, k.utf8ByteSize + n.utf8ByteSize + 2⟩
  | _ => ⟨s, #[], 0, 0⟩
def T.pos (t : T) (i : Nat) : Nat := t.o + 4 * t.n + num t.s (t.o + 4 * i) * 6400 + num t.s (t.o + 4 * i + 2)
def T.rank (t : T) (i : Nat) : Nat := num t.s (t.pos i)
def T.get (t : T) (i : Nat) (g : Array Syntax) : Syntax := (dec t.s t.ks g 999 (t.pos i + 2)).1
/-- the number of a word that the table tells -/
def T.wi (t : T) (v : Name) : Option Nat := match Z.wi v with
  | some i => if i < t.n && t.rank i != 99 then some i else none
  | none => none
def nd (k : Name) (a : Array Syntax) : Syntax := .node .none k a
def at_ (s : Syntax) (i : Nat) : Syntax := s.getArgs.getD i .missing
def has (t : T) : Nat → Syntax → Bool
  | 0, _ => false
  | f + 1, s => match s with
    | .ident _ _ v _ => (t.wi v).isSome
    | .node _ _ a => a.any (has t f)
    | _ => false
/-- does a dot stand for a variable in it? -/
def dot : Nat → Syntax → Bool
  | 0, _ => false
  | f + 1, s => match s with
    | .node _ k a => k == `Lean.Parser.Term.cdot || k != `Lean.Parser.Term.paren && a.any (dot f)
    | _ => false
def bare (s : Syntax) : Syntax := if s.isOfKind `Lean.Parser.Term.paren && !dot 999 (at_ s 1) then at_ s 1 else s
/-- arguments are read as in Polish notation -/
def group (t : T) (g : Array Syntax) : Array Syntax := (g.foldr (fun x s => match x with
  | .ident _ _ v _ => match t.wi v with
    | some i => let r := t.rank i; if r == 0 then x :: s else nd `Lean.Parser.Term.app #[x, nd `null (s.take r).toArray] :: s.drop r
    | none => x :: s
  | _ => x :: s) ([] : List Syntax)).toArray
/-- a word's meaning, its arguments put in, not yet read further -/
def open_ (t : T) (s : Syntax) : Option Syntax := match s with
  | .ident _ _ v _ => (t.wi v).map (t.get · #[])
  | .node _ `Lean.Parser.Term.app a => match a.getD 0 .missing with
    | .ident _ _ v _ => (t.wi v).map fun i =>
      let g := group t (a.getD 1 .missing).getArgs
      let r := t.rank i
      let e := t.get i ((g.extract 0 r).map bare)
      if r < g.size then nd `Lean.Parser.Term.app #[e, nd `null (g.extract r g.size)] else e
    | _ => none
  | _ => none
/-- does it stand for tactics? -/
def isT (t : T) : Nat → Syntax → Bool
  | 0, _ => false
  | f + 1, s =>
    if s.isOfKind `Lean.Parser.Term.byTactic || s.isOfKind `«term[_]» || s.isOfKind `Lean.Parser.Term.hole then true
    else if s.isOfKind `Lean.Parser.Term.paren then isT t f (at_ s 1)
    else match open_ t s with
      | some e => isT t f e
      | none => false
def rules (s : Syntax) : Array Syntax := (at_ (at_ s 2) 1).getSepArgs.map fun r => at_ r 1
def isW (t : T) (s : Syntax) : Bool := s.isOfKind `Lean.Parser.Tactic.rwSeq && (at_ (at_ (at_ (at_ s 2) 1) 0) 0).getNumArgs == 0 && (at_ s 3).getNumArgs == 0 && isT t 99 ((rules s).getD 0 .missing)
def seq (l : List Syntax) : Syntax :=
  let rec go : List Syntax → List Syntax
    | [] => []
    | [x] => [x]
    | x :: l => if x.isMissing then [nd `Lean.Parser.Tactic.exact #[.atom .none "exact", nd `Lean.Parser.Term.byTactic #[.atom .none "by", nd `Lean.Parser.Tactic.tacticSeq #[nd `Lean.Parser.Tactic.tacticSeq1Indented #[nd `null (go l).toArray]]]]] else match go l with
      | [] => [x]
      | m => x :: nd `null #[] :: m
  nd `Lean.Parser.Tactic.tacticSeq1Indented #[nd `null (go l).toArray]
/-- words opened: of a tactic or a rule (m) a list of tactics, else one thing -/
def go (t : T) : Nat → Bool → Syntax → List Syntax
  | 0, _, s => [s]
  | f + 1, true, s =>
    let of (x : Syntax) : List Syntax := (at_ (at_ (at_ x 1) 0) 0).getSepArgs.toList.flatMap fun c => go t f true c
    if s.isOfKind `Lean.Parser.Term.hole then [.missing]
    else if s.isOfKind `Lean.Parser.Term.paren then go t f true (at_ s 1)
    else if s.isOfKind `Lean.Parser.Term.byTactic then of s
    else if s.isOfKind `«term[_]» then [nd `Lean.cdot #[nd `Lean.cdotTk #[.atom .none "·"], nd `Lean.Parser.Tactic.tacticSeq #[seq ((at_ s 1).getSepArgs.toList.flatMap fun c => go t f true c)]]]
    else if isW t s then
      let r := (rules s).toList
      match r with
      | [x] =>
        let x := if x.isOfKind `Lean.Parser.Term.paren then at_ x 1 else x
        if x.isOfKind `«term[_]» then (at_ x 1).getSepArgs.toList.flatMap fun c => go t f true c else go t f true x
      | _ => r.flatMap fun c => go t f true c
    else match open_ t s with
      | some e => go t f true e
      | none => go t f false s
  | f + 1, false, s => match s with
    | .node _ k a =>
      if k == `Lean.Parser.Tactic.tacticSeq1Indented then [seq ((at_ s 0).getSepArgs.toList.flatMap fun c => go t f true c)]
      else if isW t s then
        match go t f true s with
        | [x] => [x]
        | l => [nd `Lean.Parser.Tactic.paren #[.atom .none "(", nd `Lean.Parser.Tactic.tacticSeq #[seq l], .atom .none ")"]]
      else match open_ t s with
        | some e => go t f false e
        | none =>
          if k == `Lean.Parser.Term.app then [.node .none k #[((go t f false (a.getD 0 .missing)).headD .missing), nd `null ((group t (a.getD 1 .missing).getArgs).map fun x => (go t f false x).headD .missing)]]
          else [.node .none k (a.map fun x => (go t f false x).headD .missing)]
    | .ident _ r v p => match open_ t s with
      | some e => go t f false e
      | none => [.ident .none r v p]
    | .atom _ v => [.atom .none v]
    | _ => [s]
end Z
section
local macro_rules (kind := Lean.Parser.Term.tuple) | s => return Z.table true ((#[s[1][0]] ++ s[1][2].getArgs).filter fun x => !x.isAtom)
def Z.tq : String := ((by first | exact ψ | exact χ),
(by (exact ψ; exact χ)),
(by skip),
(by (refine @(@_root_.EE.cgo _ _ _ _ _ _ _ _ _ @((?_ : _root_.EE.Al4 _) _ _ _ _)); intros ψ χ ω τ; refine @(@_root_.EE.ck8 _ _ _ _ _ _ _ _ _ ?_); exact ρ)),
(by (refine @(@_root_.EE.cgn _ _ _ _ _ _ _ @((?_ : _root_.EE.Al3 _) _ _ _)); intros ψ χ ω; refine @(@_root_.EE.ck7 _ _ _ _ _ _ _ ?_); exact τ)),
(by (refine @(@_root_.EE.cgm _ _ _ _ _ @((?_ : _root_.EE.Al2 _) _ _)); intros ψ χ; refine @(@_root_.EE.ck6 _ _ _ _ _ ?_); exact ω)),
(by (refine @(@_root_.EE.bgq _ _ _ @((?_ : _root_.EE.Al1 _) _)); intros ψ; refine @(@_root_.EE.ck5 _ _ _ ?_); exact χ)),
(by (refine @(_root_.EE.unwrap ?_); exact ψ; exact χ; unhygienic intros; refine @(_root_.EE.wrap ?_))),
(by (refine @(@_root_.EE.clb _ _ _ _ _ _ _ _ _ _ ψ @((?_ : _root_.EE.QA4 _ _) _ _ _ _)); exact χ; intros ω τ ρ ξ; refine @(@_root_.EE.clc _ _ _ _ _ _ _ _ _ _ ?_); intros ζ; exact η)),
(by (refine @(@_root_.EE.ck' _ _ _ _ _ _ _ _ ψ @((?_ : _root_.EE.QA3 _ _) _ _ _)); exact χ; intros ω τ ρ; refine @(@_root_.EE.cla _ _ _ _ _ _ _ _ ?_); intros ξ; exact ζ)),
(by (refine @(@_root_.EE.ck9 _ _ _ _ _ _ ψ @((?_ : _root_.EE.QA2 _ _) _ _)); exact χ; intros ω τ; refine @(@_root_.EE.ck_ _ _ _ _ _ _ ?_); intros ρ; exact ξ)),
(by (refine @(@_root_.EE.exE _ _ _ _ ψ @((?_ : _root_.EE.QA _ _) _)); exact χ; intros ω; refine @(@_root_.EE.idq _ _ _ _ ?_); intros τ; exact ρ)),
(by (refine @(@_root_.EE.clg _ _ _ _ _ _ ψ ?_); exact χ; intros ω τ ρ ξ ζ; exact η)),
(by (refine @(@_root_.EE.clf _ _ _ _ _ ψ ?_); exact χ; intros ω τ ρ ξ; exact ζ)),
(by (refine @(@_root_.EE.cle _ _ _ _ ψ ?_); exact χ; intros ω τ ρ; exact ξ)),
(by (refine @(@_root_.EE.exR _ _ _ ψ ?_); exact χ; intros ω τ; exact ρ)),
(by (refine @(@_root_.EE.cgs _ _ _ _ _ _ _ ψ ?_); exact χ; exact ω; exact τ)),
(by (refine @(@_root_.EE.cgr _ _ _ _ _ _ ψ ?_); exact χ; exact ω; exact τ)),
(by (refine @(@_root_.EE.cgq _ _ _ _ _ ψ ?_); exact χ; exact ω; exact τ)),
(by (refine @(@_root_.EE.cgp _ _ _ _ ψ ?_); exact χ; exact ω; exact τ)),
(by (refine @(@_root_.EE.cld _ _ _ ψ ?_); exact χ; exact ω; exact τ)),
(by (generalize ψ = χ; exact ω)),
(by try clear ψ),
((ψ).out),
(_root_.EE.cgt ψ),
((show ψ from χ)),
(by refine _root_.EE.rwE ψ ?_),
(by refine _root_.EE.rwS ψ ?_),
((ψ _)),
((ψ _ _)),
((ψ _ _ _)),
((ψ _ _ _ _)),
(by rewrite [ψ]),
(by try (with_reducible rfl)),
(by first | exact Nat.le_of_ble_eq_true (Eq.refl true) | exact of_decide_eq_true (Eq.refl true) | decide -revert),
(by first | focus (refine Or.elim ψ ?_ ?_; rotate_left; exact χ; rotate_right; exact ω) | exact τ),
(by first | with_reducible exact abg | with_reducible exact a6y | with_reducible exact bb4 | with_reducible exact aoz | (exact ψ; done) | (with_reducible refine aao ?_ ?_ <;> show_term exact ψ) | (with_reducible refine b4m ?_; intros x b; exact by show_term exact ψ) | (with_reducible refine aql ?_ ?_ <;> show_term exact ψ) | (with_reducible refine eu ?_ ?_ <;> show_term exact ψ) | (with_reducible refine bi4 ?_; intros x y z; exact by (try simp only [ccp, bt', ccq, b4n, Array.size_map]); show_term exact ψ) | (with_reducible refine yn ?_; intros x; exact by show_term exact ψ) | (intros x; exact by show_term exact ψ) | (dsimp only; show_term exact ψ) | (split <;> show_term exact ψ)),
(by repeat' (first | assumption | with_reducible refine ch9 (by assumption) ?_ | with_reducible exact ak5 | with_reducible exact aqm | with_reducible exact b71 | with_reducible refine b72 ?_ | with_reducible refine b4o ?_ | with_reducible refine b70 ?_ | with_reducible refine bb7 ?_ ?_ | with_reducible refine mk_one ?_ | with_reducible refine ccr ?_ ?_ | with_reducible refine ccs ?_ | with_reducible refine cct ?_ | with_reducible refine b7z ?_ ?_ | with_reducible exact mk_eq)),
(by first | with_reducible exact a6y | with_reducible exact bb4 | (with_reducible refine ak3 ?_; with_reducible trace_state; done) | with_reducible exact wf ak5 | with_reducible exact bi5 _ | with_reducible exact a_f (by assumption) aqm aqm | with_reducible exact abh (by assumption) _ _ _ _ _ _ | with_reducible exact aoz | (with_reducible refine aao ?_ ?_ <;> fail_if_success exact ψ) | (with_reducible refine eu ?_ ?_ <;> fail_if_success exact ψ) | (with_reducible refine bi4 ?_; intros x y z; exact by (try dsimp -zeta -zetaHave only [ccp, bt', ccq, b4n]); fail_if_success exact ψ) | (with_reducible refine yu ?_; fail_if_success exact ψ) | (with_reducible refine a2l ?_ ?_ <;> fail_if_success exact ψ) | (with_reducible refine ak4 ?_; intros x; exact by fail_if_success exact ψ) | (with_reducible refine yn ?_; intros x; exact by fail_if_success exact ψ) | (with_reducible refine b73 ?_; intros o o' ho; exact by fail_if_success exact ψ) | (dsimp -zeta -zetaHave only [ap2]; fail_if_success exact ψ) | (exact ψ)))
end
namespace Z
open Lean
def tp (i : Nat) (xs : Array Syntax) : Syntax := let e := (T.of tq).get i xs; if e.isOfKind `Lean.Parser.Term.byTactic then at_ (at_ (at_ (at_ e 1) 0) 0) 0 else e
def kd (s : String) : Name := ("Lean.Parser.Tactic." ++ s).toName
def nt (k : String) (a : Array Syntax) : Syntax := .node .none (kd k) a
def nl (a : Array Syntax) : Syntax := .node .none `null a
def idt (s : String) : Syntax := .ident .none s.toRawSubstring s.toName []
def atm (s : String) : Syntax := .atom .none s
def is (s : Syntax) (k : String) : Bool := s.getKind == kd k
def med (q : Syntax) : Syntax := nt "rcasesPatMed" #[nl #[q]]
def lo (m : Syntax) : Syntax := nt "rcasesPatLo" #[m, nl #[]]
def par (m : Syntax) : Syntax := nt "rcasesPat.paren" #[atm "(", lo m, atm ")"]
def obt (m e : Syntax) : Syntax := nt "obtain" #[atm "obtain", nl #[m], nl #[], nl #[atm ":=", nl #[e]]]
def rcs (l e : Syntax) : Syntax := nt "rcases" #[atm "rcases", nl #[nt "elimTarget" #[nl #[], e]], nl #[atm "with", l]]
def ins (a : Array Syntax) : Syntax := nt "intros" #[atm "intros", nl a]
def inn (a : Array Syntax) : Syntax := if a.size == 0 then tp 2 #[] else nt "intro" #[atm "intro", nl a]
def sq2 (l : List Syntax) : Syntax := match l with
  | [] => tp 2 #[]
  | [a] => a
  | a :: r => tp 1 #[a, sq2 r]
def fst (l : List Syntax) : Syntax := match l with
  | [] => tp 2 #[]
  | [a] => a
  | a :: r => tp 0 #[a, fst r]
def clr (e : Syntax) : Syntax := if e.isIdent then tp 22 #[e] else tp 2 #[]
def hol : Syntax := .node .none `Lean.Parser.Term.hole #[atm "_"]
def base (e : Syntax) : String := if e.isIdent && e.getId.toString.startsWith "y_" then e.getId.toString else "y"
def name1 (q : Syntax) : Bool := is q "rcasesPat.one" && q[0].getId != `rfl
def mIntro (s : Syntax) : MacroM Syntax := do
  let xs := s[1].getArgs
  if xs.size == 0 then Macro.throwUnsupported
  let mut ids : Array Syntax := #[]
  for x in xs do
    if x.isIdent then ids := ids.push x
    else if x.isOfKind `Lean.Parser.Term.hole then ids := ids.push (idt "y_0")
    else Macro.throwUnsupported
  let n := ids.size
  let mut alts : List Syntax := [sq2 [ins #[ids[0]!], inn (ids.extract 1 n)]]
  for (k, t) in [(1, 6), (2, 5), (3, 4), (4, 3)] do
    if k ≤ n then alts := tp t ((ids.extract 0 k).push (inn (ids.extract k n))) :: alts
  return fst alts
def mDelta (s : Syntax) : MacroM Syntax := do
  if s[2].getNumArgs != 0 then Macro.throwUnsupported
  return tp 7 #[nt "revert" #[atm "revert", s[1]], inn s[1].getArgs]
def mObtain (s : Syntax) : MacroM Syntax := do
  if s[1].getNumArgs == 0 || s[3].getNumArgs == 0 || s[3][1].getSepArgs.size != 1 then Macro.throwUnsupported
  let e := s[3][1].getSepArgs[0]!
  let p := s[1][0]
  if s[2].getNumArgs != 0 then return obt p (tp 25 #[s[2][1], e])
  let raw := rcs (lo p) e
  let ps := p[0].getSepArgs
  if ps.size != 1 then return raw
  let q0 := ps[0]!
  let rw := is q0 "rcasesPat.paren" && q0[1][1].getNumArgs == 0 && q0[1][0][0].getSepArgs.size == 1
  let q := if rw then q0[1][0][0].getSepArgs[0]! else q0
  unless is q "rcasesPat.tuple" do return raw
  let cs := q[1].getSepArgs
  let wr (m : Syntax) : Syntax := if rw then (let a := m[0].getSepArgs; if a.size == 1 && is a[0]! "rcasesPat.paren" then m else med (par m)) else m
  if cs.size == 0 then return raw
  if cs.size == 1 then return obt (wr cs[0]![0]) e
  let b := base e
  let mm (x : Array Syntax) : Syntax := if x.size == 1 then wr x[0]![0] else
    wr (med (nt "rcasesPat.tuple" #[atm "⟨", nl ((x.extract 1 x.size).foldl (fun a y => (a.push (atm ",")).push y) #[x[0]!]), atm "⟩"]))
  let cl := clr e
  let part (k : Nat) : Array Syntax × Syntax := Id.run do
    let mut ids : Array Syntax := #[]
    let mut ts : List Syntax := []
    for j in [0 : min (k + 1) cs.size] do
      if j == k && k + 1 < cs.size then
        let i := idt (b ++ "_r")
        ids := ids.push i
        ts := ts ++ [obt (mm (cs.extract k cs.size)) i]
      else
        let m := cs[j]![0][0].getSepArgs
        if m.size == 1 && name1 m[0]! then ids := ids.push m[0]![0]
        else
          let i := idt (b ++ "_" ++ toString j)
          ids := ids.push i
          unless m.size == 1 && is m[0]! "rcasesPat.ignore" do ts := ts ++ [obt (mm #[cs[j]!]) i]
    return (ids, sq2 ts)
  let mut alts : List Syntax := []
  for (k, t, r) in [(4, 8, 12), (3, 9, 13), (2, 10, 14), (1, 11, 15)] do
    if cs.size ≥ k + 1 then
      let (ids, ts) := part k
      alts := alts ++ [tp (if rw then r else t) ((#[e, cl] ++ ids).push ts)]
  for (k, t) in [(5, 16), (4, 17), (3, 18), (2, 19), (1, 20)] do
    if cs.size ≥ k + 1 then
      let (ids, ts) := part k
      alts := alts ++ [tp t #[e, cl, ins ids, ts]]
  unless rw do
    if e.isIdent then
      let rf := lo (med (nt "rcasesPat.one" #[idt "rfl"]))
      let pp := med (nt "rcasesPat.tuple" #[atm "⟨", nl #[lo (mm #[cs[0]!]), atm ",", lo (mm (cs.extract 1 cs.size)), atm ",", rf], atm "⟩"])
      alts := alts ++ [obt p (tp 23 #[e]), obt pp (tp 24 #[e])]
  let t := fst (alts ++ [raw])
  if e.isIdent then return t
  let h := idt "y_g"
  return fst [tp 21 #[e, h, obt p h], t]
def mRintro (s : Syntax) : MacroM Syntax := do
  if s[2].getNumArgs != 0 then Macro.throwUnsupported
  let ps := s[1].getArgs
  let rw := ps.size > 0 && is ps[0]! "rintroPat.binder"
  let mut sq : List Syntax := []
  let mut run : Array Syntax := #[]
  let mut k := 0
  for p in ps do
    k := k + 1
    let h := idt ("y_" ++ toString k)
    let mut q := p[0]
    if is p "rintroPat.binder" then
      unless rw && p[1].getNumArgs == 1 && p[2].getNumArgs == 0 && is p[1][0] "rintroPat.one" do Macro.throwUnsupported
      q := p[1][0][0]
    else unless is p "rintroPat.one" do Macro.throwUnsupported
    if name1 q then run := run.push q[0]
    else if is q "rcasesPat.ignore" then run := run.push (if rw then h else hol)
    else
      run := run.push h
      sq := sq ++ [if rw then ins run else inn run, obt (med (if rw then par (med q) else q)) h]
      run := #[]
  if run.size > 0 then sq := sq ++ [if rw then ins run else inn run]
  return sq2 sq
def mRw (s : Syntax) : MacroM Syntax := do
  if s[1][0].getNumArgs != 0 || s[3].getNumArgs != 0 then Macro.throwUnsupported
  let mut sq : List Syntax := []
  for r in s[2][1].getSepArgs do
    let t := r[1]
    let f := if r[0].getNumArgs != 0 then 27 else 26
    let mut alts : List Syntax := [tp f #[t]]
    if t.isIdent || t.isOfKind `Lean.Parser.Term.app then
      for u in [28, 29, 30, 31] do alts := alts ++ [tp f #[tp u #[t]]]
    sq := sq ++ [fst (alts ++ [tp 32 #[r]])]
  return sq2 (sq ++ [tp 33 #[]])
def mDecide (s : Syntax) : MacroM Syntax := do
  if s[1][0].getNumArgs != 0 then Macro.throwUnsupported
  return tp 34 #[]
def mRcases (s : Syntax) : MacroM Syntax := do
  if s[1].getSepArgs.size != 1 || s[2].getNumArgs == 0 then Macro.throwUnsupported
  let et := s[1][0]
  let p := s[2][1]
  if p[1].getNumArgs != 0 || et[0].getNumArgs != 0 then Macro.throwUnsupported
  let e := et[1]
  let ps := p[0][0].getSepArgs
  if ps.size == 1 then
    if is ps[0]! "rcasesPat.tuple" then return obt (med (par p[0])) e
    Macro.throwUnsupported
  let cl := clr e
  let b := base e
  let one (qs : Array Syntax) (h : Syntax) : Syntax :=
    if qs.size > 1 then
      sq2 [cl, ins #[h], rcs (lo (nt "rcasesPatMed" #[nl ((qs.extract 1 qs.size).foldl (fun a y => (a.push (atm "|")).push y) #[qs[0]!])])) h]
    else
      let q := qs[0]!
      if name1 q then sq2 [cl, ins #[q[0]]]
      else if is q "rcasesPat.ignore" then sq2 [cl, ins #[h]]
      else sq2 [cl, ins #[h], obt (if is q "rcasesPat.paren" then med q else med (par (med q))) h]
  return tp 35 #[e, one (ps.extract 1 ps.size) (idt (b ++ "_b")), one #[ps[0]!] (idt (b ++ "_a")), rcs (lo (med (par p[0]))) e]
end Z
section
local macro_rules (kind := Lean.Parser.Term.tuple) | s => return Z.table false ((#[s[1][0]] ++ s[1][2].getArgs).filter fun x => !x.isAtom)
def Z.tb : String := (
Addr,by exact ψ,_,_,Prop,by rw[ψ]at χ,by have ψ:χ:=ω,by rw[ψ],by refine ψ,by have ψ:=χ,World,PySem.W.Frag,Program,iU V,some ψ,this,by rw[ψ,χ],iU Nat,none,⟨ψ,χ⟩,Heap,by unfold ψ,base,bA cG,true,by simp_all,by rw[ψ],by subst ψ,Shared,by rw[aG ψ χ ω,aG τ ρ ξ],by rw[pQ ψ,_],bGX bU,(fun ψ χ=>ω),pins,false,uZ V,by rw[ψ];rw[χ],by rw[ψ];rw[χ];rw[ω],iU aA,by have:=ψ,by grind-abstractProof,_,by by_cases ψ:χ,aT ψ aT χ ω,by simp[*],(fun ψ=>χ),Value,(ψ).length,by show ψ,bGW bGN ψ bGO ψ bGP ψ bGQ ψ bGR ψ bGS ψ bGT ψ bGU ψ ψ,by intros ψ,Expr,ψ→χ→ω,ψ _ _ χ,Stmt,_,by rw[ψ,χ,ω],bGV bGN ψ bGO ψ bGP ψ bGQ ψ bGR ψ bGS ψ bGT ψ bGU ψ ψ,by simp,_root_.EE.ao ψ χ ω,.ref ψ,Type,List.length_map,_,Around,by rw[ψ];rw[χ];rw[ω];rw[τ],L2.St,_,Si33.Dict,Dict,(by obtain(⟨ψ,χ,ω⟩):=τ),_,UI bU,by unfold ψ at χ,Text,(by obtain(⟨ψ,χ⟩):=ω),by intros ψ χ,fM UE ψ,by rw[ψ,χ]at ω,bK ψ aB χ,_,by rw[Zq ψ χ,_],Dk ψ (by rw[χ]),xs.length,by rw[bEp ψ χ ω τ,_],qN rD dBW bO,Si33.Entry,by rw[_,aI ψ],_,aB aT ψ χ,GH aA Obj,top ψ,bA aB (ψ χ),by rw[aI ψ,dD χ ω],aAY s,by rw[aG ψ χ ω,aI τ],_,_,by ·rw[ψ],_,dF0 wR,_,_,ψ∧χ∧ω,_,_,if_neg ψ,_,_,.nil,i+1,_,_,prog,iU α,_,by simp at ψ,by rw[aJ ψ χ,aJ ω τ],aT ψ ?_,by rw[bW3 ψ χ ω,_],iU bU,_,_,_,_,by have:ψ:=χ,Rq H,dZ ψ χ dZ ω τ ρ,(∃ψ,χ∧ω),(fun _=>ψ),List.length_append,iU aR,bA aZ,bA bS,bA FT,.inr ψ,_,by rw[Ch ψ,_],_,s.heap.objs.size,iU dI,_,((ψ:Int)),by rw[ψ];rw[χ];rw[ω];rw[τ];rw[ρ],qN rD (by grind-abstractProof-ring-linarith-order-ac-mbtc-lookahead-etaStruct-funCC-inj) bO,PF ψ χ [by rw[ω],by rw[τ]],gz mg,(fun ψ χ ω=>τ),_,gR cZ ψ,pv 1,_,bA mF ψ,bA (by lia),Si33.Letters,(if ψ then χ else ω),T.g_,.inl ψ,bA aB (ψ χ ω),bV (ψ χ),Bool,last,dB aH ψ χ,kC ψ i χ,_,aT _ ψ,pv 3,Node,scope,bi.of ψ,by rw[aJ ψ χ,aG ω τ ρ],_,by rw[_,aJ ψ χ],.int ψ,_,bL ψ χ aB ω,Type u,_,.lst ψ,aI (wpAny_bind ψ),_root_.EE.bp ψ χ ω τ,by rw[aI ψ,aI χ],_,_,_,_,_,_,_,_,_,_,_,_,by rw[←ψ],_,_,_,_,_,_,_,_,_,_,_,_,_,(by rcases ψ with χ|ω),bA jL,by rw[XO ψ χ ω τ ρ,_],a0≤ψ,.fu,if_pos ψ,left,d.length,rows,(∀ψ,χ→ω),items,aO cI ψ,(ψ).map χ,
iU gL,(List.getElem?_eq_some_iff.mp ψ).1,bA mG,iU Str,(show ψ from χ),l.length,keys,List ψ,bK ψ aB (χ ω),cI p,by intros ψ χ ω,upd ψ χ ω τ=aO ρ,TE.cl,bR ψ χ ?_,Dk ψ [by rw[χ],by rw[ω]],pv 2,Jt TE.na,iU JE,(by obtain(⟨ψ,χ,ω,τ⟩):=ρ),by intro ψ χ ω τ,_,fZ (ψ=χ) ω τ,aH (if_neg ψ),Dk ψ [by rw[χ],by rw[ω],by rw[τ]],by decide,rest,aB (ψ h),_root_.EE.ax ψ χ ω,j+1,aAX yU,cons,by rw[ψ,χ,ω,τ],cI a,ψ∧dZ χ ω τ,aH (aq ψ),ψ→cA χ ω τ,by rw[ψ];rw[χ];rw[ω];rw[τ];rw[ρ];rw[ξ],UJ 0,"place",known,List.getElem?_map,ψ[χ]?=aO ω,aT rfl ψ,cB s3 ψ,_root_.EE.cw ψ χ ω τ,by ·rw[ψ];rw[χ],bA rF,(fun ψ χ ω τ=>ρ),((∀ψ∈χ,ω)),by rw[ψ];rw[χ];rw[ω];rw[τ];rw[ρ];rw[ξ];rw[ζ],Type v,⟨ψ,χ,ω⟩,_,s.heap,upd ψ χ ω,(∀ψ χ,ω→τ),_,_,a0+1,bGV bG7 bG8 bG9 bHa bHb bHc bHd bHe e,_,by apply ψ,bL ψ _ χ,cB s1 ψ,aJ ψ (Paired.length χ),_,Nat.le_refl _,bA aB ψ,_,_,Si33.Link,outer,aB bR ψ χ ω,aO i,by rw[lM ψ χ ω,_],"entry",_,by intro ψ χ ω,List.map_append,by simp only[ψ],hlen,st.dict,cA ψ χ aE,_,decide ψ,_,bT z ψ,ψ _ _ χ ω,bA XU ψ,cZ a0,g9 ?_ ?_,_,_,ψ χ (List.mem_of_getElem? ω),iU bZ,_,by simp[ψ],by omega,Jx a,n+1,Nat.zero_le _,kind,List.map_map,succ,(by generalize ψ=χ at*),st.letters,bd ψ χ (au ω),lT (ψ<χ),bG ψ χ ?_,_,ψ≤bEj,cB s2 ψ,(ψ).Nodup,by unfold ψ χ,Si33.Spot,bK aV ψ χ,iU Int,_,_,_,_,aUB H d,aB (.inr ψ),a0<a1,root,_,t.length,_,_,ψ bT x χ,fZ (ψ=aY) χ ω,_,_root_.EE.cu ψ χ ω τ ρ,by rw[SU ψ χ ω τ ρ,_],aUE 0,_,_,MF t mg ψ YO χ,_,a0=a1,_,_,H ψ=aS,H' ψ=aO χ,ag.push (o:=ψ) χ,uZ Nat,_,by rw[aI ψ,aH χ],rP ψ ?_,pv 4,iD a1,_,False,kvs.length,_,H ψ=aO χ,kM _ ψ ?_,lV (ψ χ),Rz gN ψ,by rw[bD ψ χ ω τ ρ ξ,aG ζ η θ],by intros bH s σ H ψ I χ,PF ψ χ (by rw[ω]),by rw[ψ]<;>rw[χ],(ψ).symm,_,(fun ψ χ ω τ ρ=>ξ),Scope,by split,Entry,e.head,by congr 1,X.prog,cH ψ χ ?_,by rw[Qh ψ χ,_],ps.length,by split at ψ,aB (ψ z),.bl ψ,PE X ψ χ,ag.push ψ,(∃ψ χ,dZ ω τ ρ),IV jT,dO ψ h0,aG e (ψ=χ) ω,aUC cG,by intro ψ,X.env,done,s1.heap.objs.size,items2,TH.cl,aMy f cdv A lG s H vs Q ψ hr h,fR ψ χ ω ?_,b≠ψ,(ψ).trans χ,Jv bU,by ·rw[ψ];rw[χ];rw[ω],ψ≤12,_,Jt TH.na,by rw[ψ];rw[χ];rw[ω];rw[τ];rw[ρ];rw[ξ];rw[ζ];rw[η];rw[θ],
(∀(ψ:χ)(ω:τ),ρ),"sense",V.ref,"house",by solve_by_elim(maxDepth:=3),e.senses,(by obtain(⟨ψ,χ,ω,τ,ρ⟩):=ξ),by (rw[ψ]),cI y,ψ≤aKK,cA ψ χ cA ω τ ρ,ψ _ _,bL aV ψ χ ω,V.int cZ ψ,Sim c M Γ s ψ χ,_,by rw[jG ψ χ ω τ,_],aH (if_pos ψ),⟨ψ,χ,ω,τ,ρ⟩,List.length_cons,_,_,List.map_cons,by first|rw[ψ]|rw[χ],kP H ψ χ,qN rD dBW mG,aI (ψ ?_),cB s ψ,_,ag H ψ,gJ rfl,bHg gN ψ,qN rD (by grind-abstractProof-ring-linarith-order-ac-mbtc-lia-ext-funext) bO,x=jT,List.take_add_one,bR _ ψ χ,ψ≤vO,pv 0,Nonempty ψ,ψ x=aO χ,_,_,ψ[i]?,aUC aTh,aO jT,pv 5,_,Type w,⟨ψ,χ,ω,τ⟩,_,(by cases ψ),keep,kP ψ χ gW ω,_,_,Paired ψ χ ω,gW [],_,gN cB ψ χ,CJ ψ=aY,iL x,_,aB (.inl ψ),cN ψ χ ω aB τ,rP rfl ψ,aAX Key,_,body,qual,by have ψ:∀χ∈ω,τ:=ρ,by intro ψ χ ω τ ρ ξ,List.length_take,_,_,_,_,lexLt,name,_,JE.cells,by (rw[ψ];rw[χ]),ψ b o χ ω,lT (ψ=χ),bT x ψ,cI q,ps.map qI,bT e ψ,uD [],bK ψ aB (χ ω τ),bV ψ≤χ,_,bGV jN EE.ns jN EE.sn jN EE.ft jN EE.tf jN EE.nc jN EE.cn jN EE.oe jN EE.eo h,iF rfl,_,a=b,bA bO,rS α,aUL α,a.CH,by rw[ψ,χ,ω]at τ,T.gc,.dT ψ,bK aH ψ χ,MA ψ o,ψ (ag.push χ),.aS,ψ b hb,jO ψ χ aT ω τ,Good d,by rw[aJ ψ (χ ω),aJ τ (ρ ξ)],aI (f9 ψ),cH rfl ψ χ,(((ψ:Str),χ)),_::_,some,String,its.toArray,{ψ with χ:=ω},vs.length,"text",(by rename_i ψ),s.text,TP.cl,Option ψ,min ψ χ,aAZ ψ χ (by rw[ω]) τ ρ,bK ψ (by rfl),Q ψ H,bG i ψ χ,cI b,fN ψ _ χ ω τ,dB jV ψ χ,aI (ψ χ ?_),bA aQ ψ χ,iA (List.mem_append.mp ψ) χ χ,bQ e (ψ=χ),by rw[ψ];rw[χ];rw[ω];rw[τ];rw[ρ];rw[ξ];rw[ζ];rw[η],bA eM h,sizeLine,"letters",by rw[ψ]at χ ω,by intros ψ χ ω τ,((·.text)),(by obtain(⟨ψ,χ,ω,τ,ρ,ξ⟩):=ζ),(by generalize ψ=χ at ω τ⊢),.tup ψ,oM ψ gW χ,fT i,ψ.2.1,ψ≤bWY,cN ψ _ χ ω,aUy ψ vs H Q XE,MG o ψ,ψ≤i,bT h ψ,(∃ψ,dZ χ ω τ),fM 1,Ru ψ χ ω [by rw[τ],by rw[ρ],by rw[ξ]],bHj H,cB s5 ψ,aAX κ,((·.1)),names,r.length,(fun _ ψ=>χ),by simp only[ψ,χ],ys.length,bA (by decide+kernel),Def Pr w K mg aW ψ χ ω τ,by grind-abstractProof[aAJ,aL1],ly.of ψ,aUA ψ CU χ,a1+1,kM _ rfl ψ,by ·rw[ψ];rw[χ];rw[ω];rw[τ],iL c,y∈ψ,nZ b,fJ+1,qN rD (by grind-abstractProof-ring-linarith-order-ac-mbtc-lookahead-etaStruct-funCC-inj[aAJ,aL1]) wT,
iU lF,iU aAd,Dk ψ [by rw[χ],by rw[ω],by rw[τ],by rw[ρ]],rS β,bHm CE,(match ψ with|χ=>ω|τ=>ρ),"number","entries","pointer",by intro ψ χ ω τ ρ ξ ζ,Link,((·.2)),items.size,gB rfl,ME ψ YN χ,(∀ψ χ,cA ω τ ρ),Def P w K mg aW ψ χ ω τ,LX ψ χ [ω],cI f,bK bN ψ χ,cB _root_.EE.ax ψ,[a],_root_.EE.ax ψ _ χ,_root_.EE.gp ψ χ ω τ ρ ξ,b∈ψ,_,bT k ψ,aAX Str,by rw[aJ ψ χ,aI ω],uZ aA,"list",by rw[ψ]at χ⊢,by intro ψ χ ω τ ρ ξ ζ η θ,e.num,Letters,by intro ψ χ ω τ ρ ξ ζ η θ ι,Ends,c.sur,se.text,_,Inv X bH σ ψ χ,cI x,iU Key,bothOf d g,V.ref ψ,bh ψ χ ω Jw,ψ a=aO χ,ψ a b,ψ∧eX χ ω τ ρ ξ,vC aQ ψ χ,cB s4 ψ,CY ψ rR χ,k+1,gR i,by rw[bD ψ χ ω τ ρ ξ,bD ζ η θ ι μ ν],a0-a1,iA ψ z z,Jt TP.na,mY ψ cG,Rs bD7 CH mq,⟨ψ,χ,ω,τ,ρ,ξ,ζ⟩,a.CL,List.size_toArray,by rw[←ψ]at χ,ψ→∀χ∈ω,τ,Spot,step,cpos,T.iu,Option.some.inj ψ,.type ψ,BF ψ [by rw[χ],by rw[ω],by rw[τ],by rw[ρ]] ξ,vV [ψ,χ],cX ψ rfl χ,PH MC ψ χ ω τ,_,.OE,kC ψ j χ,aUF aA,vn t,dZ (ψ=χ) ω τ,ψ≠[],GJ 2,cS ψ rfl χ ω,cB s6 ψ,ii ψ χ MN,by rw[EF ψ χ ω τ ρ ξ,_],_root_.EE.jh ψ χ ω τ ρ,YW hx ψ,_,qN oT dB8 FT,aG ψ (¬χ) ω,by rw[Qi ψ χ ω,_],bQ ψ (χ∈ω),xY rfl,(fun ψ:χ=>ω),(fun _ _ ψ=>χ),(∃(ψ:χ)(ω:τ),ρ),self,by rw[ψ,χ,ω,τ,ρ],a.length,by simp only[ψ,χ,ω],Model,by intro ψ χ ω τ ρ ξ ζ η,scope.names,by rw[aI ψ,IU χ ω],kI b ψ χ ω τ,BF ψ [by rw[χ],by rw[ω],by rw[τ]] ρ,aT ψ [],aB (absurd ψ χ),cI l,oM a ψ,cI r,Rw Zu,.cell,ψ×Nat,ψ vs H Q XE,vD pI ψ,c::t,YY ψ χ ω τ gW ρ,gL→iN,wB ψ→χ,MC 3 ψ,@ψ Pr w CH CL CE CS CP vs H Q XE eZ χ ω,2^62,aUS u,by rw[eN ψ χ ω τ,aG ρ ξ ζ],iU oZ,bQ z (ψ=χ),MD It,_,UQ v u,⟨ψ,χ,ω,τ,ρ,ξ,ζ,η⟩,_,by simp[ψ,χ],(ψ).isSome,apos,_,"row",_,x.sense,_,params,_,_,hmem,aa ψ ak,(show ψ by rw[χ]),_,_,aUA ψ YK χ ω,Rl.rel c ψ χ,sG ψ χ [],oA ψ gW χ,bW UH _ ψ χ _ _,eY ψ gH χ ω τ,uE ψ (by rfl),by rw[_,kZ ψ χ],cI c,ag.push ψ _ _ χ,JA o,iU mZ,dB hM ψ χ,aAZ ψ χ [by rw[ω],by rw[τ]] ρ ξ,iU β,_,aH (decide_eq_false ψ),Sum.inl cZ ψ,bi K H a xs,iV aH ψ χ ω,by rw[aH ψ,aB χ],bGW jN EE.ns jN EE.sn jN EE.ft jN EE.tf jN EE.nc jN EE.cn jN EE.oe jN EE.eo h,GJ 3,aF1 oZ,by subst hP hw hK,mP ψ [χ] ω,
cA aR fB dFI,Sort ψ,FuncData,"word",a.CE,by intros ψ χ ω τ ρ,_,(by obtain⟨ψ,χ,ω,τ,ρ⟩:=ξ),List.append_assoc,by rw[ψ,←χ],value,i.val,cH ψ rfl χ,cAa zW ψ (.χ ω),wS ψ 1 χ ω,ψ bT χ (ω==τ),by rw[_,aFX ψ χ ω τ],_,.str ψ,t.drop i,uD kvs,bh ψ (pv χ) ω Jw,sG H ψ χ,aFU 1,aA0 Dm,aO (ψ,χ),.own ψ,[bD6],aFU 2,uZ Int,ys.map qI,iU Nd,aMA eJ w ψ Q,(∀xs,ψ≠aO MJ),kP H2 ψ χ,bA dH,by rw[ψ];rw[χ];rw[ω];rw[τ];rw[ρ];rw[ξ];rw[ζ];rw[η];rw[θ];rw[ι];rw[μ],Ru ψ χ ω [by rw[τ],by rw[ρ]],aQ eC ψ eC χ,ai ψ (am χ),by simp[aAJ, *],iU Env,rS γ,cA V aN aA4,Se x ("__debug__":Str),Array (Option bU),ψ∧∀χ∈ω,τ,by assumption,by rw[←ψ,χ],(by obtain⟨ψ,χ,ω,τ,ρ,ξ⟩:=ζ),List.getElem?_eq_getElem,(by generalize ψ:χ=ω at*),s.toks,pl.isList,A.in1,_,⟨ψ,χ,ω,τ,ρ,ξ,ζ,η,θ,ι,μ,ν,π⟩,TS.cl,Si33.linkText,ln.kind,aB (ψ e),iU (ψ×χ),rP ψ rfl,aMw ψ xR,(∃ψ:χ,ω∧τ),kC ψ k χ,Rx aTK ψ,.dK kvs,Dl ψ Ju ψ [by rw[χ],by rw[ω]] τ ρ ξ,Dq ψ _ χ,LX ψ χ aFZ,Heap.get?_push_size _ rfl,s.heap.get? ψ=aO χ,lW sx ψ χ,mY ψ bS,fM 0,dG ψ χ ω (bu τ ρ),tI aTh mG,fM n,aI oN rfl,cI fJ,bA CI ψ χ,aI (f_ ψ),s1.trans s2,dP ψ D hD,by rw[gQ nd ψ,dF2],cB ψ _,i<iH,pv 6,bD ψ (χ=ω) τ ρ (ξ=ζ) η,Ka ψ χ ω [by rw[τ],by rw[ρ]],_,bW (upd ψ χ ω τ=_),by intros X hP hw hK hc i bH s σ H E I hf st hg,_,bGW bG7 bG8 bG9 bHa bHb bHc bHd bHe e,Dk ψ [by rw[χ],by rw[ω],by rw[τ],by rw[ρ],by rw[ξ]],Jt TS.na,x::l,_,aGg aZ,pJ a ta,cA α β lR γ δ,bK aTe (by first|rw[FT]|rw[aBo]|rw[aB (Nat.le_of_lt fE)]|rw[cAb Nat.le_trans]|rw[cAb Nat.lt_of_le_of_lt]|rw[cAb Nat.lt_of_lt_of_le]),by constructor,Si33.Sense,Si33.St,"joined","leads",a.CS,(by obtain(⟨ψ,_,χ⟩):=ω),(fun ψ χ ω τ ρ ξ=>ζ),1000000,e.senses.length,hkey,ahead,Option.map_some,_,List.ext_getElem?,l.kind,X.env.locals,(by obtain(⟨ψ,χ,_⟩):=ω),turn,Bool.eq_iff_iff,items2.size,en.head,by (·rw[ψ]);·rw[χ],vs=[ψ],[qJ,ψ],am (a_ ψ),congrArg ψ χ,Vals ψ χ,oM b ψ,ψ∨(χ∧ω),fR ψ σ H' χ,Ry Jy ψ χ ω,_,j7 ψ ?_,cI z,fc Rk rfl ψ χ ω,[CM],tJ ψ χ e,iJ ψ χ (Q ω τ),_,IU [by rw[ψ],by rw[χ],by rw[ω],by rw[τ],by rw[ρ]] ξ,aB (ψ aP),bT ψ (χ==ω),bT ψ (χ ω),ψ≤a0,cZ i,_,bL ψ aH χ ω,
BF ψ χ [by rw[ω],by rw[τ],by rw[ρ],by rw[ξ]],nZ p,IV yT,bG b hb ψ,(∀{ψ:χ},ω→τ),cy kvs k,aO fT ψ,kP H1 ψ χ,dm (pv ψ),Jv TY,xN bH s σ H ψ I h,BQ ψ→χ,cB s7 ψ,vG ψ χ _ ω,qN rD (by grind-abstractProof-ring-linarith-order-ac-mbtc[aAJ,aL1]) wT,Ne.symm ψ,_,cI d,aJ ψ ((χ).trans ω),UJ 2,Ru ψ χ ω (by rw[τ]),X.calm=aY,fF aT ψ χ,EQ x,by rw[fH ψ,aF χ h],_,Type x,_,by rw[ψ];rw[χ];rw[ω];rw[τ];rw[ρ];rw[ξ];rw[ζ];rw[η];rw[θ];rw[ι],_,mg ψ=aS,qN rD (by grind-abstractProof-ring-linarith-order-ac-mbtc(ematch:=2)(splits:=3)(gen:=3)) bO,_,_,aG e1 (ψ=χ) ω,aUE 1,bK aTe mG,_,GH gL gL,aN→aA4,Kt H s,Gl X x,⟨ψ,χ,ω,τ,ρ,ξ,ζ,η,θ,ι⟩,(by rcases ψ with χ|⟨ω,τ⟩),a.CP,List.nodup_nil,(∀(ψ:χ),ω),by subst ψ χ,by simp only[ψ,χ,ω,τ],(fun ψ _=>χ),decide_eq_true_eq,(ψ).toNat,kv.1,SortSt,Si33.ints,bw K mg ψ χ ω,model ψ χ,.int ψ χ,ψ b=aO χ,NL H ψ χ,aUz ψ xR χ,lR ψ Hp,Paired.c_ ψ χ,(∃ψ,χ ω=aO τ),YM b ψ χ,vn (ψ χ),bHf bv ψ,vV xs,aB rfl,bG v ψ χ,uD Do,lV UK,ψ≤300,bD ψ (ag χ ω) τ ρ ξ ζ,oM p ψ,ψ b o e,ψ σ H1 bG χ H2 ω,aA5 ψ χ (by rw[ω]),aB (f_ ψ),xU ψ 1 χ ω,LX ψ χ IW ω,eX ψ χ ω τ eX ρ ξ ζ η θ,ay e ψ,bR ψ χ rfl,iM ψ xP,YV Hp,bi K ψ χ ω,[b],decide ψ=χ,cI it,GM h',I.ok.hd hc,bK ψ bO,kD rfl,eP ψ χ (List.getElem?_of_mem ω),_,cg ak,by rw[aG ψ (χ=ω) τ,bB ψ],BF ψ χ [by rw[ω],by rw[τ],by rw[ρ],by rw[ξ],by rw[ζ]],aT ψ rfl,aB (ψ χ aP),eO ?_,aB (wpAny_pure ψ),rQ dF,UJ 1,JC m ψ,gD ψ χ≤ω,bHx U,iU HZ,gG aMQ ψ χ,JD ta x ψ,PN lR β γ,by rw[aJ ψ χ,aF ω τ],⟨ψ,χ,ω,τ,ρ,ξ,ζ,η,θ,ι,μ⟩,free,builtin,"enumerate",a.P1,List.any_map,by simp only[ψ]at χ,List.nil_append,start,List.take_length,by simp only[ψ,χ]at ω,keyLt,X.stack,I.loc,item,hbody,es.size,hit.typeIs,mono,b9.at,(by generalize ψ=χ at ω τ ρ⊢),TC.cl,TR.cl,_,Si33.Text,_,T.n1,_,IU [by rw[ψ],by rw[χ]] ω,_,ai ψ (ai χ ω),_,_,_,List.getElem?_eq_getElem _,aA3 um Hb ψ χ ω,α→ψ,_,⟨_,rfl,ψ,χ,ω,τ,ρ,ξ,ζ,η,θ,ι,μ,ν,π,υ⟩,Ju ψ (by rw[χ]) ω τ ρ,ψ[χ]'(gC ω τ ρ),_,_,xs.map qI,Heap.get?_push_of_some _ ψ,_,i-b,I.tok _,xS ψ (z.mono χ),_,MD St,cI C,aUG y ψ qO,iV ψ bi.of χ,a0+a1,(∃ψ χ,jU ω τ ρ ξ),.local,aLw y.2,jX ψ _ χ ω τ ρ,
sG H2 ψ χ,Si ψ C,.dK [],i<n,Jt TR.na,aMz jT,uF s.heap.get?,by rw[iC ψ χ ω τ ρ,aI ξ],fR ψ χ z ω,eO rfl,ψ x y H Q,((GF,t)),by rw[aI ψ,bE χ],qM ψ χ rfl ω τ ρ,dB ψ aT χ ω,gY ψ rfl χ ω,(∀ψ,cA χ ω τ),@ψ vs H Q XE eZ χ ω,iU oC,_,n.length+1,_,vB e ψ (by rfl) χ ω,UR xs,im rR ψ rfl,by rw[_,aJ ψ (χ ω)],Q ψ H2,aF1 dI,wA lM ψ χ ω τ ρ,xJ ψ aS χ aO ω τ,iL z,abw K mg ψ χ ω τ ρ,bHB h,by rw[dP ψ χ ω,aH τ],_,a2+1,aB (.jR ψ χ),Q ψ H1,zW T,c≠10,aUR bHl ψ χ,GL js j,gN hn,Jt TC.na,PF ψ χ [by rw[ω],by rw[τ],by rw[ρ]],Dn Py,ly K H a xs,Dn (Py+1),vA a0 a1,dD x hx,cN ψ aV χ ω τ,aA7 ψ χ ω τ [by rw[ρ],by rw[ξ],by rw[ζ]],⟨ψ,χ,ω,τ,ρ,ξ⟩,⟨ψ,χ,ω,τ,ρ,ξ,ζ,η,θ⟩,h.objs.size,(∃(ψ:χ)(ω:τ)(ρ:ξ),ζ),error,_,args,V.int,"aim","start",(by obtain⟨ψ,χ,ω,τ⟩:=ρ),es.length,Nat.ne_of_lt,List.flatMap_cons,List.nodup_append,Decidable.byContradiction,_,(∀(ψ:χ)(ω:τ)(ρ:ξ),ζ),_,by dsimp only,_,X.base,_,_,_,_,_,_,I.hok,hfree,_,_,pos',_,_,_,stop,iter,_,its.toArray.size,Keyed,ks.length,(by generalize ψ=χ at ω⊢),ks.Nodup,((·.x)),Si33Neutral.nats,((ψ:Nat)),Q ψ H',.ins ψ χ ω,YI ψ χ ω τ ρ s,lR ψ bC,bg (pv ψ),bZ9 bGY bGZ bG0 bG1 bG2 bG3 bG4 bG5 z aB XD z,kX ψ zX (F.ok χ ?_ ?_) iC vs H Q E h ω _ (by rfl) τ,BG o ψ e χ,.ψ χ ω τ pos,ψ y=aO χ,lV (ψ (χ z)),RelV ψ χ,IZ ψ us,Nat.le_trans ψ χ,ψ H' y χ,e::es,LX ψ χ [ω,τ],l++[ψ],NL ψ χ (ω τ),iJ ψ (χ=aO ψ) ω,a_ (pv ψ),JF Sd ψ,Ke ψ IX χ,EM ψ [χ] ω,aUJ y ψ,(∀x,ψ),AA ψ χ ω (am τ),YT ψ aF χ aP ω,jW ψ χ ω cA τ ρ ξ,YS xs,I.hok ψ _ χ,_,zW yI,iA (List.mem_cons.mp ψ) χ ω,gR 0,oM x ψ,oA c ψ,aB (WH.jb fE ψ),lM ψ o eo,x.2.1,aO v,sM ψ ha,_,bT i ψ,jO ψ χ cH ω τ ρ,[Cb,XJ],KV kvs vs,cB sA ψ,Nums mg,a2+a3,aB (congrArg ψ χ),if_neg e,lH ψ rfl χ,kK ψ _ χ ω τ ρ ξ,_,Ld ψ gJ gN χ,bHI (hf it aX),QL ψ→χ,a1≤ψ,aB (f9 ψ),iU Ja,aAX aea,bQ q (ψ=χ),agl mg,Jv aTd,_,Dp K H ψ χ,Rv gE,Rv aA,PN aE,aUK ?_,Itl K a,dF8 rfl,dF9 mK,_,⟨aGh HY aB bVH⟩,(nomatch ψ),_,slot,s'.heap,"pointers","key","second",_,a.CW,(by cases ψ with|χ ω τ=>rw[ρ]),List.mem_cons_self,by intro ψ χ ω τ ρ,_,List.zipIdx_cons,g.signs,f.signs,by unfold ψ at χ⊢,by simpa using ψ,
by simp[ψ,χ,ω],List.takeWhile_cons,e.sees,List.flatMap_append,by intro ψ χ ω τ ρ ξ ζ η θ ι μ ν,X.fs,X.N.Nodup,(by obtain(⟨ψ,χ,ω,_⟩):=τ),tpos,its2,(fun{ψ χ}ω=>τ),(∃(ψ:χ)(ω:τ)(ρ:ξ)(ζ:η),θ),T.n5,wpAny ψ χ ω τ ρ ξ,cA ψ χ UF ω,aa ψ (aa χ ak),bK bW ψ χ,fR ψ χ e ω,AW z ψ,LZ ψ t,_,wpAny_bind (ψ χ),ψ bT χ (ω,τ),gH ψ x,bL bN ψ χ ω,gH ψ v,ψ→aE,bG x ψ χ,aB (ψ _),iY ψ χ gW ω τ ρ,vV (vn ψ),UH LY pC X.w X.A ψ χ Cu,bG y hy ψ,lW hC ψ χ,gX (ψ χ ω ?_),sG H3 ψ χ,HIn Pr w a ψ x χ,bW YI _ ψ χ _ _ ω,JH ψ χ (am ω),PH ψ χ (am ω),aMz JG,qG ψ Nat χ ω τ,kP H' ψ χ,ψ TM e,Pq ψ χ ω τ cA ρ ξ ζ,cZ a1,t.drop (cx t),oN (ai ψ χ),qP iH,((i,m)),EO z hz e_ hv,kY ha,kQ b o ψ χ,(∀ψ:χ,ω→τ),gR _,ψ=χ∧dZ ω τ ρ,by rw[eN ψ χ ω τ,eN ρ ξ ζ η],Paired ψ χ (ω τ),mw.t (k:=ψ) χ ω,fN ψ χ ω τ aB ρ,_,aA7 ψ χ ω τ [by rw[ρ],by rw[ξ],by rw[ζ],by rw[η]],vB e ψ aZ χ ω,UP ψ decide_eq_true,RelV x u,split 32 t,aU0 H e,fG r v ψ χ,List.getElem?_eq_getElem ψ,bA fO,PF ψ χ [by rw[ω],by rw[τ],by rw[ρ],by rw[ξ]],yY h.get? ψ,(UL ψ χ (by obtain⟨ω,τ,ρ,ξ,rfl,_⟩:=h) ζ),iU CN,aH (decide_eq_true ψ),iJ x ψ χ,UJ 3,ajl d g,cAl WH.jb,aB (False.elim ψ),bK ψ dE χ ω,ψ p=aO χ,cB s8 ψ,aFU 3,by rw[dP ψ χ ω,aI τ],[jT],iU zR,kC ψ m χ,iD 12,iD bEj,aAX aR,zX ψ χ ω τ ρ [by rw[ξ],by rw[ζ],by rw[η]],Ru ψ χ ω [by rw[τ],by rw[ρ],by rw[ξ],by rw[ζ]],A.handled=aS,x::ks,wV ψ rR,_,0<a0,aUM rfl,y=vF,rE c o,yU×Key,b::s,cAu (.ψ) χ,cAC CS,o.data,(ψ).objs.size,us.length,"head",a.P3,"first","reading",(by obtain(⟨ψ,χ,ω,τ,ρ,ξ,ζ⟩):=η),(∀(ψ:χ)(ω:τ)(ρ:ξ)(ζ:η),θ),(ψ).eraseDups,List.any_eq_true,by delta ψ,(fun ψ χ _=>ω),split,h.nd,by simp only,t.drop,nonEmpty,mark,g.length,s.links,(ψ).senses,e.text,l.filter,X.xe,wpAny_pure,V.bl,_,s3.heap.objs.size,st.1,st.2,(by obtain⟨ψ,χ,ω,τ,ρ,ξ,ζ⟩:=η),oneType',acc',main,TW.cl,en.senses,rows.length,T.xb,T.ro,IU (by rw[ψ]) χ,bK bY ψ χ,aA0 Nat,ψ<cLine,gg ks ys,_,ψ _ _ _ χ ω,lW ψ _ χ,GH ψ Nat,ψ bT i χ,jF its ψ χ hz (ω τ),aMv pQ h bEE h,aFV fT ψ,aMx j6 ψ aw,D.nx σ ψ,(∀ψ χ ω,cA τ ρ ξ),ψ.2.2.1,ψ a b=aY,CZ b b',qS ψ χ (by rfl),qY ψ χ rfl ω ?_,wO z UK,ψ∉aBc,
pI _,sJ F ψ χ,vB ψ χ (by rfl) ω τ,by rw[Sc ψ χ YU ω τ,_],aA3 ψ vs H Q XE,call ψ χ,iY H ψ χ ω τ,R (.ok aBj ψ) χ,sG H1 ψ χ,_,US ψ iB,wS ψ 12 aFZ (o6 Pr w a χ ω),dZ ψ χ eX ω τ ρ ξ ζ,ks.take i,pJ Kg ψ χ ω τ,AV x ψ χ,aO vX,gD PyFlat.told ψ,aUA ψ aGa χ ω τ,AX ψ bJ χ bJ ω,iU xO,oM d ψ,a0=0,ψ y hy,Paired.length ψ,BF ψ [by rw[χ],by rw[ω],by rw[τ],by rw[ρ],by rw[ξ]] ζ,jO ψ χ EK ω τ,nP rfl ψ χ ω τ,xS ψ (z.put χ),io YK ψ χ,aU4 ψ χ ω τ ?_,by rw[MP ψ χ ω pK τ ρ ξ ah,mN ω ζ],(ψ=χ∧ω)∨τ,_,fZ ψ aS χ,bW (ψ χ=_),_,aLw x.2,(ψ).map χ=ω,bK ψ aZ,kX pQ ψ χ,BH ψ χ ω τ [by rw[ρ],by rw[ξ],by rw[ζ]],2^63,Small l,Ds mX,i≤nJ,JC i dZ ψ χ ω,aVb ψ C χ ω,by rw[aJ ψ χ,aJ ω (τ ρ)],by rw[sY ψ χ ω τ ρ ξ,_],by rw[ψ];rw[χ];rw[ω];rw[τ];rw[ρ];rw[ξ];rw[ζ];rw[η];rw[θ];rw[ι];rw[μ];rw[ν],aB (wpAny_bind ψ),iU bJ,IU [by rw[ψ],by rw[χ],by rw[ω],by rw[τ],by rw[ρ],by rw[ξ]] ζ,bR ψ rfl χ,pv 7,_,GG Heap.lt_size,gB cZ ψ,kX Zq ψ χ ω,Ka ψ χ ω (by rw[τ]),rH h1,aF eC ψ k,_,_,tI cG mG,QJ lM ψ χ ω τ ρ ξ ζ,VB ψ gf,iV bN ψ χ aP,re hu (pv ψ) χ Rr,[a,b],_,_,_,bQ ψ (χ=aY),gN ha,Jt TW.na,_,pI b,iD aKK,K.In h,ym d,MC 4 ψ,MC 2 ψ,PH ψ χ ZI ω τ ρ,kY hx,_,AA ψ χ ω IX τ,x∈iT,EQ _,MO a1,Rs bD7 uA mq,oT sE ψ (by rfl),cA V V aA4,cq bHl ψ χ,Rl c β,dE sQ ψ nF χ,aGC l,a++b,vK hx hx,by rw[ψ];rw[χ];rw[ω];rw[τ];rw[ρ];rw[ξ];rw[ζ];rw[η];rw[θ];rw[ι];rw[μ];rw[ν];rw[π],by rw[oQ ψ χ ω τ ρ ξ ζ η θ,OX ι μ ν π υ],_,Value.ref,mainGlobals,pure,List.append_nil,Arguments,a.P2,s₁.heap,_,(by rcases ψ with χ|⟨ω,τ,ρ⟩),(by obtain⟨ψ,χ⟩:ω:=τ),List.drop_zero,toks,_,_,by simp[ψ]at χ,(by rcases ψ with χ|ω|ω),decide_eq_true,by simp only[ψ,χ,ω,τ,ρ],(by rename_i ψ χ),linesIn,Sense,List.map_nil,Bool.and_eq_true,Nat.zero_add,(fun _ _ _ ψ=>χ),I.ok.kind,Heap.size_push,(ψ).toArray,bs.length,(by generalize ψ:χ=ω),putK,dd.typeIs,elts,by rw[ψ,χ,ω,τ]at ρ,full,ln.sense,j.sl,js.length,Si33.init,ψ _ iB,(by induction ψ with|nil=>rw[χ]|jR ω τ ih=>rw[ρ]),Array ψ,bq _,MB ψ t,aA2 ψ aFT χ ω,aA1 C ψ,BF ψ [by rw[χ],by rw[ω]] τ,cy ψ (χ ω),zY ψ fT χ,bW8 ψ aS χ uQ ω τ,cr ψ χ br,by simp_all[aAJ],
.ψ χ ω pos,bK Zq ψ χ ω,wipe σ vs,wS ψ χ ω (τ Pr w CH CL CE CS CP),aTB s aTK ψ Ir χ,uD (iy ψ),Si33.reach d 3 ψ,sG H4 ψ χ,d_ t i,gO ψ oB χ ω τ ρ ah,b8 d T G0,.bool ψ,vA xQ IS,L2.Inv X bH σ ψ χ,Dl ψ Ju ψ (by rw[χ]) ω τ ρ,d9 X.env.cells BE [],dB ψ bR χ ω τ,((st,ψ)),ψ≤a1,H1 ψ=aS,dh H ψ χ,pI aY,zZ t rx,SK _ rfl ψ rfl χ ?_,cB s35 ψ,dk ψ (χ ω),⟨_,rfl,ψ,χ,ω,τ,ρ,ξ,ζ,η,θ,ι,μ,ν,π,υ,?_⟩,Si33.leads d ln,Pq ψ χ ω τ (ρ→ξ),cB ψ hx,Kj ψ χ IW ω τ,_,⟨_,rfl,ψ,χ,ω,τ,ρ,ξ,ζ,η,θ,ι,μ,ν⟩,gW xs,ψ bT e χ,bHh 2,fR D σ H ψ,qm rfl cAh ψ χ,_,_,vE j ψ,_root_.EE.ao ψ χ (ω τ),dB ψ UK,cN ψ χ ω aB (τ ρ),MQ cAf,aB gJ fE,(ψ).getD 0,ψ CE CS CP,dB aQ ψ χ ω,ψ bG o χ ω,((GF,i,jP)),ZC aBp ψ,by rw[aF kB ψ,cAn χ ω ψ],V.int ψ,xJ ψ χ ω aS τ,vD gR ψ,_,_,aMK I.hok.fresh,uZ bU,YM ψ χ ?_,ψ (χ,ω) aX,df eJ w,Kw Sr ψ h ψ χ ω,DF hxl hes,aT ψ cH χ ω τ,[qJ],kP ψ χ _,bL ψ χ aB (ω τ),aBx ψ χ ω τ (by rw[ρ]),aMN H' js',aJ ψ (k χ s1),abk hr.abe,qG ψ χ ω Nat τ,akn d g,_,_,dL rfl ψ,MI rR,split sep t,pJ o td,BJ ψ (Nat.lt_irrefl _),bG r ψ χ,_root_.EE.aca ψ χ ω τ ρ ξ ζ η θ ι,iU aEH,IU [by rw[ψ],by rw[χ],by rw[ω],by rw[τ],by rw[ρ],by rw[ξ],by rw[ζ]] η,a3+1,uZ Told,lV ?_,gX (ψ χ ?_),_,x=BK,GJ 6,a0<a2,Rv Nat,_,Dn (aT1+1),Sb Nat.lt_of_le_of_lt ψ aB (χ ω τ),La y ψ,aBA β,aQ iF ψ iF χ,ET aak ψ gf,cAs ψ _ χ ?_,GL E e,EN ψ s uX χ,List.mem_of_getElem? ψ,El ψ→χ,by ·rw[ψ];rw[χ];rw[ω];rw[τ];rw[ρ],_,by rw(occs:=aGe) [ψ],(∃(ψ:bJ),χ),_,qN rD (by grind-abstractProof-ring-linarith-order-ac-mbtc-lia-ext-funext-lookahead-etaStruct-funCC-inj) bO,rS δ,mY ψ aH χ,_,_,af3 a,ψ χ σ H Q,yZ F,ss.map vS,ψ a0 a1 σ,XM ψ jR χ ω [by rw[τ],by rw[ρ]],BP fB,Ds zR,aA9 M,zD ψ fU,ym g,a1=a2,a1<a0,Tf ψ s,t.take 2=ψ,GH κ bU,iY ψ χ sK χ sK,cAH α,cAJ CP,GH yU aVo,aNb aER Zm ψ aFZ χ,BD P w K mg aW ψ χ ω,@ψ CE CS CP vs H Q XE eZ χ ω,(∀{ψ:χ}{ω:τ},ρ),_,True,_,dict,_,"range",there,A.units,bare,call,a.CR,"dict",_,43200,_,List.mem_map.mp,by delta ψ χ,by delta ψ χ ω,List.cons_append,by simp only at ψ,List.drop_succ_cons,links,List.mem_of_getElem?,List.filter_map,second,keysOf,I.cell,I.len,
_,CmpOp,p.isList,rule,(by obtain(⟨ψ,χ,ω,τ,ρ,ξ,ζ,η⟩):=θ),kindOf,slice,its.length,List.any_cons,h'.objs.size,_,(ψ).flatten,if_false,SortKind,c.real,pos2,Si33.wordOk,PassesOwn.never,_,(by obtain⟨ψ,χ,ω,_⟩:=τ),u.length,(by obtain⟨ψ,χ,ω,τ,ρ,ξ,_⟩:=ζ),j.cells,ag ψ H',aE2 rfl,dj K mg ψ χ ω,[qJ,ψ,χ],IU [by rw[ψ],by rw[χ],by rw[ω]] τ,Nat→ψ,nJ≤ψ,uT s ψ χ,aFW σ ψ,gB GI ψ,b9 ψ H H',aB (ψ CV χ ω iB),Ip ψ χ (∃v,ω) aT τ PL,aFY ψ s H I h,(ψ==χ)=bI,cr ψ (am χ) br,OD ψ rfl χ ω τ ρ ξ ζ η θ ι,LZ ψ 0,ψ χ vs H Q XE,.tbl ψ,t.drop b,aB (ψ (i3 I q χ)),starEach ψ pR=χ,eval e pR,(by obtain rfl:ψ:=χ),_,YL (ψ<aKK) jL,cS ψ h1 h2 χ,dw H ψ χ,_,fZ ψ aO χ ω,ψ b=aS,eval ψ pR,by rw[Kp ψ χ ω τ ρ,vU ξ ζ ψ τ],cB e ψ,ψ χ (Obj.mapSeq ω),oA y ψ,vn (ψ++[χ]),aBa u a,nZ y,ws'.map qI,bHv (k ψ) χ,tm (i8 ψ),pure ψ,ag H' ψ,fF rfl,xV ψ χ CM,xX ψ XU aP,bK ψ mG,ψ X.K H χ ω,zW Zi,sJ ψ ps χ,aaj X bH ψ χ,dF4 dF1 ψ,UL ψ χ Rm ω τ rfl h ρ,uq dF1 ψ ψ a xs,split ψ χ,aA1 CH ψ,lV (ψ (decide_eq_true χ)),[45,32],iC ψ χ ω hv M,ψ K vs H Q,_root_.EE.xa ψ χ ω τ ρ ξ,iR ψ rfl,cI tp,rG wpAny_pure,x∈ks,PE X ψ (χ ω),uc CE CS CP ψ χ ω τ ρ,aT ψ.1 χ,.function,aE2 oJ,bA cE ψ χ ω,fM bV ψ,c::r,_,ZA ψ bHo EP,ψ K x y H Q,bXj ψ χ aY ω bI τ,bT q ψ,jO ψ χ gY ω τ ρ ξ,Rw 300,tL (ψ==χ),RelV x v,aUO (-ψ),aUW WH.xr,aMU b,jk pC X.w ψ χ ω τ,_,by rw[dP ψ χ ω,Sx τ ρ ω ξ ζ η θ],bL ψ χ bO,iL y,aUB Hb d,aBe aM3,gH d en,So Tc rx,aBn Sb Nat.le_trans ψ aB (χ ω τ),by rw[aI ψ,BF χ ω τ],(∀{ψ:χ}{ω:τ}{ρ:ξ}{ζ:η}(h:θ),ι),Zw ψ χ ω τ ρ ξ (ζ→η),cI D,if_pos e,Ju ψ [by rw[χ],by rw[ω]] τ ρ ξ,aet d g,mP ψ IW χ ω,mark ψ=bI,sN (R x),rH h2,headAt d g ψ,aF8 pY ψ χ ω,Lq Jy ψ χ ω,aGs iH,uT j num ψ,ps.map Ig,BG o nb eo ψ,mR b hb,lW k xR e,dGj M,aa7 i4 boot_tuple B.tuple ψ,aGf _ rfl ψ _ rfl χ,wS ψ χ ω (τ Pr w uA zN EC ID LM),by rw[dR ψ χ ω τ,aI ρ],decide_eq_false ψ,s1.free ψ,Si33.ints ψ,aT o ψ,aT ?_ ψ,by ·rw[ψ];rw[χ];rw[ω];rw[τ];rw[ρ];rw[ξ],bK ψ fP χ ω τ ρ,aI (wpAny_pure ψ),cN aH ψ χ ω τ,fN ψ χ ω τ bO,MC 5 ψ,PH ψ χ IX ω,uF h.get?,Ka ψ χ ω [by rw[τ],by rw[ρ],by rw[ξ]],Ka ψ χ ω [by rw[τ],by rw[ρ],by rw[ξ],by rw[ζ]],
aUF bFm,aF2 MM,zB kB ψ,JC i (ψ∧χ),pJ e te,gH ys y,ZF H s,ag ψ (del χ ω),ZN b aA o HO ψ χ ω,aEM b o e ψ,PW.pt (ai3 ψ (ad8 χ)),UL ψ χ Ro x ω L d τ rfl h ρ,aUZ ψ _ rfl χ _ rfl,by rw[aV ψ,aH χ],DZ u1,DZ u2,aQ ψ (aq χ),eZ ?_,(∀{ψ:χ}{ω:τ}{ρ:ξ}(h:ζ),η),bA dB1,exv bT ψ χ,eY o ψ χ,iD 300,aUz ψ Tj χ,anu mg,MD gE,mP ψ JI χ,a::r,aS::r,IY bX8 ψ,aF1 Dm,BL ES,dF=0,bK aTe rF,JM ψ χ ω τ ρ [by rw[ξ],by rw[ζ],by rw[η]],YZ IT,zC kE ψ,JD td x ψ,JQ a1,a1=a0,Dx 5,Ky a2,a≠b,dm jY,.jR r t,gZ ZQ ψ IX χ ω,cAO ps,Ei l m,sC ψ χ [] [],lR aR fB,tI (by intros) (by contradiction),pJ b tb,qN rD (by grind-abstractProof-ring-linarith-order-ac-mbtc-lia-ext-funext[aAJ,aL1]) wT,h.elim bG ψ h χ,EO y hy e_ hv,cA α α gE,Sm UU bIb (starEach es pR),by rw[aJ ψ χ,bD ω τ ρ ξ ζ η],by rw[ψ];rw[χ];rw[ω];rw[τ];rw[ρ];rw[ξ];rw[ζ];rw[η];rw[θ];rw[ι];rw[μ];rw[ν];rw[π];rw[υ];rw[ε];rw[Ψ],by rw[ψ];rw[χ];rw[ω];rw[τ];rw[ρ];rw[ξ];rw[ζ];rw[η];rw[θ];rw[ι];rw[μ];rw[ν];rw[π];rw[υ];rw[ε],sysModules,xs.map,fields,"tuple","zip","ranks",V.str,"rows",if_neg,(let⟨ψ,χ,ω⟩:=τ;ρ),cont,by intro ψ χ,l.map,400000,3600,30000,newOf,(∀{ψ:χ}{ω:τ}{ρ:ξ},ζ),not_or,x.num,Option.bind_some,post,List.nodup_cons,(by obtain(⟨_,ψ,_⟩):=χ),Form,f.signs.length,by unfold ψ χ ω,L.forms,(ψ).reverse,List.take_zero,if_true,aimIn,e.sees.length,l.getLast?,senses,sees,E.length,Both,sensesAt,(∀{ψ:χ}{ω:τ}{ρ:ξ}{ζ:η},θ),(by obtain(⟨ψ,χ,ω,τ,ρ,ξ,ζ,η,θ⟩):=ι),(fun _ ψ χ=>ω),I.bk,I.free,(fun ψ χ⟨ω,τ,ρ,ξ,ζ⟩=>η),I.kIn,True.intro,kpos,hbase,hline,its2.toArray,cells,yield,List.forIn_nil,Bool.false_eq_true,rs.length,L2.upd,clos,hdef,real,done',Si33.signsOk,s2.trans,(by obtain⟨ψ,χ,ω,τ,ρ,ξ,ζ,η,θ,ι⟩:=μ),(by generalize ψ=χ at ω τ ρ ξ⊢),newId,JE.x,hI.hou,T.n2,ψ→uZ χ,GH ψ V,yS H ψ,(by cases ψ:χ with|aS=>rw[ω]|uQ τ=>rw[ρ]),Nat×ψ,UG ψ dx χ,ψ σ H χ,ψ CE CS CP χ ω τ ρ,aF0 VK,BF ψ (by rw[χ]) ω,_root_.EE.ax ψ H χ,IU [by rw[ψ],by rw[χ],by rw[ω],by rw[τ]] ρ,l.map ψ,del H ψ,ψ=Value.ref χ,MH ((ψ).take) χ,js.flatMap tH,fT b,vW a ψ,TabOk ψ χ ω H,TabOk ψ χ ω H',ψ bT χ tK ω τ,Sf ψ (a_ (χ ω)),.ret ψ,aG ψ (χ=aY) ω,
aA8 xP,fT ψ.1,uE cK ψ,YX Nat.le_refl,ag.refl _,(ψ).take χ,⟨_,rfl,ψ,χ,ω,τ,ρ,ξ,ζ,η,θ,ι,μ,ν,π⟩,gq i5 (pv ψ) χ ω,X.mg ψ=aS,ψ t=aO χ,k<Jr,.seq ψ n,aGb ψ (by rw[χ]) ω τ ρ,cAg ψ χ [],mx ψ s .χ ω τ ρ,StateT LV Sem ψ,[(bI,ψ)],zZ t' ry,.jR ψ (χ ω τ),seqObj yI ψ χ,oW ψ χ ω τ ρ ?_,bK ψ cG,aB ((ψ).elim),bA PQ ψ χ ω τ ρ,aB (ψ _ _),bHh 1,hIx hs h,pT+1,kP H4 ψ χ,ψ bT y χ,ps++[ψ],vs=[jT,ψ],ZG ψ (χ>>=_) _,by rw[cAq ψ χ ω τ ρ,cAq ξ ζ η θ ι],x.2.2,bA aB (ψ χ ω τ),aO (.ψ χ),uG ψ hy,vY ψ.2.2,tL CJ ψ,rW d,PV e,aUV ψ aMH [(χ,ω)] τ oy ρ,weight ψ χ ks,dG ψ h1 h2 χ,bT c ψ,(ψ e).1,ag H1 ψ,nM l.map ψ,a0-1,fR b ψ q χ,aGo s,aMA pC X.w ψ Q,(by induction ψ with|aTf=>rw[χ]|mM ω ih=>rw[τ]),bHw s y u rx ry,L2.Inv X ψ σ χ ω,iM ψ wL,aF iF ψ k,yB rfl ψ χ ω τ ρ,aA9 (N++M),[61,32],VF ψ χ ω UZ τ,g kn,bHz ψ χ AW ω τ,bFc ψ s1 χ ω I1 τ q1,ψ::had,bf (j:=i) ψ,ψ bT s χ,fW tH,uE ψ cG,sortRow L ψ,aMz qO,rJ H1,R ψ H1,GO ψ χ ω τ ρ [by rw[ξ],by rw[ζ],by rw[η],by rw[θ],by rw[ι]],uB cK ψ OM χ,LY pC X.w,(fun bH s σ H ψ I χ=>ω),yh e,rk i,ag H2 ψ,pI bI,aat d,Jv EW,sM ψ he,ak0 K ψ,UM nb ψ,rE c tP,forIn ψ _ _,bG p hp ψ,yA ψ EK χ (ω _ τ),dFy=iH,pO b ψ aMR,j9 e ψ o,a.2.1,by rintro(rfl),iU mX,nZ a,tn i ψ,aFX ψ χ List.mem_map.mp ω,EU l ψ,a1+a2,aGn cAL,bK pQ e Kf,aMX xs us r h,aQ az az,bHZ cZ ψ 0,cY b hb,by intro i v H' hv ψ _ C hC,⟨aVt ψ⟩,cI S,cB ψ q1,aG ψ (χ=aS) ω,gJ sM ψ χ,l.take i,dE ψ aB (χ ω),cZ ψ-1,Ko-i,JF bHD ψ q1,YR ((ψ).map) χ ω τ,wD n,PZ ψ s,E[k]?,aGm FA,o5 k A,bD e1 ψ χ e2 ω τ,Ee D ψ gN χ,ao6 ψ A s χ ω τ ρ,cAT vt cAN,X.K=K,bXS r r,qN VQ dGb,aAW gL gL,qN rD (by grind-abstractProof-ring-linarith-order-ac-mbtc-lia-ext-funext-lookahead-etaStruct-funCC-inj[aAJ,aL1]) wT,qM ψ pd χ rfl rfl ω,oW i h h' st k ψ,by rw[aG ψ χ ω,aJ τ (ρ ξ ζ)],by rw[aH ψ,aI χ],by rw[dG ψ χ ω τ,kZ ρ ω],by rw[gQ nd ψ,aI oN χ],s.free ψ,DZ u3,XD h,a0≠ψ,ψ∉iG,TB ψ Nat χ ω τ ρ ξ,.tuple ψ,.list ψ,iU cC,iU PB,bR c ψ χ,bL aH ψ χ ω,zs.map qI,j8 e,i_ e,lW ψ nb χ,if_pos h,IV bH5,gY rfl ψ χ ω,dU aB (ψ χ),x=zF,dF0 iB,GJ 4,Rv QB,aF1 EW,YS X.N,BL GN,aA7 ψ χ ω τ [by rw[ρ],by rw[ξ]],
ai ψ IX χ,UR vs,oK<vO,ag H0 H,ψ a0 a1 a2 a3 σ,Dx 1,VD QU ψ,g i j,io aGa ψ χ ω,bHq tk ψ,aGk tk,VM ψ rfl ψ,bK dB1 FT,BH ψ χ _ ω (by rw[τ]),sE iR ψ rx,aU9 cG,ψ Q x H1,X.map Rh,bG e he ψ,eP ψ χ (keep ω τ ρ),fM ψ=lY,bIg dl,PA X UU t,PySem.W.keepIn K xW=aY,lY+wG,(yV)[k],s.heap.IsList l iK,Cls K C,NC H1 a xs,Nd→FD,Rs aS4 ψ arr,aFW vs Tz ψ,Sm xZ aBB bH0,Kc cI t bHE,SN ψ bJ χ bJ ω bJ τ,bIm (P b b'),(∀i y H H',cA aG6 aUY H aUY H'),YG ψ bJ χ bJ ω bJ τ bJ ρ,fR a0 a1 a2 aMG a2,by rw[gQ nd ψ,kZ χ ω],Si33.Form,by injection ψ with χ ω,Value.none,tups,o.cls,(fun ψ χ _ ω=>τ),20000,"len","reversed","min","numbers","line",vs.toArray,hall,next,List.foldl_cons,List.filter_append,Bool.or_eq_true,List.length_nil,List.length_drop,refl,(fun _ _=>ψ),w.length,by simpa[ψ]using χ,List.filterMap_cons,s.links.length,sm.len,List.mem_cons,by funext ψ,ss.length,j.val,((·.head)),seesAt,l.take,stack,X.mg,X.ex,I.bare,D.nx,Array.length_toList,target,I.tuple,Bool.false_ne_true,sizeLine_eq,List.lookup,by rw[←ψ,←χ],List.forIn_cons,(by obtain⟨ψ,χ,_⟩:=ω),s2.heap.objs.size,x.cps.size,wpAny_holding,(∃(ψ:χ)(ω:τ)(ρ:ξ)(ζ:η)(θ:ι)(μ:ν)(π:υ),ε),fresh,by case ψ=>rw[χ],Array.toList_map,P.toList,(fun _ _ _ _ _=>ψ),textOk,"sign","known","list_reverseiterator",l.head,Si33.entryText,(by obtain⟨ψ,χ,ω,τ,ρ,ξ,ζ,η⟩:=θ),aas.1,dflt,j.dx,j.num,hJ.rep,Option.toList_some,hJL.hD,(ψ).flatten.length,T.abb,iJ H' ψ χ,bG ψ H1 χ,YL rQ ψ jL,aFS eW UF ψ,fR ψ H Q χ,dG ψ χ rfl (ω τ),ψ bH χ σ ω _ τ ρ,Rt aER Zm,lR Hp ψ,GH Nat ψ,.ox od ψ,YJ ψ χ iE,ψ EL χ Zh ω,[fT ψ],vA 4 ψ,Si33.senseAt d ψ,xT b o ψ χ ω,db d ψ,aa ψ YK χ ω,bEg ψ nil χ jR ω τ ρ,oA ψ sK,aMC ψ χ ω _ rfl τ ρ ξ ζ ?_,.all,SL _ rfl ψ χ ω τ ρ ξ ?_,Kh xs z ψ,bA oT ψ χ,Way d i ψ χ,JB (ψ∧χ) ω τ,Kk h' ψ,aB (ψ rfl),aUI _ ψ ?_,oq ψ H H',sN aF7 ψ,vV [fT ψ,χ,fT ω],rE ψ zY χ ω,au st,List.range ψ,iV cG ψ χ,σ=[ψ,χ,ω,τ,v4],σ=[ψ,χ,ω,τ,ρ,ξ,ζ,v7],EK ψ rfl,aA6 ψ cH χ ω q,ZB (k _ y ψ χ ω ah),BJ iR (bI=aY) ψ aFn,BF ψ χ [by rw[ω],by rw[τ],by rw[ρ]],rE a ψ,vW ψ xs,putK kvs (ψ χ) ω,σ=[ψ,χ,ω,τ,v4,v5],aB (ψ _ _ χ ω τ ρ),
aBi ψ cg bHs χ,[CM,ψ],cA Nat ψ χ,nZ q,cAd wpAny_bind ψ,Gl X ψ,cAk qN (by fail),Rch mM x ψ,sC ψ r v χ,bW8 ψ aTf χ mM ω τ,eZ (#[]:qA),aU1 ψ χ x n r ns iI st ω,QF≤ψ,dO ψ hlt,aMx bz ψ χ,aUN ψ (by rfl) χ ω,aMJ (ψ t),(List.getElem?_eq_some_iff.mp ψ).2,cAj (ψ t=aS),aA6 ψ EK I χ,aGd p ψ dx χ T.cl bHp ω,(∃o,ψ),sG H' ψ χ,eY xs ψ χ,of_decide_eq_true h,BI t,Sa D,qw ψ js,cAr dn,b_ bz ψ χ Rr,PySem.W.findIn K QC ψ=aO χ,Nat.lt_of_lt_of_le ψ χ,aO x,Rq H1,f8 (pv ψ),du e,oA b o,PR ψ i xf χ ω,JB (ψ<χ) (ψ=χ) ω,(∃t,u=ψ),by rintro ψ σ H' _⟨_,χ,_⟩,x.1.1,bA bZd,cB s12 ψ,cB ψ z1,del ψ [D],BA=0,ψ x vs H Q,.SO f,vs[EJ],wC tJ ψ MY χ MR sI,cAp wpAny_loadPart' cAy,by intro ψ w K mg aW χ ω τ ρ ξ ζ η θ,bT l ψ,aO u,aJ ψ (s1.trans χ),nZ T,fW hi,uF h'.get?,YQ ψ ?_,zZ t r,by rw[Sc ψ χ kC ω τ v ρ,_],bHK X.A ψ χ Cu ω,dGg f,aB (PySem.W.kia_one ψ aAy χ e lV aU2 h),cZ c,cB ψ g1,ψ=aO j,ψ++[k],Q iE ψ,ψ e he,List.finRange n,GL yV ψ,h.del ψ (χ _),aBe PU,b9 ψ χ H',Eg a,MS ty y ψ,xs=[ψ],bHQ aU8,(ks.map bT k ψ).sum,(UL ψ χ (by obtain⟨ω,τ,ρ,rfl,_⟩:=h) ξ),iA (ψ χ) z z,by rw[aNc ψ χ ω Kx τ,vQ hst k lP],I.list ψ,bU→ψ,bT ψ ?_,codeAny ψ χ ω τ ρ,fZ (ψ χ=aY) ω τ,(x.2).num,by rw(occs:=aGe) [ψ,χ],ψ (o:=uD χ) ω,cB s10 ψ,ψ++[c],oM c ψ,qs.map qI,aa ψ (aa χ YK ω τ),Si33.allSenses d,aF iF ψ h,EK rfl ψ,qR RlE.iff,aUK (f9 ψ),my kn,pairsFrom d [] g,UH M A ψ χ E,cA Int Int ψ,aBq Sk PX,aLl ψ aY (by rw[χ]) bI (by rw[ω]),XZ ψ w K mg aW χ ω τ ρ ξ ζ η,cAw Si33.step (mkP p xs iI),(∀{ψ χ},ω→τ),(∃ψ χ:bJ,ω),bA aE4 ψ χ,cI fa,h.get? ψ=aO χ,cZ eG,UG ψ χ [],fW e,aAY s',Si33.bothOf d g,zX ψ χ ω τ ρ [by rw[ξ],by rw[ζ],by rw[η],by rw[θ]],uE ψ aB (χ ω τ),a0=a2,uF H1,BH ψ χ ω τ [by rw[ρ],by rw[ξ]],aA5 ψ χ [by rw[ω],by rw[τ],by rw[ρ]],k<bIe,BR lT ψ,DH hy ψ,MZ ψ rfl,aUR bIn uw ψ χ,aGf ψ χ ω rfl τ ρ,Kz D,ns.getD ψ 0,jI ψ 0 aS χ,aM4 (FY+1),cAt zr ψ,x≠dBd,pickOf d had ψ,aG1 DI,gJ aGw GR,bIl aG4 ψ,cAR kvs.any,mX×Dm,YT ψ eM aP JN χ,cY x hx,YC its rv ψ χ,(fun{b o}ψ χ=>ω),vV iM ψ kV,iC H2 ψ s2 χ ω,a07 K mg aW ψ χ ω τ,qM hp g d tk os s,kI ψ σ H Q χ,yN ψ w K mg aW χ ω τ ρ ξ,
by rw[aG ψ χ ω,aH τ],by rw[_,eN ψ χ ω τ],decide_eq_decide.mpr ψ,ψ→gE,DZ u4,oT ψ (by rfl),(fun _ _ _=>oJ),bW (ψ=aO χ),LO ψ χ (ω→τ),(ψ).get? χ=aO ω,r=aO ψ,uZ β,bL ψ χ (by rfl),ur _ ψ,BF ψ [by rw[χ],by rw[ω],by rw[τ],by rw[ρ],by rw[ξ],by rw[ζ],by rw[η],by rw[θ],by rw[ι]] μ,nextOf d ψ,iL r,UI aLN,allSenses d,fF gJ gB ψ,avc mg,Jv c.I,mY ψ aQ χ ω,mP ψ aFZ χ,GJ 1,GJ 5,rT X.mg ψ,aq n1,PN β,aUF Nat,rJ H2,wA XO ψ χ ω τ h ρ ξ,2^64,a_ (cg ψ),aA9 [D],aUK (f_ ψ),YZ QI,Pv 0 σ H,Kr b,keysOf E,200<a0,Ite K a,hL.mono s1,aML bJ,FF (H c),a≠c,a2<a1,NE ψ (χ==ω),a2=a1,Lj ux,RlE c β,aGB o,cAt qt ψ,aGN y,aS::ps,j.ss.modify i _,aGi w p,iY ψ c χ c ω,ZH aU6 xp ψ Lr χ ω τ,m_ ψ E bs,aND Nat.le_trans,bg aG9 jY ψ,tK a b,aVW sb.2,h.Ns Ih mg,bIy cBl,dD s hs,cBq pQ z,agb AF ψ χ=ω,qY ψ _ χ aAz ?_,Lo d.map aMY pA,aUZ _ rfl ψ _ rfl χ,lF→lF,od.data=aVa,lY≤fM ψ,aAu H Q ψ,dD y hy,aAW Nd Nd,eN ψ (ay χ ω) τ (ay ρ ξ),inClass dN ψ 0,p=ψ∨p=χ∨ω,Mc M.1 cK ψ,aNo p I.list,bA rD aGl Or.inl aGl Or.inr,bIf aK8 Zy,aeb H M B,cy kvs k=aS,es.map (ac2 L),QE aHk ψ h cB h χ,ψ EC ID LM,Iv ψ rfl rfl,nQ g1 g2 g3 g4 ψ,bHJ aVg (EE.bp a3 a4 a5 a6),by rw[aI ψ,JU χ ω τ _ ρ ξ],by rw[xN ψ χ ω τ ρ ξ ζ,_],by rw[cF r,by rfl],Si33.plain,decide_eq_false,1000,Str.empty,s.os,(match ψ with|χ=>ω|τ=>ρ|ξ=>ζ),"sorted","from_end","Entry","Sense","places","Reading","WordKey",WData.int,(ψ).isNone,vals,trivial,r.args,(by obtain(⟨ψ,χ,ω,τ,ρ,_⟩):=ξ),e.symm,List.concat_eq_append,l.flatMap,(fun ψ=>! χ),senseAt,funext,m.length,x.head,List.length_reverse,List.not_mem_nil,whole,nextOf,by unfold ψ χ at ω,((·.signs)),piecesFrom,L.ranks,Nat.ne_of_gt,congrArg,L.back,sortRow,(by cases ψ with|χ=>rw[ω]|τ=>rw[ρ]),Bool.true_and,List.all_eq_true,(ψ).head?,numberIn,SENSES,by revert ψ,wordIn,(match ψ with|χ=>ω|τ=>ρ|ξ=>ζ|η=>θ),lineIn,by rw[ψ]at*,(ψ).head,restOf,by congr 2,List.find?_cons,List.length_range,List.getD_eq_getElem?_getD,(by generalize ψ=χ),(by obtain⟨ψ,_,χ⟩:=ω),l.num,of_decide_eq_true,List.length_zipIdx,(by obtain⟨ψ,χ,ω,τ,ρ,ξ,ζ,η,θ⟩:=ι),X.outer,X.s_0.heap.objs.size,
X.env.scope,I.bs,I.ok.above,Unit,I.list,ok.kind,wpAny_bind,again,ns.length,Attribute,Subscript,z.length,zs.length,wpAny_newObj_type,(by obtain⟨ψ,χ,ω,τ,ρ,ξ,ζ,η,θ,ι,μ,ν⟩:=π),by rintro ψ χ⟨ω,τ,ρ,ξ,ζ,η,θ,ι,μ⟩,hdat,L2.ag,P.map,c.kd,total,PyProof.Rows.intKind,hacc,(by rcases ψ with χ|⟨ω,χ,_⟩),s1.trans,L.hb,h.ex,by rw[ψ,χ,←ω],ux.trans,s04.trans,z.mono,ti.2,en.senses.length,j.ps,(by generalize ψ=χ at ω),hJ.same,e1.senses,s0.r,hJL.hsj,X.A.in1,hname,hI.good,T.ac',T.ap3,T.ada,T.n3,(by rcases ψ with rfl),bA tI ψ χ,be (i:=ψ) nd rfl χ,b_ ψ (pv χ) ω Rr,by rw[by intro ψ χ ω τ ρ ξ ζ η θ ι μ,_],vs=[yT,ψ],UH LY ψ χ A ω τ E,.Name ψ χ,⟨_,rfl,ψ,χ,ω,τ,ρ,ξ,ζ,η,θ,ι⟩,SK _ rfl ψ χ rfl ω,(by obtain rfl:=ψ),UM hb ψ,EE.ax a0 a1 ψ,fh (own:=ψ) bHi,MkD ψ w K mg aW χ ω τ ρ ξ,aFV pI ψ,ψ (Nat.le_refl _),Rv MD ψ,ψ++[yW χ],Later H ψ js χ,aG ψ (χ=ω) rfl,Sa p,aq (Ne.symm ψ),lX hb,EE.jh a0 a1 a2 a3 ψ,(by obtain⟨dx,l,e,r,p,xs,rs,hx,hL,he,hes,hrr,hrs,hd⟩:=ψ),textsAt d g ψ,kq CP H ψ χ,{cls:=ψ,Pu:=χ,data:=ω,bVK:=τ},by intros bH s σ H ψ χ Q I ω τ,aAh aUH ψ,YJ ψ χ qO,Pv eG,ajp ψ χ cI ω τ,vs=[yT,ψ,χ],tgV js T,Rx Ir ψ,UG ψ d f,fT n,nJ-i,Kc fT ψ χ,aBb ER ψ,Pv i σ H,mP [qJ,ψ,χ,ω] τ ρ,aMO hst cAe st ψ χ ω τ,cA dQ ψ χ,(ψ==χ)=aY,aF2 u,DC _ (ψ>>=_),MU aT EV ψ,Sj ps,aI YQ ψ ?_,EN ψ f XS χ,dB aH (ψ χ) ω,Jz fs,kP ψ U zY χ ω,Du rv ψ χ hq,cAi nw.map mI,xT H' y ψ χ ω,I.turned (t':=s.toks) ψ f0 f1 f3 f4 f5,by rw[bHt ψ χ ω,bHt τ ρ χ],Value.ref ψ,gB eO ψ,stp h,σ=[ψ,χ,ω,τ,ρ,ξ,v6],PQ ψ (by rfl) χ ω τ,aUH IT,aMF JJ ψ χ,aF8 (b∉ψ) χ ω,PP ψ χ ω _ _ rfl τ ρ ξ rfl ζ η rfl θ,ns.map SR,gC ψ h1 h0,P j h1 h2,.ring,cI hp,cB sH ψ,CU MI ψ,aAZ ψ χ [by rw[ω],by rw[τ],by rw[ρ]] ξ ζ,IV iW,vZ TZ,oP ha,UT NL ψ,PZ ψ s3,(∀H' ψ,aF3 χ ω),nM ψ (x.1==χ),bHA v,Rd H a ψ,QG a t pM mH BN ψ,aMV z ln,anf CR CE CS CP ψ χ r ω τ ρ,by rw[_,aMT bZj],(∀xs,ψ),x.1.2,uT ψ aTK χ,(by rcases p_ with⟨ψ,χ⟩),Heap.lt_size e,σ=[ψ,χ,ω,v3],Meets (ψ χ) ω,t.take (cx t),JT ψ χ (by rfl),Sv H',aMI Pr ψ χ 1 ω (τ χ),f8 aw,zi d i en,[vP,EB],nN ψ _ _,CG _ rfl ψ χ rfl ω τ ?_,Lm _ rfl ψ χ ω τ rfl ρ ξ ζ η ?_,
aav ψ=aav χ,by first|rw[ψ]|rw[χ]|rw[ω],aMC _ ψ _ _ rfl χ ω _ rfl τ,¬(ψ∨χ),p.1≠ψ,(∀{ψ},χ→ω),Ko+1,Kb ψ ik χ,aBw iK,qv CL H x L,PI X tg ψ χ,ψ K R vs H1,ψ χ H H' x ω τ,aTB e1 aAo ψ aAn χ,ψ (xs:=χ) ω τ ρ gN ξ ζ ?_ ?_,arrOf st',bHC fd ψ bHF ((χ).zip) ψ,dGq Si33.lettersFrom,aMI P ψ C 1 χ (ω C),aGD my kn cI ry,im rR (cg ak) rfl,aT ψ aX,Heap.SameBut.update ..,aLw x.1,ψ χ=Option.none,fW hx,YK (ck ψ) χ,ac2 L ψ,aMz vX,aME (Vals.zero ψ),l4 d i,yi CP H ψ χ,Sem bU,ac0 d s t,eY y (v=qO) ψ,aVm s',aVp ψ χ ω τ ρ ξ ζ gJ gN η,vt l t ψ,bH7 ψ χ eF,wg eJ w ψ χ a,iy aNp++[(ug t2,qT mI)],by intro ψ w K mg aW χ ω τ ρ ξ ζ η θ ι μ,bGV bGY bGZ bG0 bG1 bG2 bG3 bG4 bG5 z,(by rw[pW E,by(obtain⟨ψ,χ,ω,τ,ρ,ξ,ζ,η,θ,ι,k⟩:=h)]),List.mem_map.mpr ψ,a.2.2,mw.k (k:=ψ) χ,cB ux ψ,ψ++[10],nZ c,oA ψ ES,fN ψ χ ω τ aB (ρ ξ),uF ((ψ).get?),vW ψ tN,aF eC ψ h,E.set k ψ,DE ah,i≤dF,Good g,aUN ψ χ ω (by rw[τ]),known.map wL,cAd wpAny_pure ψ,fR b o ψ χ,aGk t',fR i ψ H' χ,k it aX ψ χ,uT e aAn ψ,aVq (ψ++[y]),IZ xs its,ZK i ψ χ (ω→τ),vC FU ψ ah,aVC hes,aVE (.OF ψ) χ,gH ps p,Ci i v DD ψ χ ψ (v=ω),gH t c,ame ψ iG χ R,p x1 x2 x3,[bD6,uV],.ox od2 MM,JK s' ψ χ s',Dt ((b.2).bind) rW g,MP sI ψ kP χ ω τ (ag.ins ρ ξ) ζ η θ,[bD6,Bz,xK],Un fs ex H ψ h χ,p x1 x2,X.blk s3 H3 gM ce fp,[bD6,aS1,Bz,xK,qH],EP X bH σ Q ψ χ,by rw[pW E,aAQ ψ χ ω τ ρ ξ ζ η θ ι h],Heap.lt_size ψ,b.2.1,eZ aS,gB k,kC ψ kk χ,Dk ψ [by rw[χ],by rw[ω],by rw[τ],by rw[ρ],by rw[ξ],by rw[ζ]],UJ 4,gT bW (ψ=_) χ ω,decide ψ=bI,Dl ψ Ju ψ [by rw[χ],by rw[ω],by rw[τ]] ρ ξ ζ,YO i,aq n2,nk k,aUF bU,aA5 ψ χ [by rw[ω],by rw[τ]],pD rfl ψ,aMA P w ψ Q,UW a,UW e,DL ψ χ ω τ ρ [by rw[ξ],by rw[ζ],by rw[η]],aQ kB kB,a2=a3,Ed ψ aH χ,xs++[x],Bw=aVa,iA ψ rfl rfl,Si33.pairsFrom d had ψ,GC _ rfl ψ χ ω τ rfl ρ ξ ζ η θ ?_,aVy ψ χ agp,kP ψ c uD χ,aom K H ψ zW χ,aVP aVr,[t,u],Dt ol.map qT EJ,aH (aq (ne ψ)),fw n ps,cr ψ χ (am ω),aBf P q p,cBt fd ps,K bWT,aop ry,bG ns iI ψ,aG I1 aAY ψ χ,kF ψ es ep χ,newOf kA l,cBs ψ χ pd g,j.alj o=aO (c,ps),ac0 d sa sb,by intro Pr w K mg aW CH CL CE CS CP ψ χ ω τ,by rw[uM ψ,dD χ ω],
by rw[dGR ψ,gQ nd χ],h.2.1,DZ u,DZ u5,mV (N++M),ψ (p:=χ) e,ags.k (k:=ψ) χ ω,bA FU ψ χ,iU a_t,cI _,bK cV ψ h χ,cB s9 ψ,cB s0 ψ,s.2+1,uZ bZ,uZ aAd,gB e,aJ ψ (of_decide_eq_true χ),H' ψ=aS,Hb ψ=aS,dB bB hK ψ,aI (List.map_congr_left ψ),qN rD (by grind-abstractProof-ring-linarith-order-ac-mbtc-lia-ext-funext(ematch:=2)(splits:=3)(gen:=3)) bO,nZ x,dO azq ψ,uD cBk,vn r,iD IG,iD wW,UI gE,fF x,kY he,kY g1,nM ((ψ).map) χ,Jx p,Value.ref b,CV ψ aB (χ ω τ),vY h.2,BH ψ χ ω τ [by rw[ρ],by rw[ξ],by rw[ζ],by rw[η]],JA aVI,wU hpp,vZ a1,PN DM,x::xs,Sa a,pD ψ ?_,aF (aq ψ) e,YS l,qC n,wC aB0,nU ψ (-χ),((k,t)),((k,s)),XM ψ jR χ ω (by rw[τ]),UT dh ψ,a0-wW,DE e,xA iT,.jR ψ eF,y=gR j,(∀xs,ψ≠aO Ln),UW x,h.is j ψ,VD Up ψ,HB ψ List.zipIdx_append,y≠D,aBt x,Eb act,((0,1)),((0,bGK)),NI cV ψ h,uT j ss ψ,aGS a2,aGT a9l,e.senses.modify i _,X.map yP,sx.keep ψ χ Dv,aB6 H2,UO X.env.cells.lookup c,aoh x.2,aJ hl bXJ,aHp H',JD t vs ψ,K.In kO,dGo Lt,32∉n,a1-a2,.aE1 _,Dn (aT1+3),aGq T bH4 x,0≤z,lY-ZO,aq' d IT,gC ψ h0 h1,Ty H' ψ s1,ss.findIdx aWe,(List.getElem?_eq_some_iff.mp h).1,aQ e1 e2,cBL xs,pZ HD s3,ψ R vs H1,cB2 tg,aI (ψ (j7 Sd χ ω) τ),wO iI (.ψ bIG 0),YC ψ χ rfl h,dD b hb,(shP p).1,aUJ vs aHr ψ,dGU had,ψ b u q,aep H kvs l,y=kV k,ahead ψ (split sep χ),bIT aHq (dF=1) ψ,aAx ψ s1 χ H1 I1 ω q1 τ,aty js,Nat.lt_of_le_of_lt ψ iB,((IT,en.num)),aCj++aWk,vU ψ H2 s2 χ,GH Nd gE,dP ψ q hq,aMx (alu K) ψ aw,acs lt l ψ,Rch mM u ψ,aGt abz a7b,behindInMarks op b=bI,aV0 ψ χ ω τ.1 vY τ UK,ati H b k,cA8 onT d iH,ψ ty tx σ Q x H1,uh H R kvs,cS u hu ru (rv.get hx),fz gF row,eZ (nO aVY Ef),c !=35&&c !=46,cA β oZ oZ,cA TE TE TE,PW X Kg bXG (.ψ) χ ω,jW V FB FB aA4,dG6 (aVx→uU=pF),ψ CR CE CS CP vs H Q XE,aya P w K mg aW ψ lG s H,bHJ aMG (EE.cu a2 a3 a4 a5 a6),YG x aA i Nat L fY d cQ ψ,aHw Pr CH CL CE CS CP F ψ χ,cBZ cAz 0 bHH ((ψ).stop) aVf ((ψ).go) N QB dGQ ((ψ).yld) σ cAA N,ψ Pr w CH CL CE CS CP P vs H Q XE,by rw[aG ψ χ ω,dG τ ρ ξ ζ],by rw[aI ψ,qW χ ω τ ρ],by rw[bW ψ,aH χ],Si33.Ans,Sum.inl,fs.length,builtinsNs,"str","isinstance",
"kind","told","passed","Letters","Pointer",Nat.le_trans,callerA,(by generalize ψ=χ at ω τ),absurd,PySem.Challenge.rw_wordhouse_s01_answers.args,D.ex,List.length_eq_zero_iff.mp,DictEntry,by subst_vars,zero,List.foldl_append,by simp at*,List.mem_eraseDups,by exfalso,(ψ).senses.length,d.zipIdx,List.mem_map.mpr,known.length,K.nd,once,chain,black,todo,both,B.old,endOf,isDigit,List.drop_length,linkIn,readLine,Prod.snd,{ψ with χ:=ω,τ:=ρ},x.text,headAt,t.text,l.sense,tooMuch,a.senses,(by rcases ψ with⟨χ,ω⟩|⟨χ,ω⟩),σ.length,heap,I.acv,I.pin,N.Nodup,hcell,wpAny_truthy_bool,its',rawInt,y.length,binds,cellsFrom,PySem.mem_of_lookup,hr.hd,Int.toNat_natCast,List.all_cons,hfew,hplain,X.A.units,cenv.locals,o.isSome,atKey,rel.length,finished,load,RlE.iff,(Sem.wp_pure'),(ψ).length_eq,by intro ψ _,ps.map,WH.aib,sI.free,List.countP_eq_length_filter,(ψ).cps.toList,ys.getLast?,snoc,placesOf,ti.1,Si33.seesTo,hH.mono,(by generalize ψ=χ at ω τ ρ ξ ζ⊢),hval,List.sum_cons,hm.2,j.ss,h.rep,List.flatMap_def,lent,hJL.nsj,PySi33.whole,PyFlat.told,ψ Pr w CH CL CE CS CP χ ω τ ρ,bb (i:=ψ) nd rfl χ ω,bG6 ar ψ iB χ,aUy ci ψ x L χ,aMv ψ mG,bf (j:=ψ) χ,aUD ψ rfl,GH Str ψ,kQ H' ψ eW YJ nZ ψ χ ω,Si33.ranksOf L ψ,sC ψ rfl χ ω,kI x ψ H Q χ,aMD rfl _ ψ,lR ψ β,Dr _root_.EE.cw ψ,Kd ψ (by rw[χ]) ω τ,Si33.ok ψ,g ψ χ ω bG σ2 H2 τ,(ψ χ).map qI,am (cq ψ),RelV y ψ,iK[j],pU[j],vg rfl nd ψ χ aFB ω aFB τ aFB ρ,aB (ψ fE fE fE),(uI ψ).1,R i y ψ,Sg _ _ rfl ψ χ ω τ ρ ξ ?_,ge CE CS CP ψ x χ,(UL ψ χ (by obtain⟨ω,τ,ρ,ξ,ζ,η,rfl,_⟩:=h) θ),cAc bGY bGZ bG0 bG1 bG2 bG3 bG4 bG5 aB XD z,Str.ofString ψ,bHn ψ χ _ rfl ω τ ρ,oA p Jz ψ,ψ rfl B.enumerate CU χ,aBk h (ψ&&χ) h,ge CE CS CP H,aMv ψ rF,.Pu es ep,@ψ χ vs H Q XE eZ ω τ,MT CG iB rfl rfl rfl ?_ ?_ ψ ?_ χ ω,UE i,Kl Km ψ,Dy H,bHu EE.cw ψ,ψ.2.2.2.2,(ψ).take j,fR σ H R Jy ψ χ ω,by rw[eP ψ rfl χ,eP ω rfl τ],nJ+1,yS H' ψ,ψ D=aO gW χ,aA×bU,PP ψ χ ω _ _ rfl τ ρ ξ rfl ζ rfl η ?_,(ψ).map qI,Fin n,ag H1 H,bG a b ψ,DA H1 D,dF3 pos ψ,aUQ js.map aAT,sp vs H Q E,xo hu ψ χ ω rfl,Lg ψ χ ω _ _ rfl τ ρ ξ rfl ζ _ rfl η,
js.set ψ (j.putL χ o),rT ψ QH,bu ψ hz,.OF id,zq X ψ aFW xs χ,(∃(x:aA)(z:aA)(L:fY)(d:cQ)(ψ:χ),ω),cAv EE.xa ψ,LY eJ w,vV (k.map kV),b8 d T ψ χ,dGc R,Kn D dGa,envOfC ψ χ fJ f ω,cAD ha h,PySem.W.fnOf ψ χ (yt st) (qy st) aGr uH kV ω pm an τ ct,ψ→Int,[uV],aO y,fM UE ψ,cZ b,ψ χ (List.mem_cons_of_mem _ ω),absurd ψ aX,aMF bHP uI ψ,ψ χ (wpAny_pure ?_),Je z UK,Known d ψ χ ω τ,Inv.pinned ψ χ ω τ ρ ML z ξ,pJ aBy x ψ χ,ψ h1 h2,dGh ψ aBd,YJ nZ y ψ qO,o4 (rows.take i),UG CS dy (ak8 ψ χ),ψ bH s σ H χ ω τ,wpAny_call_entry ψ χ ω ?_ (τ _),cI T,rs.map qI,bi K H a ψ,aB (I.ok.has _ ψ),numAt d g yV ψ,JO s uX t,rs.filterMap id,Dfs ψ iG bx χ,[sl,q,ψ],uE uu GX,amg aga aw,cAm pA yL 0,abm CE CS CP ψ χ x e ω,ψ (o:=gW χ) ω,aO k,aO (.OF ψ),isRing d ψ,pI lT ψ,(aek ψ).1,i<nJ,rT mg ψ,vZ bH6,BL MM,aA8 wL,Around.under_plainId ψ _,nextOf d i,VA ho,jI CO 0 ψ χ,[x,P],gY ψ χ ?_ ?_,bHM UX H' p ψ χ,bHN e.senses.map,h_ vf ψ aw,.ent ψ n,aA1 CE aM1 ψ χ sl tM,Kb (iy ψ) ug χ,dGp EE.agk ψ,Ts ψ χ a t ω,JP q' hb fW q',by simp only[cK,fA,qZ,aEZ,aK9,sZ,aE0]at*,a1_ ψ χ w K mg aW N ω τ f ρ A lG s H E,y.2.1,aFy ψ (by rw[χ]),dO Eq.symm ψ,xS h2 ψ,JA u,pY IO,aI YQ wpAny_bind ψ,evS d i,E.map wL,df P w,jj ψ f k,ψ R x H1,Si33.senseAt lQ ψ,cE rO ψ XY,cS ψ χ rfl (List.mem_map.mp ω),aNj wpAny_pure,BB Bool.not_true aAH Rf,aNu gN ψ,bHU AC,KeysIn iH ψ,db d 3 t,j7 ψ<|dB χ ω,(∀d f,¬B aM5 ψ),wf ak5,Rt vP xL,wX (k _ _ ψ χ ?_),aVK++vn R,kF ψ es ep aT χ ω,Ku l MK ψ l χ,((kJ k T aBv)),ψ it d χ n ep,cA6 aMG (EE.bp a2 a3 a4 a5),bF8 en hen ψ hp sl q g1 g2 χ,by intros st st' p p' K K' E E' r k w,by rw[aG ψ (χ=ω) τ,aF ψ ρ],AllBare ψ,List.getElem?_set_self ψ,eZ bI,ψ χ ω (wpAny_bind τ),if_pos (ψ χ),cZ 0,gB h,js++[ψ],ad2 d ψ,iL f,a7r e,bG6 ad' ψ iB χ,sM s2 ψ,MG ps ψ,sh p,DB ψ tN,MO Rn,ZD wpAny_specialOf ψ χ,decide_eq_true rfl,ZF H' ψ,Sq 4,Sy h,DA H2 D,dF3 zT ψ,gH iT k,bG H' ψ aT χ ω,Tq H1 ψ,qv C H x L,at8 ψ.2,aBs 0 ψ qb,vL p.1 k,aB4 cAF,UO cenv.cells.lookup c,E1.set kk ψ,Si33.ranksOf mO t,bHV ψ [10],tupleKind_room_in1 hu,MB b u,cAU EE.ajx ψ,mg ψ=aO cI χ,
bIB (c≠ψ),cA7 bXW,Si33.sorted L es,Rt jZ xK,Su ψ qT χ aS,mC ψ j hj,aVM sW gM cd,aT L d,bXS z z,Heap.SameBut.update ψ χ (Obj.mapSeq ω),NLs H ps ψ,aMv dGk aZ,pJ i ty,uh H' ψ kvs,lC cB WH.ah4 fE,aMM (wps.map qI) tn,Li ψ χ us eQ ω τ,agc TM eb,.Call (.aLT o ψ CK) χ [] zT,Dz i σ H ψ aNa χ,abi ψ (hr.mono iB),ge CE CS CP ψ,dGn aMG (EE.ao a2 a3 a4),F.ok ψ aBF vs H Q E h (fun f cdv A lG s H vs Q E hr h=>?_),by rw[aI ψ,QR χ ω τ ρ ξ ζ],Value.type ψ,P.map ψ,aT [] ψ,aT o.slots ψ,oU zV ψ,wpAny_bind (m:=ψ) χ,I1.kept (t':=s1.toks) ψ,aB (Heap.lt_size ψ),aO j,iU gE,es++[ψ],ah' (pv ψ),Option.map_eq_some_iff.mp h,iM ψ vS,fF z,MD V,kY hR0,nM l.flatMap ψ,rG Calls.spliced_nil,CO-1,Jz cA4,cx t,oO ψ fD,.ok l,JB ψ χ aHi ω τ (ρ≤ξ),wV fg ψ,aF2 gW to,a_1 l,b∉ch,wD dF,BP mX,yC ts,Sj (#[]),l.flatMap f,Si33.seesTo d ln,aMK I1.hok.fresh,GH gL gE,aGm rL ψ,aBJ Nat.le_add_right,k ψ aX _ χ,AW q q,aF2 aVe st,R x=aS,jB Kf ψ aB χ,KT H kvs xs,aV1 UU ψ,zt hu ψ (pv χ),aWd k,xJ ψ aHs χ (.ok ω) τ,vA a1 a2,aBE (#[]) e1,nP ψ χ ω ?_ ?_,dGJ X.env.cells.lookup,cBY b,ψ++flat jM,kM ?_ ?_ ?_,a.head=b.head,q::qs,ψ (K:=K) (a:=a) (xs:=χ) ω τ ρ ?_ ?_,ψ (K:=K) (a:=sl) (xs:=χ) ω τ ρ ?_ ?_,gKv ks ys,mR p hp,vx d g [],aF4 s.heap.push bYd bHr BK,aCk 1 ψ χ 1,aCm ψ χ x x,cAQ dGI cBf,dGt P w,ahe CP Hb H p ψ,bG h' eb kD aNr ψ,Back mM iT nH R ψ χ,kq CP H x l,(∀ps,o≠aNi),MV bWL aVQ lp,(fun _ _ _ H _ I h=>ψ),bFy aE8 aLa dFN ψ,PySem.W.nsIn K Ih x=aO ψ,bG a x (a.setIfInBounds (k+x.2) x.1),cz (am_ rfl) dEt B.any aB1 ψ χ ω τ ρ,Turn P w K tg ψ [it] it vE h χ,[a,b,c,d],aFY ψ s2 H2 I2 q2,(fun A i s Q E st h=>ψ),aB (ψ bH s1 σ H1 χ I1 q1),Si33.pairsFrom d [] (g.take j),bGW bGY bGZ bG0 bG1 bG2 bG3 bG4 bG5 z,by rw[lM ψ χ ω,dJ τ],aGR ψ χ [by rw[ω],by rw[τ],by rw[ρ],by rw[ξ],by rw[ζ],by rw[η]],Int.toNat ψ,¬(a0=ψ),¬nG,¬(JQ ψ),¬Fd,Paired.snoc ψ χ,DZ u6,ψ≤400,ψ∈jm d χ,Bx dGx,bV aHf,.of_wp<|ψ,aE2 (.ψ),ab2 (d:=d) ψ,aFy ψ [by rw[χ],by rw[ω],by rw[τ]],by try rw[ψ],bA xD,bA dHg,iU cW,iU bFt,ψ (wpAny_pure χ),IU [by rw[ψ],by rw[χ],by rw[ω],by rw[τ],by rw[ρ],by rw[ξ],by rw[ζ],by rw[η],by rw[θ]] ι,
zV e,cB ss ψ,cB sl0 ψ,pv 9,pv 8,congrArg ψ (χ ω),(ψ).map _,BF ψ [by rw[χ],by rw[ω],by rw[τ],by rw[ρ],by rw[ξ],by rw[ζ],by rw[η]] θ,ss++[ψ],gN he,gN ZU,aH (List.length_eq_zero_iff.mp ψ),vV ys,_root_.EE.cw ψ _ χ ω,dO ψ a0,vn xs,c.real i,lW sx6 ψ χ,eC z,rQ n,rQ uU,zW OG,UI Result,UI Mn,akl d,uE az ψ,succ x,a4u mg,nM ((ψ).flatMap) χ,aFU 4,aO a::r,followFrom d ψ χ ω,aUE 2,pK hy,JA x,dec n,lC aUd,wA jG ψ χ ω h τ ρ,pZ ψ s4,x::Um,ako l,x∈bx,qC a1,qC gF,vB e ψ χ ω (by rw[τ]),e::l,tO bIV,a_ (io ψ),aUH pA,YV HO,wX Mf ψ,ay eo ψ,zB aLB ψ,Ds β,JM ψ χ ω τ ρ [by rw[ξ],by rw[ζ]],JM ψ χ ω τ ρ [by rw[ξ],by rw[ζ],by rw[η],by rw[θ]],gL→gE,EY y,_root_.EE.adc rfl ψ χ ω τ ρ ξ,z6 E,¬Tbl ψ,ag Hb H,cH ψ r q,m≠0,ZH (dm ψ) χ ω,aML V,Ky kT,y≠c,((0,0)),aUV ψ aMH [(χ,ω)] τ (aam ρ) ξ,Ej ψ χ ω [by rw[τ],by rw[ρ],by rw[ξ]],cAl WH.ami,bHA y,cAi ((ψ).map) mI,Je z z,q_ L t,Es ψ ok0 χ,ψ<χ∨(ψ=χ∧ω),aM4 cCi,sl≠q,aBP aS,aBP aWn,lI::ps,bK pQ z Kf,Se d Zf,[e,f],aB7 dHu,h_ akt ψ aw,cX ψ χ (List.getElem?_of_mem ω),JZ=aO v,lY<ZO,aHn c1,aNH hcf,aHo hJ1.same,aCw (ψ d o kvs),aNQ known.any ψ,kT+a1,b9 a H ψ,b9 D H ψ,GO ψ χ MK ω ψ [by rw[τ],by rw[ρ],by rw[ξ]],aN5 bW (ψ=_) χ,ao8 H kvs xs,dGo Gt,l9 rs,aR×V,((n,k)),ψ b a=aY,aWb aNC,Sc ψ χ YU ω (ω[i]),YI LY eJ w A ψ χ E ω,YI LY eJ w A ψ χ dHH ω,aT a b,aWp q,Loc aLK x,aBI h ψ χ _ ω,o5 zE X.A,us++ds,aJ lP r'.length,Rl.rel c ψ (χ ω),bV (jj ks g k)+1,GS d od,bJr w,bJy aOp ψ,Good own,bd6 Lu ψ,D∈M,[XI,bDZ],Value.int i t,aB (key _ ψ χ),cB8 Ux,aBb aNy 1,ψ hu χ ω NM bIR,aNX (¬B Ln),ash H c ψ H',gD g k+2,ajz K C f,bJo bV aV5,cBV dF aVf,bJB aNM lZ,V.bl aY,vs++dvs,mW l9 yq,OJ Zz h,gH kvs bIh,PySem.W.mg_of X G ψ,vA a2 a3,gT tT ψ gJ χ,mark c=aY,mC ψ en hen,CZ a a',Af ψ x [by rw[χ],by rw[ω],by rw[τ],by rw[ρ]],bIS Q ψ cBQ χ,IsD H1 a,PT X a tA,bJv y o,En a o b ψ,dHr (ig CE CS),dHy cBi,dHC m,dHG (by rw[ψ]) χ,eval ψ env,cCg∨aVB X.env.scope.names.lookup,VS+aBT,mW bXs aAr,.jR _ t,Rt Cb XJ,UL ψ χ bF8 ω τ ρ ξ ζ η θ rfl h ι,IZ dvs ds,vJ ah a0f,@ψ a0 a1 σ χ ω,df pC X.w,Nat.ne_of_lt (Heap.lt_size e),
aNe apos.endLine cpos.line,aB3 ψ aV2 a48,bi K H p xs,jF ψ e χ ω (id st'),cBy bV ψ aOu us ψ,Itz K a b,wS bWp 2 JI qp,aVZ mK s kA gF,cCx ψ dHj cCC,⟨dr,ψ,χ,ω,τ,ρ,ξ (c3 ζ η),θ,ι,μ,?_,ν⟩,Ug H N xs es M,R (ψ K a) H1,vt aAg BS cBN,Passes CX X E,ψ dC0 q (χ q),(∀{a b:ψ}(h:χ),ω),ψ (K:=K) (xs:=χ) ω τ hD ρ ξ ?_ ?_,gX (listUpdate_at ψ rfl ?_ χ ω),PySem.W.kitOne K cI ψ cI χ=aO ω,k H (ag.refl _),VC dBn bD2 lg,jk P w H h a ψ,cBe o ψ pR Sw o,cB4 bWy xM ie,by intro ψ w K mg aW χ ω τ ρ ξ ζ,jF hl hb he h h,aOf sQ rfl nF rfl FT,eN l1 bXJ l2 rv2.length,nQ r1 r2 r3 r4 ψ,bG a0 a1 aT a0 a1,Binds X.K fd ps ds,iR (jk pC X.w H kO a ψ) VJ a ea,wp M Γ ψ χ ω p s,bIA ψ i t rfl x,fN dGe cBu dGf cBh aVc NJ jL jL dU MK,bA BH (F.ok ψ ?_ ?_) ED vs H Q E h χ (by rfl) ω,(aOt)[i]'(aBU bg1 hql h sz),vT z its n r hl e (I.a_a hH),(∀{P:aM}{w:aK}{K:aL}{mg:bF}{aW:aU}{ψ:aA}(F:χ)(ω:τ),ρ),akx (i:=ψ) rfl nd rfl rfl (aoo rfl rfl rfl rfl) χ aMH [(ω,τ)] aFB ρ aFB ξ aFB ζ,ajh pC X.w X.K aFg TF CX k f fd ps sp,by rw[aG ψ χ ω,eN τ ρ ξ ζ],by rw[aV ψ,dH],by rw[aJ ψ χ,dP ω τ ρ],by rw[_,aCy ψ χ],by rw[aJ ψ (χ ω),aJ τ ρ],by rw[eN ψ χ ω τ,aJ ρ ξ],by rw[uL ψ χ ω τ ρ ξ,aJ ζ (η θ)],by rw[bX hx,bX hy,aGF abq _ _ _ _],aA7 ψ χ ω τ (by rw[ρ]),h.elim,pyHash,eqBool,h.get?,o.ExactDict,(by obtain(⟨_,ψ⟩):=χ),K.lookup,A.depth,s.gens,"__init__","count","forms","add_piece","piece","alike","form_length","groups","last","same_pointer","ring_of","self","House","nearest_above_both","places_by_rhyme","settle","calls",if_pos,(by generalize ψ=χ at ω τ ρ),Nat.le_of_eq,(by cases ψ with|χ ω=>rw[τ]|ρ ξ=>rw[ζ]),(by cases ψ with|χ=>rw[ω]|τ ρ ξ=>rw[ζ]),List.mem_cons.mp,Nat.le_refl,10000000,10000001,by grind+abstractProof,Ne.symm,l.eraseDups,by suffices ψ from χ,(by obtain⟨ψ,χ,ω⟩:=τ),l.Nodup,List.map_id,by conv=>rhs;rw[←ψ],reachFrom,List.mem_append,List.filter_eq_nil_iff.mpr,D.once,D.last,(by obtain⟨ψ,_⟩:=χ),Nat.sub_self,h1.trans,l.any,t.take,g.signs.length,by injection ψ,spacedOk,Bool.not_false,List.findIdx?_cons,List.take_append_drop,(by rcases ψ with⟨χ,ω⟩|⟨τ,ρ,ξ,ζ,η⟩),
lastBy,S.senses,keyLt_irrefl,firstWrong,Prod.fst,List.getElem?_modify,List.filter_cons,x.senses,List.find?_eq_none,Function.comp,pairsFrom,numOf,List.getElem?_zip_eq_some,List.pairwise_iff_getElem,y.senses,Option.getD_some,List.getElem?_zipIdx,List.take_succ,hlast,by unfold ψ at*,(by obtain(⟨_,_,_,ψ⟩):=χ),Paired.c_,I.ok.mod,I.hok.fresh,(by rcases ψ with⟨χ,ω⟩|⟨τ,ρ,ξ,ζ⟩),I.ok.glob,NotIn,by rintro(ψ)(χ)(⟨ω,τ,ρ⟩),by rintro ψ χ⟨ω,τ,ρ,ξ,ζ⟩,(by rcases ψ with χ|⟨ω,τ,ρ,ξ,ζ,η,θ,ι⟩),pos.line,Operator,pyNext,by rintro(ψ)(χ)(⟨ω,τ,ρ,ξ,ζ,η,θ⟩),y.size,I.laid,(by obtain(⟨_,_,ψ,_,χ⟩):=ω),r2.length,NameKind,by rintro(ψ)(χ)(⟨ω,τ,ρ,ξ,ζ⟩),xs.reverse,List.reverse_cons,List.length_singleton,Bool.and_false,Array.getElem?_toList,PyData,NameKind.free,List.lookup_cons,closure,ok.ix,by simp only[ψ,χ,ω]at τ,valueAt,ks.map,putAt,Option.isSome_map,dd.mapOf,x.cps,"dict_keyiterator",wpAny_dictEntries,x.cps.toList,hr.units,HT.auk,raise,update,loadIfAlive,point,alloc,choose,handled,genState,thread,newGen,running,(Sem.wp_bind'),Array.size_map,arrOf,hacc.1,by kernel_rfl,List.drop_eq_getElem_cons,by rintro ψ χ⟨ω,τ⟩,KeysAre,Si33.lettersFrom,B.range,n1.symm,by conv=>lhs;rw[ψ],"rank",(by obtain⟨ψ,χ,ω,τ,ρ,ξ,ζ,η,_⟩:=θ),EE.id2,O.before,pl2.isList,B.list,keys.length,(ψ).cps.size,s03.trans,Si33.aimed,ls.length,se.links,en.ex,sn.ex,pn.ex,Si33.linesIn,xs.getD,ix.val,Si33.senseAt,WH.vp,WH.vk,"steps",weight,TurnsAt,left.length,"object.__init__",T.ba1,Si33.oneWord,hL1.xs,List.set_set,hJL.nD,hJL.hfj,hJL.nfj,nS2.1,fS2.1,R.length,hI.hou.ex,wv.length,PyInside.within,4294967295,dFY L2.HO.ctorIdx ψ,dFY L2.V.ctorIdx ψ,aB (EE.ns ψ),aB (EE.sn ψ),aB (EE.ft ψ),aB (EE.tf ψ),aB (EE.nc ψ),aB (EE.cn ψ),aB (EE.oe ψ),aB (EE.eo ψ),qN (by first|rw[ψ]|rw[χ]|rw[ω]|rw[τ]|rw[ρ]|rw[ξ]|rw[ζ]|rw[η]|rw[qN aMu zV θ]|rw[dFZ θ]|rw[bB θ]|rw[sE θ]),qN (by first|rw[ψ]|rw[χ]|rw[ω]|rw[τ]|rw[ρ]|rw[ξ]|rw[ζ]|rw[η]|rw[bGL θ]|rw[bGL zV θ]|rw[bGM θ]|rw[bGM zV θ]|rw[qN aMu zV θ]|rw[dFZ θ]|rw[bB θ]|rw[sE θ]),aAW Str ψ,pH EE.ns,pH EE.sn,pH EE.ft,pH EE.tf,pH EE.nc,
pH EE.cn,pH EE.oe,pH EE.eo,ψ χ (hr.mono ω) τ,GG EE.ns,GG EE.sn,GG EE.ft,GG EE.tf,GG EE.nc,GG EE.cn,GG EE.oe,GG EE.eo,cz ψ PySem.boot_len B.len χ,gB bR rfl _ ψ,aMx bz ψ aw,bA bFZ,PM ψ js E,Runs M ψ χ ω τ ρ e s',jp bYK PySem.F.slot_list_append PySem.F.type_list_append dv ψ CU χ,Rs aKQ ψ rj,LK ψ χ _ ω rfl τ ρ ξ ζ ?_,ψ X bH σ Q,Jt T.na,Kb kvs ψ χ,#[ψ,Sh 0],CU (ck ψ),(by rw[by(obtain⟨_,_,rfl,ψ,χ⟩:=we ω),_]),ψ a0 a1 a2 χ,bHk Γ p ψ [] χ,by intros bH ψ σ H x χ v ω Q I τ ρ h,GC ψ _ rfl wU ah rfl _ _ rfl _ _ rfl rfl ?_,eY m' (m'<ψ) χ,wpAny_mono ψ χ ω,putK kvs k ψ,HOk P w H ψ,bindArgs ψ BI χ=ω,aFY ψ s1 H1 I1 χ,(y.2).num,pure (ψ χ),onT d T,aGj (ψ i H) χ (ω i H) GK τ ρ ξ kQ x H' (ζ i H x H') aUP x η H' θ,vT f0 f1 f2 f3 f4 f5 ψ,(fun a0 a1 a2 a3 a4 a5 a6=>ψ),YI LY pC X.w ψ χ ω τ ρ,((p,xs,iI)),aUG p ψ iW,mV (ψ vS),tI ψ (by rfl),(ψ).trans e,sJ ψ xs es,(d.zipIdx.take i).flatMap (ψ d),kM ψ kI i H χ H' ω τ,by rw[rG ψ,bE χ],UO scope.names.lookup ψ,vn ψ++vn χ,AV ψ (Fin SV) χ,.dK (l9 ψ),rT X.env.cells.lookup c,V.int ψ=V.int χ,eval a pR,compEnvC gM ψ χ pR,qM z ψ χ rel dd ω,gy e c mQ ψ χ 0 ω τ,gR aVd,V.ref a,fi ks f,aBD ψ (.jR) χ ω,aBr _ rfl ψ χ ω τ ρ rfl ξ ζ η θ ?_,bx++[kn],Inv X bH ψ χ ω,(bI,Sn)::ψ,by simp only[bZ3,PyInside.lists,Jc,bYJ]at h,t.2.1,bV yV,Si33.entryAt d ψ χ,dO abz ψ,((k,v)),.ox o GN,keysOf EE,Sb Nat.le_trans (ψ≤χ) ω,VG ψ az JN χ,kQ b b' Ec ψ,jp bYK PySem.F.slot_list_extend PySem.F.type_list_extend ψ χ CU ω,(by induction ψ with|nil=>rw[χ]|@jR ω τ ρ ξ ζ t ih=>rw[η]),di aBl (readLine t),by rw[pW E,Db ψ χ ω τ ρ ξ ζ h],LT (UE i:Int),ps.take i,plainId_quiet ψ _,PM H' js' ψ,bXj ψ χ bI [by rw[ω],by rw[τ]] aY ρ,kJ b fp ψ,cAx hb,(ψ).any wL=bI,bHS vE H ψ χ ω vE H τ,(by rcases ψ with⟨χ,ω,rfl,τ⟩|⟨ρ,ω,rfl,τ⟩),kQ x c bHY ψ,Si33.joined mO lQ g,(by cases ψ with|fu=>rw[χ]|bl ω=>rw[τ]|int ρ=>rw[ξ];rw[ζ]|str η=>rw[ξ];rw[θ]|_=>rw[ι]),cI yk,MA s.heap.get? ψ,rows.getD ψ [],Le hy2,AV i (Fin ψ) χ,Ss z s,XM ψ jR r t χ,Se a Zf,PA X ψ ta,ak2 c q,H'=H∧ψ,bHq ik q,ψ b o e n χ ω,aUI rfl rfl rfl,(∀(bH:dM)(s:bC)(σ:St)(H:Hp)(ψ:χ),aNd ω τ),
(∀{a:mZ}{xs:DJ}(h1:ψ)(h2:χ)(h:Tr ω),Tt ω),(fun a0 a1 a2 a3 a4 a5 a6 a7 a8 a9=>ψ),bA Kf,iU Keyword,List.mem_cons_of_mem _ ψ,lW ψ nPx χ,dG ψ χ ω (Option.map_eq_some_iff.mp τ),decide ψ=aY,uI hf,ψ++(χ).take ω,wE ?_,aF6 nJ,aUO (-1),J.yld i H x H',acz ks f,aF5 bV tN,Si33.commonOf d s t,aGG ψ T5.aby,NL H' p ψ,Expr.Call ψ χ [] ω,qB ψ aV vO dH,bHX rs,aMB x pos,Tg wV ψ Lp,aGx ψ PY rK,aGv ψ χ ω τ v4 v5 v6,z8 H' ψ ks χ,aG0 C vH ψ ah Sq χ,Tx++yQ,gD ab_ sr.2,iM (r q) Cw,aG8+1+dF+ψ,dGw x1,(fun{b o}z no ψ=>χ),ψ++32::r,bA qN rD bHO aQ kB FW ψ,h_ qo ψ (χ ω),Str.ofString (toString ψ),mw H a ψ χ,uJ xs cAX ψ χ,UV ψ χ Cb XJ,aVj ta vs ψ,start N vs,σ=[ψ,χ,ω,v3,v4,τ,ρ,v7,v8],GC _ rfl _ _ rfl ψ _ _ rfl rfl _ rfl χ,(∃a t,eX pM mH BN ((aGY ψ)) (χ)),(fun a0 a1 a2 a3 a4 a5 a6 a7=>ψ),(fun a0 a1 a2 a3 a4 a5 a6 a7 a8=>ψ),t.2.2,cI c',cI pT,cI itr,bK aH (ψ χ) ω,aB (I1.aqd ψ χ),fT eG,List.mem_cons.mp h,nM ((ψ χ).map) ω,yE lT (k∈ψ),MA h.get? u,XM ψ jR r rr χ,lsO vs,PySem.W.codeIn K ψ χ=aY,((aS,aS)),bHL::jM,bR xs ψ lB,gT ψ aF χ aP aP,kP ψ χ zY fT ω cI τ,aMM aVw X,[sl,q],by simp at h1 h2,Rs aKU ψ avb,EN ψ g XR χ,kG ψ bIk χ bEk aB (ω τ),ψ σ H2 bG χ H3 ω,ZE p4 aF5 10,Dt ((b.1).bind) aBZ,ae3 R H' ψ rs,gg dGM cBn,dGO A B ψ,K.lookup f=aO sC oc od (.func ψ) χ,aNJ q rW ψ aJ χ (List.getElem?_eq_none_iff.mp q) ω bS τ ρ,j7 bHD ψ q1 aAx χ s2 ω H2 I2 τ q2 ρ,bIo r (by rw[ψ]) p q ps qs h χ,by rw[dE aB ψ aB χ,dE aB ω aB τ],aT (#[]) ψ,(MR ψ).1,(g4 s hs).1,_root_.EE.anr ψ χ ω τ ρ ξ ζ η,eZ rfl,eZ kn,aO aBd,cI j.x,zX ψ χ ω τ ρ [by rw[ξ],by rw[ζ]],IV tM,a0=10,oN rfl,aFV (oV ψ),rT bootBuiltins ψ,ck bYN,MF ψ h'.get? χ ψ,MH t.drop ψ,kE h1,Km st,rawInt 0,((GF,sp)),M.2 i y ψ,aBm t.2,.ox o u,yX ψ MI χ (ck ω),Sy h1,MS tb y ψ,List.mem_flatMap.mpr bR ψ χ ω,gH T k,NL H' hp ψ,aBs 0 ψ aHe χ,bXj ψ χ bI (by rw[ω]) aY τ,qa ψ χ (ck ω) Jw,aGi wy p,aCb Em (.OF ψ) χ,ψ&&lT (χ≤ω),aF2 aVe sa,aM8 bIp p,j.putL ψ o,Kb ψ my k,ψ b a=bI,Io ψ rfl χ ω rfl,bR [] ψ eF,gY ?_ ?_ ψ χ,Rt xM "leads_round",[(aU3 ST,ψ)],l4 d i cAP,Jz aV3 aM6,qQ dQ ψ χ ω Uo τ,aOe G0 E,
ψ σ H1 Q,pL p dx aNK Ly ψ,b≤1,bA Ka ψ χ (by rfl) ω,sP (ψ χ Ef) ω,evL d i jP,ψ=[]∧χ=[],aGi w aO ψ,cBO fw iH,cBW ψ χ fd sp,bG s hs ψ,X.pn++bH,[x.1,x.2],(by cases ψ:χ with|uQ ω=>rw[τ]|aS=>rw[ρ]),(by cases ψ:χ with|SO ω=>rw[τ]|ok ρ=>rw[ξ]),aAu R s ψ,iJ ψ aBu χ ψ cAK ω,dP ψ p1 hp1,ψ f y fs,sE iR aBa u b ry,cAw aa6 bHL,aNl sv hyl ψ,vn rs++[fT a],bH2 hd vs ZM aoq,atKey ψ (nk k),neH ψ _ q YN aU2,iM dGZ Js ψ SR,GK ps bM ψ Tp χ ω,vH (ay q hn) q,.dK cBv kv2 p0,forIn [a:e] ψ χ,(fun(ψ:aA)(q:χ)(z:ω)=>τ),agq ψ (ck χ) (ck ω),aG ψ (upd χ ω τ ω=_) ah,aGp GF vX jP,jj Eu g k++iM cA0 ψ χ,UH LY pC X.w X.A ψ Q E,aVz x CH dx ψ pV qE χ ω,(fun b o _ _ hc e _=>ψ),aqc (i:=ψ) nd rfl xR χ ω,(fun ψ χ ω τ sx⟨ρ,h1,h2⟩=>jA ρ h1),aUy ci H z L2 g,oW a b c h1 h2 ψ,CG X dX hp sn qn 0 [] [],ψ a0 a1 a2 a3 a4 a5 a6 χ ω τ,(∀(ψ:χ)(bH:dM)(s:bC)(σ:St)(H:Hp)(ω:τ),ρ),by rw[pW E,aLH ψ χ ω τ ρ ξ ζ η k h],by rw[kZ hxl ψ,aF cK hxl],by rw[aF ψ hkv,bX hkv],by rw[vI agx dGs,bE ψ],(by rw[pW E,by(obtain⟨x,n,r,ns,iI,st,rfl,hn,hR,⟨rfl,t,rfl,ht⟩,hI,lP,k⟩:=h),gQ nd ψ,dG r0 hR1 hR0 (a00 hR)]),HO.lst ψ,ol.map ψ,aT old ψ,b.2.2,(g4 s hs).2,CJ aF7 ZS,by all_goals rw[ψ],Si33.ints (ψ χ),cZ BA,aB (Paired.snoc ψ χ),BF ψ [by rw[χ],by rw[ω],by rw[τ],by rw[ρ],by rw[ξ],by rw[ζ]] η,iV ψ Heap.lt_size χ,iM ψ axt,zX ψ χ ω τ ρ [by rw[ξ],by rw[ζ],by rw[η],by rw[θ],by rw[ι],by rw[μ]],GI GR,Jx tp,lX h1,qP aSX,Sb Nat.lt_of_le_of_lt ψ χ,b∉ex,b∉N,tI aWM mG,YU vs,of_decide_eq_true c,Ke (abd ψ) χ,JM ψ χ ω τ ρ [by rw[ξ],by rw[ζ],by rw[η],by rw[θ],by rw[ι],by rw[μ],by rw[ν],by rw[π]],aUK lZ,Fin SV,ψ a c=aY,NA aBL,aBn aB (Nat.lt_of_le_of_lt ψ iB),bHo EP,wpAny_pure ?_,es[EJ],aQ cK cK,if_pos (ψ h),H2 ψ=aO gW χ,aGw rfl,ψ hL _ _,xs=ys,ET aew ψ gf,aBY (R' x),aMX vs us r h,absurd z ψ,aG7 fn,AW q PV q,(x,c)∈ψ,Si33.above d s,aGP ψ (by rw[χ]) ψ (by rw[ω]),typeLookup ψ χ=Th ω,ψ b c=aY,List.getElem?_set_ne (Ne.symm ψ),jO ψ χ Lv rfl ω τ ρ,vW A PU,UP e h1.trans,ajb n E,fz 9 ψ=0,cellsFrom ψ wM acc,bR H PY ψ,((DP p:Key)),oM y aV6 Uc ψ,bJh ZX,bIK h [by rw[ψ],by rw[χ]],WS.ac5 rk ψ,
[uV,jZ],aJ dl bZX,vW sl FC,aA6 ψ cH I χ h,YW y cCt,aOj b xB ψ,aah ss ψ aHx χ,cCA ls,aT q hq,qY _ ψ χ rfl ω,ψ (l.map xP),gG e aAz,H p=_,aB cB i2 b,aOc _ _ ψ χ,bIz ψ x bIO χ ω,dHl aal ψ,((i2,m2)),ψ= .ok (m,n),[xK,bD0],bA Ju ψ [by rw[χ],by rw[ω],by rw[τ]] ρ ξ ζ,I.list (bi.of ψ),dB wP NL jd ah,aI (ad_ dG4),Ip ψ rfl (∃ψ,χ=ω) aT τ ρ,bHq my x,JY H' Hp ψ χ,((p,dGX,rows.map UD)),aBH iR oJ r,(ER).takeWhile bT c cAF,bf (ak1 hc),aHz ux s2,to++[fT bJm],bH3 xQ IS 0 Ks,keyLt' ψ χ.1 (ω j).1,eZ (#[cI p0,y]),NK mm hmm hin,cBP _root_.EE.agk rfl,!(afj pp []).contains i&&dHa,HC jA bG σ H' ψ dB χ rP ω τ,Inv ψ χ ω H' s',aN3 ψ BI [BK,vF] χ,h_ qo (cg cCj) (pv 3),call_meetsIn dDw Jl PySem.F.entry_dict_get ψ χ ω,xT w' s' ψ χ (Q w' s'),aI (wpAny_passesOwn hp (j7 ψ ?_)),Ry (aex ψ χ σ H aFT vs ω),nQ ψ h1 h2 h3 χ,DD a l a ψ,aGp a aBd c,aBE (#[iW,kb]) c,iR (jk P w H h a ψ) χ,k _ ψ (qh uG χ ω) (hI.mono uG χ ω) (τ ω) ?_,age C ψ H' x l,QW (congrArg dHi (List.ext_getElem? ?_)) i,qv CL H l L,ψ _ σ H lB p,QE (by rintro ψ σ H' _⟨_,h⟩) cB h.1 χ,bEf ψ SO e aB χ ok ω τ,OD ψ χ _ _ rfl rfl ω τ _ rfl lZ,(∀(bH:dM)(s:bC)(σ:St)(H:Hp)(ψ:χ)(ω:τ)(Q:ρ),jW dQ ξ ζ η),by intros f cdv A lG s H vs Q E hr h,by rw[aI ψ,aQ cK χ],by rw[aJ ψ oB zY χ ω hU,UA aNn τ χ ω ρ ψ],by rw[aI ψ,bJd χ,dD ω τ],Nat.le_of_eq ψ,of_decide_eq_true ψ,(∃kvs,ψ),DZ u7,_root_.EE.adc ψ χ ω τ ρ ξ ζ,by rw[ψ];rw[χ];rw[ω];rw[τ];rw[ρ];rw[ξ];rw[ζ];rw[η];rw[θ];rw[ι];rw[μ];rw[ν];rw[π];rw[υ],.nowhere,(a0+ψ)≤χ,hM Array.forIn_toList,List.mem_cons_self ..,(∀(ψ χ:Nat),ω),ajy.some_of (v:=v) (o:=ψ) χ,ags.t (k:=ψ) χ ω τ,aB ((ψ).trans χ),bA aH e,bA Iu ψ h,aO aVT,IU [by rw[ψ],by rw[χ],by rw[ω],by rw[τ],by rw[ρ],by rw[ξ],by rw[ζ],by rw[η],by rw[θ],by rw[ι]] μ,cB s67 ψ,gR (lo+ψ),aB (Nat.le_trans ψ χ),jN (.inl),sb.2 _ ψ,aJ ψ (List.getElem?_eq_getElem χ),gN cB9,Dk ψ [by rw[χ],by rw[ω],by rw[τ],by rw[ρ],by rw[ξ],by rw[ζ],by rw[η]],vs=[],ts.map qI,dO ψ rfl,uD aOx,uD aOS,uD bJ8,bGX bFm,vn Ls,lW ψ nb.1 χ,pI (! ψ),iD bWY,iD Zu,iD (a1+ψ),iV oR Q h ψ χ,iM ψ aim,ajm d,dG ψ χ ω (List.mem_flatMap.mp τ),
dU aB (ψ χ z),a0=(a1+ψ),MD Nat,kY g2,uF H2,uF H6,Nat.lt_of_lt_of_le (ψ χ) ω,Ru ψ χ ω [by rw[τ],by rw[ρ],by rw[ξ],by rw[ζ],by rw[η],by rw[θ]],rG List.map_congr_left,vB ψ χ ω τ [by rw[ρ],by rw[ξ],by rw[ζ]],SeqAt.shaped ψ=aY,aJ ψ (Nat.le_trans χ ω),qP a1,Value.ref a,sN cC0,readLine t,Rw 200,Ka ψ χ ω [by rw[τ],by rw[ρ],by rw[ξ],by rw[ζ],by rw[η]],bmc p,valueAt ψ k,jB (by rfl) ψ χ,jJ uE Option.isNone_iff_eq_none ψ,mT (ψ+1),l.zipIdx n,qR alb,wU q1,wU t7,jK (by rfl) ψ χ ω,CY ψ χ (ck ω),PN gE,(ψ,χ)::(ω,τ)::bH,oP g4,b∉YA,pN Int.ofNat_lt.mp,qU (ψ b) χ,BL aNm,wC ?_,vH (ii ψ χ Dv) ψ,c::cCc,wE (? ψ),MO a2,decide_eq_true h1,ao4 hc,gL→Nat,YZ fo,YZ bZm,xA ks,[62,32],BR (! ψ),tj hi,N++bJZ,V.int 0,aMF ?_,isRing d i,Sl ψ IY not χ,alf E,GU mz,bjw K a,bkp K a,bHk (Γ.goto c) p ψ χ ω,ag.refl H,aUI ψ gJ gN χ ?_,kT<a1,.ox o ES,aUW WH.xt,aUW WH.awu,aBt Pw,bHx U2,V→aA4,Lj s05,pJ e ty,NO ψ [by rw[χ],by rw[ω],by rw[τ],by rw[ρ],by rw[ξ],by rw[ζ]] η θ ι μ ν,KF ψ aNT aGW χ,[x,y],VU s03,Sem α,yU×V,b::jM,Lw (by rintro _⟨_,z⟩),Lw (by rintro _⟨_,_,z⟩),g++[x],RI fU,Es ψ ok1 χ,1≤n,aBI ψ χ ω ψ [by rw[τ],by rw[ρ]],Tm cG,aGA ψ [by rw[χ],by rw[ω],by rw[τ],by rw[ρ],by rw[ξ]] ζ η θ,gH es en,gY rfl ψ χ ?_,Ss y s,aGG ψ T5.alr,List.filter_cons_of_pos aX,o5 k X.A,aGL Pw,aGN nH,aGS (2^24),Sb Nat.lt_of_le_of_lt (ψ≤χ) ω,aGV ψ χ (by rw[ω]),cAs a ψ χ ?_,β×γ,GV<lY,[e,it],aGq ψ bJL x,JO s s t,aNt tp,ajr bx,decide_eq_decide.mpr aT ψ χ,k.kind==0,c∈aBc,kJ x l ψ,ψ[EJ]' aX,aCf cDu,ZH aU6 apk ψ Lr χ ω τ,okN 1,bA rD (by rfl) ψ,jm d x,aom K H jT ψ,aNS GN,aCI jC,kQ b u aWS ψ,dGn aMS a4,yq rs,aHL aWy,ψ bT t (aG5:Ja),aHM ks,n++[32],aHO h2,mQ 0 IH,Dn (Py+3),bGv-1-i,Sc ψ χ YU ω aHh ω τ il,ψ a a=bI,PySem.W.hasDictIn K C=aY,awq hu ψ (pv χ),aGq fJ bH4 x,aH0 List.mem_or_eq_of_mem_set ψ,aOz aX,aF iR (aWI ψ t.1=_) χ ω,uo _ hs0,xs++[v],I.cover x hx,aWt xW,Vis aLK x,aWF gK,bIM [e],aOP bI4,o5 zE A,vi (ss.map vS) ψ,ψ→Fa v2 χ ω,wQ=TZ,y::ys,out++x,iH-dE5,bK eM h jN ψ,bIX h1,xU ψ 4 JI χ,Rl c γ,aBi ψ ck T3.abx,ZV uF X.base.get? ψ,Kc cI t1 en.num,Kc cI t1 bZn,
Mx ψ (by rfl) χ r ω,tJ neC e hx,JK p JV iW EU p ψ,JK p JV iW rE p ψ,bJk n2.symm ψ,aXa CP,cBT fs,dGN dGx,dGN dH8,ψ ty σ Q x H1,ψ tb σ Q x H1,frs OP,bQ hk (k<iH),[(st,0)],ma E k,yX qt ψ (ck χ),AD l x,bJO bx,GT (nal ψ) χ,Tn ly p ψ,Tw h fC,aGU 0 gK,Uf Kg bXF ψ j tC χ,aVJ E x,bT s Rx ps ψ,st.length+aB2 yE ψ χ,aHR h2 n2,aOr S ss,aOC H a,aWl aCi H M,entryLe L a b,bJ1 XL,dG0 (by rintro⟨⟩),bKa ψ osl,dG7 cCn,xj aAg,SK ψ χ rfl ω τ ?_,F::fs,dn++bJU,Nat.le_trans ψ (Nat.le_trans χ ω),kP H3 a ψ,IxR X (ψ χ),lR Nat aU,dO a4' hu,dE Lz Lz,uE zO mG,aB (k0 ψ χ s1),rE d aNf,Value.str x t,rT sc.names.lookup BO,GL l a,yY H1 aNm,qU (ψ:aBA PUnit) χ,RB ψ aNT aGW χ aXj,aG2 p aM9 m,Uq ψ χ (by rw[ω]) (by rw[τ]),cC1 bJP,aHY bV aWY ψ,cA5 jU JW nE uK ψ,bA Ej q ψ χ [by rw[ω],by rw[τ]],cDj DQ,cDk aUs,cDl v_,fL 0 ((Ai).take r),dHv s.heap.push,(∃a t ψ,jU aBQ fT ψ mH χ ω),cDF aVg a3,cDL cCl,j.ss.map (·.r),St→aF0 ψ,BindsTo ψ fd χ ω,D++NA ((aBL).take t),bK aZ rF,split sep ψ=χ,del ψ [D]=χ,cH h1 h2 ψ,gD du x.2,s.heap.IsList b pU,aMx cCS ψ HI,mR x hx,oO ((ψ _ z).2.1) rfl,longest l t,Dn (aT1+64),jK kU ψ pG e χ,pZ cDH ψ e1,ψ=χ∧s'=s,ZE p1 aM9 n,ax' h H,ZL U Kc vX c,ags ψ a χ v ω,Ev bXG (.ψ) χ ω,aG s2 Ti ψ pK χ,aGU 3 aWj,aNn H' vX ψ,db d mK x,h.del h1 (ψ _ _),aWC ?_ ?_,ψ χ gA uC zU ω,H1 d=aO bIi,cA bU bU aOK,agb xs lo hi,j9 e l o,tOp r ta tb,dH1 vs,dH9 cAf,DN pC X.w ψ a kvs,Mut aHy,aqz hr,codeAny_mono ψ pX χ s' ω,ab' Js ψ,((QI,bHE)),z::ys,(∀a b:ψ,χ),[r,A,B]++M,a8+a9,aWO+y.2.2,aJ P S.pairs,hM zV hb,(∀(es ss:ψ),χ),(fun b ψ q _ _ _=>χ),I.step (g':=s.gens) (d':=s.drawn) (ch:=ψ) χ ω τ ρ ξ ζ η θ ι μ aFi,(let⟨ψ,_,χ,ω,_⟩:=τ;ρ),GH TE TE,TP.na _ aHm,ys++[y0],aH (ab1 iB),tI dGk aZ,rP ψ ML q cCF q,kM _ _ rfl,Rch mM y ψ,ME ψ fR p t χ ω,mP EZ EZ ψ,Vals ks us,Kb ψ Sum.inl cZ χ,aMA pC X.w ψ χ,aMB y py,aF5 gD l9 rs,DD e ψ e χ,aXe++vn Va,aQ cK (Paired.length ψ),aUQ js0.map aAT,cq Ez lx rR ψ χ,afb (l.take i),FG D o,iA bJM e h,i.bind bT k (own[k]?),Sm [e] aBB Sn,iA hy hy rfl,s5.keep hx4 ψ Dv,aB9 ob PV q,Itr lo n,PySem.W.plainGet K C ψ=aY,
Un ψ χ H H' kO ω,aLl ψ bI (by rw[χ]) aY (by rw[ω]),aJ e (funext dH7 ψ),bi K H b ys,[r,LA,LB],FE (pyNext NF),aOo TV wi,dGt pC X.w,ax' Im H,jO ψ χ Lv h1 ω h3.mono τ,ly K H p xs,aWA 1 CO,jG b o nb eo,(cBG qN (by any_goals rw[qN rD FT (by wp_step)])),BT H7 D bJY ψ χ,ψ χ x y H Q,dGG Qc Pu,bJq n tJ ψ n χ,[vP,EB,jZ],c=32∨c=47∨c=44,a::b::jM,ψ χ ω x y H Q,aOd p C dx _ ah T.cl bHp ψ,a0k pC X.w,s.heap.DictOfH ψ d xs,kM aS aS rfl,lW sy (bn9 ψ) cB S3 ψ,mC h.ent x hk,tQ eV (¬aWs) ψ bdd χ aP,aVj td x aWZ ψ,ψ Q y x H2,Li b aA o HO ψ χ,cDx pC X.w,I.base.free b o e n hx,(aOL).mergeSort amr,wO h (absurd h aLa),h'.get? ψ=aO aMW VL aS (.seq χ ω) (#[]),sJ (ψ CP Hb H) χ ω,aBH (om6 q1),a6j X.N aLK gM own,bJX H10 U3 j pc,@ψ a0 a1 a2 a3 σ eZ χ ω,dH6 eX QP nE mH ZR ψ,D.both u hu ψ χ ω τ,XD ((e▸h).symm.trans f),aI (Calls.callWith_builtin rfl (Calls.evalArgs_plain (Calls.spliced_cons ψ))),kJ k T aBv,ON bFv hx h',qN aB (WH.ami fE dGb),h.new ψ (r8 hj χ),lj aMk (en.senses.take ψ),mP N ps st,pL ψ H' aON χ UF ψ,CX ψ H s E χ ω,So aBa iv b ry,eY m (m<n) ψ,AM ψ hd χ rel dd ω,bHw s vs us rx rv,ψ χ ω vs H Q XE,IF ψ χ ω e1 e2 e3 ?_,PS X Kg Assign [ψ] χ ω,ψ CE CS vs H Q XE,aVO x sW doc cdv,LF t ψ b kvs,dGv γ (P t.1 bId bJF),aGp r fT v j,aW2 y hy hx,Rm its rv pl (I.tuple (ly.of ψ)),Rm YE rv2 pl2 (I.tuple (ly.of ψ)),fits bHE (gh l QI),dHs rs cCZ bJ7 ψ,HE aOO x CH dx ψ pV qE χ ω,dB jF ψ hp h1 h2 h uJ ψ hp χ ω,bA cCI l h ψ _ bO,(∀C d f,o≠aM5 C),aTB x num t.num bXr ψ,bFc ψ s2 χ H2 I2 ω q2,(fun b o _ _ _ e n=>ψ),fin (v:=iE) ψ k rfl,ψ (SortSt.mk' k a p g f)=χ,ψ K f Q x H1,GC _ ψ χ ω τ ρ _ _ rfl rfl ξ ζ ?_,aBq (ψ (HT.sIx χ 0 lo)) (HT.sIx χ χ hi-cDt χ),iA (D.todo ψ x χ ω y hy) h h,SN a aA xs bM ψ fK χ,qM z its n r e ψ,carried d g yV ψ x,aVk t1 r1 t2 r2,UN dCR a [op] ND,bH8 x ψ L d χ ω τ hG ρ,(∃x L a t,eX QP aOn mH Ut ψ),ψ K x lo hi H Q,cCE bEa aXc xx OH,xN ψ w K mg aW F χ,LQ iR (¬(fM i<0)) ψ Rf aTX (χ ω),bEg h nil (by rw[ψ]) aUi h1 h2 χ,VE (foldedSetIterable TV pR x=pure x),aCx wM ψ χ p_ r aN0 ω k τ ρ ξ ζ,i8 (asa ao' ape B.isinstance ψ (ar9 χ)),
dGA bHH ((ψ).stop) (Qd H) ((ψ).go) Nx NB dGz ((ψ).yld) Ki χ,bIU aVG (EE.cu a5 a6 a7 a8 a9),bIq a t rfl ha hz k0 k1,(∃(ψ:bJ)(χ:bJ)(ω:bJ)(τ:bJ)(ρ:bJ)(ξ:bJ),ζ),[iL q,sO,iL D,KA ψ,χ,ω,τ,ρ,v8,v9],Ry (t2I ta tb fR i j H2 ψ σ H),bJE aMS (EE.cu a4 a5 a6 a7 a8),(∃(x:aA)(z:aA)(L:fY)(L2:fY)(d:cQ)(g:cQ),ψ),aOT Pr CH CL CE CS CP F B TH TE ψ,(∀{ψ:aM}{w:aK}{K:aL}{mg:bF}{aW:aU}(F:χ)(ω:τ),ρ),by intro X bH σ H s A I p q ψ χ hp hq hu,(by obtain⟨dx,l,e,rr,p,xs,rs,hx,hL,he,hes,_⟩:=ψ),dHD Ac dIi dIq dIc dId (richCompare_meets_room (op:=ψ) cCM GI ho2 χ ω qR τ dIs ρ nP ho ho2 he tL dGC x h hu),by rw[aI ψ,aJ χ oB zY ω τ ρ],by rw[aV ψ,oY],by rw[bN ψ,aF χ aP],by rw[pW E,FV a t rfl ha ψ χ h],by rw[bY _,by rfl],by rw[aHE,by rfl],by rw[aW4,Ud,DC _ aCL ψ],by rw[cX t e iR aHj ψ r,dIt],by rw[aH aFr,aWU ψ],by rw[dIg,dIe],by rw[sE iR ψ r,by rfl],by rw[Lc,Ip hy e' ψ e,bB e',aB (χ iP ω)],Classical.ofNonempty,Value.bool,es.toList,slots,Option.some.inj,l.filterMap,its.toList,s.heap.get?,s'.os,65535,"variants","object.__class__","fault","head_rows","answer_begins","answer_letters","answer_key","answer_order","answer_read","answer_said","answer_entry","answer_find","answer_starts","answer_ends","answer_sections","answer_rhymes","answer_follow","answer_above","answer_common","answer_faults","answer_join","add_senses","are_signs","compare_words","count_before","count_by_first_rank","count_of_head","fits","give_numbers","has_entry","has_sense","head_end","is_entry_too_large","is_text","is_word","join_entries","last_pointers","letters_fault","line_end","numbers_fault","of_one_word","partners","passes_over_a_form","place_led_to","place_onward","places_that_end","places_that_start","read_entry","read_letters","read_pointer","read_text","say_entries","say_entry","sense_fault","own","senses_above","signs_of","sorting_row","split_row","separator","way_from","word_key","wrong_pointers",1048576,w.params,Paired.length,(by obtain(⟨ψ,_⟩):=χ),PySem.W.WData.int,e.key,100000,2000000,Nat.min_self,21000,List.any_eq_false,(by obtain⟨ψ,χ⟩:=ω),
List.filter_sublist,nofun,(by rcases ψ with⟨χ,ω,τ⟩|⟨χ,ω,τ⟩),(by obtain(⟨_,_,ψ⟩):=χ),(by cases ψ with|χ=>rw[ω]|τ ρ=>rw[ξ]),w.Nodup,(by rcases ψ with⟨χ,_⟩|ω),had.length,order,headOk,row.length,List.drop_left,KINDS,e.senses.getLast?,S.sees,(by cases ψ:χ with|ω=>rw[τ]|ρ=>rw[ξ]),d.map,p.length_eq,bs.map,ss.findIdx,List.getElem?_eq_some_iff.mp,bothOf,Nat.add_sub_cancel_left,sense,textsAt,l.head.length,e.head.length,b.senses,events,Nat.sub_zero,faults,u.tups,u.ams,u.apx,X.env.scope.kind,I.ok.bsz,e2.symm,Constant,BoolOp,UnaryOp,Tuple,rv.length,ψ (t':=s.toks) χ,s2.heap,Bool.false_and,_root_.EE.xa,boot_range,PyProof.Rows.callWith_type1,I7.aok,1073741824,(fun _ _ _ _ _ ψ=>χ),NotEq,x.length,I.obj,PySem.W.emptyDict,"int",Around.under,Code.isFrame,Calls.spliced_cons,e.frames,I.ok.frames,I.stack,I.a1w,I2.kIn,sc.names,N.length,List.length,S.pre,i.toNat,ψ (t':=s.toks) χ ω τ,its2.toArray.size,"list_iterator",List.all_map,globals,NameKind.cell,beq_iff_eq,scope.kind,hfr.1,s3.heap,ce.locals,kvs.map,Paired.snoc,I.big,"get",p'.isList,en.key,"StopIteration",st.typeIs,boot_enumerate,p2.isList,S.length,ag.refl,List.take_of_length_le,Γ.code,«at»,Array.getElem?_map,by trace_state,by dsimp only[ψ],sortRuns',keyLt'_oneType,hF.elim,((·.push v)),I2.hok,Bool.and_true,PySem.F.plainAttrs_list,"__len__",hm.typeIs,T.ans,T.aj0,g.rank,g.variant,g.form,kvp.length,hps.length,(by wp_walk),(by wp_walk using ψ),AutoSeq1.sub_list_list,F.slot_list_lt,AutoSeq1.sub_tuple_tuple,hp2.length,hq2.length,"list_reverseiterator.__length_hint__",by intro _,B.reversed,List.countP_append,"end",T2.aj4,(by obtain⟨ψ,χ,_,ω,τ⟩:=ρ),frame,nm.cps.toList,m.head,T2.afy,"lines",by decide-revert,(by rcases ψ with χ|ω|ω|ω),c7.all,d.take,B.sorted,ol.length,hH.ex,Si33.sectionsOf,Si33.leads,ln.head,ln.num,"way",wy.Nodup,z.put,sn.links,Si33.reach,Prod.ext_iff,aas.2,ys.Nodup,entryN,hI.mono,by rintro⟨ψ,χ,ω⟩,hX.ex,"dict_valueiterator","dict_values","values",((·.y)),h.new,h.same,js.map,j'.cells,List.map_singleton,(ψ).cells,"target",hJ2.same,e1.sees,
JL3.at_.same,hJL.bare,hJL.zero,"min.loop",PySem.F.plain_min_loop,ap.p12,ap.p13,ls.flatten.length,List.flatten_append,Va.length,hI.good.ok.len,ints_length,st.dict.length,Si33.readDict,hI2.t1,PySi33.bound,PyInside.each,PySi33.shape,ints_app,A.length,rows.take,to.length,bA (by first|rw[ψ]|rw[χ]|rw[ω]|rw[τ]|rw[ρ]|rw[ξ]|rw[ζ]|rw[η]|rw[bGL θ]|rw[bGL zV θ]|rw[bGM θ]|rw[bGM zV θ]|rw[ι]),{cls:=ψ,data:=χ},aB (ψ fE iB),bA (by first|rw[ψ]|rw[χ]|rw[ω]|rw[τ]|rw[ρ]|rw[ξ]|rw[ζ]|rw[η]|rw[θ]),wpAny_pure (ψ χ),Si33.step ψ (χ ω τ),Jz [],UN Call aMB ψ p χ ω,cj ψ (cj χ jn),kA++YR ψ s s χ,ψ→aFV iE,by fail_if_success rw[ψ],gC ψ fE fE,Si33.aimed ψ χ ω,aFX ψ χ Option.map_eq_some_iff.mp ω,GK W ψ (∃m,χ) ω,(by wp_walk using ψ hl,χ),by rw[bQ ψ (p=χ),wY bB ψ aG hs (EX ω τ=aO (BA,dF)) hs aJ hs zV hs aB aUM (ρ oU IY bEO hs oU IY aTA hs h)],gD flat ψ,zM _ rfl ψ χ rfl ω τ,yX ψ MI χ aw,OpR X (compareOp ψ) χ,ψ a0 a1 a2 a3 a4 χ,ψ (ab' Js dn) χ,oO ψ fW z,wpAny_loadPart' hb,W ψ m σ H,tb dF7 ψ σ2 H2,ψ uG s1.trans hy,Rs aKR ψ aer,ψ pos bH s σ H _ I χ,dF6 (ψ σ2 H2 bG b H3 nN b (χ σ2 H3 bG ω H4 τ) ρ),c !=10,ψ a0 a1 a2 a3 a4 χ ω τ,DecidableEq ψ,cI la,Rs aS5 ψ ai1,(∀H' x,YJ eW ψ yT),[x,OH,Il,Ca],by rw[cF ry,Sl ψ aX],aF6 aM7,restOf ψ l,((sn,j)),cAE tt te y ψ χ,aBh ψ kv LU k,X.blk s H gM ψ fp,ψ aAg (t.drop i) χ,cAG ψ a5 a6 χ,Value.ref d,rel.val k,xs[i],MA h'.get? u,dGm aVn H4 acc ψ,aBh ((ψ).filter) a a k,sC ψ χ (b==1) ω,zA ZJ nE ψ uK χ ω,j7 ψ aAx χ s1 ω H1 I1 r1 q1 ?_,ayy BM cI v xW,SN x aA L fY d cQ ψ,IF a0 a1 a2 a3 a4 a5 ψ,s.heap.push ψ,ψ χ (List.range ω),t.2.2.2,eqU x,vY t.2,ψ++Str.ofString χ,cellsFrom ψ BE χ,attributeBase ψ χ ω τ=τ,Nx H3,aUX hf,PyInside.lists [] [],Si33.pairsFrom d [] g,[gR ψ,gR 32],ajr bH9,aVv es,aGu a0 ψ v2 χ,bs++[l0],aF3 aGc ψ aGc χ,dGl E.map,dB ψ (WH.xt fE fE fE),(∀H',aF3 ψ χ),SortSt.mk' ψ χ ω τ aS,Binds K ψ χ [],aME (nil_of h2),putK ψ (ik χ) Lb,tk ((Sk).take PX),cAS bH1 cl C,(∀us:eQ,By=ψ→χ),ψ _ _ _ _ _ _ χ ω,qF iC a xs h1 h2 h ψ χ ω τ ρ ξ ζ η,cAe s mk ns iI,σ=[a0,a1,a2,a3,a4,ψ,χ,v7,v8,ω,τ,v11,v12,v13],
aid q CQ sV gM Kv ψ χ ctv,(∀(s:bC)(H:Hp)(C:aA)(cl:AE)(fp:bM),ψ),(fun a0 a1 a2 a3 a4 a5 a6 a7 a8 a9 w_=>ψ),by repeat rw[ψ],aO BO,ψ χ (List.mem_of_getLast? ω),rQ oK,cAa zW yI ψ,atKey ψ k,aF4 s.heap.push ψ χ,aF6 aVl,ψ χ (ps.take i),ψ _ _ _ _ _ _ χ,aA2 t Q,bIa σ' H' s',aO (oV p),ah_ f v ψ,fR j h1 h2 ψ,kQ σ H (Pv ψ σ H) χ,ajh P w K mg aW ψ χ f ω ps τ,OD ψ I.os aFi χ ω τ aAw aTL ρ ξ ζ,aaj X bH H ψ,cAo aGI Nat QB ψ (∀i m σ H,cAz i→χ),#[uH,Kr bI,ψ,χ,uH,uH],.bXI Jm kk YD,UN dDs elt [sC ψ TV ifs 0] gM,PR us EJ WH.akm fE _,EM ψ IW χ (ω Pr w CH CL CE CS CP),by rw[aNg ψ,gX χ],uD dGD,fW hy,kX VR b ψ,kY hR1,qP aAI,iK[i],t.drop eG,Kl ra,GU aTz,Si33.variantsOf L t,X.fn x=aY,Lf ls ψ Kq,FY+knd.draws k,aNI gK,((en,i)),((0,bGK,0,300)),aMB aEP p2,ku Kq,aBb Sk PX,VE (ψ↔Ue),dGL h0,mv l p x,Rs aKT ψ a9a,mQ x y,bo hes hxi ψ,cAA aM0,Sz s.heap.update a aGQ,aI (Call_ (zj I hg hm ψ χ)),dGK "__next__" ψ χ aV8 χ ψ ω τ,dGT dGB hR1 hR0 ψ,afk e o=aO ψ,ψ i σ H χ p,cA3 aVN us vs,(by obtain(⟨⟨ψ,χ,ω,sl⟩,τ,hc,n,hd⟩):=ρ),wS ψ 9 χ (ω Pr w uA zN EC ID LM τ),cAc bGN ψ bGO ψ bGP ψ bGQ ψ bGR ψ bGS ψ bGT ψ bGU ψ aB XD ψ,by rw[ZT,GW ψ χ ω τ hz],by rw[Db dx l e ψ p hx hL dFJ,dJ oN χ],by match ψ,χ with|ω,τ=>rw[ρ],by rintro rfl,bA (by size_fits),.dK kvp,GI ho,List.mem_of_getElem? hi,o.del ψ (χ _),σ.set j ψ,t∈ks,Er m2,agv K,Ey (qx Js ψ),r≠v,r≠f,bHR evE,jU ψ nE aNU χ,DA H L,DB D aWf,senseAt d s,kQ b u ψ cAY,scope.names.lookup y.1=aO ψ,cy kvs cBw,bIu (m_ ψ E bHG),aGO had f,bIw aN6,swapsWith ψ χ ω pR=pure τ,aFV gR aVS Ma ψ,JJ k hc,aBG aQ bE0 ψ,cBz _root_.EE.ajx ψ χ,Si33.linesIn ψ [] χ ω=τ,Su (q∈wy) ψ χ,aNA aBc ψ aHg,v≠f,[Mh (-3)],dZ cBJ bIL ψ,aln H r ψ,iJ xs ψ VI,bo ψ hj he,aCe ψ H1 s1,o5 k (A.deeper ψ),aQ hi1 hi2,List.map_inj_right ψ|>.mp χ,eval b pR,aA6 ψ nP I1 χ ω τ JX cBg,DC _ aOb (ψ==aEJ),h_ qo (cg ψ) χ,HT.sIx ψ 0 lo,reachFrom d mK f n kA gF,gQ il iO hen,ahe CP Hb H' p ψ,DN ψ χ H a kvs,62::32::(Si33.KINDS.getD ψ []++[32]),ar' P q ψ c χ,aq (ii bIH Le ψ Dv),jJ iR (¬(aNe ψ aEJ)) aFn,aF4 ((ψ).push) OG cB0 χ ω,(∃σ' H',cBR∧ψ),
bT a (SortSt.mk' ψ a pd g aS),kI a0 a1 a2 a3 ψ,[bWJ,SS,IC,bD5],hs.2 b (Nat.ne_of_lt aHb aN1 ψ),qY hp g d tk os,EM ψ IW χ (ω Pr w uA zN EC ID LM),by intro Pr w ψ χ ω CH CL CE CS CP τ ρ ξ ζ η θ ι,(dG5 eP r0 rfl (ayw h2) (PyInside.lists [ψ] [r0]) (by obtain⟨_,⟨_,l0⟩,m0⟩:=h) sS aWi Lx dD q hq dGu hq aH hq agj m0 dU MK),by rw[gX ?_,rD ψ χ],List.map_id ψ,seqItems? ψ,y.1.1,(dGH).1,y.1.2,(show ψ by rw[χ];rw[ω]),(cAW).abf,ψ (List.mem_map.mpr χ),fM i+1,gW (vn ψ),fT t.1,aI (wpAny_Call_Name_kw ψ),nZ hp,lT (1≤ψ),lps.map qI,eC e1,UI Pos,codeAny_builtin ψ ?_,fF oF ah,IW Zk,Rw aEN,a0+a2,rH h5,bR ψ _ EK χ rK,js.set k ψ,UO X.env.scope.names.lookup ψ,UO cenv.kindOf ψ,wD oK,J.go i H,ψ (Nat.le_succ _),decide_eq_true z,X.ata E,hI.mono uG ψ hy,VP cB6,BH ψ χ _ ω [by rw[τ],by rw[ρ]],[x,OH],aUQ js.map UC,Tm lO zO,UG ψ dy [],aGH "tail",aGH bWO,ψ _ (List.mem_cons_of_mem _ χ),aVi aCl,assignEach es pR,DB y (ab_ ψ.2),gx L d,aGZ Eh q,k=(ψ !=0),gH l a,I.pin p hp,dGF Heap.get?_push_of_some ψ,aVV iR dHk ψ,bG k hk ψ,eC UP h ψ,aep H' kvs ψ,ψ X.K C f,OpR X (compareOp .ψ) (χ ω),cCB ψ (Nat.le_of_lt hi),am8 ψ (am7 χ),MH flat cs,t∈db d ψ s,Tu 44 gr,aBV sen t,Uk M.1 cK ψ,Ip ψ χ MF ψ ((ω).get?) τ ρ gJ (get?_update_seq ξ ζ),uX∈t.senses.map vS,aJ s03 (ux.trans s3),PySem.W.instObj C ψ,bG s3 I3 ψ,bG ψ χ gG (I.agr χ ω) τ,aQ (if_neg (ψ h)) χ,(by cases ψ with|aEV=>rw[χ]|ω=>rw[χ]|τ=>rw[ρ]|ret ξ=>rw[ζ]),bA aGV o i ψ,ψ++[V.ref p],gH rs r,NLs H' ps ψ,CZ o o',aB (h _ PY),Si33.wrongSee d i ln,ZL d u,aMY aLw (d[EJ]),aNz eb hb,pA==ψ&&yL==χ,f v u,bH2 hd xs ZM ar8,aWm ψ Te nt,qw (nD hs ψ) js,decide_eq_false bT z (ψ χ),lW h PY ?_,jI LU k ψ kv,cA1 m nn u,GC _ rfl _ rfl x ψ L d χ ω τ ρ ?_,dGV s1.heap.push jT,zj I hg hm ψ ?_ χ ω,aof hd hg ψ,oA d aNf∧ψ,aA3 um H H' js ψ,oW i h st b hb ψ,dHh h1 ψ χ ?_,ZW C ψ xT χ H4 Ti H4 ω τ aUP x Ki H' ρ,ψ (A:=X.A.in1) NH χ a ω uS,aBg Ca jg iq,kI i H' hi ψ aT χ ω,di aBl aHc=0,s.heap.update it (Obj.mapFields (·.setIfInBounds 1 (rawInt ((i:Int)+1)))),Ua ψ χ _ _ H1 aCh ω τ ρ ξ q,bH8 ψ χ _ ω rfl τ ρ _ rfl,
ψ bH s2 σ H2 x χ v ω τ I2 ρ ξ ζ,ψ CR CE CS CP,[XH,dBi,qJ,IB],awr (tk:=s1.toks) I1 _ ψ χ q,I2.unlock ψ (I.a6r hd mu),kP H7 tn zY bIE Lb,tgV js (fw iH bIs),bHn _ rfl _ ψ rfl _ rfl,ψ==χ&&dC8==Ui&&sc.names.lookup n==cBH,dGv (γ×δ) (P t.1 bId cBb cA9),dGA bHH J.stop ψ J.go Nx NB dGz J.yld Ki χ,aAQ ψ χ sl q g1 g2 g3 ys g4 g5 ω,dHF Et pM aWv aHH UB aNL aWu ψ,by intros ψ bH s σ H Q I h,(bK (by rcases g with⟨kvs,k,e,ey,l⟩|⟨kvs,k,b,e,ey,eb,l⟩) ψ),ii ψ χ bT y dGC y,by rw[_,Ek ψ χ ω (ω[i])],by rw[aNW,gQ nd ψ],by rw[iX _ _ h,dHI aNv],by rw[dGS ψ,dGS χ],wpAny_pure ψ,q.2.1,[yW z],aTk x.2,(by cases ψ with|χ ω=>rw[τ]|_=>rw[ρ]),decide_eq_true (ψ χ),cZ dF,fT s.1,BF ψ χ [by rw[ω],by rw[τ],by rw[ρ],by rw[ξ],by rw[ζ],by rw[η],by rw[θ],by rw[ι]],aH (Vals.bm5 ψ),nZ d2,PF ψ χ [by rw[ω],by rw[τ],by rw[ρ],by rw[ξ],by rw[ζ]],fW hh,h.2.2.2,iF h2,MD aN,MD bJ,aA0 EW,lX hu,qP aFu,sN (H' D),Rw bW1,kE h2,aq n12.symm,qR Nat.min_le_right,vZ pF,rJ H'',Dq T.keep ψ χ,aF2 bJe,aF2 cCL,ug st,aA7 ψ χ ω τ [by rw[ρ],by rw[ξ],by rw[ζ],by rw[η],by rw[θ]],wX lZ,MO y.head.length,ψ x xs H Q,i≤n,List.getElem?_eq_getElem hi,((i,jP)),Ku ψ χ ω ψ [by rw[τ],by rw[ρ],by rw[ξ]],iR (ψ=aY) rfl,wc kvs k ψ,aF (List.getElem?_set_self ψ) χ,Ed ψ aQ kB χ,sJ aU8 xs ψ,ZA ψ bHo TP,Ku ψ MK χ ψ [by rw[ω],by rw[τ]],aGA ψ [by rw[χ],by rw[ω],by rw[τ],by rw[ρ]] ξ ζ η,aU9 aTh,aBQ vF,[lK,qH],of_decide_eq_true h0,E.set kk ψ,LZ c u,aNx ψ χ ω [by rw[τ],by rw[ρ]],aU6 xp jY,s1.setGen g ψ,kZ hxl hes,aNO h4,(y,c)∈ψ,ux.trans s3,n≤IG,aCD H3,Dt L.map qT EJ,I.cell x c e,I.acv x c e,H'' c=aO ψ,Kb ψ amc k,(k,bI)::ψ,bIt bZR,cy kvs j,Heap.get?_update_self _ ψ (χ ω),E++[e],vW e PU,MG u ?_,aiv n E,AV e dI ψ,kJ p ts ψ,cBK aBw uS,Kc vX m,aGt art l1,aGt art l2,EN ((ψ).any) y y.1 χ,aOg CS ψ χ (ω ?_),(a0=ψ)∨(a0=χ),fJ≤a,i≠k,bu g5 hy,JH KC 0 AI ψ,ge CE CS CP H ψ χ,(∀l:ψ,l.filterMap χ=ω),b=e∨b=ψ,akl es,mQ (Si33.order L ψ t) 0,mR j hj,eqV y x,.dK (acy dHU),aMW To ψ χ sl,cX o' e1 tJ I.base.there e hx,cC2 y.2,bJa bJg gw,cDi iI,[xL,aS2],aJ ψ aB5 List.getElem?_eq_some_iff.mp,
V.bl (decide ψ),.aUi aNO E1 ψ,D++[i],σ.set i VT,mQ aCC (rk j),tK l m,lY=cZ a1,uN h2 h3,32::ψ::dHM,dHR m.any,l.foldl vk acc,aCn v x H1 r1,dHW gx,RA h' ψ (Heap.SameBut χ kO h') (Q ω τ),cDo YM x y ψ h,JK l nZ l BK ψ,dH4 wZ,dIa ts,ψ a.1 b.1,dFV≤100,ψ+1≤f+aTn,had++h,wO q q,xi (sep:=32) (t:=t),LT (hi-lo),operate ψ (getItem χ ω),oM r bJ9 fV,bs.getD i bI,MB v ws,MB f fs,MB r rs,nA x eA,gT dHK ψ pB χ,aex (ψ χ) atb,fits n k,mT cCT cs,wA ψ χ (by show_term rw[qN ω]),numOf hs i,(yV).getD k bJT,sR aXl yJ ψ w χ ω,aJ mml iO hmm,absurd ψ (Nat.lt_irrefl _),QK p cCo,bb' TM d,he i ψ a2p,sb.2 _ (Nat.ne_of_gt ψ),PI X cB1 ψ (χ X.K ta),dP eO aX l0 hl0,fR j v H' ψ,aI ((I.hok b ψ e).stay kI c χ hc q ω τ ρ),cS u rfl ru (vals1 ψ),Si33.reachFrom d 3 f n kA gF,if_neg (Ne.symm h4),(f,cBD pm DG)::bH,L.passed.any bT c aNk L.forms.any [c],bH3 IS xQ 0 Ks,aA3 aqy H ψ v χ,dGG yI seq,bJK hle dHJ hle,aH1 ψ [] [t] fZ dHP bI5 χ,AV s HZ uX,R x y H2,dHA Si33.wordOk hw ψ,by rw[cCH rw_ ψ,cCz av2],cX hd hi hg,.rng 0 GY,yS H1 aNZ s1 ψ,iM yV (headAt d g),xS aUs (z.map AW y ψ),a2f rfl B.zip YK ψ χ,Sg _ ψ χ _ ω rfl rfl τ ρ ?_,Aa ψ xs l.map xP,bd' ψ x dx C χ,cC7 ψ aO χ bFe bI,CG ψ _ _ rfl rfl χ ω ?_,cDM gX aVX wpAny_typeNameOfWhole_keyiter OU gX aVX wpAny_typeNameOf_keyiter OU,aOs ψ aWa χ ω hD τ Vi cCa a4_ hn hxl,k _ _ _ _ _ _ ψ χ w,AV ln lF dIh,uB M.1 cK ψ h2,ψ (K:=K) (a:=e) (xs:=PU) χ ω τ ?_ ?_,dL bIt dEz (codeAny_builtin entry_eq_loop gG aWx dEz ψ),Ka ψ χ jK qK ω _ τ [by rw[ρ],by rw[ξ],by rw[ζ],by rw[η],by rw[θ],by rw[ι],by rw[μ]],pL u ψ (us=χ) Ah ω,k c v ?_ ψ,aBf OH lu jv,aBf Il rg ou,aBf Ca jg iq,Su (x=ψ) nH (R' x),.aLU o i TQ,zZ rfl (auo hod hdt),wipe σ (own.map xP),cAQ dHp (C aS H3),storedH xs ψ b u,vR b o hb e,aA3 au7 H ψ x y,Fun K x ψ st f χ,oE pD t1 t2 m.trees,aNB rd Qb dr q1 OZ QO rfl _ ψ,ψ sl lX χ QS c hc (aiz ω z rX),aJ M3 (ψ<|RM χ r ω aB3 τ (M.2 χ r ω) dH),cDc 0 [] t ψ,aBF a b ψ ha hb,(Ew TY x.2)∘bII uU (cB3,aHt),vw a b c h1 h2,Mi ψ lI (lI::Si33.pairsFrom d aCo i χ) (aS::ω),az3 (s:=NG) e c ψ iB cDq χ ω kD τ ρ,
jF j h1 h2 h3 ψ,(by obtain⟨ψ,es,ep,hq,χ,ω,τ,_,ρ⟩:=dd'),ψ (t':=tk') χ ω τ.1 Ea τ aBX τ aVh τ,UG CE aFL aM1 cI j.hp ψ Jq cI j.q,gY hl hb he h,bai H d lA rA,linesIn p had l ψ=χ,QE (by rintro i σ H' _⟨s1,_⟩) ψ,GF=1∨GF=2,aGF ih p' _ h1 h2,uL ux ψ s2 hI2 hI.mono ux,cA cDm ψ aVx eY t χ dIn,PSs (ψ).nox (qy st) t,bD n2 (d2≠p) ψ n12 (d1≠d2) ψ,aAt a b ψ χ rfl rfl ha hb q h,dHB aMW VL dd aOm sl aMW VL dd2 (.seq pU n2) sl2 ψ χ,dG qs e1 hq (al2 M3),[sO,wZ,Ex,Vd,cBS,v5],cDK K mg aW F ψ TH TE TS χ ω,σ=[sO,iL lA,iL rA,iL rd,iL fd,ψ,χ,v7,v8,ω,τ,v11,v12,v13],bD sI rJ ψ (ag.ins χ ω) s01 aCv aHu s1 χ,ψ _ χ _ _ _ _ ω _ _ τ,aW9 ψ (by rintro(χ)s1⟨ω,H1,I1,r1,q1⟩) τ,h'.push cBD ((X.mg dBd).getD uH) bJG,(∀{xs:aN}{us:eQ}(ψ:Nat),RH→χ),(by obtain⟨o,ψ,v,n,e1,_,e2,e3,e4⟩:=χ),gZ aGd r CR dr ψ OZ QO Sq 3 χ,SL _ rfl _ _ rfl rfl _ rfl lZ,JL CE CS CP ψ χ D fj sj d ω τ ρ,GC _ rfl _ _ rfl oP ψ _ _ rfl rfl _ rfl ?_,ψ a0 a1 a2 a3 a4 a5 a6 a7 a8 a9 χ,bID x [cF rx,by rw[ψ]] b [cF rx,by rw[χ]] b Lc ω b τ aGz fx,(∀(bH:dM)(s:bC)(σ:St)(H:Hp)(ψ χ:V)(ω τ:bU)(Q:VK),ρ),by rw[fH ψ,vQ anp hrd hRd],by rw[BB ψ aAH Rf,cDr cAV,cDB cAV],by rw[rG yu,lJ ψ χ ω],by rw[bE h0,aG ψ χ ω],by rw[jJ aX,Ud],aGA ψ [by rw[χ],by rw[ω],by rw[τ],by rw[ρ],by rw[ξ],by rw[ζ],by rw[η],by rw[θ],by rw[ι]] μ ν π,by rw[qB bE c ψ χ,bE c],by rw[bD ψ rJ χ pK ω τ ρ ah,mN χ H1],by rw[bD ψ χ cDa ω τ (ρ ξ=ζ) aBG aW1 ψ,aJ η (ac3 ξ θ ι),dA τ fA η],wpAny_bind ψ,s.heap.FunFrames ψ χ,List.map ψ χ,DZ u8,by ·rw[ψ];rw[χ];rw[ω];rw[τ];rw[ρ];rw[ξ];rw[ζ],aH List.pairwise_map,mV dHV,mV aA8 aLe,CJ JZ,Bx dH2,bV PU,bV aBL,Heap.size_push ..,eZ (#[]),Cr b.1,by rw[←x_ ψ]at χ ω,wpAny_of_eq (a:=Value.none) ψ χ,by with_reducible rw[ψ],aFB rfl,(fun _ _ _ _ _ _ hr=>ψ),(dJL).toList,by rintro(⟨_,_,z⟩),aB (I.hok.fresh ψ),aB (wpAny_execs_nil ψ),bA bEl,bA KI,iU aTd,iU Frame,iU aVr,cI r1,cI en,cI l0,bK pQ z ψ,Option.some.inj (ψ χ),en2.old (ψ χ),bootBuiltins ψ=aO χ,cZ Jp,cZ r0.length,uZ gL,gW (tgV ψ T),gW aId,Paired.snoc ψ (χ ω),gB aXt,aJ ψ (Heap.lt_size χ),aJ ψ (s1.free χ),aJ ψ (s2.free χ),
TK.sq _,hsT _,senseAt d ψ,gN q2,vV aM9 n,vV aM9 m,lT (x=y),lT cCQ,ps1.map qI,dO Nat.zero_le ψ,iL nb,iL aXB,gJ fE,c.sur i,ls.take i,rQ its.size,rQ wQ,rQ xQ,iD 200,iD 400,iD 40,iD dB2,List.mem_map.mp h,gD Si33Neutral.nats ψ,fW hd,UI α,Paired.c_ ψ ?_,hs.2 ψ ?_,Paired.snoc ψ ?_,seqIndex? i ψ,azs d,e.Perm d,am3 d,evE d,a90 d,aAY aPf,aoe d g,dU jN (.inr),a0=a3,a0=(aB8+1),MD FB,aA0 oZ,.dK dIA,Jv c.I,aB (Nat.le_trans ψ iB),Si33.ints ψ=χ ω,kY h5,kY hy,kY eo,kY hp1,kY hrr,B.old x ψ,uF s₁.heap.get?,_root_.EE.jh _ ψ χ ω τ,a0<IG,a0<(2^24),kD bKq,rG wpAny_holding,lX hk,lX hs,uG s1.trans ψ,sM hI.1 ψ,Dl ψ Ju ψ [by rw[χ],by rw[ω],by rw[τ],by rw[ρ]] ξ ψ ζ,sN (R' x),Rw bEj,iO hj,kE c1,a0+wW,rH a1,rH a2,rH h3,bsl p,bsm p,nmP p,MI fU,MI jY,mT a1,mT (a0+aCY),cells.lookup n,tL x.1,rW uS,qR PySem.F.args_dict_get_2,vZ (a0+ψ),PN α,PN aR,lC om3,lC bhb,aA5 ψ χ [by rw[ω],by rw[τ],by rw[ρ],by rw[ξ],by rw[ζ]],x::ks',x∈l,pN Nat.le_add_right_of_le,pN Nat.lt_of_not_le,pN Int.ofNat_le.mp,EQ nm,mU h1,mU ha,mU hz,aB (List.mem_cons_of_mem _ ψ),aB (Heap.get?_push_of_some _ ψ),M.den c,Pv i H,Kd ψ [by rw[χ],by rw[ω]] τ ρ,yZ lexLt,yZ lt,rL w1,uL ψ of_decide_eq_true χ ω τ ρ,XM ψ jR χ ω [by rw[τ],by rw[ρ],by rw[ξ]],BP aR,DC _ (spliced ψ),decide_eq_false h1,of_decide_eq_true h1,aTB ψ aTK χ Ir tk',c≠32,c≠sep,JM ψ χ ω τ ρ [by rw[ξ],by rw[ζ],by rw[η],by rw[θ],by rw[ι]],MR kp,DE hs,GP pushCells_keeps ψ,YZ dI6,aF6 zH,zC lW sx2 ψ χ,sensesAt d ψ=χ,ZB (ψ y cB7),Paired.length r,eval e env,aBe cEn,aF9 mK,aUN ψ χ ω [by rw[τ],by rw[ρ],by rw[ξ],by rw[ζ],by rw[η]],a2<a0,c !=32,ys++[y],GU aae,kvs.map wL,AH qL,d.zipIdx.flatMap (ψ d),ψ (events d),JU ψ [by rw[χ],by rw[ω],by rw[τ],by rw[ρ]] ξ ζ η θ,JU ψ [by rw[χ],by rw[ω],by rw[τ],by rw[ρ],by rw[ξ],by rw[ζ]] η θ ι μ,hat.mono s1,(ψ χ).mono s1,(agy ψ).2,a0≠0,JX cEC hb,AK t5,df Pr w,aGg Kf,Ky cD8,aB8<a1,(a0+3)<a1,ZM au6,y≠x,aGl ((cAW).getD),aBt yI,aBt OG,aBt aEP,Eb lexLt,Eb keyLt,aGm EV,lastBy l ψ,a2=a0,ψ (PySem.mem_of_lookup e),VO aNm,pJ e t,pJ e ta,aGn cEm,aUY H4,MA s.heap.get? u,
MS tv y ψ,bV k.1+3,Sem Fin,NP aS,t∈ts,it<fJ,mz t=aS,aa8 H a ψ,Ku ψ MK χ ω [by rw[τ],by rw[ρ],by rw[ξ]],iA B.rt h h,VW dJF,vA a2 a1,aGB uD aNR,UX H' ψ ks.map χ,bJp→G,aB cB h.same ψ,aBO ((ψ).filter) χ,List.mem_append_right _ (ψ _ χ),aGK ?_,aGL yI,aGL OG,aGL aEP,succ y,adb EE,bHN es.map,WA g1,gH X.N y,bHO lO firstArgMember,LY P w,amh x=aY,cS ψ χ rfl (Option.map_eq_some_iff.mp ω),aNj wpAny_letGo,Ff rel,ps.map oV,[e,e2],Fg ψ χ ω τ ρ ξ [by rw[χ],by rw[ζ],by rw[η],by rw[θ],by rw[ι],by rw[μ]],aB7 dJ1,GL Vp e,ZF H' s,IN==0,c∈Rp,uT e num ψ,kJ x aPc ψ,kJ x ψ Vr x,IZ xs bVN,qB aC2 aV vO ψ,Lf ψ se.links.map Kq,ajn 1,aE6≤n,aNH cf,jm d QV,aCs IR,MH t.drop 2,DA H l,DA H l0,nextOf d ψ=aS,(n,c)∈ψ,aNS ES,K.In aW,s2.trans s3,aNt xC::us,q∉N,sl∉N,nJ-eG,Si33.sorted ψ (χ xP),gX (ψ (wpAny_bind χ)),Vo ψ χ ω τ ρ [by rw[ξ],by rw[ζ],by rw[η],by rw[θ],by rw[ι]],MB q u,aMB x TQ,ET qt 3 ψ,ET ar5 3 ψ,ET (ψ hu) 3 χ,EU p AF,PA X es t,PySem.W.isFn K xW=aY,aGP ψ (by rw[χ]) ψ [by rw[ω],by rw[τ]],κ×V,aEL=To,aH (aq (Nat.ne_of_lt ψ)),a1-a0,aHK hI.1,sorted L d,mQ 0 dJg,(k,aY)::ψ,DL e ψ χ ω τ [by rw[ρ],by rw[ξ],by rw[ζ],by rw[η]],FE (pyIter ψ),PySem.W.plainOver K C=aY,PySem.W.makesIn K C=aY,aGO aIo f,cA0 (f x),((0,bGK,0,bW1)),aH3 cD3,(ψ).bind bT j χ,aIb cs,iJ b xB ψ,ly K H b ψ,evS d i cAP,JJ k cAx hc,UP e alc,aBE (#[]) 0,fz gF ψ=0,Ak 0 aVi cEM,bIM xZ,aIn Int,bG n s' ψ,((bKz:gL)),wW+a2,aOZ hR0,w++[p0],aO0 bJl,cBK (.seq #[] ψ),qS ψ aH χ cG,ZD listItems_at ψ rfl,cBd xC Kv,aPw yS ψ s' χ,fz 9 (r.take 1),cBU ((aNE).1),aXn s'.gens,SM≤a,a1<a2,xs[j]?,aXu (bLK:JE),cN bY e bB e ψ χ,[(s,0)],aXz ZU,oO ψ bA aH z,afi E k,xX r.un mG,yY s.heap.get? o,AD N x,b9 ψ H1 H2,Tn ly a ψ,Uf bJf tC ψ,aXU uT e1 ψ χ,cCh ((lns.take ψ).map),aCp bJs dH,aCp bJs rM,bT s Rx Qm ψ,nD hs D i,aWl H0 H M,aX6 h.is,aYb ts,cCs CR,cCs Qb,cCu hei,dG0 (by rintro(⟨⟩)),aYh ψ χ (Vals (ω τ) us) ρ,aYl o8,dG7 vy,hI.hou.mono ux,gL×gE,gL×gL,n::fw mI ψ,bR t ht ψ,s0.ps++[p],oM D aNf,gH σ VT,oA x Jz ψ,gD ((l.take ψ).filter) f,LZ i _,pJ aYj bYp ψ χ,rE x o,rE D o,bKs aVD,
vC hM a6l,MG b' iV ψ h χ,IY aTA zV h,ψ++e.sees.flatMap GE,yX aak ψ gf,ML t aOM ψ,EU r bLp,(x,aY)∈ψ,Tw c aU9 bS,aG2 D Te,aG2 wt Te,bKN "dict.get" ψ,bKR ps,aB rP g b,dHe xs.getD,dHe rs.getD,aWg mM st,max 1 a0,bKV ah,cBm a1 a3,cBm a1 v3,Fc bIi∧cEe,Fc bIi∧i<oK,bK3 tb,bIQ I.base.keep hb hx,blo ns iI,cDh dJB,σ=[a0,a1,v2],σ=[a0,v1,v2],amr x y=aY,bLa p0,bLg ψ χ ω τ [by rw[ρ],by rw[ξ],by rw[ζ],by rw[η]],bLi (ψ∧Eo χ GM ω),iw H y l,bLl ah_,cDs ψ wV i7 χ,aN2 a0 a1 a2,aN2 a0 a1 v2,bLr xs,GO l ψ χ ω l [by rw[τ],by rw[ρ],by rw[ξ],by rw[ζ]],UY e aPx aWE,UY e bJ6 aWE,cDD (ψ σ' H'),ep1 cFF,aT h1 h2,-BY≤j,g∈bx,aKW aW0 ZS,kJ q wy ψ,eZ Fa v2 ψ χ,(fun p(y:ψ)=>χ),bmj b _ ψ,kC ps ψ lI,dO Nat.le_of_eq cCq,gC ψ a0 a1,jO v H' ψ,pJ EI tv,amd k ψ=aY,nM ((ps.zipIdx ψ).filter) aKW x.1,mR c hc,kE bK7 bfg ψ ψ,DA H3 fd,cEb j',cEc QH,wD (-GY),Sf ψ UZ 2,AD ps lI,US bXD I.sz,US e3 aHm,dHO d.take,ZL c bLw,aBs 2 aN8 ψ,ZV QQ aO4 ψ,Ep q (vn aAh cCf),zq X aVD r,aBN a MM,cEs List.mem_cons_of_mem ψ,ψ 2=[32,46],bHQ aYm aCi,Mo x c,gX (ψ (wpAny_pure ?_)),lexLt a b=bI,o4 (rows.drop eG),aOR kO k,(kT+a1)+a2,dHT ((ZP).drop),cEG Mk,aYk aO9 DQ,aT [ψ,a] ND,cDb _ rfl,mw H2 a y o,bLC cEt bKk,bLG 3 ψ awi,cES dx,dHY Bw,r x ψ H2 Q,fz 12 (r.drop 2),aWN CX P sW gM cdv,cFj kl,al5 ψ b o nb e,dIp Kv,E.map aFc,A.under dI3,dIu yP,ns.map aKV,(ER).takeWhile aXS,Fb→Fb,fB×aR,bQ hlt QN,p≠l,nJ-Rn,iH+1-aE3,cA cEz gH m b ψ,rs++[r],ψ _ (PySem.mem_of_lookup χ) ω,cN kW IM bE i ψ χ,dIy (aMY aOB,x.2),xs.all amh=aY,sM ux hR1,oO he (hx b z),cS ψ χ e (List.mem_map.mp ω),DA H8 q4,bo ψ hbm hmm,aB (Heap.get?_push_size _ rfl),DB yl cD1,qx s cs,AD xs v,UT qf (db d 3 s),aBk hb ψ (beq_iff_eq.mpr h),PS X st t,cA aR aR gE,HE aMD ψ od cD5,dIC List.mem_iff_getElem?.mp,En l0 sK ψ χ,SeqAt.EqAt A s ψ χ ω,Tq H' b,aBN x bK0,yT::(vs++ψ),aB2 f p,cX sl e1 bIQ I.base.slot hb hx,aHa f aS,aHa bDV aXw,Gc ψ bK4 χ aYn,aVA kk ps1,JD t c nN c ψ χ,aVJ G0 ln,aCJ DH hy2 ψ,Vv ψ QQ aHC,dIL e3,d9 aAE wM acc,cBy pF dJN ψ,dIM Qc,bJt ψ bg gK,aXf ψ Wc c,aiv (n+200*ψ) χ,bJS cdv sW,bJ2 l.any XS,
sG H6 y bKv RE,rQ (dF+aLW),afo c es ss,xT b u pY e ψ cAY,bKK e ψ χ [by rw[ω],by rw[τ]],bKW ?_ bLd NR,toks r v f had t,gD at8 ((bLn).2),dIX it,Gb eW (aia ψ χ σ) ω,Mr ps bKE aWR (z.mono e),bLu aO5 y (ψ H) l,bLH i r Ha Hb ψ,cFE k₀ bFu,s.heap.IsTuple tp iK,ON IK bEZ hl,bR FA ψ cEa aOQ rK ru hT2,qa qt jY NU Jw,s.heap.IsTupleIter itr tp i,Uz ψ h'' fJ zY χ ω,dJi hx,bJt ψ cg bHs bYO,bJN yq rs bLf,dJp E.modify,dJt aOF b,dJz Nat.ToInt.of_le,HOk pC X.w H' h',dJC aV5,dKe aAK,by rw[gQ nd ψ,aMT (id bZz)],PySem.W.Codec.denoteAll aTa,axa bHi,oZ→oZ,PySem.W.methodObj xW ψ,aT uH he,(shP p).2,bgq (P:=ψ) h χ,i::fw n ψ,i0::frr,⟨#[c]⟩,aVB sc.names.lookup∨ψ,(fun(p:ψ)(q:χ)=>ω),Jr≤10000,(cDy IN)++dH5,(∀{l m:ψ},χ),(by cases ψ:χ with|nil=>rw[ω]|jR τ ρ=>rw[ξ]),by unfold ψ at h1 h2⊢,(fun b ψ q _=>χ),Heap.get?_push_size ψ (o:=χ) rfl,by rw[←ψ]at a8t hRl,by rintro(z|z),by rintro ψ σ H' _⟨_,_,_,_,χ,_⟩,ψ (K:=K) (a:=y) (xs:=χ) ω τ ρ ?_ ?_,List.getElem_mem (h:=(ψ:χ<Ji)),ait (f:=ψ) (g:=χ) bKj,.Pass sC 0 0 0 0,.OL hs,l.take ψ=χ++[x],cA ψ (az' K H χ ds) ω,ψ (t.drop 2),ψ (ps.map Ig),dG8 aIr+1,gB Jt hT,xs'++[x0],PU++[V.ref x],av4 d iT,cH z.1 ψ z.2.2,Heap.SameBut d ψ h',gH aTl cCk,PPs X pos ψ χ ω,eY ob ψ (ob.dict=aS),fN oR R h ψ χ ω bJQ r1 τ,gD e.senses.flatMap vh,aMv aTe FT,vA dF wQ,kvs.map wL=ψ χ,aFV (aap t),aF (tj hk) h,zZ t1 rv',zZ t2 rw',Dl e Kf,ve aN4=aY,amh y=aY,cAa uH (.Zh ps),sM s12 c5,vk a l,MH l.map wL,bHf (aqj K) ψ,C y H4,nB y eB,Dq ah8 ψ nT',Dq ψ h1 h2,del H1 aWB,DA H' b,qU (ψ i j) (ψ i j),Kc gR 1 Ko,aG e aXT e,aFY h s H I hw,yA ψ kD aW5 ah,gh l h,EU m dIH,g4 s z,MU (f_ aT EV ψ),.jR ?_ ih,QD dJ4 (sortRow L t),Kn q2 dHb 35,Kn q3 aF5 10,ZD wpAny_isInstance ψ isSubtype_tuple_tuple,ZE q [gR 32],ZE q1 aBb ZP 2,ZE q3 cBj 62,aB (WH.awt fE fE),Kw ψ χ aX aX,QK q2 cBj 45,QK p2 (vn ZP),ZI aOy aOy ψ,@ψ a0 a1 a2 σ χ ω,VJ d h,PM H' cFb ψ dJh ψ,RB ψ cFI χ dKo,wpAny_pure bR ψ rfl χ,Ep q1 cBj 61,RN o (v=iE) ψ χ,D.a1f x h1 ψ,(∀ks:iN,ψ=χ),aBN c1 cCd,aM8 i2 m2,aBr _ rfl _ ψ χ ω τ ρ ξ rfl ζ η ?_,cAu op r,Si33.above lQ ZS,
qa zr ψ aw Jw,Heap.SameBut a kO ψ,a_c a ψ Do,ur _ (ψ nin),aNl x_ ψ lW χ nac ha,Fk aBK aBK,atI xs i=aO v,Lf bZM en.sees.map Kq,Sz s'.heap.update kS aGQ,aGu rY wZ v2 ψ,PW.pt (aks ψ (aev χ)),ps[i]' iP,Mut (H x),liftM (rule x),vC FU Nat.sub_sub h0,eP r rfl (take2 ψ),Si33.seesTo d x=aS,cX h1 h2 h,fs.lookup f=aO v,Vq Rt xM ψ xM χ,aOh bKp ((a1-a2)=4),aOh sN cC3 (oK=400),sG H5 z MH t.take RE,sG H5 q2 dHb 46,sG H5 z1 (vn aN4),aOl (acy w) p,Made R H' ψ ys,o4 (rows.map UD),sG cFB D aYg,iY H4 c1 cCd ψ χ,aBI h ψ r t χ,Md ψ q (k χ aX o q),Ty H' ps s2,cBm v1 v3,Mr ps Av Fj h2 ht,kJ c cs (arp c),eZ (#[cI p2,x]),aPi (qL++[aG5]),aGE a0 a1 v2 v3,aPA H1 h1,ajb (n+12*ψ) χ,((ψ x.1,yW x.2)),[vP,Cb,XJ],aG hb (ψ=bI) (beq_eq_false_iff_ne.mpr h),aXy ac6 YK ψ χ,KDict P w K ψ χ,ML q bK aF ψ q cF q,(a1+a2)+a3,(a1+(200*ψ))+(12*χ),La (asd (Value.ref ψ)) t,aI oF IX cEJ bKL aol Ng ψ χ,aCN HA ψ q Mm,aOW MZ t ht,b=aBM∨b=pT,aEI e e1 _,iY H2 c1 bKP ψ χ,CV dHL bZA jL,Dw (fz gF t),VC dBr IC ko,VC dBJ IC mj,BV ψ aVF ln lF χ,bKS ((my x,ψ)::χ),vs=[cI h,aM6,fT m],hfr b u z q,bI2 bHR ajm aN9 m,bI2 dJR bKZ m,bK9 aMh aUr,bJi a0 a1 a2 a3,bJi a0 a1 v2 v3,dHw a2 a3,dHw v2 v3,bJA a0 a1 a2 a5 a6,bJA a0 a1 a2 v5 v6,s_ ss Cs,aG e3 YU Dd DK bFs e2,cZ pl+1+cZ wN,bA (by rw[←ψ,List.getElem_cons_drop,bEI]),cA aN aN aN,k ψ (s1.trans s2),kvs.map bT kv cFe (LU,y),iJ H aVs dJa,eY x kC l ψ x (f x=aY),Dl n aCc n ψ χ ω,a8_ K mg kd,lH ob h1 h2.2.1,MV bWd JI m7,aHa "__setattr__" aWo "object.__setattr__",xU dBv 3 JI wm,aVU D.gre x h,aN7 aS4 ψ EZ i6,fF kF ψ aIk χ QZ ω τ oU (aio ndk ρ ξ),cEH ψ rI0 Lu χ,(bK6 aYo ψ (by obtain(⟨χ,ω,τ,ρ,ξ,ζ,rfl,_⟩):=h) η),cFg ψ ln rfl χ ω,h.ok.each x.1 hx,G.tupKeyC kO aXp ψ,bHU BO∨aW6,i∈wy∨sN (r i),[aKP,uV,aS3],cE aLB kB hj,IE k hk dIw,vQ az l1 l2,(∀{d:cR}(h:ψ),χ),numberIn 9 ψ=aS,vn ws++[aBd],RS c t t',Jy ta x bKF ψ,nN Qp g d,zq X (.OF ψ) (χ X.K),Kn q1 MH r.take 2,IsTup kO l iK,nM rs.countP (x==r),Ev cR [] [] ψ,bG σ' H' cFk (ψ σ' cE4),cDC cFh bJH bKy,xm ZP=aO (n,r),aH5 aVH A ψ R s,bb2 X.N aLK gM x j,iV bW Dn (Py+1+1) bg6 hu,
aB uJ σ' H' I.af' q,UH LY eJ w A ψ bG b s' χ Uj,dJW OQ ψ Qs,dJ3 uA dIk nu,ψ (J:=χ) ω Er τ aPg r ρ ξ hD cFr sH ζ η aXM sH ζ θ bK dIj ι ?_ ?_,dKC q (g.symm.trans q),ψ fun(n,k)=>χ,h.Ns1 dx mA,newOf kA dI1,a4f wv lw,(∃x1 x2,aPB),aXP dGH::qx cDQ ψ,aB yA σ' aT cFA e q,#[rawInt bFe,rawInt pos.col,ψ],[cDP,cDR,y.2],iA hy hy hy,(∀(L:ψ)(a b:χ),ω),IP e1 e2 S,(by rcases dE6 with⟨_,e⟩|h),d.zip (List.range iH),dG h1 h2 h3 ψ,dG g1 g2 g3 ψ,sG H7 q4 MH ((ZP).drop) 3,Inv X ψ σ H s,dJ aXd s1 nL,BG hb o e ψ,ku c e x,seqObj yI dEb e,MF ps ψ P aNi,BG o hb q tJ eb hb q,T.obj _ _ ψ b hb,e=x∨oM e EY x,EM dBl cEq uf,EM dBE cDG gn,mC hS1 e1 he1,dJj++(sn.links.take m).filterMap bK8,JD ty y MS td x ψ,wpAny_bind (wpAny_mono ψ χ AW h' h'),defaultsOf CQ pR=([],[]),(lY-wG)=cZ aB8,MV bWr [lK] (je CE CS),MV bWN cEr qd,UY p0 p ψ,AJ u ru rv.one,Mt ψ aX mJ h0,xU dBz 2 dJo zm,aNh aGy aBW qh dIF hy,iJ p (p<17) ψ,JP q nb fW q,AV t (α×β) (P t.1 t.2),aGE a0 a1 a2 v3,toks ψ 0 0 [] t,aHV bJ4 tx z ψ,atx CP Hb H j e,cBE (PG cBx tg g),(ψ).find? Uu x.2 k,IsTup kO b pU,Lk dBk 3 xM abn,ψ x lo hi H Q,ih bG x hx (ψ x aOD),ih bG y hy (h y cB7),jF σ' H' I q h,Fm ψ χ ω hq2 bjt (NL ω q2 τ) ρ,bJW eV tR (Si33.ints _) _ lP bZY,bII iH (cE5,EJ),bIq a t ψ rfl ha χ k,aNB r CR dr c1 OZ QO rfl _ ψ,aOd p C dx [] hp T.cl bHp iB,bKd aB aAz [by rw[ψ],aXR,wH χ ω aB h2 τ ρ aB ih],TB ψ χ pd aCG g Nat ω,oM q aGp bYP fT bYQ bYR,bKu u e,Kn y Tb wy p0,Kn r Tb n 32,BV ψ aVF s mX dHq χ,Lk bWz 2 jZ j5,Lk dBC 2 xM j1,bHM bJb cAm t n m,Ap ψ χ a ks ys f ω,yi CP Hb ad lns,aNw a0 a1 a2 a3 v4 v5,aNw a0 a1 a2 v3 a4 a5,cBE (PE cBx elt te),cBE (PTs cBx ifs tt),onT g (akn d g),dHn jW QN aVs bI6 eW,dHn qQ QN aVs bI6 ψ χ,bLz bKD qt ψ χ T3.avd T3.anw,cDJ bWk jZ m8,k b ob q,aG ne JY a aA (a∈ψ) χ bG ha z ω,aI (eu aoz (bi4 pX X pd g)),(∃v2 v3 v4:bJ,ψ),Si33Neutral.step s (PySi33.whole c),wS bWQ 3 aOa (qe zN XL),jX kW SZ ψ χ eV (¬ω) JP q z τ DO aP (by rfl),DS (aq (ne aCr)) g2,cEl ψ lM en χ ω aB (k0 cCe χ ((τ).trans ω)) ρ aB (k1 ξ cCe χ x ζ η),I.ok.cab x c hfn hc,cAp AutoSeq1.wpAny_loadPart' (wpAny_pyIter_list hL),
zM y _ rfl ψ χ ?_ ?_,bKb ys ψ χ y [cS ω τ rfl bKA q,bS],cFu aBM [aBM,pT] ψ (χ a aBM pT) ω τ,cFH dy hp2 cCu hen,(∀f,ajy (fs.lookup f) (mA f)),sC _ _ _ rfl,ψ χ gA uC zU Di ω τ,cS m hn hl OQ,sJ (dh H') lps iG,s1.heap.push (revObj l (fM TX-1)),EN bs.find? b b.2 k,YR d.map e pA yL,ML H' FS (IL K H' v ψ) p χ (∃vs,oA p Sj vs),qW x hx y hy,QD (xz H' y (Si33.faults d)),VB ET Na 1 (cg aOE ψ bKt) wV χ aXQ aN8,Ua dx ψ χ kvs kvp yB ω τ ρ ξ ζ η,cS u rfl rx (vals1 r),RR Wf a ψ y hy a2t,kQ b xs JA MJ oA b MJ,bKO cD0 c c dEg,aIq Pr a F B T5 ψ χ ω,vT f fd M F hm hb ψ,kI w' s3 I3 rw' VX ψ H2 I3 rw' q2,oW x lo hi H Q ψ,ME ψ bLy p χ (ω H6 p q) aH9 z.put τ ρ,xT i H QN aVs cEf,sS (wpAny_letOwnedTupleGo_enum (s:=aGk ψ) χ pX ω he' sb),ψ NH st χ bG h' eb kD aNr cE6,dJQ (fun{m n}=>Int.ofNat_inj.mp),awm aol aol aw ψ χ,(∃old,IsEnum h e ψ χ old),(∃x1 x2 x3,aPt),X.env.qual++dDM=q,oK+aB2 eZ 1 ψ≤TZ,cS xs hq hx hg,jF σ7 H7 I7 ψ q7,(fun b o _ e n=>ψ),aqe (lo:=ψ) (n:=LT χ) ω τ ?_ ?_,PyFlat.played dFU ψ (raw.map aUw),(aX2).push (PySem.W.instObj C fJ),JK h' dIP ψ aS NG,fG r v f ψ=χ,AG b a dIB (u=dI9),Lk dBG 4 ST jr,aGu a0 a1 a2 a3,Tg Ez qi rR aBK aBK,aGE a0 a1 a2 a3,jk P w ψ h' a χ,aVk t3 r3 t4 r4,ij aCt a (sortRow L b),nQ a u1 rfl h1 (am1 h0),nQ b u2 rfl h2 (am1 h1),nQ c u3 rfl h3 (am1 h2),BD P w H h ψ χ ok e,pL x n aHW x (btm ψ x H n) Mj n,Wh hn vW n ψ hn oN χ ω,aH6 Si33.tooMuch bIC Kx Uw 7 (uT st Pu bIC,aUO Ul bIC),Ip c hc (∃c,aPr) gJ Al hlt,bD hz ψ DK χ z hl rQ bV aNR ω,(∀H' y iG bx,jW eW Td UT iw iG aMZ aWg bI7 [] cCp (x∈iG)),Dz H' c bs eW aO1 YJ cEk bJj bs (jj ks f) DG,Dz H' p ps eW JV YJ aXC p cE0 Nh iW,aNw a0 a1 v2 a3 a4 a5,cBC v5 v6 v9 v10,qM a xs ψ hq q q1,cBe e f pR Sn,bJD aMS (EE.bp a4 a5 a6 a7),bK (by rintro(i)H ψ H' _ _⟨e,_⟩) wT,vs=[DG,cI ad,yT,jT],BX ψ aVF s mX dHq χ dKj,fR σ' H' p' aT ψ QZ χ hlt p',dIf (rdF cI s tM iE),dIr ψ T WB B fQ χ,SU hl hb he h h,jI c ψ (cC5::χ.1,χ.2) ω,asa (aqg rfl) boot_max B.max aw ψ,oS aH z aB (nit b u e) aB (nit c _ z),aI (kx _ ho hk _ ?_),cEW f [by rw[ψ],by rw[χ]] ω τ [by rw[ρ],by rw[ξ]] ζ [by rw[η],by rw[θ]],
xN bH s σ H Q I ψ,cFv y1 y2 _ (r1.mono s2) r2,ψ dF hz R OV hD kI i H hi s bJw dG9 aHB bG H s bJV dG9 χ ω hd,bgv aFg TF X.env.code P,sliceBounds lo hi aS n,be' fT IN aNG fT aLE fT aTF,ψ s3 aXJ Cy dHS fp,(∃x1 x2 x3 x4,bJp),[aBm rr.1,fT rr.1.2,aBm rr.2,fT rr.2.2],[z,TI,TO,i1,i2],jF xs x hq hx hg,(by rcases h with(h|⟨o,h⟩)|h),by rintro σ H'⟨s1,⟨v2,rfl⟩,ψ⟩,σ=[a0,a1,v2,v3,a4,a5],Dw bV EN d.filter e pA t,a.free c ob q n hx,aGF abq a b t1 t2,aGI β (StateT LV Sem (ForInStep β)),re (qu (o5.deeper (k:=3) hr _)) (pv ψ) rZ Rr,fV r 0 ((dIR).take v),qM o es ep ho r hm,qM σ' H' I2 e q q,dGP f (al' VN xW tM VN) aF3 oA f tP oA q QM,bJD aVg (EE.cu a3 a4 a5 a6 a7),aPy ψ χ y cEp ω ny ndy τ ρ aHu ξ ny,cS v hv rv' (rv.get (ak1 ha)),cS w hw rw' (rv2.get (ak1 hb)),aFS dJc cBp aF3 dJr cBp cDe DI,QD aNN dIv tO (f t (Si33.ranksOf L pA)),(∀i x σ H T,jW VI aNa aHA dJy ψ),dZ dJl aWT FS aX1 b p bLe aOi b,bIz dJ0 ψ VI v (∃T x,ZY v aV9 aHA (H'=χ) ω) GK xs aN ψ τ,(∃kvs r,eX ψ aW7 kvs (∀q,bIP=bJn) (a3o d r) iJ q (q<χ) sN (r q)),dJZ Kz x Kz dx ψ kP KB dx EY x x cAf χ,aI aVz z CE dz ψ iZ jD χ ω,by intros eJ w A R s h,EF hp g d tk os s,qM e n ne nf d cEA,(by obtain(⟨hz,hTI,⟨ψ,χ,hTO⟩,h1,h2⟩):=st),by rintro ψ v σ χ U hv⟨⟨ω,τ,rfl⟩,ρ,ξ⟩hU,((aXK ψ).all aK4 x x.1&&(dJb zT []).all aBY x.1&&mQ (bV χ+bV ([]:bIW)+(fZ (([]:bIW).isEmpty) 0 1)) 30)=aY,pL bm o aX0 "__builtins__" bm (bm≠aSY) eX (bm≠Ih) (base.get? bm=aO o) (aEL=zW "module") (o.dict=aO aSY) (Bw= .plain),Turn P w K cB1 ψ χ e vE h ω,aGv a0 a1 a2 a3 a4 a5 v6,@ψ CR CE CS CP vs H Q XE eZ χ ω,(∀H' r v f,VH aMP nZ r nZ v nZ f cCU qQ cCV cDf aU5 cA4 aGc r cBo v f),wS ψ 9 χ (ω Pr w CH CL CE CS CP P),(fun h' tk Dd c' ψ hS aL6=>?_),HJ e1 (uS[j]) (Value.int cZ a t1) dIN e2 (aAD[j]) (Value.int aVT t2) dIO,dKs aWJ (EE.gp a6 a7 a8 a9 w_ a11),by rw[EO pz hpz e_ ψ,GW ln hln hP0 χ hpz],(by induction ψ with|aE1=>rw[aB χ]|zS e _ ih=>rw[ω]),aUG r (a_5 CR CE CS CP H H' r (yz t)) BM,aGv a0 a1 a2 a3 a4 a5 a6,k _ d1 d2 ψ χ ω n12 aO8 ?_ ?_,(∀(i:Nat)(ψ:χ)(ω:τ)(v_:dM)(H1:Hp)(s1:bC),ρ),
bIU aMS (EE.gp a4 a5 a6 a7 a8 a9),ZY σ [bKl,rY,wZ,sO,v4,iL p,ψ,χ,ω,τ,v10,v11] aHT fd ρ aO2 fd cEF ξ,bjb CW H H' y aUH t cCf (Si33.formsOf L t),I.agt (ch:=ψ) BG ob hb q pZ (sb.2 b bIx) (hk b ob bIx bIx q) hf lB new,(∀H' y ks ys,cA eW Td qQ Ta MM bJj ys (jm d) UB aXv ks aMZ aNL vZ (fi ks (jm d))),(∀{P:aM}{w:aK}{H:Hp}{h:aU}{ψ:aA}{χ:ω}(ok:RQ)(e:τ),ρ),@ψ Pr w CH CL CE CS CP P vs H Q XE eZ χ ω,⟨_,rfl,_,_,rfl,rfl,aVl-aOk,ψ,aOk,χ,ω,_,rfl,rfl,τ,ρ,ξ⟩,aBr _ rfl _ _ rfl ψ _ _ rfl rfl _ rfl χ,by rw[aNs r1 rva rv r2 rvb,bHt ψ rvc rvb,aOH rvc],btj ha hb I h fun v u s2 x y H2 I2 rx ry q=>ψ,(∀H' y kvs R iG,qQ eW Td Ta ES aYe R aMZ aPs bI7 0 cCp Vs),(by obtain(⟨l,b,xs,zs,rfl,rfl,hH,hB,hz,q⟩):=h),Vb ψ c hc s1 QM c1 En c QM c QM rE c QM H1,(∀{c:Gs}{M:BC}{Γ:Ctx}{s:bC}(hL:Wd)(ψ χ:ω),qU τ ρ),XZ f c A lG s H vs Q E hT hr h,ψ hu bH st σ H _ _ v u Q I rx ry χ,by rintro i H' v H'' hi sH⟨rfl,kk,vv,q,hkv,rfl,hq⟩hDs C hC,by rw[bN ψ,aZ],by rw[bN ψ,aBH χ],by rw[by delta ψ χ ω τ ρ ξ,_],(by rw[by(obtain⟨_,ψ,χ,ω,τ,ρ,ξ,ζ⟩:=η),_]),(by rw[pW E,by(obtain⟨ψ,χ,ω,τ,ρ,ξ,ζ,η,θ,ι,μ,ν,π⟩:=h)]),by rw[pW E,EF ψ χ rfl ω k h],aWK ψ χ [by rw[ω],gQ nd τ,by rw[ρ],by rw[ξ]],by rw[bW (ψ=_),aH χ],by rw[bE z,bB z],BH ψ χ _ ω [by rw[τ],by rw[ρ],by rw[ξ],by rw[ζ]],by rw[fH i,bIZ ψ χ q hp],by rw[wP NL jd,aB L2.ah],by rw[dP ψ y hy,aQ χ ω],by rw[aH (ih ψ),by rfl],by rw[iX ψ h χ,dA rC aAb h],by rw[iX y hy z,IE l hl (List.mem_filterMap.mp hy)],by rw[aNW,HF ψ,bLO hrs],by rw[aJ ψ aYa χ ω τ,cEP c2 hc2 ρ ω ξ ζ τ,_],by rw[bQ q (p=ψ),fP cX t ht χ aZ ω τ],bA Ej ψ χ ω [by rw[τ],by rw[ρ]],bA RG ψ o [by rw[χ],by rw[ω]],by rw[aXk de ψ,cDv],by rw[mW ma evS,aH8 bEv Jb],Ru ψ χ ω [by rw[τ],by rw[ρ],by rw[ξ],by rw[ζ],by rw[η],by rw[θ],by rw[ι]],by rw[aG hal (dEH=ψ) χ,vI Vals.bji fD],by rw[cX t q iR aHj ψ rx,cF q,aHI χ aAz],by rw[NN e' k ψ e,aB (χ bR H I q)],by rw[aYp ψ χ ω τ ρ ξ zM χ ω _ _ rfl ah ?_,yN ζ sn η θ ns nq nsq ι μ ν,dJ QT],by rw[_,EF ψ χ rfl ω τ ρ,dJ ξ,aG ζ (ag η θ) pK ι],by rw[cFM ψ hki ks,Ek χ hyi ys aHh ys hyl hi,bLP (bkh hki hyi)],
by rw[aI ψ,iC χ y ω ny hy,aF hL hy,dR hy UO χ cDW L hy Fl p1 y τ hy,dJ5 dEf ba9 ll],Classical.epsilon_spec,Sum.inr,DecidableEq,h'.get?,Heap.lt_size,"__name__","passed_over","senses","beginnings","add_each_once","added","add_pointers","aim_of","ends_with","find_rings","in_one_row","is_head","is_too_large","leads_by_kind","leaving_order","line_fault","places_led_round","pointer_fault","read_aim","read_line","read_number","read_sense","say_aim","say_pointers","see_wrong","sense_led_to","sense_number","sense_pointer_wrong","senses_onward","steps_by_under","take_line","told_anew","turned_round","Entry.__init__","Letters.__init__","Pointer.__init__","Reading.__init__","Sense.__init__","WordKey.__init__","answers",PySem.W.WRecords,_root_.EE.cw,PySi33.answers,List.range_eq_range',Nat.lt_of_le_of_lt,by grind-abstractProof-ring-linarith-order-ac-mbtc,Nat.zero_le,Nat.le_of_lt,Nat.lt_of_lt_of_le,Eq.symm,by simp+arith at*,16777216,10000020,l.foldl,Bool.not_eq_true',List.any_append,by suffices ψ by rw[χ],by apply_assumption,List.mem_append_right,D.chain,List.filter_cons_of_pos,List.pairwise_iff_forall_sublist,List.drop_append,followFrom,Way.ah1,List.mem_map,LONGEST,Option.some.injEq,f.variant,variantsOf,((·.2.1)),((·.2.2)),h2.symm,h.length,List.take_succ_cons,sm.each,(ψ).senses.getLast?,Entry.point,entryLe,(by rcases ψ with⟨χ,ω,τ⟩|⟨χ,ω⟩|⟨χ,ω,τ⟩),E.modify,Option.map_eq_some_iff.mp,List.getElem?_range,List.map_take,List.findIdx?_eq_some_iff_findIdx_eq,carried,linksAt,(ψ).dropLast,(ψ).length_le,List.getElem?_cons_succ,List.flatMap_eq_nil_iff,wrongSee,wrongLink,ob.slots,X.env.globals,I.base.keep,I.base.free,s.heap.NoLimit,I.base.slot,I.base.ams,I.ok.blt,compareOp,Compare,ok.glob,ok.above,ok.frames,swapsWith,letOwnedTupleGo,s.heap.push,Builtin.Range.rangeSize,s7.heap,(fun _ _ _ _ _ _ _ ψ=>χ),xs.isEmpty,kvs.isEmpty,its.toArray.isEmpty,((·.refKey)),"function",Code.frames,hr.mono,sc.kind,evalPart_none,pl.isList.typeIs,slot_list_getitem.lookup,xs.dropLast,List.replicate_succ,List.flatten_cons,
Builtin.List.listTooLong,"list.append","list.extend",k.toNat,hl.isList,env.cells,pushCells,builtins,Option.isSome_some,List.length_set,cenv.scope,(by rcases ψ with χ|⟨ω,_⟩),(by rcases ψ with⟨χ,_⟩|⟨_,ω,τ,ρ⟩),ListComp,by simp only[ψ]at χ⊢,Bool.false_or,ov.isSome,PySem.F.slot_dict_get,"str_ascii_iterator","str_iterator",F.slot_dict_iter,Builtin.Dict.showsAll,wpAny_dictEpoch,F.slot_dict_keyiterator_next.lookup,F.slot_dict_keyiterator_next,newTuple,List.getElem?_cons_zero,F.slot_dict_keyiterator_iter,wpAny_pyIter_enum,Nat.min_zero,List.map_drop,scope.isCoroutine,scope.isGenerator,"<lambda>",suspended,callSusp,resumeFresh,resumeSuspended,resumeJustStarted,resumeThrowFresh,resumeRunning,resumeFinished,segSuspOut,segSuspGen,StateT.run_pure,StateT.run_bind,elem'_eq,Std.Legacy.Range.forIn_eq_forIn_range',Array.swapIfInBounds_def,xs.size,Array.getElem_map,gallop'_eq,mergeLo'_eq,by dsimp-zeta-zetaHave only,mergeHi'_eq,List.finRange,List.length_finRange,F.plain_list_iadd,us.toArray,Inv.ae5,X.A.in1.in1,boot_sorted,L.length,Si33.BIG,decide_eq_decide.mpr,"begin",F.slot_dict_len,Si33.LONGEST,Si33.FORMS,List.any_nil,s3.trans,ts.length,ls.take,List.mem_singleton,"group",bnp.length,boot_any,Bool.eq_false_iff,"length",boot_min,hL.mono,List.drop_drop,plain_eq_loop,F.entry_list_lt,items2.toList,O.behind,s.heap.IsTuple,"__length_hint__",Bool.or_false,acc'.toList,acc'.toList.length,Si33.order,s1.free,by injection ψ with ψ,F.slot_tuple_hash,F.slot_tuple_eq,eqIsQuiet,Builtin.SmallTypes.nextOf,hi.typeIs,F.slot_tuple_iterator_next,F.slot_enumerate_next,Si33.KINDS,x.cps.toList.length,Si33.said,hsm.sees,Si33.Entry.point,_root_.EE.agk,Si33.firstWrong,d.zipIdx.map,ix.isLt,rs.countP,List.filterMap_append,"counts",Option.map_map,wy.length,W.first,wy2.Nodup,"rounds",hq.length_eq,ks.take,"waiting",st.reverse,List.map_reverse,rest.reverse,List.reverse_append,List.reverse_reverse,List.filter_filter,PySem.F.slot_dict_setdefault,"setdefault",ft.made,ft.init.lookup,en.senses.zipIdx,List.contains_iff_mem,"found",
"by_head",hGd.ok.len,kv.length,F.slot_dict_valueiterator_next,hv.typeIs,F.slot_dict_values_iter,"dict.values",F.slot_dict_values,List.getElem?_set,T.length,List.length_zip,hL1.len,List.findIdx_map,t.senses,ps1.length,s0.links,Si33.tooMuch,t.links.length,agh.row,Si33.Call,hI.hou.arc,Fo.length,hI.good.side,hI2.hou,or_false,Good.nil,g4.ok.len,g4.ok.keys,g4.heads,hI.good.texts,g5.texts,Si33Neutral.step,cs.length,rest.length,T.kinds,aB (EE.ct ψ χ (Eq.refl bI)),qN aMu (Except.ok.inj ψ),zM rfl rfl rfl ψ rfl wR wR,(fM ψ::a)::xs,aJ hu (qu hr),backTo ψ (starEach χ pR),PyInside.call bZ2 ψ=aY,newOf kA (ψ aF9 χ),wipe σ2 vs=Ki∧ψ,{D with nx:=ψ,ct:=ψ,bk:=aFj},GP _root_.EE.jh ψ,dF5 last.flatMap ψ,acc++[y],bK dB8 FT,aF5 bV (vn ψ),(ψ).push (seqObj χ ω 0),aME (nil_of h1),aU7 (PyInside.each [] []) ψ,z8 H ys ks ψ,al' ψ cI fd cI pd χ,(∀j(h1:j<xQ)(h2:j<IS),ψ),(∀i j,∃v,atc c ψ Γ s i j v),sE (‹_=_›),numOf (ψ aFc),wF acc ψ (acc.length<vO) χ,oW a0 a1 a2 a3 a4 ψ,dGi (EqAt GA s aUT aUU (e j)∧(e j=bI→aBz GA ψ aUT aUU (c j))),ψ a0 a1 a2 a3 a4 a5 χ,ψ 0 0 0 0 [] [] t,carried d g yV ψ,bK bYC (by done),tupleKind (df ψ χ),aJ ψ (List.mem_singleton.mp ψ),AV t (α×β×ψ) χ,p ψ x2 x3 x4,aF4 s2.heap.push bYd bHr cAI,kQ σ' H' (N σ' H') ψ,aFS (Nx H') bHy m (W eG m' H'),cAo aML Nat (W 0 m aVu) (∀i m H,W i m H→ψ),PP r _ _ _ rfl rfl gN ψ nR r0 t rfl χ dO ω ht ?_,bZ9 bGN ψ bGO ψ bGP ψ bGQ ψ bGR ψ bGS ψ bGT ψ bGU ψ ψ aB XD ψ,gg ks bs,ψ++(en.senses.zipIdx.take j).flatMap χ,Heap.get?_push_of_some _ (ψ _ χ),s.heap.push EL ψ χ (#[]),aa6 s c,cAZ (Nx aVL),y.2=AC→MF c ψ y.1 c,wpAny_callSpecial?_slot (name:=aU3 ψ) χ ω τ,id (Eq.symm ψ),bIj++[Me],dGd ψ yI (#[]),UG CR dr (rdF cI ψ cI χ ω),(∀H' ψ q,VH aMP nZ ψ aGJ (ψ≠q) aU5 χ ω),dGy bHy m (W eG m' σ' H'),(by rw[pW E,by(obtain⟨x,n,r,ns,iI,st,rfl,hn,hR,⟨ψ,rfl⟩,hI,lP,k⟩:=h)]),by rw[rG yu,bHT yn ψ],by rw[dP ψ H1 s1,GZ],pairsFrom d ψ g,aF4 ψ "tuple_iterator" bHr χ,cAB hI.mono,Si33Neutral.nats xs,R (.SO e) s',PyFlat.told (qx ψ χ),aB (WH.am' fE fE bA ψ),zZ rfl cB i1 a,EL Qc Pu (#[]),#[YO ψ,LZ χ u,LZ 1 v],
pX t t' r,cBA dGe ψ dGf χ bIc ω _ aVc kD τ jL aB ρ ξ,(∀vs H Q E,ψ),m_ ψ E ((bHG).take i),(ψ.2).l.length,s.seq hl,aja d i en,[gR 32,gR ψ],P.zip vs,bT t QV,bHW ix (ψ bGo x),aVA k ps',by with_unfolding_all rfl,wpAny_field ψ χ (x:=ω) rfl τ,lV aO (HO.lst z),PyProof.Rows.callWith_type1 ψ hs rfl,yC ([]:bM),aa7 ψ boot_list bGc χ,aBg P jg iq,(∀i H x H',ψ),pL x y ψ χ CZ x y,C aVR H4,cA2 bIJ aCa QD ψ,EM dBD [lK,uV] ψ,kQ H' ψ aHd cA χ ω (Qd H'),dG3 lo hi,[aHl,aNY,x.2],pushCells (ψ dG2) BE,σ=[a0,a1,ψ,χ,a4,v5],abh hL _ _ _ _ _ _,d++restOf ψ g,(∃v2 v3 v4 ψ:bJ,χ),bIv hw (ψ t) aCg χ aNh aGy cAB qh dGW (s1.free hy) ω,fR A R s jU GS l ψ bIF χ ω Eo Kr τ s,afo Kq (en.senses.take ψ) aMk,oW eJ w E Q h ψ,IF b o e n hb hx ?_,YG a aA ks iN ys bM f BU ψ,(bA (by induction h with|OL=>rw[ψ]|@zS w p' _ ih=>rw[χ])),notedBy aVH A env bG e s' dGY,(by rw[by(obtain(⟨_,_,a,b⟩):=ψ),dG1]),I1.hok.fresh ψ,aH (List.drop_eq_getElem_cons ψ),Builtin.Dict_items.ownsTuple ψ=bI,Si33.dec n,ψ χ (List.mem_append_right _ ω),placesOf (ψ i),Si33.wordOk t=bI,aGZ Eh ?_,u.any bT c aNk ψ [c],cBd (Cy+1) Kv,fz 9 ((ψ 2).take 1),wy++[q],N++aWh r,ψ L (d.take i),Si33.wrongLink d ψ ln,(∀v,ψ≠ .cell v),(last.take i).flatMap aF9 3++ψ,.OF "type.__call__" aT ψ kw,Vals (ns.map SR) ψ,cBM Pw dHt,(∃a b c d,ψ),dHz v5 aGE sO ψ v2 v3,cAm aFG aLE aTF,(∃(x:aA)(a:aA)(L:fY)(d:cQ)(t:aR),ψ),bT a (funext bT b oU yZ ψ),dGd cCw Zi aET,kP rE dx EY x x ψ,air CE CS H x ψ,Cf (iM ψ dGr bI++iM χ dGr aY),by simp only at hc hd hc2 hd2,by subst hc hd hc2 hd2,Mg apg en hen,dGP s ψ cBo s q,cCG rw0 apg hz2 hrs,jI GF 3 aO Lh aS,cCD cls dd data ho (id hl),by rintro i H' v H'' _ _⟨e,_⟩,ψ Pr w uA zN EC ID LM,ψ v g0 l0 k0 c0 p0 χ,oW H' p s' np hp (k H' p ψ χ ω hp),t {nx:=wO H' UF iE,rt:=Q} bJz H,[tupleKeyHash (df eJ w) k.1,(Mq).hash k.2],Cx.lam X s H q gM f cv ψ A,(by obtain(⟨⟨bnu,dd2,data2,sl2⟩,ho2,hc2,n2,hd2⟩):=id hb),(∀{P:aM}{w:aK}{K:aL}{mg:bF}{aW:aU}(F:ψ)(χ:ω)(τ:ρ),ξ),ψ l b iK pU n n2 dd dd2 sl sl2 e c,by rw[kU,by rfl],(aHP).toArray.map ψ,Si33.placesOf d ψ,Option.bind_eq_some_iff.mp e,
Si33.entryText e,nM d.zipIdx.map ψ,Si33.signsOk t,a6m kvs k,Sv K.lookup,ψ (List.mem_of_find?_eq_some e),ψ (Classical.epsilon_spec h),aBO scope.names.all ψ,aBW hI.mono,Fe ok.each,MH t.take 2,Si33.leads d ψ=aS,sc.names.lookup y.1=aO ψ,own.map xP,hacc.2 i v ψ,s.TypeIs jT ψ,Tl aGX hv,Tl aGX hw,Heap.ExtBut ψ kO h',iT[EJ]' fD,Tu 47 lt,Si33.order ψ t u,Si33.follow d i=aNF,tQ ψ WH.jb fE fE,dO WH.azy fE,rH cB d0 h1,h.IsListIter ψ a i,bHz ψ χ YN (False.elim z),aBV ptr l,Si33.firstWrong l [] l,dHZ aVi aW8,J i ks H3,dH0 (QC::us),dIl (.susp) ψ,Builtin.Tuple.tupleHashOf dIo,[y.1,y.2],eC tO (Nat.ne_of_lt z ψ),gX (wpAny_isInstance (T:=ψ) (b:=true) χ ω ?_),.ox bJR gW aNC,J.stop n H,backToKw ψ (keywordEach χ pR),PM H' aG7 ψ (wx ψ E),aBg P lu jv,aBg P rg ou,H3 c=aO bIN,vi (a.senses.map vS) aTE,wx (nD hs ψ) E,cBI sm.each x ψ,dGE cCW aWV,piecesFrom L 0 t,yC aFh∨aLJ≤b,(aG3 ψ (k=! dC1))∨χ,cBc aKL ψ++bJu cZ n,[Bz,xK,qH],ψ b.2 (f b.1),kC iK bIr cCb,aty (qw ψ js),aF (List.drop_eq_getElem_cons gC ψ lP χ) hz,keyLt ψ (ac2 L a),dHo (a= .ψ x) (b=χ),if_neg (Nat.ne_of_lt z),aBg OH lu jv,ij k'.row k.row=bI,aUP aV9 σ ψ cCv,aBU ψ rfl rfl h0,ψ hl hb hu cBU Uh aNE χ,eY vs VZ (h.DictOf aWX a vs),flat dn++p::(xs++ψ),[.Call ψ xZ [] Ri],(by obtain(⟨_,_,_,_,o,_,_,e,_⟩):=x),lT (rk i=v),lW hJ dGs _,gX aGK (ψ hod hdd ?_),IY cDE ψ (alv χ _ _ _ P),tO (ψ (Si33.ranksOf mO pA)),aBg Il rg ou,evL d i jP ln,vV [aNG,aBm x.2,fT aBT],bHC ψ us bHF ps.zip us,bHW ix (V.ref (ψ bGo x)),cA5 eX JW nE ZR ψ χ,aWQ (ψ (id (Eq.symm h0))),dGE (bHR ajm++aN9) aOI,IE i hi (Option.bind_eq_some_iff.mp h),Ab (ug t.1) KG ψ hpt,gX (ψ OU aGK (wpAny_fieldsOf ho hd ?_)),ψ Qy ((p,w)::dHc) m χ,cBX I.ok I.base ψ Qr χ TM ω,p=aS∨∃q∈wy,p=aO q,bD lP (gD items.toList.zip dEB=Ks) aX ψ χ ω,kQ x dx ψ cA χ (dx≠x) (sp ω τ ML H2 (v=iE∧RK yT) ρ),AX xs aN x V (ψ∧χ),[x.1,VS,vY x.2,x.2.2.2],bA oT sE op rD (by rfl) BJ rfl ψ,aMI Pr bD7 ψ 3 EZ χ,aw0 H H' y a ψ,by rw[bJ3 aH az (1+ψ) χ ω,dD p2 hp2],ED o o' ho i j,(by obtain⟨y,vs,ψ,hy,hlt,_,hI5,_⟩:=χ),gX (he1 eJ w _ _ ?_),
tb cCP ψ H3 bG v H4 χ,aB (len_cat rfl hz lP dIm (qh (ψ s')) (hI.mono (ψ s')) χ),cB5 ψ (wpAny_setField ho hd aX ?_),Ce i Nat p aA k agh H3 Hp ψ,k_ bG t r (ψ r) Pr w uA zN EC ID LM,PySem.W.envX q gM fJ f cv ψ,aQ CV (its.toArray.any cBa=its.any (eqU x)) cG (aon r fs),by rintro(u)(s1)(⟨x,H1,I1,rx,ψ,χ,ω,τ⟩),aB (ah9 hd hg hn hs ψ (χ ω x hx)),aI (wpAny_Call_method m.base m.few m.line PySem.F.plainAttrs_dict ψ χ aWz),cBF aVG (EE.gp a5 a6 a7 a8 a9 w_),AX ψ aA χ ω eX τ ρ ξ (TabOk P q aie H1) qG c aA H2 Hp cA (a6w P H1 H2) cDz aie H2 ζ,dL rL hy Sg _ ψ _ _ rfl rfl hy hlt χ hI5,Ek axc hxi xs PR xs i ba3 il hxl,PySem.W.kla_fn dDM q CQ sV gM ψ pm cv ctv,cBF aMS (EE.adc a4 a5 a6 a7 a8 a9 w_),Vc aI (ana dF Pv h0 oW i σ H hi p ψ fR σ H p χ (fun i σ H ω H' hi p y=>?_) hd) τ,bID y cAM ψ j cAM χ j aBC Sl ω aX j τ aGz hs,aI (ψ cBa χ bG w hw (aku rx fx r fs w lX hw) dHQ),(fun a0 a1 a2 a3 a4 a5 a6 a7 a8 a9 w_ a11=>ψ),(by cases y with|fu=>rw[cAM ψ]|χ j=>rw[ω];rw[τ]|str j=>rw[aBC,Sl ρ aX]|_=>rw[aGz hs]),(fun a0 a1 a2 a3 a4 a5 a6 a7 a8 a9 w_ a11 a12=>ψ),by rw[aBR aMn ψ,aI YQ wpAny_tryCatch χ],by rw[aW3,ZD ψ hod hdd],by rw[aV bFg,gZ YQ wpAny_attempt cCy OU ψ χ ω τ],(by rw[by(obtain⟨ψ,χ,ω,_,rfl,rfl⟩:=τ),_]),by rw[aJ hri (he2 ψ eJ w),bYV hri],by rw[aXm ek (Ks-i) ψ χ hR,cV gy hR],by rw[aI (eu dHx (a2l ?_ (yn ?_))),dU aGM],by rw[iX _ _ h,cS o ψ b aNv,sE χ],bA aH z,h1.symm.trans e,placesOf d,fF wU ah,(List.cons.inj ψ).1,(List.of_mem_zip ψ).1,aA2 _root_.EE.ax ψ,UL ψ χ ω [by rw[τ],by rw[ρ],by rw[ξ],by rw[ζ],by rw[η],by rw[θ],by rw[ι],by rw[μ],by rw[ν],by rw[π]],rG wpAny_truthy_bool,rG joinParts_cons,vD fT Ko,qP ws.length,qP b.senses.length,qP lns.length,Nat.lt_of_le_of_lt (ψ χ ω) τ,mT bV dIx,qR firstArgMember,pZ (Obj.cls_mapFields ..) ψ,YQ wpAny_pure ψ,yY K.lookup ψ,YR ((List.range ψ).map) χ ω τ,wpAny_loadPart' hl,numberIn ψ _,s03.free hy,aMJ (ye e),aMJ yZ Si33.oneWord,aMJ (Si33.tooMuch E),Eb oneWord,gH ks k,Ss z1 s,aMN H' dHf,decide_eq_true aX,aGW u.isSuffixOf,aBn Sb Nat.lt_of_le_of_lt ψ aB (χ ω τ),Fu pQ z,
rawInt 1,s.setGen g ψ,dO av1 ht,y.1∉N,aHD wpAny_pure,GO ψ χ MK ω τ [by rw[ρ],by rw[ξ],by rw[ζ],by rw[η],by rw[θ],by rw[ι]],base.Ns Ih mg,.aLT o bZC CK,MG u aB0,bK ψ jN bi.of,H4 r=aS,Iv (Nat.lt_trichotomy ψ χ) z z,I.hok.kept kp,dE aZ aWc gB z,tK m tl,K.next mI,QD aNN ls.flatten,VJ p hk,aM2 jT vX,aM2 jT vF,bHM bJb bFH,(Sum.inl a:Key)=ψ b,(Sum.inr a:Key)=ψ b,Du r pl I.list hq,Du r pl I.tuple hq,ok ns iI,sI.free nq,cD4 PySem.F.entry_min_loop,gG bFW hi,UQ p.2 q.2.2,GT h4 h5,aGh lO zO mG,VO Tv fs,bG c hc (h10 c fW hc),cFm cN aCP it bB e ψ χ,r.append r2,a4≤a5,dZ (J ψ) χ (agi ψ v k),cN kW SZ bY q ψ χ,gG dFA hT,acz ks g,rT R' nH,QD Ta bHX cEw,Ss z2 t,dID Classical.epsilon_spec,aJ e (of_decide_eq_true h),bI0 (GV<cZ bV ψ),aCA Q h (wpAny_Dict_empty ψ),dIU jG b o n e,M.2 j v hj,ys=[]→vD tM,UY t Lh cEL GF,h4.mono YM c xs ψ,bT m tK m l,its++YE,js[kx].x,MB n ns,MB c ps,kX cCJ aB (ψ aXF),nM kvs.map (kV x.1),vs=[iW,t],vs=[aM6,fT k],gT bB z ψ mu,.ox o' u',tK xs ys,Si33.answers d ψ t χ,mR m hm,mT dG8 cBB,newExc zW bYs [],storeName pR x ψ,ay z9 npp,MQ Tv [],.seq pU n2,PySem.W.specialIn K ψ "__get__"=aO χ,h.DictOfH ψ a xs,aUQ j.ss.map bZD,s.heap.IsRevIter it l ψ,ψ bIs (g.take i),La o (GF,s),aMM tN q,cAi ((ψ).map) n,List.getElem?_set_ne (Ne.symm e),cAj (Si33.firstWrong l [] l=aS),cAj dII ln,JO se yQ t,Way.ah1 nd q,List.findIdx_lt_length_of_exists bR s ψ χ,aBf P lu jv,aBf P rg ou,aBf P jg iq,aM2 BK cI e,aM2 JG aWq dIT,ML z bK aF ψ z aOU,GV<Ul FC,Ur (absurd q ψ),J' o' n,dIz&&lT cD7,bi K H q cEK,DB y iM cBi oV,aGP ψ (by rw[χ]) ψ [by rw[ω],by rw[τ],bS],xJ aOv (.SO q) ψ (.ok χ) ω,aFV gR dIS L,[(aU3 XI,xW)],mT gD ls.flatMap GE,mT gD Si33.said es,M.2 i v q,aOJ a ls,aWD Si33.said es,cBc aKL "> "++x,aOY (ik p0) hc',pX h' st' sb,dGF Heap.get?_push_size rfl,GC _ rfl _ rfl x L ψ χ rfl ω τ ρ ?_,IE t rfl (Option.map_eq_some_iff.mp hl),bJJ Obj.data_mapFields ψ mF aTR,PJ X es tr,NL Hb j.hp pA,Lf l s.links.map c,¬(! ψ&&Builtin.List.listTooLong (χ+ω))=aY,Dw (ad4 e t),Dw (ad5 e l),Dw (vi ts t),aM2 cI n BM,aM2 cI z1 cI z2,
bKU (List.eq_nil_or_concat l) m ψ,vs=[yT,vX,fT m],cC8 dHX s,cBC a5 a6 a9 w_,cBC a5 a6 v9 v10,eqJ xs ys,kq CP H0,PySem.W.Looks aCz kO ψ χ,ψ (s:=GM cFt) aqi.typeIs ?_,aja d x.2 e,CY ir jY Lp,ay6 BK cI e BM ψ,aV7 h Q I hw,cET Fh ψ H2 I3 q2,avz p q bG p q ψ,y.1∈own.map wL,BT H1 p1 ψ p1 ψ,VO aWH hV nV,jB bS cE eC ψ eC χ tU (by rfl),aNq aCZ aXG ((cBB).1) aV4 cEv cBB,qG ps RC l fK ψ,kQ c xs aIc MJ ψ,dI8 bYs ψ isSubtype_stop,ψ χ bH s σ H aFT vs xJ vs ω τ _ oJ I ρ,dKi dDw PySem.F.type_dict_get,bI9=aS→cBr Sa P dHm,wpAny_newObj_type ?_ cCK,zM dHE dHE ψ BG o e hx ?_ χ ω τ,cZ aLg+aHJ,[xM,qJ,IB],[Cc,aES,jZ],[sO,cBS,wZ],iR (A.in1.handled=aS) hh,kJ k' iT dJx,IP t1 t2 (a_b I1 d),PySem.W.callWith_K (h₀:=X.base) ψ χ ω he hpl,(by induction ψ generalizing χ with|nil=>rw[ω]|jR τ ρ ih=>rw[ξ]),ald ψ (p:=χ) (p':=ω) (k:=kn) τ ρ ξ ndk knk,gEv (js.map UC),dZ ψ Rq H3 (xz H' fd χ),ψ xs (s.seq hl),wa Rk (PW.pt ψ) χ,baw H q ls,kQ o o' cE1 ψ,gX cAd wpAny_throw ?_,EN ((List.range' 1 gF).find?) ψ χ ω,YR ψ i cB3 aHt,a2k a1 _ _ a2,aF4 s3.heap.push "slice" (#[vl,vu,uH]),vs=[iW,h,n],Dw (di es y),PM H' dHf aO7 aCQ cCh lns.map,R i r H4,Lx ψ kW h aH az decide_eq_true χ,(∀H' p,YJ eW cDw aVJ E ln iW),bHC dKn ψ [u] Th [(x,u)],beq_eq_false_iff_ne.mpr (Ne.symm (Nat.ne_of_lt ψ)),aBO ((EN ψ y y.1 x.1).map) (x.1,x.2,y.2),aNq dJw dJK aMZ cFq DB y bLt cs,aVU I.sub p hp,aCM aVV iR (p∈ψ) hp,PyInside.each [(0,ψ)] [x0],vs=[BM,cI ln,fT p],hm b _ q lV z,aNh aGy (qh uG ux.trans hy) ψ (ux.free hy),UY s Lh QD UT dw s,bcc CE CS CP H v y,aT t dIb (linksAt d ψ t) (linksAt g χ t),aFS aGn aWB aF3 dJd aUB H' aX3,aNq Sa P dJe aV4 UX H' y Si33.rhymesOf aX8,kq CP Hb z ln,uB cEE hne.mp hend ψ e,j7 ψ pX f s1 q,Sw bJc cCm xZ Ri,bKc hb u y r2 ψ,Md ((ψ).at) e (hk χ aX o e),dIY aV7 h ψ (I.ata _) hw χ,aBu aae (.sen t)→cAK aOq aii C a t,ψ Qb EC ID LM,LQ aE8 aLa dFN Zx,by match ψ,χ with|aS,χ=>rw[ω]|aO aWG hd,τ=>rw[ρ]|cEN,ξ=>rw[ζ]|dIZ,η=>rw[θ],kQ h n aBu aad aWG h cAK aOq aih C h n,nN ψ Kx Uw 4 (aT χ (Si33.sorted χ lQ),aUO fM ω),eqJ xs ys j=ψ,aUG x (qv C H' x cA1 m n ps) yT,
qW j' k' hj' hk',wpAny_pure (hQ _ ψ aOA),UX H B l.map wL,kI i m σ H AG m (ψ-i) χ aNa,JX gY aBX ψ vY ψ Ea ψ.2.2 ψ.2.2.2.2.2,xT H' q aMP aGJ aF3 aU5 (ak8 t tM) aGc q,As aBu mz x (∀H' p hp,jW eW JV cDZ YJ oA p dJM bKI x.1 iW),aNV Hb H iE aWw aBl,aI (wpAny_Call_Name_kw (auj I hg hm ?_ hdb)),Dz H' y kvs eW Td aMZ Ta GN iJ q (q<iH) (bIP=aO aWq (Si33.follow d q=aNF)),vV [cDX,bKB,fT cBb,fT cA9],ED i h st b hb,vs=[cI o,av,cI lA,cI rA],cBr aMP aUy ci H' p aKI [],aip H av ((Lh).map dHd),dHN ψ (b,o) (List.mem_append_right _ (am9 hb e)),dH3 (fs=ay6 a b c d),(∀k p:Nat,dI0=aO (k,p)→aUG f oA f aM8 k p xW),uB dI7 aB5 List.cons.inj dJv cEh h,(∀(f n:Nat)(kA:ψ)(gF:χ),ω),nP hq h2 h3 h4 h5,cEU ys hy hq hx,dKg a ex d q1,iR Uz _ h' _ gW ψ aT χ uJ ω c' τ ρ,(by rcases dIG with z|⟨_,z|z⟩|z),E.modify b.2 (ku c b.1),vs=[iW,k,h,n,m],iC n kA gF K hf,kK ψ cBu aU7 χ cBh bIc ω aVc NJ aB τ jL dU MK,sR ψ dGu hz aH hz aWr w0,mono i y H H' s ψ,(∀H' a js,aCU→YJ DB a aVw cFl (awa d g) jT),aGd x CH dx ψ pV qE aXH,QE (by rintro m σ H' _⟨_,ψ,h,_⟩) cB h.same χ,bHK ψ χ (EP X v_ σ ω) Uj s1,aNx dJk x r oT sE x XV aE5 rk ih,cBr aMP aU5 (be' k h n m),ZA bH0 ML s₁ aHG cDp bG u s₂ ψ s₁,bIq x L d rfl hH ψ k,yA HA nP I1 rfl Us _ x rfl Mm rfl ψ χ Wb,(by rcases h2 with h2|⟨h2,ψ,h3,h4,h5⟩),(by cases fl with|ret u=>rw[ψ]|aEV=>rw[χ]|brk=>rw[ω]|Zp=>rw[ω]),dB (by rintro ψ χ ω τ sx⟨ρ,ξ,h1,h2,h3,h4⟩) Us ρ ξ h1 h2 h3 GT h3 h4,UY r bI9 aNq Sa P dHm aV4 Ta vV [aBm r.1,fT r.1.2,aBm r.2,fT r.2.2],(∀H' v,YJ eW (aip H' v ((Lh).map dHd)) v),aGR (by intro Pr w K mg aW a F B T5 TH ψ χ ω τ) ρ ξ,Fw lZ ψ aF aXr of_decide_eq_true h3 k' aB k' ψ aF eC Ag h3 k' aB k',(∀H' y wy p,VH eW Td aNN wy bKM bZp aMZ AH wy dJX),Ce i Nat en dI k Nat t dI cA Vg bKH zQ GL G0 t s Dg cEQ,vT a t rfl ha hz k h,BD ψ bH s σ H Q I h,(bIp≠0→aNP f aNV Hb H' xW aWw aBl oA f bKQ)∧(VE cA aBu readLine x cFs aFS aNV Hb H' iE aCf cCr NA cCr UF iE),bR pK hc [] gY ah eF LN aX,dKp bJw cEI hl aHB ψ x vT T z rfl hT rfl q y,Qx hs hgd hx ψ χ hdt hsz ent (ω hd),(bA (by induction ψ with|aE1=>rw[χ]|@zS x ω τ e _ ih=>rw[ρ])),
gZ (call_meets ψ GI e χ qR ω τ ρ) yA iE EK (I.bm2 (its':=ξ) hH e aX ζ ?_) q,UY y aUh SN dy aA tV V r aA (oM y aV6 tV BM∧vD BM),BD X o i td ty hu hi ho,by rw[aOV a ks ys g rfl ha hLd ndk hkl hsum,HF ψ],FI ψ _ KE Q χ ω τ aLZ ρ s2 ξ H2 I2 ζ a η ex g q2 _ bB ex Vh θ,(by obtain⟨dx,fd,pd,kvs,kvp,hx,hf,hp,hF,hP,hn⟩:=ψ),(by obtain(⟨hs,hgd,hx,ψ,χ,vs,hdt,hsz,kv,hm⟩):=ω hd),aHN sG sG EU r Tb rs a v Tb ws b f Tb fs c,by rw[aF ey hx,cF hx],(∀{X:Cx}{o:bZ}{i:bZ}{td:TE}{ty:TE}(hu:ψ)(hi:aYd)(ho:Ni),PC X χ i o ω),aCc f [by rw[ψ],by rw[χ]] f [pE f ih,by rw[ω],nQ g eg h1 h2 (ah0 K (n:=n) hf),So (f=g) dO bg5 eg,vL τ [],by rw[ρ]],NO ψ [by rw[χ],by rw[ω],by rw[τ],by rw[ρ],by rw[ξ],by rw[ζ],by rw[η],by rw[θ]] ι μ ν π aB υ,by rw[cV ψ h,pG h],by rw[bX hx,bX hy'],by rw[cF rr,cF r],aFy ψ [by rw[χ],by rw[ω],by rw[τ],by rw[ρ],by rw[ξ],by rw[ζ],by rw[η],by rw[θ],by rw[ι],by rw[μ],by rw[ν]],by rw[gZ aIj aOg CE ψ χ (ω ?_) cFD aNM,jS cK hl Ub (τ=cZ ρ) aar],by rw[aH Ub (ah_ f v ((k,x)::r)=(jI k f (bIh::r) ((k,x)::cBT r))),bQ hk (k=f)],by rw[oQ lk (TZ=n) vJ hk.length hn ψ χ PL ω τ PL,cS ui hui rui (rv.get ki)],by rw[aPF x a L d t rfl hH ha hn k,cFN ψ],by rw[bLk ψ,aJ χ oB gW ω hp1,bLA τ ρ p1 gW ω,vU ξ ζ χ τ,dP η p2 hp2],by rw[aBR aMn cDO ψ,ZD wpAny_seqItems χ rfl,dKv (tryCatch (pyNext cI It) _) ω],by rw[vQ eC pP k lP,uM ψ,iC H2 y s2 ny hK,bF8 dy rr vv ff q1 q2 q3 q4 hK.ex,RJ ux s1.trans s2],beq_iff_eq.mpr ψ,beq_iff_eq.mp ψ,List.getElem?_append_left ψ,Around.frames_deeper ψ,PySem.mem_of_lookup ψ,List.replicate ψ χ,aT u.slots ψ,fS2.2.1,fI2.2.1,⟨{}⟩,ψ<recursionLimit,by conv=>lhs;rw[←cDN ψ],ar1 (d:=d),(cEi).Ok,I2.aqd (H':=H3) ψ χ,by rintro(⟨ψ,χ,e⟩),(ks.map ψ).sum,List.getElem?_eq_getElem (l:=bs) ψ,(hm.1).typeIs,(Vz).toArray.size,by rintro⟨_,z⟩,(by obtain⟨_,_,_,_,_,h,_⟩:=ψ),aB (Paired.length ψ),(List.getElem?_inj ψ χ).mp (ω τ),ψ (Heap.lt_size χ),IU [by rw[ψ],by rw[χ],by rw[ω],by rw[τ],by rw[ρ],by rw[ξ],by rw[ζ],by rw[η]] θ,s1.toks+1,(0+1)+1,A.frames=aO ψ,List.length_filter_le ψ (χ ω),aJ ψ (List.length_pos_iff.mpr χ),
Nat.succ_ne_self _,BF ψ [by rw[χ],by rw[ω],by rw[τ],by rw[ρ],by rw[ξ],by rw[ζ],by rw[η],by rw[θ],by rw[ι],by rw[μ]] ν,fs.lookup ψ=aS,ys2.map qI,dO Ne.symm ψ,decide_eq_false e,decide_eq_true e,PySem.mem_of_lookup e,t.take i,mergeAt' i,g.take i,(afj pp []).contains i,decide_eq_false h,Paired.length h,decide_eq_true h,List.getElem?_range h,ly.of h,(aQj).In h,(aq ψ).trans h,UI PySem.Fin,l.modify i ψ,j.ss.modify i ψ,events d,o.getD d,Si33.leads d,zX ψ χ ω τ ρ [by rw[ξ],by rw[ζ],by rw[η],by rw[θ],by rw[ι],by rw[μ],by rw[ν],by rw[π]],(List.findIdx?_eq_some_iff_getElem.mp ψ).1,MD aAX V,Jv UInt8,Jv GenState,a0<(1+a1),Ru ψ χ ω [by rw[τ],by rw[ρ],by rw[ξ],by rw[ζ],by rw[η]],rG Calls.spliced_cons,rG wpAny_ret_mkInt,PySem.W.handedIn ψ=aY,aUB H' d,decide_eq_true (ψ χ ω),ψ (Nat.lt_of_lt_of_le χ ω),ck T.bxr,ck T.DOT,h.get? b,K.lookup b,uG s3.trans ψ,[OG,Zj,"dict_itemiterator","dict_reverseitemiterator","odict_iterator","itertools.zip_longest","itertools.pairwise"].contains ψ=bI,arrOf t,vY fI2.2,YO cZ a,a0+(1+a1),g.take j,d.zipIdx k,c.real k,c.sur k,BH ψ χ ω τ [by rw[ρ],by rw[ξ],by rw[ζ],by rw[η],by rw[θ],by rw[ι]],List.range n,.ok .aEV,qR Nat.le_total,qR List.mergeSort_perm,qR List.take_sublist,qR StateT.run_lift,uI sb.2,o.dict=aS,X.A.handled=aS,YQ wpAny_holding ψ,PySi33.answers l,Si33.ints l,ψ χ (List.dropLast_subset _ ω),xX ψ (by rwa[χ]at aP),yY s.heap.get? ψ,pN Nat.ne_of_lt,pN Nat.le_of_not_lt,pN Int.ofNat_inj.mp,pN Nat.lt_of_succ_lt,pN Int.lt_of_toNat_lt,pO ψ χ (List.map_congr_left<|ω),wrongSee d i ψ,e.senses.map vS,starEach ψ pR,assignEach ψ pR,k<bV aIB,l.drop eG,ks.take eG,YX EqAt.same,JJ I.base.ams ψ,Binds.all hb,vI codeAny_mono ψ,MR I.ok.bhs,fM BA::a,Dt ((ψ).filter) χ,aME ((aIi).mp e),bry t i,l.flatMap g,setMinGallop' g,PySem.mem_of_lookup hy,aI YQ wpAny_attempt ψ,List.filter_cons_of_pos rfl,aUN ψ χ ω [by rw[τ],by rw[ρ],by rw[ξ],by rw[ζ]],X.map f,(l.take i).flatMap f,xs++[y],rs++[y],JU ψ [by rw[χ],by rw[ω],by rw[τ],by rw[ρ],by rw[ξ],by rw[ζ],by rw[η]] θ ι μ ν,z.mono s1,hz2.mono s1,
hH.mono s1,hI.hou.mono s1,aMK I2.hok.fresh,JX gB hb,isCodeTable h ψ,wO z bMz aLa,aGh ψ (by rfl),of_decide_eq_true h2,Sv X.H_0,BW We KN,.ox o Ln,Ea bk.2,Ea fS2.2,NI mF XQ,HG (.ins),Lj hJ.same,VP (.dK kv2),.ok aBj u,aBx ψ χ ω ψ [by rw[τ],by rw[ρ],by rw[ξ],by rw[ζ],by rw[η],by rw[θ]],Lo ((aDj).map) ψ,Ta aVe s,b4l c β,Kt H s',Se x ("__classdict__":Str),f8 MI gK,ns'.map SR,aA×Obj,aGA ψ [by rw[χ],by rw[ω],by rw[τ],by rw[ρ],by rw[ξ],by rw[ζ],by rw[η],by rw[θ],by rw[ι],by rw[μ]] χ ν π,aGB (.dK aNR),AP.s.ty hx,ψ (Option.some.inj (χ ω)),List.take_of_length_le aX,decide_eq_decide.mpr aX,p x→G,Bw=aBw its,NW ((l.take i).flatMap) ψ χ,I.a91 b z,scope.names.lookup y,tabObj vs,x0.toNat==1,bHN ss.map,i+bV bNn,RV (! c),aVh bk.2,aVh fS2.2,(ψ).modify i _,pJ o to,aBW sH.trans,aBX bk.2,aBX fS2.2,Fe K.there,aNg (Builtin.Dict.showsAll d),aGi wy2 p,GH Key bU,GH bU bU,vV (ks.map kV),List.mem_filter.mpr aT ψ χ,kJ x ψ (x∈v_),LZ aVT u,Si33.variantsOf mO t,Si33.formsOf mO t,aNx ψ χ ψ [by rw[ω],by rw[τ],by rw[ρ],by rw[ξ]],aND le_of_eq_of_le,Gd ψ χ ω List.getElem?_eq_getElem ψ,l.Perm m,lY<fM 9223372036854775808,aHo hJ2.same,aVB scope.names.lookup,Vj ψ χ [by rw[ω],by rw[τ],by rw[ρ],by rw[ξ],by rw[ζ],by rw[η],by rw[θ],by rw[ι],by rw[μ]] ν,newList [],(ψ).headD [],((aS,aO x.2)),aF hF.has h1,p∈acc,R nH=aS,gJ aGw dMZ,Nr wpAny_notOrdered_dict ψ,tJ u.there e ψ,aCH hJ.same,dGl ((bL4 ψ).map),cAR vs.any,Wi Ur cCF q,t.drop 2,((n,k₀)),aF hP.has h2,aHK hJ2.same,rows x y,mQ 0 cFT,aHQ (x,aYy),aa6 s bNl,GS l cG5,aG9 jY aWj,Xg MR s,List.getElem?_range hk,kvs.map xP,aC8 hJ4.same,es++[e],vA a4 a2,si L es,mT gD Si33.ints ψ,vH dOd q,follow d i=ψ,aMM cFC X,Em (.OF dDg) ψ,aBf P q pos,Ak 0 fs,Ak 0 (fs.take n),aWK ψ χ [by rw[ω],by rw[τ],by rw[ρ]],ar9 TK.m,iH-wy2.length,bA BH ψ χ ω τ [by rw[ρ],by rw[ξ],by rw[ζ],by rw[η],by rw[θ]],dO om9 q,bI0 aOi k,Jz aV3 VN,ZD seqEpoch_at ψ rfl,aBi ψ ck T.acu,aVA kk ps',dGJ env.cells.lookup,z.keeps kp,List.countP ψ m,! had.contains i&&ψ,wy++[p0],aXA eO (#[]),xX r.dp mG,xX cGu v mG,yY K.lookup o,
N++aWh r0,Tw h fD,aNX (¬B MJ),Og ss.findIdx t,cBV n aVf,hL.mono ux,List.length_eq_zero_iff.mp dO ψ χ,fs.drop mI,bKg I.ok.bs,[cI p0],[cI p2],bA RG ψ χ [by rw[ω],by rw[τ]],bK dIj wT,cB S3 hrd,(K _).mpr bT n ψ,oM q aVI,gH σ aHc,dO av2 hu,gD l.filter f,gD yq rs,dE Lz aB gJ bLW,LZ i FY,aYH Cf (f x),vW r aWa,vC hM e1,mR a ha,aYM ndx.1,GL Au t,ψ++se.links.flatMap GE,bHu aoy σ,bHu aur σ,bHu aus σ,Tw c DE z,aB9 u PV q,aB9 u bK bQ z aYV ψ,bKT lexLt,bKT keyLt,bKY YO 1,follow d i=aNF,bJa bJg z7,cDe uF H3,bJQ r1 [by rw[ψ],by rw[χ],by rw[ω],by rw[τ]],tQ ψ WH.awt fE fE,fL 0 (ls.take r),aZE iL C,bLD Sw bJf,bLJ aV2 keyLt_trans,AP.s.ty a1,AP.p.ty a1,adj.map Zl,ys.map Zl,Nat.ne_of_lt hlt,wordIn row,s03.trans s4,γ→Ob,c.I→TY,Str×bU,Str×aA,(uI f2).2,(uI hfp).2,dCo≤40,y.2≠AC,y.2≠BO,nH∈iT,aKW aW0 bNb,w'++[l],oM P Sj t,dO Nat.le.intro cCq,pJ v tv,gG cK oU Ff ψ,nM ((aIl).zipIdx.filter) aKW x.1,mR c hcm,h10 c aX,cEg I.hok.fresh,UQ p.2 q.2,AD ps aS,US bXD aLM,UT iw l,Kk dH2 tk,Kk cJB tk,GT h4 h6,aGh aH zO mG,dHO ds.take,ZL c cHn,h.CodeRec DG q,ZV QQ aHC,aBN a aPv,Fq ((rW ψ).map) _,Fq ((ψ[ix]?).map) _,xU dBy 3 JI ψ,o4 (rows.take eG),aOR kO x,dHT rest.drop,aT [ψ,a] bKY v,vQ List.pairwise_cons h1 h2,bM4 Good,mw H2 a y VT,fz 12 (rest.drop 2),cFa z.put,cFa hw4.put,aWN CX P sW gM cd,dH3 (l=aZI),aHZ ψ χ x L d [by rw[ω],by rw[τ],by rw[ρ],by rw[ξ],by rw[ζ],by rw[η],by rw[θ]],flat dn,PySem.W.tabObj #[],PlainAttrs T,hrt.mono spw,Int→V,Int→MD Int,(Mp J1.pin ψ χ).1,(Mp J2.pin ψ χ).1,c==aYq OG,(1+a0)≤bEk,op≠ .In,op≠ .bFa,LR ns (.ψ aIP 0),bK pQ q AQ,mergeLo' ψ (Y.map χ),mergeHi' ψ (Y.map χ),E++[(h,v)],evE d cCk,ajm d cCk,wrongLink d ψ x.1,gH own e,zY qO aCE,zY bIE aCE,hb b aX,(xg.mp hx).1,(xg.mp hy).1,variantsOf L w,ME ψ AW e (e.mono s),gG ab8 hi,gG ab8 av3,mQ 12 dFG,ve aN4=bI,MG xs ?_,IZ ys its,s.heap.IsCell c v,Rz VU c2,numOf hs k,numOf cIA k,CY ψ aGU 0 aWj fU,(aWW).foldl vk [],ψ++PyFlat.putRows iI,xX (h x) aZ,yY H2 GN,split 44 x,split 47 x,PZ h4 s0,uO xL cI e,uO XH p,PT X e t,AK wJ z4,AL c9 l09,aBq ER aDe,
VP Kl kA,dIE lT cHq,aGO fo n,aGO fo j,cAv aux σ,cAv auy σ,bhy K R x H1,bq0 K R x H1,cGF aCQ l1,aNz hk' aMR,Gw Xh Od 2 ψ,Gy 1 gK,aNZ s3 dNY,aNZ s3 dHv s3.heap.push,cAU au0 σ,cAU au1 σ,rQ aTS∧n=aTS,rQ bFi∧n=bFi,V.ref (f p),checkBuiltinCall ψ χ=Th (),aHN aCX (xs++zs),aOl kv2 p0,Du r' pl I.list hq,Du r' pl I.tuple hq,cG4 MQ aYW,Tn bi p xs,Tn bi p ys,bJq y aYc,aXi s.heap.IsKeyIter i,aXi s.heap.IsValIter i,aXE ty F.slot_tuple_hash.lookup,aXE ty F.slot_tuple_eq.lookup,aX5 (f en=aY) i,bKd aB eF [by rw[ψ],by rw[χ],by rw[ω],by rw[τ],by rw[ρ]],(hH.mono sA).mono ψ,(hP0.mono sA).mono ψ,aou a0 σ,aov a0 σ,cCO hr nL,cCO he nL,cCX ZJ bKr aYY,cCX ZJ dPh,aVO x x dc cd,aVO x x dc DG,cDd Lb bJn,bLc CX k,bLc CX0 k,oq.from ux s6,oq.from s05 s6,aQm NG aNr BG ob hb e bHP uI sb.2,bNC aIA UQ ψ w',cHN Si33.rows,(ψ).Pairwise bG a b χ,oE bNB HG PySem.F.args_dict_get_3 ψ χ l,aGq fJ x y,aGq T x y,aIs y c cGM Kv ψ,aix ψ ps l rX,cIB (y.put hl),dJD aMB Pw p2,dJH wpAny_dictEntries,dJH wpAny_dictEpoch,dJJ ((aXV).isPrefixOf),dJJ ((aXV).isSuffixOf),dJO xs.getD,dJO rs.getD,cJI _root_.EE.a4s ψ,ps.zip us,A.deeper aX7,liftM (bNs ψ χ ω).attempt,seqIndex_of h0 ψ,List.pairwise_mergeSort ψ χ _,(JQ 1)∧(iD 4),QQ∧xB,ψ[k]?=χ bT j Vy (f k),aB aXf o (k _ o ψ ho) r,rT ψ BO∨rT ψ AC,mV (bs.map xP),([]:dM)++[],aK4 a tK a k,mW Jk storedH,iU (Fin uU),Value.ref a=ψ,bL ψ dU qK fO,lR V bU,lR α α,kvs++[bIh],dO bp_ h2,dO bx7 hr,oA a aPv,eY j (i=jP) ψ,gD e.sees.flatMap GE,sg bl ?_,fF xY aIh h,aAZ e ψ [by rw[χ],by rw[ω],by rw[τ],by rw[ρ],by rw[ξ]] ζ η,dKJ aT I h,h1 x aX,fP ψ (by rfl) χ (by rfl),uG hI6.mono hy2,mR y hy,kG dD q z fO,wA VR b ψ aY7 jV z χ,ixN dF i,sensesAt own i,qU m m',l.set k a',fM p::xs,zB bE1 hx,AD aQf (n+m),row.take (cx row),PZ hLd s2,KeysIn n kvs,aF7 (j,CO),ZA ψ wO s' cDD UF σ',IsTup ψ a uS,GT nb eo,Kt H1 s1,aBq aCl jP,HB List.removeAll h,gh l QI,Array (Fin uU),wx g js,iV bN (of_decide_eq_true ψ) χ aP,RG ψ x [by rw[χ],by rw[ω],by rw[τ],by rw[ρ]],Tp bG p t ψ ts,lW k s1 gG e0 ψ,aGU 1 gK,Fk gK KN,aNo pt I.tuple,(∃a b,l=Gz),
bHW i bMp,seesAt g b.2,dLd (.bFU),fw iH ps,MF c cenv.cells.lookup y c,Tn bi a xs,bJk bF5 1,aI8 out Jy te v ψ,s.heap.Ns IO m,((my k,yW y)),aJ s35 (s4.trans s5),V.ref ((js.map UC).getD ψ 0),aXA bKf aCs e,bJS DG x,aP8 fU oG,aQn q dOT,vz he z,a6q kO bYo,gx mO lQ,bG m hm cDU ψ GI hm,bQ h0 bMM [y],Si33.seesTo d x=aO i,dLx Sum.inl,dLy Sum.inr,Xf aIF aZA pY P,k b u (hb b n) q,aeg hes hd,del H [D] ψ=aO o,aJ hx (aui hx),sensesAt g ψ=[],bMC bMN SM,aHZ ψ χ a t ω [by rw[τ],by rw[ρ],by rw[ξ],by rw[ζ],by rw[η],by rw[θ]],bM0 uX dM5,YC YE rv2 p2 aH2 hqy,cFG (Qd H) aZu,(1+a0)+a1,VC bWn lK Mb f7,(aZd-a0)=No,fR c xs q bLv,cHK aCX dL9,d_ t i=nJ,cH8 ψ yJ aT9 w cIK rfl χ,cIp H1 o,cIC jY fU,cIF kO mA,cIG EI cIW,bmk w f p es,cI3 sW fd,HeapKind eJ w ψ,zQ cC6 b fp ψ,XV aog aod bET,aO qR (.ent),hk' S _ lX hSI ψ,mtl x n e,(kn,bn)::jM,aMA eJ w ψ bG o s₁ χ,JO y y.1 e.1,dMq (fM xQ-1),ati H2 b k,VC bWg qJ dIk gm,VC bWj xL Mb mo,dMr restOf,wS bWv 2 VY Mb ow,wS bWA 2 cD6 dKd t.isSuffixOf,EM bWB IW Zk dKd t.isPrefixOf,aNA ch QQ aHC,(ψ).map vS=ss.map vS,aJ s2 oB zY vX JG hU,sJ (anc H) ks iT,bMO aNl awn r q,iC mm b k hb hk,dNx VP MJ,cJA Sd he v x ψ,dOa ([]:dM),dOe cEj ux.trans,cDY cFi PyProof.Rows.boot_list iB iB,dOO I7.pin,dPa aHG cE8 Q s₂,dPq bJV bNO hl,ns0 hns,Codec.denoteAll aKZ,PySi33.answers a.1,e.senses.map dMy,g.zip Nc,ns'.Perm ns,ns'.Pairwise (·≤·),Decidable φ,List.finRange uU,hL.mono s03,tuples' bI,Shared.heap cDI,AP.p.ty hx1,sn.links.filterMap cIL,asf hw2,Si33.faults lQ,b6o.snoc hq',hkv.mono sm,sf.seq hq3,ψ wC bKg e0.bs,xO→xO,BP α→DM,seqIndex_neg iP ψ,aT bI3 bI3,(MR I.ok.bs).2,(∃x,p x),bEn=l.foldl vk [],hk▸XN,⟨(yA f ψ)⟩,sN cC3∨oK=400,l0∉bs,xps++zs,aI xY aPV oP hv,[a.1,a.2],[b.1,b.2],[op,op'],iR mZ a.1,iR bM6 ht2,cE (ψ q) (χ (Int.ofNat_le.mpr q)) ω,aJ h10 (bj6 (t.drop i)),eZ aYr cJa,by rintro(⟨l,u⟩),k∈ψ↔k∈aWW,(cHB∧ψ)↔(nW∧χ),cFW≥Fx,mW Rj Si33.TEXT,mW Si33.textsAt Si33.sensesAt,a.senses.isEmpty&&b.senses.isEmpty,xi (sep:=47) (t:=a),xi (sep:=44) (t:=b),(by obtain(⟨_,_,_,_,e⟩):=x),(by obtain(⟨_,_,_,e,_⟩):=x),
(by obtain(⟨_,⟨_,e⟩,_⟩):=x),(by rcases ψ with ψ|⟨k,χ,e,ω⟩),(fun _ _ _ _ n=>n),(fun z _ hz=>ψ),by rintro(r)(ψ)(⟨hr,χ⟩),I.laid (a:=s.heap.objs.size) (o:=ψ) (h':=χ) (t':=s.toks) ω lB τ,subscriptTail_builtinR (x:=w) ψ χ ω hs,Jh ([]:eQ),(by obtain(⟨o,_,_,_,e,ψ,_⟩):=χ),Re (List.replicate k ψ),aey (cells:=X.env.cells) (acc:=[]) ψ,(by obtain(⟨_,hd,ψ,_,dd⟩):=χ),(by cases ψ with|int χ ω=>rw[τ]|_=>rw[ρ]),ψ hL.ok (c:=c) (t:=cCc) χ,apd (y:=x0) aX,by rintro σ ψ⟨⟨χ,rfl⟩,ω,τ⟩,(by obtain⟨ψ,_,ps,χ,_⟩:=bu ω τ),List.take_of_length_le (l:=en.senses.zipIdx) aX,List.take_of_length_le (l:=ψ) zK χ,aB (Or.inr (ψ rfl)),aB ((cAW).getD rd),rs.filterMap id=ψ,cI (f p),bK aAf ψ q_ pieces dO8,V.int.inj (of_decide_eq_true ψ),bsi (s46.free ψ),Si33Neutral.nats (ψ LT bL0),ψ (Classical.epsilon_spec dLU),cB ht z.2.1,cB (s57.trans s8) ψ,uZ aA0 cW,Nat.le_trans ψ (Nat.le_of_lt χ),ok.uniq _ h1,aJ h2 (Way.step ψ),aJ ψ (s13.trans s14),lR Int Int,lR KD KD,PyData.eqv ψ χ=tK s t,H2 D=aS,(cEu).findIdx? wL=aS,dB cV ψ h cHJ aYc,dB CI fw ψ bpz,dB (by conv=>rhs;rw[←ψ,χ,fA]) bp7,Cz++[Da],dn++[bHL],leads d l,PyData.eqv d e,oM dx EY a,aH (storedH_new hat),dictSetDefault d jT ψ,lV (ψ h dKH z),lV (I.ok.bht ψ z χ),lV (lt z y),dO bha hb,rP bFD cFd,ag H6 H7,iD aF6 a1,fN aV tgV ψ χ ω (by rfl),gD l.filter p,iM Ai Cn,iM aHf dL3,wpAny_pyIter_enum he ?_,RelV i iv,List.take_append_drop i l,iF cGt aKW (aS:uZ Obj),MB B bs,pJ k tk,pJ f tx,uE hj XU ew,dL oU b.2 oU b.1,rE x o',rE T ob,rE pd cGj,rE j.x cJh aM6,Si33.sectionsOf ψ=yq χ,aA2 hd p,ME ψ AW y (y.mono χ),aB (.ψ aV2 intBits_le_64),gG z hb,nM ((ψ).filterMap) dN7 ((Km χ).find?),nM ks.map (x,bI),inV x xs,aMw 4 Tj,List.append_inj' e rfl,gT AJ X rfl h ψ bR χ aX aX,vW b zs,a0<(Int.toNat cZ ψ),a0<(a1+RT),UL ψ χ ω [pW E,by rw[τ],by rw[ρ],by rw[ξ],by rw[ζ],by rw[η],by rw[θ],by rw[ι],by rw[μ]],cZ gF+1-1,PySi33.answers_asked l=aY,lX IY Array.toList ψ,vC cE kB kB ψ,aUD 0 i0v,wpAny_ite_split dMI ψ ?_,Ry iJ p JV ψ,Builtin.Range.rangeSize ψ χ ω=n,split_len 32 t,bW (cB del a=_),bW (cB del hp=_),mT ((QF+a2)+3),
mC hsm.links se ψ,qS ψ hM zh YX ab0,CZ d d',CZ k k',nD hs [],sm.each z aX,bo hLd hyi ψ,yY ((ψ).get?) aZe,qU (f x b) ψ,Kc JG y.1,I.base.tups b xs e,I.base.apx b ps e,wC cEB e,(s1.trans s3).new hl,Pt1 P x,aG e (Si33.signsOk t=ψ t) χ,endOf d i n,DB R aWa,awj fp h,afi E h,if_neg (Nat.lt_irrefl _),Nat.ne_of_lt (Nat.lt_succ_self _),als (ar3 _),bb9 Z _,EU c cEY tN,JJ kp (neP e n),JJ kept z,zB vb hj,UQ o ov,bG y H4 dHp,vI EqAt.of_refs hlb,AD Nc k,vJ e2 Array.append_assoc,EO p hp e_ hv,EO zz hzz e_ hv,GQ bVV acr,GQ bVW aba,GQ bVX ahy,GQ bVY adz,GQ bVZ af8,GQ bV0 af7,GQ bV1 ad0,GQ bV2 af5,GQ bV3 acm,GQ bV4 af6,GQ bV5 aab,GQ bV6 acn,GQ bV7 aco,GQ bV8 ad1,GQ bV9 acp,GQ bWa acq,GQ bWb af9,b8 d Vx Au,cA V V gE,KeysAre kvs ts,a_l kvs ps,cellsFrom xC BE [],a0p.sees.head?.bind (Si33.seesTo d),(EN ψ y y.kind χ).filterMap (leads d),DK ψ Wa bA aDu,PGs X es t,NA (onT own T),VD (b3x x y=aY∧ψ),cq CY ψ fU rZ,bh_ r f.1,FE (eqIsQuiet ψ jT),bV cEu=n,aGh oY qN rD aB (ψ fE) aB (χ fE),b3o ψ (a53 i),bHq Sum.inl aHJ,FG c cGi,aMM cFC dL5,aMM dMp y,DR cK Paired.length ψ,PySem.W.keepIn K QC=aY,AO (hb x aOD),aMN H1 js1,aMN H2 js2,aF (decide_eq_false dO ψ q1) χ,HOk pC X.w H ψ,az4 rfl bF4 CU ψ,KB a Wy,KB c aY5,Sz s.heap.update l ψ,Tb wy p0,Ei aPX (m++[b]),Os.step aKM q,Later.refl H js,inplaceOp op u ψ,Tg zD jz aBK,TurnsAt H a l,Ep a cFS,Tk bWd aj1,Tk bWm amv,Tk dBo ap1,Tk bWo ap0,Tk bWp apz,Tk dBv amw,Tk bWC ahr,Tk bWE adk,Tk dBy ahq,Ku ψ MK χ ω [aJ ih ih,by rw[τ],by rw[ρ],by rw[ξ]],iA (hc x hx) h h,bbq K x xs H Q,a0z K x vs H Q,Tm aQ zO zO,Tp dNi XX,UX H' L ((ψ i).flatMap) χ,Sm ND aBB cDp,[gR 1,gR 2],dF5 ((last.take i).flatMap) 3,bHJ aWJ a6,bT a (a,bI),a76 p hm,Ew gL EX x bI,aBN c bJe,aBO xs.any cHm,aBg P q p,iA hf' q rfl,So (u=cAV) rx,aNk l.any (t.take zE),sL.keep hp ψ Dv,aB9 ps bKf aBG aQ ψ q,QG a t pM mH ((aGY aae)) (dOr),Ay ψ (tabObj #[]),Mv H3 p4,.set S n,pJ aBy yI dJD cCm ψ,BG o nb h tJ e ψ χ,qB aQ cK ψ aV vO aB (bg8 lz),dP eO aX fd hfd,Sz ((cIq).update) fJ aGQ,bH1 dHS Cy,meetsH_dict_get ψ a b χ,p+bV cHQ,
aHn (H2n sx _ _ ψ),aCq e.senses.any mQ 12 aE6,u=Value.bool b,JD t xs (NT∧JK p Kz p iW ψ),Gx h.num bqp,.aLT o f TQ,Nj (Nat.lt_of_lt_of_le ψ (Nat.le_trans χ ω)),o5 (k+4) X.A,Cls X.K C,((aS,j0+j)),q.1=nk k,aN5 mW ψ vn mL,Oe _ rfl,aV1 xZ (tB1 r ta),We aBs 1 ψ (f8 (h_ vf χ (pv ω))),aHI PySem.W.kitx_list GI h1,dGp auz σ,jI k e.1 (ψ++[e.2]) ψ,aWb (bs.map Cw),dP eO mJ d1 f1,aHT Ca H2,h_ akt ψ (pv 2),Paired.c_ ψ<|dB χ kF dy tp ω aT τ ρ,aOr ss tt,s.is CS H,aa8 ψ p aCt IT,bG c q bLv,bG vs z bK aF z ψ χ,aG e' cHi it aMR,aG e' AD aIl ψ vJ Al hj e,i∈afj ps had,sG H9 D to,sG H10 D bNq,jV AL b.1 hcl,aDd (bGI+bV [lw]),cBc dMW " ",Nat.le_trans cGe (ψ _ _),OpR X f (rI0 ψ),aOJ r aHf,nD hs [] i,aOQ ZX ZX,aWI kA s,aIm t Q',z.sameBut hs (cne y c e),entryLe L b ψ,H c≠aO bIN,.OF "list.__iadd__" BI [ψ,BM],aa8 H b u,PT X c tc,(bMA).map ψ=js.map ψ,bI0 (q.1≠k),xV bWg vc qJ,xV dBq ack qJ,xV dBt zg qJ,xV bWR aa' qJ,aBi (i8 aZG ψ aFE χ ω τ) ck T3.anx,aPe x cEB x,Md ψ e (keep χ o e),aNA M DI aHg,brx Q vs H1,(∀q,aOl kv2 q=ψ),cA8 tgV js iH,bJx bWq ady,bJx bWv af2,bJx bWw amz,bJx bD4 adl,pL p dx aNK dMl dOM,Iv (ok.each _ (PySem.mem_of_lookup ψ)) z z,bJC mz dOF,bJC aad dOv,AH qL→XX=[],aXq wpAny_updateSeq ψ rfl χ,eY u (us=[u]) Ah,bJN ks.zip ys ψ,AG m ψ (n=χ) (xj m),v1::v2::jM,dGV s.heap.push Uc,aP2 evL e0,wS bWo 2 JI zk,readDict L t= .ok d,kI c o hb q ψ,aP9 aCK [(cGk,VN)],aQa jT Qc,aCA Q hw (ψ dNo),(∀l:eK,(ψ).filter χ=ω),bJ2 L.forms.any aBq ER m,bT p (bMP,Value.ref (f p)),g9 bI3 bI3,s.keep ha ψ MN,((yL,e.senses.map vS)),(aG3 ψ (n=dF))∨aG3 χ (n=dF),out++bJu a,bA EH h' q,kP H7 q bLB,kP cIb q vV cCo,SlR X (b36 ψ),kC xs (n-1-i) x,iJ i cHd (g i=f i),PSs X sV tb,cN aI Dt List.ext_getElem? ?_ ψ χ ω,dP aDk fa hfa,rQ (TX+bYc),x=V.ref a,R n y H,xV bWs acb uV,xV bWF aj8 uV,xV bWL amt uV,xV bWj adv xL,xV dBp adx xL,xV bWG af1 xL,xV dBm ahu IC,xV dBr acj IC,xV dBJ adt IC,xV bWn vm lK,xV bWr ace lK,xV bWH aj6 lK,aG e ((List.finRange ψ).map χ=ω) Ax kW List.ext_getElem cG τ,ML x aOM (agg ψ y x),MW dBk avf xM,MW bWy adp xM,
MW dBC adq xM,MW bWk aj9 jZ,MW bWz adr jZ,MW bWP amy jZ,(x,BO)∈wM,VE cA aY6 dLR ψ,bKJ qb 1,bKJ aHe 2 3,gX (ψ OU aGK (wpAny_isOneOf_valiter OU ?_)),aY9 (tCB r t),aVO x x doc DG,aWg mM cGV st,cA5 jU JW nE ZR dLS,aIm dMj u Q,toks r v (f+1) [] t,cDh aG3 aY8 dMo aZv,aZi (o4 iI),dHs ys DB D ys ψ,bc' ts H0,aT kM aT t h1 ψ χ h,aB (I.pin ψ (List.mem_append_left _ χ)),aG al tR ψ χ qS ω aH cK aBJ List.length_filter_le,(fun p(en:dI)=>ψ),bLZ Si33.said lQ,bL hM aT5 aF aFo z ψ,bL cY v z aF ψ z aOU,gC xf bl mml,qS ψ cE kB bE0 hln cG,dHN I.pin p ψ,MV bWm JI wj,VO Tv dNn iW,bMs sl FC,wS dBp 2 [xL] ψ,aHa "__class__" aWo bVS,aVU B.wait x hx,iC H1 y s1 ny hy,QX a kvs ha q h,Rch mM w u,bMX [] eF,YC YE rv2 pl2 bNf hq,r x [] H1 Q,avz h0 h1 bG p q ψ,bNF o (id hi),toL s3 b o nb e,bNJ ψ (bro ok e),aum ZH aYB 0 AI ψ,Except bU gE,Except Dm RL,awo gK rfl,(nM l.eraseDups.filterMap x)=Cf nM l.filterMap x,vn U++MH e.sees.flatMap GE,vn (U2++W)++(aXW bJl),cE e1 ad9 bXq,cZ nJ-cZ Rn,cZ cHT-aXs,bs[m]' iP,bs[mm]' kH,bA XV cy aLz e,bK mW anb ψ aH (χ r s),z6 (d.zipIdx.map a34),z6 (hs.zipIdx.map dNO),dZ aOG nE aIJ HH,PySem.W.kitOne X.K t ψ=aO b,kP H6 D aYQ,aJ hJ2 (hJ1.mono s2),cFY ψ [by rw[χ],by rw[ω],by rw[τ],by rw[ρ],by rw[ξ],by rw[ζ],by rw[η],by rw[θ]] ι μ ν π υ ε Ψ aZ,iJ k aII (aZb≤9),gX aXq wpAny_seqItems ψ χ ?_,dE aB (ih bIX h) jN ih,dJ eO DK wN z,axm H6 y t,g ψ σ H bG σ2 H2 cCv,RelV (ψ iE) w',x a o e,ψ (awa lQ g),qf H' a gF,dh H' ry nH,pX x x' hx,Paired bG p q ψ,I.bbg bG p hp ψ,bo hrs hb hu,lJ h' dd' hs,NL H0 hp pA,tR aNR (oK+1),PySem.W.takerIn K C ψ=aO aS,MW bWA z_ Zk,MW bWB yg Zk,MW dBj adw IB,MW bWc ahv IB,MW bWf ado EB,MW bWh ach EB,MW bWK ads ST,MW dBG aa_ ST,aez a0 a1 a3 σ,ab4 a0 a1 a4 σ,ZK n ps RC ψ,m_ (ku c) dOY bs,(((aOB,(x.1).num),qT x.2)),cGy (isTrue e pR ψ),aGD tk XR tM,xU dBo 2 JI abl,kP H6 e uD cBk,kP H6 r uD aOx,Vw td x aHV ψ,rQ aTS∧cEy fM aTS,rQ bFi∧cEy fM bFi,checkTypeCall ψ aT xZ χ=Th (),Wq IR wP LS ψ HY χ,cGU ((amc x,ψ)::aZo),aOo aBy Pw ψ (χ ta),aOw aS4 EZ i6,rs.countP Uu x r,A0.countP Uu x rk,
ψ i j (Nat.le_of_lt hij) χ,ve t=headOk t,aPo aEO pL a kvs aHW bH5 ψ Mj oK,aXg x [aJ ih ih,by rw[ψ],by rw[χ]],Made R H n ys,ae3 R H n rs,s'=s∧b=cHz,_root_.EE.xa _ _ _ _ _ rfl,aZy R' (k::st),aZC (ψ aA6 χ cH PY rK h),(∃sl,MA h'.get? uT o bVK sl),(∃o',MA h'.get? o'),bN (auh ψ 12 (x.1).senses.zipIdx<|χ),ψ y c (lk e),UV bWM afx vP EB,UV bWQ amu vP EB,JD to x ((∃a,x=EQ a)∧ψ),QS a ha cIa aHb I.lt (z▸ha),(∃e1 s1,ψ∧Tf e1.result cGJ e1.genState),cIf aBy OG [e] ψ,aei e ps l rX,dJm ψ dJm χ eY kvs MQ GN (k=! dC2),dJu aAF (.aAF y),nQ q vs q1 q2 (al1 (hz2.mono ψ)),bD ψ (b9 x χ ω) DK τ OW ρ rT ω Tv (ay6 BK ξ c0 d0) aPm τ,jF o e c d st,jF oi e c dd st,dJP aCF dOI,dJP dMC dOj,cJk t (.ok m),cJC n (Vals (ψ n) (χ n)),Q LZ ψ FY aIR→bLD χ,gh aDb QI,s.TypeIs KL Qc,Si33.oneWord ei en,o.del h3 Lw ψ,((aLg+c,0,0)),fR v s1 h1 ψ,cX vs hv (hq b z),aQ Vn (if_pos (h1.symm.trans e)),R y=R x,kP H11 o bLB,ψ bG n x (n+aTk x.1) n=χ,longest l t=ψ,iJ a cHc (a≠IO),uD [(k,y)],eP tps P1 P1,u=Value.type n,spacedOk BS=ψ Cn,gT ψ CI PyData.eqv PyData.eqvAll χ,EM bWd JI m7,pL t ψ (v=cI t) oM t χ ω,mC hb a ha,CY dq gK aPM,iw H' wt dFc,(x,y)::ps,wA cCJ aF ψ hp bX hp,Pt2 P x y,dKW sC To od ψ sl,qU (m>>=f) (m'>>=f'),kI x c e z ψ,uJ σ H4 I4 ψ,PS X (.ψ χ pos) (ω te),l=b→bMv,cZ a2=cZ a3,aF8 Wu xB cA ψ bMb χ,(n,AC)∈wM,VC bWs uV j_,VG (ψ χ ω) τ aB (Option.not_isSome_iff_eq_none.mp fD),((a0+(16*ψ))+200)<a1,ZK sep t aR ψ,DR bE9 I.mod.glob.keeps aAv,BW wV sw Lp,NC H0 x iM ψ SR,Sz s3.heap.update S bNt,QZ rfl rfl bW5,fR i r hr (ψ eG r fE),Tp (dw H') gF,Ab (my t) c8 hut,aGR aI9 Pr a F B ψ i7 χ ω,aI (eu aoz dG4),ac2 L a=aOF b,eY y (bNj=aO qO) Oa r,aCb (compareOp ψ u jT),Fn a aS (b=aS) ψ,Fp (0<bV b.2) aO (ψ,χ,b.1),dE aB aWr w0 aB aWr w1,Vw tv v MS td x bJ4 ty y ψ,aOc r0 t ψ dLe,aCA Q hw dOq Q ψ,jI k t (f k++[x]) (f k),kF _ ψ q aCh c9 χ ω ?_ ?_,cBz hr (I1.tok _) q,es.foldl bG ψ s χ ss,dLl (by rintro ψ σ χ _⟨_,_,h,_⟩),gF=[]→bKx=kA,aPW (Builtin.SmallTypes.nextOf bJI),GT (nl bfh) bfh,aQp kd dNW P.map,map_set hj HG bk5,bL1 r uN hb ry,cy ψ j=jI j k aVR cGX,
b4a b hb o e,rT H0 aWH aNG fT yL,bMg aZa ψ 2 (ai aVy jC ψ χ ω),Nb l eK n (ψ→χ),bMF RW "__getitem__" aO aVD,aIt v2 v3 aN2 rY wZ v2,bM3 rfl _ (f9 q),BB aFp hb eC AV e (g=f) ψ,dLK ψ lH o e dMG d,W.spread q hq z,sG bJ5 p5 aXW bJl,ME ψ QS p l (m p l z),aa6 (ab' s cs) c,fZ (v<0) LT (v+GY) vA v.toNat n,bK cV KV r aNx r h t (by rw[ψ]),cH1 hlt ((List.getElem?_eq_some_iff.mp hc).2),jI g f aHy (mA g),Xi aQs F B TH ψ χ a t [dPM ω,by rw[τ],by rw[ρ],by rw[ξ],by rw[ζ]],cJc aIU x l aP6 l,dL2 cCO e nT,(∀o' u',X.H_0 d≠aO dMd),BB a1q vy (ah7 cH0),KeysAre kvs (l.map aLe),l.eraseDups.foldl vk acc=cHF,dR I2 cIz h' aYw hk ψ,MF o h.get? a o,qU bLx b f bLx b' f',dMn (.OF bVS) aWo "getset_descriptor.__get__",k=BO∨k=AC,dMA hs aIz,((Ma cE3,i,0,m)),aHI PySem.W.kitx_dict bR o h1 h2.1,a7u h n1 n2 h3,Qt2 p G x1 x2,dNq US p q,sX Jo b ψ aIV fN aC4 eM hb χ dE AQ Lz ω,dNw (pF=iS→restOf ψ aPY=χ),dNT (∀n,qU (J o n) dMJ),dNV k ψ (dec k),f8 (h_ vf gK aw),QG f fd (Mk K C f) ψ aWt QC aQi,dN3 bY q dO ψ q,Ev aLT e f (bmu X.K ta f),age CP H H2 y l,dOh b.1 b.2,cIi u v cIR q cHR aY4,dOC n cGp,bIA (m9 hb) j u e y,dPC Ny ψ (χ ty td),by rw[_,uB cK hxl (List.take_of_length_le (l:=d.zipIdx) aX) ψ],(aMU cH7).idxOf uX,atKey xs k=aS→ψ,ajy o u,gV vs zs,wipe σ2 vs1,countRun' lo nrem,PyFlat.okCall bZ4 c,aT ψ (isl I jH),AV i Nat nN bNw lI aS,fR e0 H1 s1 ψ,(∃kvs k b,ψ),(∃ψ p kv2,σ=cJv∧χ),((ψ).num,(ψ).senses.map vS)=χ,kM aX aX aX,sC X.kind X.head (hn k hk) ψ,sC Vu ψ χ dIb (seesAt d ω) τ iM ρ (fun(t:cW)=>ξ),sC ψ a.1 aCR aOX,j.x::j.q::Jq::ψ,aB GT dMk bIY a_7 aIa z9,aB dF8 gY Gq Vt rP h3 aDi h4 ψ,dIJ BO∨dIJ AC,(dJu pS (.pS y))∨ψ,cX od I1 (I.lock hd mu),(k,aY)∉st,aO q∈aZM,uT D nx (u D),cHH++aVi aBq aNy 1,aI (List.ext_getElem? bT j ?_),(kT-wW)<(kT-a2),[a,b,c],[164,217,572],[a.1,aCR,aOX],[b.1,aPH,bLV],kJ j js (aFM=0),kJ r rs (dLm∧r≠R),iA hc rfl hc,Ul AF-JR,eV rT X.env.scope.names.lookup AC hk,ψ h (t:=BS) e,lT dNr||lT dLf,ON aE8 dCg hbj,ψ (p:=AV b BP β (b.2==k)) χ,(by obtain(⟨o,_,_,_,e,_⟩):=x),(by obtain(⟨_,o,ho,_⟩):=I.ok.apy.mem hb),
(fun _ _ _ _ _ st h=>ψ st h),! had.contains x.2&&dNl,(by rcases mem e with⟨h1,_⟩|⟨h1,_⟩),(fun b o _ _ _ e _=>ψ),ψ (o:=bLS cEY tN) hcl,(by obtain(⟨dx,ψ,a1,a2,_⟩):=χ),(fun _ _ _ st hk=>aT dOp st.1 ψ χ),(by obtain⟨⟨m1,m2⟩,_⟩:=ane n hn),by rintro ψ v σ χ ω⟨⟨τ,rfl⟩,ρ,ξ⟩,(by cases ψ with|jR χ ω=>rw[τ]|nil=>rw[ρ]),ψ (K:=K) (te:=χ) (xs:=ω) τ ρ hD ξ ζ ?_ ?_,ψ (K:=K) (a:=r2) (xs:=χ) NV ω τ ρ ?_ ?_,ψ (K:=K) (a:=q) (xs:=χ) ω cH τ ρ ξ ζ ?_ ?_,bA bIK h aB xY uN r t,bA aPb o ψ _ aPb u bNm _ χ,cA eQ eQ eQ,(ψ).getD (V.int 0),dZ (order L a b=ψ) χ ω,gD t.drop eG+1,bR i hi FH,bR t1 t14 cB s14 t13,keep ψ (np ψ YN UK),aB (again I7 n7),aB (r.repl k ry),ali ψ ((aCq ((qL[aYJ]?).map) uX).getD []),ψ x (p.subset hx),ψ s.1 (aui hs),rD dJU wpAny_typeNameOfWhole_valiter dJU wpAny_typeNameOf_valiter,bL bJ0 LP h1 h2 aGl j8,bL pQ n aF (ψ n) hv bX hv,kC N p.2 p.1,ks.map bT k' bV aBh ψ a a k',ψ++[pickOf d (afj ψ had) e],(aO aAS !=aO "object.__new__")=aY,seqObj yI (ψ χ) c2,agg H t x,iJ r (F r) (B r),iJ H2 (F H2) (B H2),MtR X id r,uD (gg Eu bs),PIE X bH σ tg R,eY st kC bDU g st ψ,LX x st ps,LX dBh acl cFy,LX bWl aj_ aX4,LX dBB aka bKX,LX dBE vd cDG,wS x ψ ps sp,fN dOK aCP it bB e ψ χ,gC Nat.lt_of_lt_of_eq h1 cCq,iV cX t e ψ χ jO ω t kD e,dE aWc aPJ aWc fF k,dE sQ gB aXI sQ KQ o aXI,gY hs hd hx ψ,iY H8 tk (.dK cBv kv i0) ψ χ,P x y z,nM ψ (g x.2 x.1),jV sR pQ z dA z h q cF q mu,jW A1 A2 A3 ψ,gO hsub sub_enumerate ψ χ gJ EK hl NP n,l.foldl (an6 t) ψ,awv (t.drop b) ψ,eu (wf aIL P) ψ,sJ G l₁ l₂,fP aH z aY2 aH z ψ,c1 l hl e,vC (by rw[ψ,←bGz,kB,hj]),xU x ψ ps sp,bhj K h hs,rU_ g x H Q,aaj X cIm H4 ψ,lH t h.nox q,EN ns.findIdx? n n ψ,xV dBn ahx bD2,xV bWu acg Cc,xV bWx ava vP,xV dBw aj5 aES,xV dBA adm XH,xV dBQ ap5 bEb,j.is CE CS H,mC h.is j2 hi,kK oR R h aI VA he ψ bB ex χ ω τ,pX b o eo,pZ (s1.2 a nka.symm) na,bh2 Q x H',BJ XN ((mC h2 i ψ).2),aom X.K H x t,eP bk ba (back ψ),JD wi J iJ D aIO cFG vD Vm ψ,kI x hx y hy ψ,PIp X ψ (ipI Lu χ),uM Xj c bJW bN dMX hv0,[cFX,aBm s.2,fT s.2.2],brt R v H1,MT ψ cEV χ ω cEV Nat.ne_of_gt (decide_eq_false (Nat.lt_asymm h)),
JO c Vu c x.1,JP i List.mem_map.mpr GI (List.getElem_mem _),bgu l c k,QE (by rintro i σ H' _⟨_,_,_,_,_,_,_,_,ψ,_⟩) χ,MV bWi bNd aij,MV bWt bMU wo,MV bD4 VY (ic CP),MV bWI cGD Mb oo,bDT+3*k+5,MW dBF aci qH,ZD wpAny_seqItems g1 g3,ZE q2 bHV cDy IN dH5,GT cFL x11 p11 x11,knd.is kO k a,VB yX aew At gf cDs bHs T5.a9b bNa At,(∃ps,o=aNi),aG c0 (ψ χ=0) (List.countP_eq_zero.mpr QS a ha (ω fC)),Dw bV Lo d.filter cHk pA,VC bWx vP (abj zN),UN Call fe UU [],Heap.size_push h EL "cell" cell aS,bHk Γ p t fs s,JY l eK mV aYX ψ,DR l rel.val k,QS xs n bK aF ψ z aZN,(((DP x:Key),qT EN ψ y y x)),((kJ j js (aFM=0))),NK ik hik knk,AV t gL fZ cCQ EX t bI aS,AV t cF7 aIQ t.1 aO t,(keysOf E).map bT k bV ψ,iV eV (¬GV<cZ ψ) Ag χ bp6 aP,nN b tK IN m.kind bI,ZV aWT qQ ψ aYS QQ xB χ,KM hT2 cIe hel hT,aGy aCJ aIK ψ aBW hI3.mono χ,RJ hm List.mem_of_getElem? hj,RJ hlt W.lt il,(lY-ZO)=fM 4,(kT-a1)=(zH+1),NS (hQ _ (((aOA).extBut.push _).push _)),bis t D σ H,aB cB agm cB agm cB agm yZ a5i,Qt p G x,aNt xC::(us++ds),aI (aql dHx aH4 o),Uf bJf ajn i,aNg (isInstance jT To),RY oG (io aIe ψ rZ χ Gk),h'.push (seqObj yI aET 0),I.kIn a o hk,SP X bH D ψ s',d.foldl bG n e (n+IH) n,agn _ (Nat.le_trans c iB) b,bG e h tQ dJS ψ e cCN,kI c ψ r z dMc aF r mu,Fn i ψ (∃x,aOv= .ok x) χ,cX c' e' (mem_lookup ψ),PySem.W.codeHdIn K c P=aY,xU bWu 2 [Cc] cFx kg,xU dBu 2 [lK,xM] Mb oa,xU dBx 2 aGH bD3 r9,aNz ψ wE (hb fW h),aHh qs hql h,cAE bm6 te y dGI cBf,Nb rs aR r ψ,xU dBs 3 cHt Mb u_,xU dBA 3 [XH] (o_ CP),xU bWQ 3 aOa (qe CL CW),aNP js' cC4 ψ My,bIa cHy H s',aTB x aAo Lf x.sees e.sees.map c aAn ψ,vR had j i h,ajy JZ ((ψ).map xP),BG q hb z pZ ψ z,u.keep b ob q n ψ χ,aN7 aKQ ψ aPz nh,aN7 aKR ψ aPu nj,aN7 aS5 ψ aPD jx,wg eJ w kO y b,bT y (z (a3n y)),Wo ψ cV del h aZ yJ χ h ω,Wr kW SZ bY n ψ dU bO,aUg dJn ψ=χ∧bGe dJn ψ≤10,c=10∨PX=4,cA1 x.1 x.2 u,cA2 bLI aPa dO4,aOw aKQ aPz nh,aOw aKR aPu nj,aOw aS5 aPD jx,Mod X.K aFg TF,p::(xs++o4 iI),aC6 bL bW (ψ↔_) HY fP χ ω aCS τ,aG ekv gH ψ (ug aFJ,qT bZu) cGw iy hei,lineIn l p t=ψ,kP ψ U2 zY fT jP qO,
Ug QK ψ aPj χ N aP3 aYA (e.point l) M,aV0 I1 GR ψ (fl _ χ) ω UK,ψ c.1 c.2.1 c.2.2,bbh hg h ψ hd,y::(z::r).takeWhile aTw,aB (axi ψ (Paired.c_ χ YN (z.put ω))),aI cH Jl mR b q hd,aWP h aB aIh Gj 0 h,cBI sm e l2,vV [BM,ψ,xW,jT],(ψ).map f=l.map f,jW V V V aF0 NB,xU bWH 4 [lK] Mb ua,xU bWM 4 aOa (jq CL),vE v DD en es en (v=en.val),YT (aq_ (i:=i) ps ψ) bW (χ↔_) ω,YT (au_ ps l) bW tR ψ _ χ,aIM gK aYP (a2x (a2w (bjz ψ a_z))),Lk bWc 3 IB qr,Lk dBF 3 qH oh,aGV ψ i aB (clp i n),aPl r bJ cEZ ψ,toks r (v+1) 0 [] t,cA2 bLI aPa QD dMM,aXg ψ [aJ ih ih,bO],Back dLQ ks nH R ψ st,bjo X ty σ Q x H1,cB4 bWk jZ m8,a_7.keep x10 aIa ψ MN,bG kk hk (eD kk gC xf jl hk),(a0=32)∨(cHb 47 44),fZ (IH<CO) x ψ,IE k e (List.mem_map.mp h),jS (dif_pos hi) ψ (dif_pos dLE) (χ gG bFW hj),JH aU6 xp ψ Lr GJ 7 GJ 8 χ,HC jA bG σ' H' bHy ψ χ bF9,iw H' y ((bMD).map aim),aQg ψ (am (im χ (io ω) rfl)) τ,OpR X (binaryOp .ψ) (rI0 Lu gR χ),h'.DictOfH knd d (storedH xs k a ψ),ψ b7b lX χ fR c hc y (aiz bZ1 y rX),SK ψ χ _ rfl ah ?_,aYx iR Ao _ x,aB (h.new a bKG b z ψ),dG p hp rfl hw,aty (js.set k Vy n),EO c hc ar_ hx,kQ b ps JA aNi (∃more,oA b Sj (ps++more)),Kj bWw 3 VY wu,Kj dBt 3 Mu jw,Kj dBI 3 dNF yd,UV dBl aj' CM "tail",UV dBx afz CM bD3,UV bWN aj2 CM bWO,UV dBu acf lK xM,UV bWI af0 lK qH,UV dBD adu lK uV,s'=s1∧e=dI4 ψ,bKG x h hy,Mi ψ aO m (m+1) 0,ij aCt b (sortRow L a),bik Q x y H2,fits aH7 (gh all Fs),dHo (a=aO x) (b=aO y),cDC aZr HA dLc,dHD (ψ h:FE (compareOp χ YO a cGG)),cDJ bWh EB kh,bLL EE.a88 a7 a8 ψ,l1.map bT m dLq,o.del hx HG nI,Slot T tF id,letOwnedTupleGo tg NF u,aB (absurd rfl (a_e _ ψ)),LL (ih h) h h1 h2,bV EN ψ h h (hs.getD k []),aJ O cBI h y ey,aac ψ (m:=χ) bG q hq (List.mem_range.mpr (ω q hq)),bA (by rw[←ψ,aq (abt χ ω),ah]),(aGs SM).filterMap bT a Fp (a=L∨ψ) aDg (h.get? a) o a o,kQ a s (Q a s) (Q' a s),wS bWM 4 aOa (jq CL),fN ψ oR Q h aI χ bW Jy t vs ω τ,zM _ _ ψ χ rfl rfl ?_,aB (hS q b z),jI gF [] 0 (f+1),rT H2 aWH hV nV,HO.ins C d f=ψ,j7 ψ pX itv s2 h2,DS (aq (Nat.ne_of_lt hb')) cBg,eV ((cIt∘bT t (aG5:HZ))=id) rfl,
Sw bJc dLj [] zT,wS dBm 2 [IC] va,cAp PySem.AutoSeq1.wpAny_loadPart' (wpAny_pyIter_tuple hT),RP bD7 "House.__init__" ψ aht EZ,bG c hc ((List.mem_cons.mp hc).elim lV (z▸hy) (ψ c)),qG l ψ xs Jv α (χ=iM (l.foldl ω xs) f),aI6 x st ps P,iA (ok.free y hy e) k k,cEX [by rw[ψ],pB,kW IM,by rw[χ]],bNz ψ dHB cHo dd aOm aMW To dd2 dMm sl2 χ ω,aT h.1 YM i y dO3 (h.2 i y e),binarySort' lo n ok,bc' ts H0 b,wpAny_setField h1 h3 aX ψ,kM r.hd YT r.dp bW (ψ<_) mG YT r.un bW (χ<_) mG,jS kB vb kB dE4,ψ e QY dOt (nx χ) ω (nc _),bK aQ typeLookup_type builtinLookup_eq_fast bFZ,bK aF rC h bMS zZ k r aB (ψ χ k (ω t)),bK LL I.ok.stk e e hf An ψ χ ψ ω τ ρ,vV [gR dNE,VN,VN],jO ψ Ur cDd χ (r q) aZf ω τ ?_,RelV (kV k) u,aJ wl (W.len il ndw),cGh ψ (fun b _ o e=>χ),Kh c hc BJ hc fW aKI,Kj dBh 4 cFy om,Kj dBq 4 Mu oj,bG b z (absurd z (noA b)),PySem.W.mroIn K C zW "object"=aO aY,aI aT jP pD dO bpr h1 fE,ab5 a0 a1 a2 a4 a5 σ,ae1 a0 a1 a2 a5 a6 σ,Lk dBj 5 IB pk,Lo d.findIdx? cE7 h n,Lo had.any cE7 Fs aH7,Aa (NL H') rs rows.take i,RN aAm 1 e (ψ e χ),aCq modify (setPending s (F (pendingOf s))),Nk s' (r=w∧aPE r s'),aBz A Lt BK vF bNr,aBz A Gt BK vF cIo,bK1 Uv RH cGo r Em aVD (v::us),aZm jo PU ψ cH s0 χ hL cJl ZU,aZt h fR ψ s₁ h₁ χ,cDS (nD hs [] i=ψ) aH aP (by rfl),cDS ((bLT ψ)=aUQ ol.map χ) aH mL (by rfl),a3d o (nI _) ψ ψ nT hL,fV r 0 (gs.take v),fV r (v+1) (gs.drop (v+1)),x.above y c (PySem.mem_of_lookup h),JD to x (tyV K T x H1∧ψ),cB5 (field bJI 0) cFn h3 Uc,cIH l bKw bMm ψ,(∀a b c:ψ,cA χ bMG ω bMk ω),(∀a b i:Nat,cA ψ χ tW),cIQ us' (u::us') IZ xs us',cN ψ aI (χ VA hc) bFb d s1 H1 I1 q1 aIp d aZL ha ω τ,dKb (setField NF 0 uH),cJE mU c1 aXd ((c2.trans s2).new nr) nr,t.map fun(c:Nat)=>ψ,PyInside.lists [ψ,cCl] [r0,r1],aT aXX VX k xs aYi dd cFd,putK kvs cBw Lb,bd N ps gM,firstWrong all aCo x.2 l,bai ψ d lA rA,(∀i x H',jW VI aHd cGa ψ),(∃p dx t,dZ dMa Ly dOE),aW6∧(cEd BO∨cEd AC),kM LN mJ Kh f hf BJ hf fW aKI,aG z dNj (typeOf ψ) χ ((PySem.W.Looks.ld ω).andThen .now),aG hlt aWs aIX azp,LL (akv hm) hm h1 rfl,t++jI n 0 [] cHD 35,
fZ (pre S Um=aY) ψ χ,jS h1 iF iB eC h4 cIl,one h aVY<|Lw (by rintro(⟨_,z⟩)),Rm its rv pl (ψ (jl H3 j0).2),(fun v(i:Nat)=>v=V.int JR),ψ p dGX (rows.map UD),PySem.W.takesIn K (.OF bVS)=aO aY,bR c2 q1 fW q2,max 0 (min ψ GY),nD hs ((ks.take i).flatMap wE bMl),cH mJ dN6 hb bR [] eF ψ,Apart K mg CE CS CP,cN aH (vq h) cS a ls e cHS aH e ψ,kQ y j (j≠i) (h (y,j)=[]),aUA ut aIe ψ χ rR fU,(ψ).flatMap tH=js.flatMap tH,typeOf aVD=pure zW "method_descriptor",jV oO nb aID z r8 ψ aCr,vB eA bJ6 ψ x (by rw[χ]),dKR Nat.le_trans ψ hn iB,pL b k (x=vF) MA H2 aVI ψ,YR keys.map k k bI,Ke yX Na aBs 2 qb aN8 (cg aOE bYN ψ) χ,wX ZC s3 bR en hen oU iF c,wF x IV KR cF9 dLw,Kj dBB 2 bKX xy,ZB (no fD y hy),Ed ψ aQ (List.zip_append h.symm) lN,Pt3 P x y z,aNb Zk jZ CM cD6 ψ,aih CE H H2 x ψ n,aNQ ((dMu aQo).any) a,xJ bYi Ui aY _ bI,aGx gR dF PY gJ bK lO zO aH lP,aNB ψ CP χ ω uY zJ rfl _ lZ,pL a b gH d a AD g b dK4,aWA lI iM aF7 (i,CO) eZ i,aIN x mO lQ aAU ψ,aB6 ψ∧eY rs χ (ae3 R ψ eG rs),Wg bWf 5 IW EB ph,I.es x (I.dfs.le x hx),aZn jo FC NV (ψ∧eY js' bIu χ ω) τ dO6 js' g4,(∀bs:aYz,ψ VW cHW=χ id),uD (gg (ks.take 0) []),ZC pK ht jO y t QZ ψ Nq ah,aI aT bR o e ex.1 mR a e2,cHI aXi ψ eG it aO χ NG,BD i v H' hv s1 hD' C hC,cJp aVM sW aGr cdv cJq aWN CX0 P sW aGr cdv,cJz _root_.EE.a88 _ _ rfl,cJG Hb ψ js E S,((Ma dHX cGr,i,jP,m)),(∃d f,o=aM5 CH),ED H' ys s1 hy M,iC H1 c s1 nc hc,iC H3 q s3 nq hq,Li i Nat a α ψ DD b χ b ω,ZW h aU aIw It ψ (h.IsListIter It la χ),SN i Nat v8 bJ rs bM ψ,Rm its rv pl (I.list (bi.of ψ)),dMO fT q _ iE,x<y∨x=y∧P,dM6 dC3 TX bYc,cFo cF6 r dN2 (C r H4) cIZ,Qt3 p G x1 x2 x3,eV (ψ≠12) bL bE e aF Vn h cBG rM,xU dBw 5 [aES] Mb t_,dNu gC bqo ψ h12 h12,cJK x y v u bK1 Uv BZ ψ χ,IF c ob q n hc hx ψ,by intros j v H' ψ χ hD' C hC,dNR (aks bMw ψ (aev (abd χ))) ω,kX yK CE CS CP H N xs ψ χ h ω,yK P w K mg aW C F ψ χ,hc bH s1 σ H1 vs us Q I1 r1 q1,dO7 aMn Em xW [iW] ML H2 ψ,dPc ψ cH eO u Md aqi.at q pZ (sb.2 it (Ne.symm χ)) q hne,dPr es' ep' I.bt5,dPz es' ep' I.bt4,by rw[aBR _ dMi,gX ?_,wP newExc dDE],
by rw[cJN o o' ho,cFP ψ χ],asg cFp Draws.list it hne.2.1,dOx bI→aBz A ψ aUT aUU (ltJ lt χ ω j),(iR (jk _ _ _ _ _ bIN) (I5.hok c _ ψ)).1,entryAt own aK8 Zy,azz mO dFS dFT,a8w (ar9 ψ) oG Rr,Calls.Name_function_global Jf hg ψ hd,fR n k c rfl,beyond' iG ψ χ aW i,(∀x y z t,ψ),(∀x1 x2 x3 x4,ψ),(∀h' tk Dd c',ψ),CZ a.1 b.1∧CZ a.2 b.2,aG k1 (apn H c [] aCK) dPp,aQ cFV hsame hlb hlb,aI (ψ χ Qv (x:=u) cF8 dMY),aI (wpAny_stack_any bT st bMo),aJ k (k H (ag.refl H)),cS n1 n2 n3 nd,eV ((ψ,k)∈χ) JT aI (List.mem_iff_getElem?.mpr eO ω) bEW τ,vR p had l t,by delta h1 h2 h3 h4,LQ di ago e Option.map_none,LQ inV eqV Rb dEm,(∀(ps:RC)(n ψ χ:Nat),ω),(fun b u q n _=>ψ),(fun b u q n _ _=>ψ),(by obtain(⟨_,_,_,_,o,_,_,e,ex,_⟩):=dLt),bFy aAb aE8 Zx nd',(by obtain(⟨ob,_,_,h1,h2,_⟩):=dd),bF1 q u n1 n2,(by obtain(⟨xs,_,rel,dd⟩):=cIc),by rintro σ ψ⟨⟨v2,v3,rfl⟩,χ,ω⟩,ao7 (lt:=lexLt) aaf bLJ cJb aly ψ χ,jo (K:=K) (a:=w5) (xs:=ψ) JC j χ ω τ ?_ ?_,by rintro σ H2⟨⟨ψ,χ,ω,τ,ρ,ξ,rfl⟩,hI⟩,by rw[hst,arj]at k lP,bA dNM ψ χ (by rw[ω]) x ψ (by rw[τ]),V.bl lT aC3 IN=cHv dMH,ψ cGZ=vk (ψ E) e.1,zt hu ψ (bg rR),bK bMq bIk (xps.length+aLW) IG ψ,wpAny_passesOwn hp (j7 ψ ?_),Prod.ext ψ (Nat.le_antisymm h1 h2),PySem.Within mA (fs.map wL),bL iX j v hj Sr ψ χ rM,aI ((h.2).imp YF i j q ?_),ψ (aX7).kindOf (ps.zip us) aPI,aG hs (vO=dB2) aFo,eN g1 dJT c16 g2 dJT c26,eN nPx cFL ψ x4 z9 bIY sx9 Az bIY sx7 AK bIY sx5 ψ,kQ p l aZw l cDw l,wS bWF 7 aVQ dOs ud,upd H3 b sK c,gX (wpAny_newList ?_ (Nat.zero_le _)),gY h1 h2 h3 oO h4 ((List.cons.inj z).2),dJ (bbs PySem.F.slot_dict_getitem.lookup hs aWz),PySi33.answers l=PyFlat.told (qx Js cs),js'.map UC=js.map UC,jU pM aHS cGx E dK3,jW KD Nat Nat KD,aFX r0 r1 bwc h2,aJ hp (bb7 ho (aqm (i:=j))),apn Hb c E H,vt aAg BS cBN=ψ,lH (h1.trans s) ys gY Vt ψ h4 h5,cS h1 h2 h3 (ih ψ),ly K H1 a xs,bdb K a vs ns,jK fO zP z nq bN (sI.free nq) fO,CZ (d o i j) (d' o' i j),pZ (sb.2 It hSI.symm) nI2.1,eP c1 c2 (List.pairwise_cons.mp dCa),xX (aac ψ (m:=aWW) AO (χ hx)) bMd,ψ bG v hv ((List.nodup_cons.mp nd).1 dKI hv),
pO aIY CJ ψ Uk qc ((r.val k).abf) bFC,qU fZ φ a b fZ φ a' b',qB zP z ns bN (sI.free ns) fO,BL (a0l P w a xs),aFY h s _ I1 (hw od),oE LK _ rfl ψ rfl χ _ rfl _ ω ?_ τ,vG ψ dG f1 f2 f3 aZq χ ω,qW ol hol r hr2,yB h1 h2 h3 h4 ψ χ,Sg ψ aFi (Un.kept kp) χ ω τ ρ ξ dLo gG ζ Qs,agu a0 a1 a4 a5 σ,qY _ rfl _ rfl ?_,UV bDY aj3 XI bDZ,UV bWi a8' xK bD0,UV bWt amx uV jZ,UV dBs ahs xL aS2,QE (by rintro ψ σ H' _⟨_,_,h⟩) lW h χ ω,Kp sl0 sK hl0 l09 ψ,x0=0∨x0=1,AG p.1 q.1 oM cFR aI4 p.1 dLF,UY x aAm (ψ (f x.2)),NA aBh E.filter e e.1 k,bG a k (a.swapIfInBounds (u k) (v k)),HE bLE hx r gN hrr,(∀x b b',Ec→ψ),RA m (m∈ns) iJ y xA ns ψ Mj m,RA H2 Ti H2 F (B H2),ZW x Str aIT (mb x=bootBuiltins x),ZY (d==Zf) bI GS d o bDQ ψ,bG h e aT oI' cH e hoc hod,P x y z t,ju r=aO (m,u),Mc (a6c hsz) bFr aFn,VX w p0 h dMz ψ,aGB (a0l pC X.w a cI0 aPS),Kw Sr ps p ps ψ aWR χ,bHJ aMS (EE.ao a4 a5 a6),Ae bB e' ψ χ aB (ω FZ cEo τ) bB e' ρ χ aB (ξ pl cEo τ),go c H3 sp ti,uq c p xs iI,AX x aA e dI dZ JW Aj dK1,aI oF (ψ hks aX (aqz hr)),Mi aBZ aHc (Si33.oneWord x e) bI,IsEnum ψ xC fJ 1 uH,Mw bY z bB z e (aws ψ χ ω),Mw bW (ψ=aS) aH (i_ oO h aBG aH (χ z)) ω cAx h,iJ kk (kk<Jr) (nD hs ψ kk=χ),PG X Kg bXI es k ψ,fP aQe aCr aB g3 jV AL bKh hl aB bKh,aVO bDV sW dc cd,aF (amp (d:=d) (f:=JP en ψ aNy) cEO hxl M.2) hv,pL x L JW aXO aMJ cIn,Nz qP dE5 bpv hn wl2,QX p dx hp k h,aVZ 3 st kA gF,Wg bWl 2 aX4 ue,kQ σ H'' dZ cHL cGg wF kvs cGT GN aW7 kvs (∀q,bIP=cDd aCE bJn) ψ,Ci i v DD en d en (v.isSome=ψ),qM o ho hc n hd ψ,fL 0 (split 32 t),pL a t pM mH Dw aYL,aDw (st.at bG oi e aPh oi e),bIS D yO (t D σ H) ZA (ψ st pR) (SP X bH D),AV e aYU jI e.1 st aS aO (aim e),b3g k x y H2,(∃x y l m,jU aCu aZz aMV y m BR cHA),ψ++(χ++fL (r+1) (ls.drop (r+1))),ED n t x k h,bL cY e h dJS aB (ψ e cCN),RP x sW C st ps,cz (bie rfl) boot_all B.all aB1 ψ χ 1 ω τ,ED i y v e1 e2,ED i j hi hj hij,bL cFJ wh aI (ψ (j7 aV7 ha Q I h Mo c s1)) χ,Inv cEi bH σ H s,cCE bD9 Mu i9 Il,eX aOG nE HH aCF bKr aWy,iC a b c h1 h2,XX=[]∧AG qL [] dM4 (aFM=yL),BG u e z bL aJ q ((hf b z).1) aF q e kU,
cX o' e1 (a.there c ob q hx),bD n1 (d1≠p) ψ f1' nZ d1 χ,(∃a t i,jU aBQ vX mH Ga dKN),aZK (let⟨gJ ψ,_⟩:=st;wpAny_pyIter_enum ψ h),bLL ae2 a9 w_ σ,aZO h' dd' hs (h _ ?_),PassesOwn aCz X.A pR Cu,SN P ψ pd aCG g Nat χ,aJ hpt ((bo q6 hp ht).mono s7),PC X op a b t,Q HA GM cBM ψ (#[KL,Sh 0,Sh OT,Sh ep]),bMa qP bV bLb aB (bx1 gl il sjl),ZC s2 bR ln hln fF bR c _ ψ,ZY v ψ χ rQ bV ω (tr ω σ H1 Q),aG hb' (b<fJ) bK zI ψ dE aB (ba4 hel z) aB (ba4 hil z),bKc ho u x rx (j7 aZJ hi ψ),bM9 (∃xs x,ψ∧VI) χ aG3 ψ aYT,Wakes M Γ p g r s ψ χ,cFo aYF ψ χ ω dF6 (te σ2 H2 C),cFz (a6t _ x t ψ χ) aIW,dIr ψ B fQ fg aZB χ,cellK x c e ψ z,(∃its:eQ,dZ aPk ψ NT),TB d cR ψ χ x xO (ω≠aO 0),ψ ((nM ((Km s).filter) (x.1 !=s)).map aim),dR q3 (NL _ a t) cB HD ha NX,gT eM h mF fw (aug r ψ j i h),gT eM h Sr m (a1o r ψ (j0+1) j h) χ,PR bs mm xf bl mml,PR hs kk xf hsl hk,JT bW (L2.amd Gn p ψ=aY) h1 aBJ apw,aG kt (ψ eG=ψ i++[χ]) vC cE rO kB hei,AX q aA ls fB jU bKo dNS mT bZU dLs,ZK k b aAq (aHQ b→qC bV Uy),LX bWe acd [vP,Cb,XJ],LX bD1 afw [vP,EB,jZ],zX ψ jG d o nd' e _ χ aB lW ω nd' e τ,aI3 n z tJ sp n (ag.push hra b o z),sY d x i en h he,LK _ rfl ψ _ _ rfl rfl χ ?_ ?_,cH bLU aY3 e he Md hi.at q aPh o q hne,cB5 (field bJI 1) cFn h3 Sh i,nQ q vs q1 q2 (al1 (hz2.mono (s1.trans s2))),bD ψ (b9 x χ ω) DK τ OW ρ rT ω Tv (ay6 BK cI D2 cI D3 ξ) aPm τ,zA pM aHS aHX (kJ e es aXx) dMS dMV,cFw ho y u Q rx ry q,cN cFJ wh aI (ψ VA ha) bFb c s1 H1 I1 q1 aIp c χ ω,cJJ aB (ψ a t') aB (χ a t' b) aB (ω a t' b t) aB (τ a t' b t),zx ψ (bj4 Jo aX pn),Later H1 H2 js1 js2,a2r I ha hb hu,(∃p dx h n,dZ dNZ Ly dIf aM1 h n s tM),qY ψ χ ω ?_ kI e he s hs ?_,((toString aEQ++toString ".loop":uR)),aQ WE (if_neg bT q (e q.symm)),(∀aW:aU,jW ψ dLi (bg0 mg aW) χ),jF v o ho hd cGR,eV (x≠n) tQ aCS h v XN,F.ok S len (hbody f),dB dA aPR cGd f2 f2,dG a1 a2 a3 (a5e e),eN nd (bcs Ck hm) nd' nd,wS dBQ 13 [bEb] (zo a K),dG k' e r (akw hk),xS hrs (a3c o nL nT z),xU dBH 6 dNG cFx xw,cS kv hkv e2 (List.any_eq_true.mp q),dKX aTk x.1 j x.2 jP,ae0 a0 a1 a3 a4 a5 σ,
aJ hI3 (hI2.b6' ap s3 t3),NN hav av iE hav,KO aQ ah ψ eV (tgV χ (bLb++[ω])=τ) ρ aH aP DS aMQ b6y ξ,Sm [bJc cCm xZ Ri] aBB dOn,Ug H [r,A,B] xs es M,WF u cJd d x ru dOU ψ,nQ d u4 rfl h4 (am1 h3),aB AN o ψ _ _ Fi rfl (ho.mono s2) tr (fin H2 _ s2 tr),aO3 oR Q hw ψ AJ d q q1 cF r1 wpAny_truthy_bool bR H1 I1 q,aG ψ cHh χ ω τ Fv l cGH l ρ l AS ρ l ih dH,uL hJ2 hJ1.mono s2 hL2 hL1.same s2,bhx t u vs σ H Q,AX its eQ n Nat dZ aPk ψ χ,sR aH ψ bNh aDv P g r kF χ pd g aT dJI aL3 Rh dJI Dc yP,by rw[jG H6 s6 t6 h6,gQ hI6 ψ],cH5 ψ aH χ aOf aB bMu a6z aBJ bb6 aBJ a60,bLM pos Pos Q cF5 aNd cBQ ZA ψ bHo AP,bNQ r ψ fl dPe χ (by rw[ω]) (by rw[ω]),yN X bH σ H s d o kvs I h,cJf q h2 h3 h4 h5,(GV≤z0)∧(z0≤wG),by rintro i ks H3 hi⟨s3,hks⟩,aUr++[qY y dy tp r []],cN dD q hq aZD hq aP5 hq aDc aB (agj m0) agj m1,jF a u1 rfl h1 (am1 h0),FJ aIg h1 pO ψ j zV h aB gY vJ χ e iP ω τ aO6 h1 tT,bHS LR i QN x bIO (x=ψ) LR i aDh,dMN j ψ eM h qM a b h1 h2 h3 (ih _ j i h),aQl (ns=[]∧∃t:aR,iI=[t]∧ψ),BX ψ aVF ln lF χ bJE aVG (EE.bp a5 a6 a7 a8),bNS x V v bU ψ Uv (r x H Q) χ,dNz ha' pos [v] ψ ?_,Qt4 p G x1 x2 x3 x4,Turn pC X.w X.K tg J ψ χ tn,aAs wM Wx n Nat acc AE ψ χ (ω→τ),QR x dx nx ndx nxd Ee x dx ah,Kd o [DT,by rfl] i [fH i,dG s hs e aYC,HP,by rw[ψ],by rw[χ]],dOw cHE cFf nn,aT fR i ks H3 (cGP∧Aa (ψ H3) ks χ i) aWC aT aBp ω τ,ItemsOf vE v kC iK (xQ-1-i) v Dd xQ,hl.snoc a2 a3 hne hh,Builtin.Builtins.bindParams aEQ [XI,"default"] 0 aYs dMQ,gallop' iG ψ χ aW n hint,axo Ck hi hj ψ χ hc,gy dNh (ltJ lt xs ys) mQ dF wQ 0 ψ χ=ω,ψ χ ω τ ρ nX (sI.free ns) dLC nsq g2,LK ψ χ ω τ ρ ξ aCM dN9 I.es I.en dO bp0 few,aNS ψ∨SN o Obj its qA n Nat χ,aI (ψ F.called_enumerate iB χ ω bT obj τ F.entry_enumerate_new ρ eO ξ),[[1,x0],r0,r1],[a,b,c,d,e],aJ e2 (agf (p:=cG3 ψ) (rs:=ps) (l:=d) cEO hxl M.2),(∀(C d:aA)(f:yF),ψ),sX hr c r RX dLJ,Io h h c h1 h2,EF z1 z2 zs z3 z4 ψ,Ix inV eqV Rb dEm Co,(by cases ψ with|ent hd n=>rw[χ]|sen ω=>rw[τ]|ptr ρ=>rw[ξ]),LR ix (bo ψ (getD_at x (xf χ dE0)) (List.getElem?_eq_getElem _)),(by obtain⟨⟨k,v⟩,hkv⟩:∃p,gH kvs p:=aT (kvs[i]) cGq),
(by obtain(⟨⟨old,he⟩,hit,hne⟩):=st),(by wp_walk using dKY,cAy,wpAny_forIn_list _ fR jM b s' dZ (b.1=aS) (s'=cDI) eY i (jM=(items.toList.zip dEB).drop i) Eo Kr bH3 ψ χ i (Ks-i) cDI _),bY7 ot g1 k g3 ht,(by rename_i dx hp sl q ps),ψ (t':=tk) kp lB dOW χ aYf dEG ?_ hS,Walks.list (prog:=X.prog) (w:=X.w) (A:=X.A.in1) ψ It la hlI Jh Vz,(aNQ ps.zipIdx.find? lI).map tL x.2=aO j,rD aB (a52 _ iB iB) (by rfl),dB bN (ψ:mw H'' c χ aO qT ω) aP,sG ZL q dOJ fd dMt,br3 X Q y x H2,lT (dh H (asd w) t),lV ((hch c z).2.2.1 x c e rfl),eY od ψ (∀tF,PySem.W.lookIn tF od=aO (mA tF)),dR hqs (dw H'' q aFJ) hq ψ,fP aCW x hx hl dKh bI ψ hd aCW x hx hl dKh aY ψ hg,ψ Pr w CH CL CE CS CP,.Slice lo hi aS p2,cS w ew rw' (r.get h2),pL l xs Nt ψ JK q Kz q tM Ep q bFo,kK bJ0 bB h1 bB h2 bW (dJV ψ p=_) χ ω cG,aB (bxz hln b6p lle hpl),zA a1 a2 a3 a4 a5 ψ,bgv mg aW cI c P,GC _ rfl y ψ χ _ _ rfl ω τ ρ rfl ?_,bHw st y u rx ry,(∀b o u,JA bKC→oA b bKC),KH ψ χ aB AN dx hp sl q ω,aBF b o e n hx,RI aB1 KC 5 jZ 6 Nu ψ,jk P w H (h.push EL Qc Pu (#[])) SM ψ,Pt4 P x y z t,eX ZJ nE aNU (dMx) dOf,zA aOG nE HH ZR aCF dPk,WD (·+1) (h3 a b j ha hb),Mw cX h1 e1 (List.getElem?_eq_some_iff.mp a) cX h2 e2 (List.getElem?_eq_some_iff.mp b) ((List.getElem_inj hN).mp) (e1.trans bXE),aI (awc ψ aX kI k' b' h' q ?_),LX bWD adg [aKP,uV,aS3],LX dBz ap4 [Bz,xK,qH],LX dBH aj7 [Cc,aES,jZ],LX dBI akb [xM,qJ,IB],(∃i σ' H',jU ψ χ cC6 (W i ω σ' H')),(∀i:Nat,Ks-i=k→aN3 Builtin.«list.__eq__.loop» BI [BK,vF,rawInt i,ψ] cJt χ bH3 ω τ i k),bio D σ x y H2,Ww ψ bE q fO lJ q b z Qk z pG z χ,aGv sO RO wZ rY KA n v5 v6,ψ I hN hi hx r χ hf,aDz lps hl1 hl2 ψ hll,fN aCd cX rfl q h cF ry aI (ψ (i3 I q ?_)) oT sE x rD bHO cF rx bHO Lc,fN aCd cJs r w bX rx bX ry aB (ψ pC X.w Cu _ cEx),aIG ψ eV tR χ _ lP aF bZY aP aB aP iC H1 z s1 nz hz dKa s1.trans Wj np,aPo ψ (∃i j,xs=[zF,gR j]∧Mj χ),aXg y [bW (bV (ψ++Re χ)=ω),aQ fA ih,bO],jS (aq AL c9 w1) c9 ψ (an3 hin),f aPQ (.int j u),bL oR Q h aI (wpAny_Call_Name_kw cFi hv hn hdb) aB (ψ χ he hpl),gO q dJA ψ ((aNE).2.2) e3 (eqJ xs ys=eqJ ys xs) (funext bT j (a7g j)),
aPZ ψ dKZ aLq χ kU ω χ kU aB Lv (alt hh) τ aeu ψ,bIA (m9 hv) j u rfl y,bdb K a vs ns b=aO u,bKn ψ VR b _ χ aB cB s28 eo aQ ah lN (by rfl),GO l bY _ aB eF ψ l [bY h,RU χ ω],k_ bG t r (ψ r) Pr w CH CL CE CS CP,gJ cH cGY ho Obj.isFreed_of_fields (Obj.data_mapFields hd _) dKU hc dM2 hd,a64 pC X.w ψ χ ω us hl rk kd,eV Ft Uy ((Ew Ja aTC)∘bT t ψ) Uy vC bEs cDN Uy,(∀{d:cR}{i:Nat}(hi:HH),ψ),dR ψ NE aC3 χ ω cN bN τ aF Ub (aXs=0) aP aH aP oT sE χ cG ρ,Li aTT aPT m bF (∀v,(x,v)∉aTT) (ψ Qy aTT m x=m x),Lx aV ψ aQ bEv Jb iX e he z h cDU χ bR e he (of_decide_eq_true z),ψ c o (I.cne x c e) hc nch ho cGS,WG ψ KE Q _ cDY (zj I hg2 hm2 χ ?_ iB iB) ω aA5 τ aB h ρ,aCq modify (setArr s ((ψ).toList.zipIdx.foldl aZF (arrOf s))),Vk α cJ l eK ψ Nat x χ ω τ,bJC abo bLj l abo bNL H,bJC readLine bLj y readLine cI2 H',(Sem.wp_mono _ _ _ BG q s' z ψ χ p s ω),(∃e1 s1,Runs M ψ p χ [] s e1 s1∧xJ e1 aBj r ω dI4 τ ρ),a0i lt GA s iK pU xs ys,cIh QG y t AD ψ y (v=cI t) (t≠D) oA t χ,by rintro v s1⟨x,H1,I1,r1,ty,q1⟩,by rintro us s1⟨xs,H1,I1,r,z,q⟩,cJe (a1p r ψ (j0+1) m x h),dKb (setField NF 1 (rawInt cDV)),dKx dDD F.entry_dict_keyiterator_next F.args_dict_keyiterator_next_1 dLg,dKx dFs F.entry_dict_valueiterator_next F.args_dict_valueiterator_next_1 dKV aHD wpAny_bind,aeh k e ps l rX,mV aYD ((Option.map tO qL ((ψ).bind yE (χ[k]?))).getD []),cS p e1 e2 (bo hk ki gi),sY pre x aAa e y hy,by intros p had l m h e,lT (-fM 2^63≤dI5)&&mQ dI5 Fx,FV s8 bs c8 L8 nb8 hb8 ψ,by intros p had l m ψ sm h,(by rcases e' with q|q|q|q|q),Si33.Call.letters ψ (Si33Neutral.nats r0) (Si33Neutral.nats r1),JM Ar ψ χ ω τ ρ [DO ψ,wP bEG aAj,aF cFc ψ dKD h,Gg aPd aPd h],xS hes (a3b o (nI _) nL (nI _) (nI _) z),jX dD d h aV ψ bN (auh χ ω aTl<|τ) aF aLG aP bN h.ok.len rF,nF bMI x x rfl ((aIi).mpr) rfl,oE cID rL hw1 ψ yW tw hw1 aX iR (dCC (Te++aVq [tw])=Te) aX,QG i H' bNy aPC [] cIY aCV XG cC6 (W i ψ H'),wH aJ q ψ dA χ (a2q ω) q aB q aJ q τ eV aPO ρ cFc hsz ξ bS,QJ jG f g js h kW IM bE k ψ χ,QX u0 us0 r0 h0 (Vals.a9_ h),aVy fU gK aWF (aos hu fU gK aw bIR),
AX n Nat k Nat (dMb∧BR cH3),(∃ψ p,σ=dNH∧eX eW VP (.dK (acy ψ)) χ ω τ),AH gF→bKx=cIk∧aIf+1≤f+aTn,dR s3 ψ pK hz2 (k _ z χ ω Mt [r,τ,f,a] ah ?_ ρ),TB bs Ds dI E fK n Nat cA kJ b bs ψ χ ω,kvp.map bT kv xJ LU gB c aNk L.forms.any [c.toNat] fF _ bI,cGs ks aBo x aJ ih ih ψ χ,dLX aCN HA (I.laid (a:=s.heap.objs.size) (o:=ψ) (t':=s.toks) bMB lB χ) h Mm,Qx l xs y rfl rfl hH ψ q h,CG _ rfl _ rfl rfl _ rfl lZ,aFI x L d rfl hH hn ψ k h,cIJ bce aPq en d aX5 (ψ aNy=aY) i aX9 hrr,zM O.head O.num O.sees ?_ ?_ ?_ eZ ψ,bFn us s1 vs H1 I1 r1 q1,JB nG nW JB (a2<a3) aP1 dLM,oQ nt FF ψ χ s6 ω τ w6 (ρ ξ ζ dFe) bR ws' ah Fj hw3 nt,Wv aZj bQ hlb (l=b) ψ aJ q dJA χ vY aNE uB e1 e2 ag1 q aB q,dM0 a t hL ha hz,bLN x z L d ln rfl hH hP,dNN ψ bMx aBY cIV kn pP aX Kh x hx mF hx,dO1 zZ x0 (ayw h1) dOb bGK aJ w0 h dO2 cY z hz,aOV x z L d st rfl hH hz hG hs,dPs h ψ z y [by rw[χ],by rw[ω],dL τ (.zS ρ ξ)],(∀o i,subscripted b bI o i=cHU [o,i] o i),p x1 x2 x3 x4 x5,tLc wi g tt te dIK,(∃x L a t i,eX dLu aXO mH Ga Dw aDp),ψ gM χ ω τ sW func code aO around dDm,aB (ψ aEM c v q q gT cY c q jV bLs c q<|gT iX c xs q jV bLs c q),sY Pr w K mg aW F,Io (ih hm) hm h1 h2 h3,FV f1 f2 f3 f4 f5 f6 ψ,(∀{d:cR}{g:cR}(hd:ψ)(hg:χ)(ω:τ),ρ),qM d u hd mu hw hw,(fun b o _ hb _ e n=>bIQ ψ hb aX),(∀{f g:Nw}{js:ψ}(h:iJ k aBv (f k=g k)),χ),(by obtain(⟨⟨old,ψ⟩,⟨o,ho,hc,hd⟩,_⟩):=st),by rw[e1,e2,e3,Nat.min_comm,ag1]at q,(by rename_i c _ _ _ _ _),(∃(fa:aA)(k p:Nat),AG fV aIv oA fa aM8 k p cI8 (.SO (k,p))),(let⟨_,_,h,_⟩:=hI;gJ h),ψ (f:=nD hs D) (g:=nD hs cHx) (n:=cH6) χ (a36 hs D i) (a35 hs D i),bK aDm Se op CmpOp.In dJ2 h Se op CmpOp.NotIn dJ2 h2 oT sE b XV behindInMarks e1 e2,dJ (aor I bM5 hs bM2 cH hl hd rP ((rel.put k eb rv).keeps pX c ys ec) ψ),(cy dKF (h,n)).getD iE=oV bIf h n,gT cX u hu ψ aG sl aGn [χ] Wa tJ e rX eo qY (a4a hu e h.hou) h.good cI6 h.t1.keep ω τ ρ ξ,sJ (fun y(t:aIZ)=>dw ψ y t.1) qs aQr,forIn ifs aY bG c r nN r ψ bHF ForInStep.yield r,oQ hT2 (h''.get? fJ=aO EL Zi seq (#[ψ,χ])) pZ ω hT new τ ρ I1 ξ ζ,qB bB ac yJ tU h2 aB (ψ r s u h1 h2),
oE (PyProof.Rows.callWith_type1 (Q:=bMn) ?_ hs2 rfl) hs2,au4 X σ H n ks VW fM (acs ψ iT dIQ),Dz p n H2 Ti H2 (F p n H2) (B p n H2),yG s3 ψ (_root_.EE.agk dx _ _ sl q χ cH dIW cD9 ω),HC Lg _ rfl ψ _ _ _ rfl rfl χ ω τ _ rfl ρ,aI (a0c hs hgd hx hdt cFz (ψ _ hdt) gJ EK GR ?_),@ψ CE CS vs H Q XE eZ χ ω,Ae Ar ψ aI (PySem.W.kat_yes (χ ω)) τ ρ DO ψ aI (PySem.W.kat_no cB PySem.W.kat_one GP ξ QT) aV OO bS,(fun i s Q E hi st hQ=>ψ),Ge w p0 h nd q hm,eP h1 h2 (bh' I1 r1 ty),M1 X o bYp CK e zT,Vl ks ψ ys bM k χ (k∉ks) (ω=aS),YG ψ aDt st iN kvs jQ v5 bJ χ,Nn bE De ψ Fm χ ω τ hq1 bjs UX τ q1 ρ 2 ξ dP eO FA q2 hq2 ζ η θ ι,YG a aA Hb Hp js jE E fK ψ,aG e' (c=z∨c=TI∨c=TO∨c=i1∨c=i2) ψ,gT HM H c o y jV lV bK aF z h aB (ht _ h) h,aDo (anb lt) BK vF xs ys,bD e' (¬q.1=k) bMK b (ψ aZl k=χ) bA XV ψ aLz e',cBX ψ I.base OQ Qr aTM TM Qs,by intro eJ w A E s ψ χ ω τ hk h,cA A1 A2 qQ A3 A4 A5 A6 ψ,aPL pH (.inl) bB z aF tU h aI fF QT dLn ψ χ ω kG dOR DT,aPN dJV ψ x χ (ω (i:=i) (List.nodup_cons.mp nd).2 bL8 lX h2 hk),aPP t ψ χ bO c t [by rw[ω],by rw[χ],by rw[τ],by rw[ρ]],aPU ψ aB ((((s2.trans s35).new nr0).new nv0).new nf0) cE cDA hf2 cDA hv2 cDA hr2 χ,aP7 ψ ks ys χ ω hLd ndk hkl hsum,bHH J.stop aVf J.go N QB dGQ J.yld σ cAA N,bqx i j D σ vs H1,bqy i te ti D σ H,aAt p xs i z rfl rfl hq he q h,bD hil ψ bL3 aAc q χ q hlt (i<TX) Tl iO hu,cN dD e h aLD i hi (Option.bind_eq_some_iff.mp h) _ aB (ψ e cCN),bNi m k (iH+m) (k-iH) dO bqg hk,cFK cGl bB ey bLq ψ χ bB ey bLm cE9 ω χ,bil D σ v x y H3,bbm r' tc σ Q y z H3,bjn X D σ v x y H3,cGz bs b (by rw[qZ,List.range_succ_eq_map,ψ,χ,ψ,←ih]) bLY (by rfl),hk c o aWL aWL aWL aWL q,YG x aA a aA ts fB t aR jU QP cHM mH dM9,YG x aA y aA a dI b dI zA aCu aU0 H a cHg y b aZk dKP dK2,Vl P aA q Str p Pos aQh ψ,cJg ((Inv.ae5 (Inv.ae5 I)).turned) ψ fI.1 fI.2,dKu aXZ (EE.gp a7 a8 a9 w_ a11 a12),M2 X o ψ CK e f zT,FV h1 ys h2 h3 h4 h5 h,bE8 l hk hm hk c hc aTO,by rintro i m σ H⟨rfl,hi,p⟩,dR hf Kz pT aYZ Fh bJH ψ (I1.laid (t':=s1.toks) dLk lB ?_) (q _ hf),BH bMi bE h0 aG e0 (ψ=0) aI0 cGE a5a aB (k0 χ ω (τ ρ)) [cJO e0 ξ dL8 h0,by rw[ζ],by rw[η],aB (main q4 ψ θ ι μ)],
kF _ (#[]) 0 nP GR bMt rfl rfl LN,wa Rk aIS oG FL Ws (bia bYK PySem.F.slot_list_pop PySem.F.type_list_pop bic oG) ψ,aZH (ψ d o kvs) (h.IsKeyIter it d i oK ep),aVp z CE de ψ iZ jD sl aDa χ g4,bct ψ m ps l cGB χ vE hh (hi i cF2) k z,bNV s2 JG bKm H1 H2,aAs P iQ vs eQ i Nat m bF qQ P.Nodup YS P bMe ψ (χ Qy dHc m x=aO v),dPt F.slot_list_extend F.entry_list_extend F.args_list_extend_2 ψ pD e e2 dL4 dLL,p x1 x2 x3 x4 x5 x6,I.turned aNz kk aMR f0 f1 f3 f4 f5,(∃p dx k h n m,dZ dOZ Ly dO9),CG ψ e.mod e.bs e.bsz e.apy e.frf e.hok e.bare,aB oW p p' s h1 h2 (ih _ _ p' _ ψ χ),aG S (a0i bMY GA s uS aAD t u) kM cG7 cG8 ψ,SN b Nat t aR u aR eX (ns=ND) bK5 (iI=aQc) cGb aXD,LO X Cx qQ (pC=P) (X.w=w) aDq KP bLM i Nat E cU qQ dQ bIw aZh aCV kO ψ UH LY P w X.A (pyNext NF) χ E,by rintro H1 z s1 nz⟨ps,hz,hps⟩,(by generalize o.push (c.real j)=p,o'.push (c.sur j)=p' at hp⊢),(by obtain(⟨⟨old,h1⟩,h2,n1,n2,n3⟩):=st),by rintro i ψ σ H' χ⟨s1,⟨v2,rfl⟩,hl⟩,(by rcases hbj with rfl|rfl|rfl|⟨s,hs,rfl⟩),.of_wp IF eJ w A R s h kK aI7 ψ χ ω τ ρ ξ,bL bEo ZK n l eK (iS=n→ψ) (this _ l rfl) bY n aCc n cG n [cY l h,dNc a,by rw[χ]],bL (by intros bH s us hl I rv) aI bR ψ kI h2 Q E hQ ?_ Lu ?_ χ,eX GS p.1 p.2 nZ p.1 aOi IO (p.1∉YA) dHY ((p.2).data),ci Pr w uA zN EC ID LM ψ x χ ω,gX cCy dEP dEQ F.entry_tuple_iterator_next F.args_tuple_iterator_next_1,pJ cAg ψ χ [kM aO XI (.Lambda CQ sV gM aie) aAA] ω,bcv P w K Q x y H2,bD e' (q.1=k) dKE b (ψ=aO q.2) bA XV χ aLz e',sR oR Q h dOH aI dNL I.ok.mod.kin ψ (j7 aVN aAx us s1 vs H1 I1 r q eO I1.kIn) χ,MT (aao ?_ (aao ?_ dJG)) aGM aGM,bqw K n t v σ H Q,bq4 K f D σ y x H2,Ku fs ψ p_ r [aN0 k x,by rw[χ],dPK,by rw[ω]],YG h aA t aR n Nat m Nat ψ,CA hl wN hn a1x fin aPE w s aGx z I rw',iA (B.bde x y n e hy s) h h,Gp cH IY (·+1) h1 cHl cI9 j VM hj z z ψ bME a χ ω,YG x aA e dI y aA l lF eX aCu Aj aCB aMV y l dM8,bxu Pr w K mg S C sh fn,aNB z CE dz ψ iZ jD hp _ aW5 χ,bcw P w K mg aW k t σ Q fv H1,YG a aA b aA t aR u aR jU cGC mH aXY dK9,aVS Ma (fZ cJm nN dMf GF sp aS aO 2 nN cG9 (Si33.reach d GF t) sp aO 3 aS:oC),
by intros i hk eJ w A R s h,vT z2 YE n2 r2 hl2 e2 (I.a_a hB),(∃(x:aA)(z:aA)(L:fY)(d:cQ)(ln:lF)(i:Nat),cCX dMF cC8 cE3),(∃l,eX (linesIn 0 [] [] t=aYN) (firstWrong l [] l=aS) (d=sorted L (l.map xP)) ψ χ),cN aC1 ψ jF u rfl t rfl (vals1 r) aB (χ hz ω),fN aF aAb nd bJ0 bW (ψ=_) aH (i_ JP q nd.1 bJJ χ q ω) aB (τ nd.2 h1 h2),bLN x L a t rfl hL ha hz,(by obtain⟨dx,f,ψ,kvs,kvp,h1,h2,h3,h4,h5,h6⟩:=χ),(∃o es ep,eX Ao o bDQ aP4 ψ mV (xs.map wL)),tLc wi g tt te dIK σ H ψ,bK ψ An χ dL its cH r ω z aI aT bVN pD r τ aJ e wN OJ aFk e mG,_root_.EE.ajx dx _ _ sl q ψ r bKi dIW cD9 χ aX aX b5 nd' ?_,dKk la ps bM (v=cAI) ψ (0<pF) AX iT iU agh J NB eX (bGd=pF) (J H2) iJ H3 (J H3) (dJf∧χ) dKc jW aPp aXL (J H3) dJ9 iL p dLN H4 (ag H3 H4) dKc qQ aPp aXL dNJ (J H3) (Q iW H3),oW y z c ψ χ (I.ok.inj y z c ω τ),jB tT uW hne bLh e (ended p l cC5) q aZ m' [KS m' e,by rw[ψ],by rw[χ],by rw[ω],by rw[τ]],Ac aCd QX i j rfl q h Lc aBC (rule i j t t' s _ _ ψ),jO bm ob bKi b1 b2 b3 bP cB I.bk b4 b5 b6 b7,ZN rs Gh l eK (aAI=iS) aPl r bJ cEZ bNG ψ χ,BF (ana (J:=ψ) TZ JC i χ ω QY (by rintro i σ H' hi⟨_,_,h,_⟩) h bLo hi QY (by rintro σ H'⟨_,_,h,_⟩) h bLo av3 ?_ ?_) τ ρ,aHi QF WC aYO Nv aIE a4 a5 a6 a7,by rw[aJ ikl iO hik,aHF wk ψ χ ik PR χ ik xf ω ikl],by rw[BD i hk eJ w A R s h,_],(∃x L a t b u,Et dLv aOn mH aXY Ut aXD dMP),p x1 x2 x3 x4 x5 x6 x7,a5g l t bI4 bED gC bp' p2 s dO bqj s bR g g1 p1,compPost aCz X.A Cu use Qf Vm Cy,bim tv rd D σ x y H2,aB (hb wh bH s1 σ H1 Q I1 q1),Cd m0 m1 m2 m4 m3 m5 m6 (nd3 nd),by delta h2 u y h3 h4 h5 h6 h7,Db r v f l hk hl e L.st,(∀(aAK:AE)(pm cv ctv u:bU),dN5 aAK),(by obtain⟨o',ψ,v',n',f1,_,f2,f3,f4⟩:=hy),by rintro(u)(s1)(⟨x,H1,I1,rx,ψ,kvs,ex,χ,ω⟩),(∃(ψ χ:iN)(ω:aY0)(v3 v5 v6:bJ),dZ aNw rY iL l iL e v3 iL D v5 (br8 H ks g l e D H' ψ χ ω) τ),(by obtain⟨⟨n1,n2,n3⟩,⟨n4,n5⟩,n6,n7⟩:=nd'),(∃(ψ χ:Aq)(v4 v5 v6 v7 v8 v9:bJ),ω),(gT (by obtain(⟨m,⟨o,es,ep,ho,r⟩,_⟩):=id OQ) cX sl hL (u.any ho aAw ψ) χ),pO ((aGs Ks).all (eqJ xs ys)&&xQ==IS) dMe ψ,aMC p C dx [] rfl ψ T.cl bHp iB ?_,FI oR Q h dNA dOV bB ex Vh dNK cI4 ψ χ aYI ω,
PySem.W.fnOf tF sW CQ sV gM dV kV doc pm an cdv ct,aI (W.item i s _ _ hg st IF v h' tk hv st' kk ?_),bH8 _ _ rfl ψ _ a _ rfl VU χ,vT j h1 h2 h3 h4 h5 (bbn he),CE lG P w H s Q u s',aI oF IX aUV cGI aMH [(jZ,2),(CM,3)] (a3i K 2 rfl cAh AI DU) ψ jC,cBX I.ok dND dCL I.base.tups dCO I.base.apx ψ χ aZp (tracked bR ω τ ρ hs) lX Qs,by rw[bD hP GS P ψ VJ P hT gP (Ih≠P) dLb,dR bP (bm≠P) χ ω],jX aJ kl iO hj kW IM bY i aH ψ vL i k KO bB e aMb aXo mY χ Gu hj hk (by rfl) cE dMv ψ (ho i e),a57 K tv rd f D σ x H1,IsRange kO r 0 GY 1 t u v,ψ hc hg hm hv (aa ha ak he) hn hdb he rfl,kK HN DW cIx WJ ψ cIX aB (aot NH st hgd hdt hsz hi aZx BG ob hb e (eb b ob hb e)),QY qM o ho hc n hd ψ o cH ho hc aT n hd,dKu aWJ (EE.adc a6 a7 a8 a9 w_ a11 a12),(∀{ks:ψ}{ys:bM}{i:Nat}{k:χ}{y:aA},jW UB dK5 Xc (ω=aO qO)),bL aI aT zB fA h.1 Mo i z bQ hi (i<ψ) An aF (List.getElem?_append_left hi) e aB (h.2 i z e) cHu hlt dA fA bFq hlt aG hi' (i=n) tQ hM h.1 bqf hi hlt aZ,aIC Wm wE NR bE h aF bMr hne.mpr e aV aap aH e bE hf dOl iF hf aV aap aH e,dPf j v Ha Hb y t,p x1 x2 x3 x4 x5 x6 x7 x8,SL p _ rfl dKG rfl rfl _ rfl lZ,yK i v H' U hv s1 hU C hC,(by rcases ψ with⟨e,hm⟩|⟨h,c,r,rfl,h1,h2,e⟩),(∀(t:cW)(p:Nat)(had:cW)(l m:DV),ψ),by rintro i v σ H2 U hv⟨⟨ψ,χ,ω,τ,ρ,ξ,rfl⟩,hI⟩hU,by rintro σ ψ⟨⟨v7,v8,v9,v10,v11,v12,v13,rfl⟩,χ,ω⟩,(by obtain⟨ψ,χ,de,hp,sl,q,g1,g2,_,ys,g4,g5⟩:=ω),bA XM h ψ hs ha [cF r,by rw[χ],cX as hr (Dp.readsAll I ds _ its ha rv),aB gJ (ω ho hc hd hr)],o6 Pr w a ok mk vs H Q XE,j7 cFw ho y u _ r1 r2 q2 fun ψ s3⟨z,H3,I3,r3,k,e,q3⟩=>?_,(∃(x:aA)(i:Nat)(m:Nat)(L:fY)(d:cQ),dZ dNd nE BR bLX),GC _ _ rfl rfl _ rfl _ rfl ψ _ rfl χ ω,aVm ({s with aTK:=h',gens:=g',drawn:=d',Ir:=t'}),aI (wpAny_pyNext_enum_itemD ψ χ ω τ ρ fD fun v h' tk hv ξ hst hT hsz hk=>?_),Nl h1 h2 h3 h4 h5 h6 h7 h8 h9 ψ,k_ f Pr w CH CL CE CS CP vs H Q XE,(fun A lG s H vs Q E hr hsp=>?_),AX q aA cs Aq MX bKo dML cHO (kJ c cs (arp c)) cH4 cIS cIT cIU dN8,aCx bs vR E n _ h aB h b bs vR E n hb h aG h1 ψ bL aI1 Io (anm hx) z y hy rfl χ ω bW τ bO,Vk d cR g cR k Nat b aAq aHQ b Ft nM ((ψ).find?) (x.2==k) wL χ,
fN aCd Cd d e hd he sd se q h cX as r1 (Dp.reads I d x v hd rx) cX bs r2 (Dp.reads I e y u he ry) aB (ψ r1 r2 sd se hu cEx),fN aCd Cd p xs rfl hq fx fs q h cF ry iA hq hq hq Ae dLz dKr ψ FZ dKf aB q dLA dKr χ pl dKf aB q,AX x aA e dI eX JW Aj aXx dKS aWD Si33.entryText e,AX a aA ls xE eX pM dMU (kJ l ls aYR) dMR aWD ls.flatMap GE,cJQ bNR q1 q2 ψ bjt bE h dLV χ aG ω (ag τ ρ) pK hq3 dP zM q3 _ ξ rfl ah iB ?_ ζ η θ ι μ ν bE h aG e (¬π) Ag h υ,k1 ψ y.1 hW _ fa uG S6.trans hfa (S6.free hfa) ah,(∃(a:aA)(xs:bM)(es:fK)(v:V)(y:Np),zA aBQ v aHS aHX (kJ e es aCB) dOg dN0),dLh aTT cY _ _ p_ r aN0 n v cY m h ψ aH (ih bG w hw aVU h w hw) oY χ,bIo h [by rw[ψ],eM e] a b l₁ l₂ r [by rw[χ],aGP i ω j [dDt dCE e,GG ih]],(∀{d:cQ}{x:lF}{i:Nat}{en:dI}(h:ψ)(he:Vg),χ d x=ω),dNP (∃v7 v8 v9 v10 v11 v12 v13:bJ,cJx Ex RO v9 v10) ψ,dPx dPv dJ VA hi aCn iv y H1 ry dJ aDf ho u x rx ov aB (ψ hu I2 g ry dNp χ),by rw[oQ ψ χ ω hold τ dLY hnew iJ b (upd ρ ξ ζ b=aS) η Go b e KI,aUn θ ι hcf ψ hold hnew hD],p x1 x2 x3 x4 x5 x6 x7 x8 x9,aG htt (s.heap.IsTuple a uS) QY qM o q1 q2 k q3 pt o cH q1 q2 aT k q3,aJ ψ (χ aPC rfl rfl rfl hc i [] s5 _ H5 Uj I5 (a93 I5 n5) st5 ω),aLY dr ψ χ xs M c1 c2 c3 c4 c5 c6 c7 ω,dZ QP Ve MX uK wI aCO aXh Vf aHU bML vZ n aNP js' cC4 vy My,MkD pC X.w X.K aFg TF x C k ps sp,aB (call_list_seq p ψ ho hc hd kI h' c' kp e (fin its r' hz h' c' kp e) dLH),eX QP Ve uK wI MX aCO aXh Vf aHU cG2 vZ n bK2 (dPl) aNP js' cC4 cCn My,(∃(x:aA)(n:aA)(r:aA)(ns:aR)(iI:fB)(s:IA),Et dNa dL6 cHs dLB Xd dMh dNv),bKn (xu (te:=bNE ψ cH2 ajn χ (ic CP vs H1 Q E0)) (xs:=ω) aPq m τ pI ρ aDr hD gN ξ ζ ?_ ?_) aC5 s1 η θ Nf aMC _ rfl ι μ m ν rfl π υ Mf MZ m hm ε Ψ,kK bHw s y u r1 r2 qM i j e1 e2 q h bB e1 bB e2 zZ t r1 zZ t' r2 aB (ψ bMR),bND (ψ X rfl rfl rfl hc i bH s3 σ3 H3 Cu I3 (a93 fr3) st3 χ),by rw[aNs r3 bks rv2 r4 bvo,bHt r6 bvp bvo,aOH bvp],dIE aLt y.2 AC aKN (sc.names.lookup y.1) cBH aY aO AC aY _ bI QH ψ BO χ _ aY,jU (vs=[JG,yT,jT]) Ve dOk eX wI aCO aXh Vf dN4,aG go dOS Fz aCT cA aVZ 3 s kA gF cHP aIf ψ Fv f dPD XO n kA gF K hf aB χ dO0 dF9 3 fP aH (h1 e) aB χ aH aB5 h2 aB Dq ih dLr ((h2 e).2),
dKk ra n Nat (v=cI ra) (H1 ra=aO cIy) cGO (∃J:aML aN,jU (J 0 [] H2) (∀i ks H3,dI2→dJf) Dz i ks H3 QN dI2 dJ9 Ex (J eG (ks++[v]) H4) kQ ks H3 (J n ks H3) GK rk aQb (au4 X σ H3 n ks rk) iJ L bMT L JK r (H3 r=aS) BM ZE r cGQ),bh5 C m sp dvs E t σ Q x H1,Vb Lm z ψ dz _ _ rfl cB s13 χ ω τ rfl FA ?_ t2 ht2 s14 ρ t14 ξ ζ η,p x1 x2 x3 x4 x5 x6 x7 x8 x9 x10,aB (bb3 (k:=k) I5 ok hN rm bX2 pf.1 hcd GP hb _ (v:=ψ) χ cBP hbody cEg rm.mono ω),(∀{Pr:aM}{w:aK}{K:aL}{mg:bF}{aW:aU}(F:ψ),χ),(by rcases ψ with⟨h1,h2,h3,h4⟩|⟨h1,h2,h3⟩|⟨h1,h2,h3,h4⟩),(∃(v7:bJ)(v8:bJ)(v11:bJ)(v12:bJ)(v13:bJ),dNf),(fun A lG s H SQ us vs Q E hr ψ hb χ ω=>τ),I.step (g':=s.gens) (d':=s.drawn) (ch:=ch) dOD bI1 bLF cC9 bLF aYt cC9 ψ UM hc Wl cC9 χ ω τ dMg cG1 aFi,gT aI cA3 Sd ha v x aI dOo ?_ (hf v u s2 x y H2 I2 r1 r2 q2),Gd nd' (mk3 m0 m1 m2 r1 m3 KJ r3 KJ r4) qs Ne.symm m3,by intro P w A E s itr tp i iK ψ χ hi ht hx ω,fP cHp dL o' ψ bQ hj (j=i) Gi bB hj aF hi e1 cF e1 cGv hiσ e2 cF e2 lH u r χ [aF bMH hj e2,cS u' r' q (hl j y v' e1 e2 e3),aI jA u' r',by rw[ω],by rw[τ]],MX aHU RZ Of aQq bM1 (bGh≤IG) dKQ bK2 aNP ps' dN1 dK7,(bL (by rcases ψ with⟨h1,h2,h3,h4⟩|⟨h1,h2,_⟩|⟨h1,h2,h3,h4⟩) χ kG ω nF fF cHC),(jX aC1 jF i j rfl q h (by obtain(⟨u,w',rfl,⟨t,rfl⟩,⟨t',rfl⟩⟩):=vals2 r) aI (ψ (I.ok.hd hc) fR h' tk k aGx _ (I.kept k) ?_) bQ hj χ fP Oc hj hj aB rK FK hj hj aB rK),cGA aDn ψ ?_ aH hv bNM aP0 bKb vs h2 cIM χ v [cS ω τ rfl dMT,bS] aG e2 ((ψ).any id=ρ ξ) DE OI aH e2 bL5 cGm bE h2 Mz k' H' dA cD2 cF4 k' aB k' bE h2 aI ζ Mz k' H' dA cD2 eC h2 k' jS cK χ Ub (fM 12=cZ 12) aar dPj bE h3,(∀v u s2 x y H2,qQ yS H2 s2 Uv BZ cIu aHG cE8 Q s2),dKK cJw B dq ψ χ ω τ ρ ξ Ms aJ dl dFq aG onl (bV bHG=iH) qS onT aH dFz aB (bpu hTl) gZ oN (am ζ) η aI (au8 (K:=K) (a:=e) (b:=a) (xs:=PU) (ys:=aM3) θ ι μ QY (by rintro i σ H' _⟨_,js',h1,h2,_⟩) aCH h1.same gN lW h2.fr nac ha ?_ ?_) (by ·rw[ν]) π,by rw[pW E,aLY x z L L2 d g rfl hX hZ hGd hGg k h],(∀(i j:Int)(t u:Tok)(s:bC)(Q:cU)(E:cU),ψ),PP _ rfl a _ _ _ rfl rfl ψ bNo rfl _ rfl lZ,FI xN c M Γ s hL X Y _ aQ ψ ψ jS (Array.size_map (f:=c.real) (xs:=X)) (Array.size_map (f:=c.real) (xs:=Y)) (Array.size_map (f:=c.sur) (xs:=X)) (Array.size_map (f:=c.sur) (xs:=Y)) QW (eu a6y (yn ?_)) u0 χ bD hd (RF c pS aAN) bL dJ6 (by dsimp only[pS,aAN]) bYC hl (RF c ω τ) bL dJ6 (by dsimp only[ω,τ]) bYC ρ ξ _ cAk tI bLQ x0 cAk qN rD (by (rw[ζ])) tI bLQ x1 aGM,
(∃(Hb:Hp)(r:aA)(ln:aA)(t:aR)(p:Nat)(l:RL),zA dOc dOG Jx ln BN Fy dPo),(bL oR D h aI (wpAny_execs_cons dOm aV7 h1 ψ I h) (by cases f with|aEV=>rw[χ]|ret v=>rw[aB q]|brk=>rw[aB q]|Zp=>rw[aB q])),aFw x aA e dI y aA dy aA tp aA qV V t aR zA aCu Aj aCB bMQ qV bL7 dM7,aFw o aA av V lA aA rA aA d cQ s mX ln lF zA dOL dMs dON cJj (dL1) dNe,aFw r aA dr aA A aA B aA fV V xs bM l RL jU IV BM cHV bMJ eX dOB cIE aU8 Fy (dMw) (dOQ),gT (by rintro(i)H x H' hi s⟨e,y⟩hD' C hC) bB e (hs i x H' dNQ y s hD' C hC),(∀(s:bC)(H:Hp)(f:aA)(cv:bU)(aAK:AE)(A:cM),aDl→PE dIp aAK sV tb),dOu o h aB h kM x e en [by rw[ψ],by rw[χ]] qY x e a na sn [by rw[ω],by rw[τ]] kM x e pn [by rw[ρ],lH x e ξ],dPi TW gw ir ψ χ [bLR ω,bMV,cIs τ (Si33.listed (Si33.placesOf lQ ρ)),cIw Wt cHr BW zD ψ (bg dNm) bNA,cIv [dPP ξ,aI ζ,iC H3 z s3 nz hz,cER,bEd (Si33.placesOf lQ ρ) l hz k lP,dKa s03.trans (s03.free np)]],dPE ψ χ EO y hy e_ hv2 aAQ sn hsn dy tp r2 q1 q2 ω q3 q4 cHe [_,cJT hsi AD dFm cAP hsn a8h ((en.senses.zipIdx.take jP).flatMap) τ ((en.senses.zipIdx.take j).flatMap τ++ρ) lS dFm jP] ξ ζ η θ ι DF yl g5 μ ν π,(by obtain(⟨oc,od,kV,doc,pm,an,cdv,ct,osl,rfl,lk,hcd⟩):=F.ex),(by obtain⟨ks,ys,kvs,R,iG,h1,h2,h3,h4,h5,h6,h7,h8⟩:=ψ),(by rename_i dx hp sl q dy0 tp0 r0 y0 ps ts ys ss se),(∃(a:aA)(n f:Nat)(kA:Fz)(gF:aCT)(v5 v6 v7:bJ),ψ),by rintro ψ v σ χ U2 hv2⟨⟨v7,v8,v9,v10,v11,v12,v13,rfl⟩,ω,τ⟩hU2,aFw x aA z1 aA z2 aA L fY d cQ s mX t mX zA dNb nE dK6 dLT uK eX aCa aGo t dMD (dNB) dPg,bG m' hm sR qM o' es' ep' ho' r' hm aF ho ho' cF ho' kF _ es' ep' aT hL r',(∃x dx r v f p rs ws fs a b c,eX aMz iW VO aYK cHZ cHX MX cHY cCU cCV cDf MQ bNH cCa dKO bL9 dPA),aFw x aA dx aA hV V nV V sl aA q aA ys bM eX JW dNt bMW (dL0) (dPu),Gf BD X e te pos es tr he hr _ dPn out _ dKM rG FormattedValue_plain aI VA he ψ _ bB e eP t rfl r1 χ,cFK bMh bB ey bLq aI (ψ aQk hd bFD ?_) aFq cDT l cE2 bB ey bLm cE9 aI (χ aXX aYi hd dd ?_) aJ q cDT aF bFC q aFq q l cE2,aFw b Nat a aA t aR c aA ps aR m Nm n Nat jU (vs=[aBd,jT,DG]) bK5 mH eX dL7 BN MO pF bNc aOv dOy,
aFw v7 bJ v8 bJ v9 bJ v10 bJ v11 bJ v12 bJ v13 bJ dNg,aFy fin [by rintro(⟨b1,b2⟩)s'⟨hb',rfl,i,hz,hR⟩,Qk hb',bB hb',dJY hge wD Ks dLO dJs bx5 q bX hz,dKA 0 dO bpm hge,bYU,aB sS aIu Builtin.Tuple.tupleCompareSizes hR],FI yK X a b ta tb pos jM ha hb _ KE Q _ aI (ψ VA ha) cHG _ dG c rfl q1 q1 cF r1 dKL χ,by intros EI Qz bH s σ H x y v u Q I rx ry h hs,(fun a0 a1 a2 a3 a4 a5 a6 a7 a8 a9 w_ a11 a12 a13 a14=>aXZ (EE.anr a7 a8 a9 w_ a11 a12 a13 a14)),qF bMy QX a bs hs q h aI2 hl aH2 hs cFZ r aJ hb rv.bls aI (ψ (a6g dDj kI s₂ e2 st hne ?_)) bB e2 aI cDb _ Fi cFp Walks.list _ hne st (ar6 hb) pX h' tk hk HK aGx Eh (I.kept aPe eo tJ hk aH4 CT PV eo) ?_ VM CT e1 CT dE Nj (e1▸aPG eo) cF CT bW (Value.bool _=Value.bool _) (by rw[←χ,hb,zO,cK]),Kd o [bX hp,bX hl,by rw[ψ]] i χ,QJ jG b hb ψ e9 aG hb (b=χ) aMR dA hb ω e9 bX e9 τ,aZP ψ χ bLR ω aNc τ [] [t] fZ (Si33.signsOk t=bI∨aEN<nJ) Kx bI5 aZc (Si33.readDict mO t) Kx aT (-3) Wk [f.1,f.2] ρ ξ aF hst k [cCH rr ζ,cCz av1] aG htx (textOk t=dMK) rfl dHA textOk η [dA htx Jc hw,Gr rX,aJ hrd (apq mO t),uM dGB cB9 aYG av1,aI5 rd nrd hRd,cJo s1.trans,bLh anp (yz t) ff [cJL ff,aF hrd k,FV dr A1 B1 fa q1 q2 hRd,_,dPN cI5 (f_ eO EV) s3 cDg p13 H2 QK p1 cDg H3 aVz rd Qb dr kE q1 OZ QO fa fF wU kE q2,dP aU4 p1 p2 DH hp2 p13 ah Ba p3 hp3,KM s04 cGN oB gW [fT ff.1,fT ff.2] hp2,aB (k _ p3 (qh uG s04.trans hp3) (hI.mono uG s04.trans hp3) (s04.free hp3) ah)] ll θ],(∀{X:Cx}{e:bZ}{te:TE}{pos:Pos}{es:mD}{tr:TJ}(he:Xb)(hr:dM3),PJ X (UN FormattedValue e (-1) aS::es) (ψ te tr)),(∃(x:aA)(l:aA)(e:aA)(dx:aA)(fs:yF)(L:fY)(xs:bM)(es:cQ),dZ dME dLI MX (dOP) bNN cG0 aHX cHj qP SV (kJ y es cGn) dMB dOi),zX kF kvs kk b yB w1 w2 w3 w4 ?_ ?_ dD u hu5 dJ7 rfl (w5 u hu5) _ dKl y ψ [bE hn,dJ7 ey (w6 hn),_,bX ey,dKl l0 ψ],bD nin (ψ∉χ) fN bE hin bNu cH9 aF ω hn bX hn eks (τ ρ=ξ) DR ζ if_neg nin,aCc k [by rw[ψ],by rw[χ],by rw[ω],aHv,bQ q1 (i<xQ),Ae bD hi1 dJq fW q1 hi2 (pU[bIr]?=aS) tQ cG bpj hk q1 cDn aHv aB h aC9 hi1 (iK[bIr]?) aGt a49 q1 aH hi1 aHv aB h] k τ,aB cH z1 z2 bR zs ψ dB bX z4 eF,
bNe ns cY vs x bX x ψ n r [cY vs x,by rw[χ]],dPI IQ (by rintro(⟨y,x⟩)jM b s'⟨hb',rfl,i,hz,hR⟩) dJY hlt (i<Ks) fN hM lP kW SZ bY q aF (List.drop_of_length_le dO a49 q) hz bX hz bD bur (i<xQ) aGT bpo a2p (i<IS) aGT bpp dJs bx4 hlt aEI hz hyx hrest bD hy (y=cCb) Tl IY bEO hyx hx (x=pU[i]) Tl IY aTA hyx LP hy hx cX he1 he2 cId bur dKA ((Ks-eG)+1) aGT bpw dJ8 Uq hb2 (e i) [aF iF hb2 hR,bYU,bO] [by rw[ψ],dKz hb2,bS],(bL aCd cX hs q h (by cases x with|fu=>rw[cF rx,dKq ψ χ ω Sl τ aX]|bl i=>rw[cF rx,dKt ρ bl cF ry ξ ζ]|int i=>rw[Lc,dKt η int aBC θ ι]|str i=>rw[Lc,dKq μ ν π υ]|byt i=>rw[Lc,cFU y byt j [aBC,by rw[ε]] aGz hs]|_=>rw[oT sE y aGz hs])),by rw[aI ψ,ED y dy ny ndy nyd],by ·rw[ψ];rw[χ];rw[ω];rw[τ];rw[ρ];rw[ξ];rw[ζ];rw[η];rw[θ];rw[ι];rw[μ];rw[ν];rw[π],by rw[_,SU o ho hc hd (id hit)],Kd ψ χ ω [by rw[τ],by rw[ρ],by rw[ξ],by rw[ζ],by rw[η]],by rw[kU,dP (am5 h ?_) x hx],by rw[aF ψ k,aI cJF],by rw[HF ψ,dPy hL.ex],by rw[ZT,aLY en hen ψ hp sl q g1 g2 g3 ys g4 g5 aPn],by rw[gX ?_,cII],by rw[Ms,dKm],vB ψ χ ω τ [by rw[ρ],by rw[ξ],by rw[ζ],by rw[η],by rw[θ],by rw[ι],by rw[μ],by rw[ν]],Ap ψ χ x i L d [by rw[ω],by rw[τ],by rw[ρ],by rw[ξ],by rw[ζ],by rw[η],by rw[θ],by rw[ι],by rw[μ]],by rw[aF ψ hv,bX hv],BF ψ [by rw[χ],by rw[ω],by rw[τ],by rw[ρ],by rw[ξ],by rw[ζ],by rw[η],by rw[θ],by rw[ι],by rw[μ],by rw[ν]] π,by rw[dP eO mJ ψ χ,aI aG0 CH DH χ ω aX,Jj τ Mv ρ p ξ],by rw[dD q hq,aJ ψ oB cG6 hq],by rw[bX ru,bX rz],by rw[cX t e iR aHj ψ r,bB e],by rw[cDv,kZ yl g5],by rw[cER,dL FA aGy (qh uG s03.trans hy) cEj s03.trans dK0],by rw[bNT,dPm],by rw[cFO,bM7],by rw[cGK,dKm],by rw[aQu hns ψ,eP i rfl (List.length_eq_one_iff.mp hns)],aGR ψ χ [by rw[ω],by rw[τ],by rw[ρ],by rw[ξ],by rw[ζ],by rw[η],by rw[θ]],by rw[dJE,Gm],by rw[dJE,dL o e],by rw[cJP,eP hlt' hen (Array.getElem?_eq_some_iff.mp hx)],by rw[aH hen,NS cFQ sS dOA aqi],by rw[lO raiseNew,oE aHD wpAny_handled dNI],by rw[dJ aY1 ψ,aI aT aFU _ aUZ kH cCR cCR _ rfl cCR],by rw[dR ψ (¬χ<ω) τ ρ,cJR aG c (12<ξ) VG bMf cK NQ bqc ζ aB (yes mY ye aZ lV z)],
by rw[Mz k H1,cV ψ k],by rw[dM1,aZ],by rw[UA aCK H1 k1,Vj bLE Lj k1.1 e aCH k1.1 cIN wd Xa (∃ψ χ ω τ ρ ξ:bJ,ζ) η aT bNv fE bNP i he θ ι],by rw[FX hL Re ψ L,Vb bM8 oP hz EV p1 hp1 s2 gW bI8 p12 dNs bI8 Ep p1 bI8 H2],by rw[dNU,dNy bL6],by rw[aI bNK p2 ψ hp2 χ,jS ah ax0 cK pl],by rw[dPw ψ,kZ hyl hLd],cEX (by rw[ψ]),by rw[dPG,aGF a8u _ _ _ _],by match j,h1 with|0,_=>rw[ψ]|1,_=>rw[ψ]|2,_=>rw[χ],by rw[dPH,aNo p' I1.list],by rw[gX dNk ψ,ZG _ Th χ _],by rw[OJ es e,cBG tI pG e dU kU],by rw[aF hnum hy,aB uJ dy hpz hy z2],by rw[kZ jl hJL.at_.rep,dA cK fA jl],by rw[Wp aT cGW ψ,dOz],by rw[EO y hy e_ hx,GW ψ χ hat hxs hy],by rw[cIj r1,bX ru],by rw[cJM hown,dKw wpAny_dictEntries],by rw[bE4 q hs,Aw q],by rw[dP WI r ψ χ ω,Fg aOs xu aQd Ci i y GK ix bMj gH ol ix (y=cI (τ bGo x)) aX9 ω ψ aYf aC5 ρ _ Mg hv ix hix aG lt (bGo<ξ) xX dE0 NQ xf ζ Nf GC _ rfl _ rfl η _ _ _ rfl rfl θ (bf (j:=ix.val) Wz (getD_at x lt)) Mf MZ ix hix ι],by rw[kZ j1l hJ1.rep,aJ kl iO hj,aHF e1 he1 E1 kk PR E1 kk a9k j1l kl],by rw[jJ aCs hsz,dKw wpAny_dictEpoch],by rw[aG e Ao ψ x,bW yY h'.get? ψ,aB (k a _ xR e)],by rw[vQ hf k hfv,aDy hfv ψ],by rw[aBR aMn (updateSeq S ψ),gX ?_],by rw[bIZ ψ χ q2 hl,bX q,bX q2],by rw[yN H1 ψ χ s1 ω τ ρ ξ ζ η,dJ QT,oQ s01 aCv wC tJ s1 MY θ (ag.ins θ ndx b o e) ι μ ν π υ ν],by rw[ZD wpAny_fieldsOf ho hd,aG hown dHL bFF iB],by rw[aI (aao ?_ dJG),aGM],by rw[gX (wpAny_newObj_type ?_ cCK),gZ aYv dKT ψ dNC],by rw[sX ψ k χ aBv cED xX ω NQ bx0 jl,sX τ k Vx aBv cED Am],by rw[iC H1 ys s1 hys M,bEp ψ rfl χ (ω<|KH lM i y hy τ ρ)],by rw[aJa cT dLW ψ dK8 cT,aF bFp hw2],by rw[bN (HO.tup.inj (Option.some.inj ψ)),eM aP],by rw[ON dDF dCi e,bB e],by rw[bFb r ψ u hr χ,bB hr],by rw[aMb rO hsm EG,aG lt vZ bV ψ χ,vU ψ EE ω lt],by rw[dG xps hx1 hx2 ψ,kZ hxl hx2],by rw[eP n1 n2 (a0u (t:=ψ) hfd χ ω τ hqq),aB LK fd _ _ rfl rfl DH hqq ω dLa cGf bg' lt wl ρ n1 n2],by rw[aJ hI (hI.mono oB zY vX ψ hU),UA aNn H2 vX ψ H3 hI],by rw[kZ ψ χ,aG bu4 bNk eW ω (fun{H'}ss=>τ),Bb aGf _ _ rfl ρ ξ fD ra hra jO ra ξ Fi ah dO bps hn (bu4 uG s1.trans hra) ?_],
bL2 ψ χ ω τ ρ ξ ζ [by rw[η],by rw[θ],by rw[ι],by rw[μ],by rw[ν],by rw[π],by rw[υ]],by rw[dPJ ψ χ f9 GV 0,bEJ (aqt hes) z1 z2 x1 e l1 l2 he,cF1 bB z2 MU k' AR hne (SV=0) bL bY z aF (List.length_eq_zero_iff.mp z) l2 bX l2 DO hne ON di l2 k uM cHa ψ ω τ aB ρ],by rw[kW (au2 o o' ψ ho),[jG o o' ho ψ,dJ (eu aXb ?_),bHT ak4 j,by rw[χ],by rw[ω],by rw[τ],vI aao ?_,dU aGM,vI eu aXb,bHT ak4 i2,dKB,bE k2,by rw[ρ],kW (au2 p p' ξ hp),qB jG o o' ho ib _ aGM,bY hJ,by rw[ζ]],bY hJ],by rw[bF1 ks H3 s3 hks,_,aF (List.take_of_length_le aX) hks],aWK ψ χ [by rw[ω],by rw[τ],by rw[ρ],by rw[ξ],by rw[ζ],by rw[η],by rw[θ],by rw[ι],by rw[μ],by rw[ν],by rw[π]],by rw[aG hle (pT≤b) bK zI ψ dE pH ba8 pH bg_,cIr],by rw[nQ σ3 H3 I3 n3 q3,dG m' hm w3 (hN σ3 H3 n3),lH m' hm uJ σ3 H3 I3 w3],by rw[eN ql ψ nds (Way.ah1 ndw hq),aJ wl2 ((Way.step W).len il nds),dA fA bFq wl2,bNx χ ω τ ρ],by rw[aG s3 Xe aA9 ψ QK sl aPj χ dHV bA HK (aqw ?_ ?_) cI1 xD aC4 fO,aIH cHw (.uQ (ys:=χ) (ss:=ω) (se:=aG5) (ts:=[]) (dy:=dy) (tp:=a) bKw cGc ?_ cGL ah bA aH h6 τ ?_ ?_ ?_ eF) aDs ρ ξ ζ],by rw[cIP ψ dPd y (by delta h2 y h3 h4 h5) nF bR h2 y cH h3 h4 dLG χ ω τ ρ ξ ζ η,Wn θ cI7 ι j hj μ cJu ν π υ],by rw[bEp qs e1 hq (ψ<|KH lM j v hj FV y t h1 h2 h3 h4 dLZ bS),aF e1 hv],by rw[aI SL y dy _ _ _ _ rfl ah ?_,iX H3 s3 hy,aI QT],Vj ψ χ ω [by rw[τ],by rw[ρ],by rw[ξ],by rw[ζ],by rw[η],by rw[θ],by rw[ι]],by rw[aMy p r v f had l m n hl hh h,dPF lettersFrom],by rw[by rintro(p)p' s⟨r1,s1,a1,h1⟩⟨r2,s2,a2,h2⟩,cX e1 e2 ψ],by rw[iC ψ χ ω τ ρ,aJ ξ (ak' (l:=ol) (f:=ζ) vJ η cK θ),bB ξ,aI dO5 ι,Jj μ Mv ψ x ν],by rw[ZT,aXk dz aPn,_,Mg hen y hy],by rw[aHv,zG hlt (i<xQ) dO bs5 hk a2p (i<IS) dO bs6 hk hi1 dJq fW hlt hi2 kC pU bIr (pU[i]) fW a2p,aG hc (cDV=aIx) vC (by push_cast),cDn],by rw[aHE,sE iR (T=ψ) ty,dL (χ s ω t) wO e cAc bG7 bG8 bG9 bHa bHb bHc bHd bHe aB XD e],(by cases x with|str ψ=>rw[χ]|ω τ=>rw[ρ]|ref p=>rw[ξ];rw[ζ];rw[η];rw[θ]|_=>rw[ι]),by rw[cFO,by dsimp only at b,aF n b],by rw[dJ8,cV gy h,Uq hb' (e i) [aIg hb',bYU,aH hc,cIO (ih eG dO bs4 hk eJ w A R _ cJi)] [aO6 pP,aHv,cDn,dKz hb',aB h]],
by rw[dPB,Xk dCs es,aJ ψ (χ es)],by rw[aV mv,dP (an' sm ?_) x hx,by simp only[di,ago,hx,IK,ψ]at h],by rw[aF kB hxj,bIZ ψ χ ω hxj,aDx τ aPK ρ ξ aXo gC a9k j1l kl ζ η χ τ],by rw[aDA ψ aZs NM cHf χ,dP eO ω L nL,cJS s0 cCY nL hL (NL cCY L []),aI Ld a gJ VU s0],by rw[aF aK9 hwl,bNU cJH hw1 hwl,aGb st ψ χ jM [pE χ jM,by rw[ω],by rw[τ],by rw[ρ],by rw[ξ],by rw[ζ],by rw[η],by rw[θ],by rw[ι],by rw[μ],by rw[ν],by rw[π],by rw[υ],by rw[ε]]],by rw[gQ ty hk.typ,cJD b hk,_,aV ψ],by rw[dPb hG,HF ψ,aMT bZj,Ms,aJ χ (ω hG)],aHZ ψ χ x L d [by rw[ω],by rw[τ],by rw[ρ],by rw[ξ]],by rw[dP eO mJ d2 f2,cJr aC0,dR f2' cF0 ψ χ],by rw[dA hw aLm k,aQt ψ H2 s2,GZ,bNp,bIv hv (χ u) ω τ ρ],by rw[zP (x_ bGz) htv,EF kk j hk hj rfl (bk2 dLP htv),aG hon gH bHG (en,kk) qS onT aH bEW dL hen hk,jS rO hon aFO av'],by rw[YC dy q0 a1 ψ,bFd c7.inv z xs' x0 es' e rfl hes E1 E2,kG aF z hk bX hk,QX l' z hl' rfl (a0m hes)],by rw[eP kv0 hc3 hcI,dP ψ t ht,cIg,aJ hI4 (hI.mono oB χ ht),aLH kvs kk b w1 w2 w3 w4 w5 w6 (bcp (v:=ω) hc hI4 FH ah hl0),_],by rw[aBR aMn (tryCatch (holding ψ (call xW ψ)) _),gX (wpAny_tryCatch (wpAny_holding χ)),Db kv2 ω τ rk2 jH2 sm bo3 he,aJb nS2 ρ nI2 ξ],by rw[QR ψ dl nl ndl χ Ee ψ dl ah,yN H1 fm q s1 nf nq nfq hl hf hq,dJ QT,cJy kP rE dl EY ψ ψ aIy ω dl nl ndl],by rw[dKy e1 t1 a1 h,dKy e2 t2 a2 h2,eP q1 q2 dNX,bS],by rw[bD gi kC iT EJ dIQ PL gj kC iT aFb (iT[aFb]' fD) PL,dPL ki kC ks EJ (ks[EJ]' fD) kj kC ks aFb (ks[aFb]' fD),cS uj huj ruj (rv.get kj),HJ ei (us[EJ]' dIV) ui aGX hui ej (us[aFb]' dIV) uj aGX huj,aQ ei ej,aJ rl ψ],by rw[aG fr bMZ dZ bMc pY sl pY q bT hb cH lV Am (abt hb h5) (abt hb h3),cS r1 r3 r4 (fr b5),cS y1 y3 y4 (fr b4),cS t1 t3 t4 (fr na)],by rw[eN nS Mp I.pin S bNI nI Mp I.pin It oI,bD fI aXN It Uh nI.2 hIt.2 fS aXN S Uh nS.2 hS.2,oE dLD aWx bZR,dPO aC7 nS.1 ψ],by rw[Ge v h' tk' hP bv4 hk',aHF ψ χ ps ω (ps[ω]),aHF τ ρ iT ω PR iT ω ξ ζ η,NN hv v aNt ψ gT aJ hP hP uB List.getElem?_toArray kB χ hP aYu hP,nQ oI' bv5 hoc hod (id bv4.1)],by rw[MP s3 H2 QK p3 bHV ψ χ pK n3 h3 (NL QK p3 bHV ψ χ p3 ω) bNg,mN FG p3 _ H3,dP eO EV p4 n4,MP s4 H3 bJ5 pK n4 h4 (NL bJ5 p4 [10]) ah,bNW Fl p3 p4 zC h3 h4 τ ρ ξ],
(by rw[by(obtain⟨dr,A1,B1,xs,q1,q2,_,q3,_⟩:=hRd),_,FV l' g1 g2 g3 g4 g5 (az0 hrd),_,NN hll l' ll aO3 cV yz anp aF g1 anp Qk anp aF g2 anp Except.ok.inj anp]),by rw[by rintro(p)p' s⟨o,ho,h1⟩⟨o2,ho2,h2⟩,aF ho ho2,cF ho2,cJn],(by rw[_,by(obtain⟨dz,l2,e2,r2,p2,zs,rs2,hz,hL2,he2,bkv,cew,cex,hd2⟩:=ψ),Ms,kZ hzl bkv,eN dl dFq gl hGg.ok.len]),by rw[bHT yn bc,bYD ap2,kW bb8,aWP e (by rfl),aWP e' (by rfl),bE mg,QW (eu (bi5 _) (yn ?_)) u,QW (eu aXb (ak4 ?_)) i,dKB,bE k],by rw[aCn us vs H2 r1,_,Ip v rfl (∃v,IV v) Am,Db ψ χ rfl ω τ hT go q1,_,dG u rfl ru (vals1 r1),bX ru,sX TN y BE aZg Gv y hy e dOX dLp dU aWc aYE aZ,aI (kws_cons (a6x I1 T hT hq TN aAL ?_)),yK f c H3 s2 pm ctv I2 sp ti,_,rG kws_nil])
end
def Z.ex (s : Lean.Syntax) : Lean.MacroM Lean.Syntax := let t := T.of tb; if s.getPos?.isSome || has t 9999 s then return (go t 9999 false s).headD s else Lean.Macro.throwUnsupported
universe u v w x
section
local macro_rules (kind := Lean.Parser.Command.declaration) | s => Z.ex s
local macro_rules (kind := Lean.Parser.Command.variable) | s => Z.ex s
local macro_rules (kind := Lean.Parser.Command.mutual) | s => Z.ex s
section
namespace EE
theorem autr(h:0=0:=by rfl):0=0:=h
theorem autd(h:0=0:=by decide):0=0:=h
noncomputable def ep1{α:gU} [tY](P:WW):α:=nM Classical.epsilon (¬P x)
def Pt1{α:gU}(P:WW)(x:α):aE:=P x
noncomputable abbrev Al1{α:gU}(P:WW):aE:=VE eCB
theorem bgq{α:gU} [tY]{P:WW}(h:Pt1 P (ep1 P)):VE (P x):=tL (Classical.byContradiction bT n (dA8 (p:=tL (¬P x)) aT x n h))
theorem ck5{α:gU}{P:WW}{x:α}(h:P x):eCB:=h
noncomputable def b8'{α:gU}{β:kL} [tY] [xH](P:tZ):α:=(ep1 cXk).1
noncomputable def b9a{α:gU}{β:kL} [tY] [xH](P:tZ):β:=(ep1 cXk).2
def Pt2{α:gU}{β:kL}(P:tZ)(a:α)(b:β):aE:=yZ P
noncomputable abbrev Al2{α:gU}{β:kL}(P:tZ):aE:=∀x y,eJe
theorem cgm{α:gU}{β:kL} [tY] [xH]{P:tZ}(h:Pt2 P (b8' P) (b9a P)):∀x y,P x y:=YW y cS6 cXk (x,y)
theorem ck6{α:gU}{β:kL}{P:tZ}{x:α}{y:β}(h:P x y):eJe:=h
noncomputable def b9c{α:gU}{β:kL}{γ:sB} [tY] [xH] [FO](P:OB):α:=(ep1 bUJ).1
noncomputable def b9d{α:gU}{β:kL}{γ:sB} [tY] [xH] [FO](P:OB):β:=vY (ep1 bUJ)
noncomputable def b9e{α:gU}{β:kL}{γ:sB} [tY] [xH] [FO](P:OB):γ:=(ep1 bUJ).2.2
noncomputable def Pt3{α:gU}{β:kL}{γ:sB}(P:OB)(a:α)(b:β)(c:γ):aE:=P a b c
noncomputable abbrev Al3{α:gU}{β:kL}{γ:sB}(P:OB):aE:=∀x y z,eRF
theorem cgn{α:gU}{β:kL}{γ:sB} [tY] [xH] [FO]{P:OB}(h:Pt3 P (b9c P) (b9d P) (b9e P)):∀x y z,eMm:=QS x y cS6 bUJ (x,y,z)
theorem ck7{α:gU}{β:kL}{γ:sB}{P:OB}{x:α}{y:β}{z:γ}(h:eMm):eRF:=h
noncomputable def b9g{α:gU}{β:kL}{γ:sB}{δ:KU} [tY] [xH] [FO] [Op](P:HW):α:=(ep1 cFF).1
noncomputable def b9h{α:gU}{β:kL}{γ:sB}{δ:KU} [tY] [xH] [FO] [Op](P:HW):β:=vY cQG
noncomputable def b9i{α:gU}{β:kL}{γ:sB}{δ:KU} [tY] [xH] [FO] [Op](P:HW):γ:=Ea cQG
noncomputable def b9j{α:gU}{β:kL}{γ:sB}{δ:KU} [tY] [xH] [FO] [Op](P:HW):δ:=(cQG).2.2.2
def Pt4{α:gU}{β:kL}{γ:sB}{δ:KU}(P:HW)(a:α)(b:β)(c:γ)(d:δ):aE:=P a b c d
noncomputable abbrev Al4{α:gU}{β:kL}{γ:sB}{δ:KU}(P:HW):aE:=eSF eXB
theorem cgo{α:gU}{β:kL}{γ:sB}{δ:KU} [tY] [xH] [FO] [Op]{P:HW}(h:Pt4 P (b9g P) (b9h P) (b9i P) (b9j P)):eSF eUd:=kI x y z t cS6 cFF (x,y,z,t)
theorem ck8{α:gU}{β:kL}{γ:sB}{δ:KU}{P:HW}{x:α}{y:β}{z:γ}{t:δ}(h:eUd):eXB:=h
noncomputable def exv{α:gU} [tY](p:WW):α:=Classical.epsilon p
noncomputable def Qt{α:gU}(p:WW)(G:aE)(x:α):aE:=dSx
noncomputable abbrev QA{α:gU}(p:WW)(G:aE):aE:=VE eNH
theorem exE{α:gU} [tY]{p:WW}{G:aE}(h:eAj)(k:Qt p G (exv p)):G:=dID k
theorem idq{α:gU}{p:WW}{G:aE}{x:α}(h:dSx):eNH:=h
noncomputable def bxk{α:gU}{β:kL} [tY] [xH](p:tZ):α:=Xr x1 (∃x2,aPB)
noncomputable def b9l{α:gU}{β:kL} [tY] [xH](p:tZ):β:=Xr x2 (p (bxk p) x2)
def Qt2{α:gU}{β:kL}(p:tZ)(G:aE)(x1:α)(x2:β):aE:=aPB→G
noncomputable abbrev QA2{α:gU}{β:kL}(p:tZ)(G:aE):aE:=∀x1 x2,eKu
theorem ck9{α:gU}{β:kL} [tY] [xH]{p:tZ}{G:aE}(h:cWH)(k:Qt2 p G (bxk p) (b9l p)):G:=k dLU
theorem ck_{α:gU}{β:kL}{p:tZ}{G:aE}{x1:α}{x2:β}(h:aPB→G):eKu:=h
noncomputable def bsl{α:gU}{β:kL}{γ:sB} [tY] [xH] [FO](p:OB):α:=Xr x1 (∃x2 x3,aPt)
noncomputable def bxl{α:gU}{β:kL}{γ:sB} [tY] [xH] [FO](p:OB):β:=Xr x2 (∃x3,p cLN x2 x3)
noncomputable def b9n{α:gU}{β:kL}{γ:sB} [tY] [xH] [FO](p:OB):γ:=Xr x3 (p cLN (bxl p) x3)
noncomputable def Qt3{α:gU}{β:kL}{γ:sB}(p:OB)(G:aE)(x1:α)(x2:β)(x3:γ):aE:=aPt→G
noncomputable abbrev QA3{α:gU}{β:kL}{γ:sB}(p:OB)(G:aE):aE:=∀x1 x2 x3,eSf
theorem ck'{α:gU}{β:kL}{γ:sB} [tY] [xH] [FO]{p:OB}{G:aE}(h:cYF)(k:Qt3 p G cLN (bxl p) (b9n p)):G:=eBb k
theorem cla{α:gU}{β:kL}{γ:sB}{p:OB}{G:aE}{x1:α}{x2:β}{x3:γ}(h:aPt→G):eSf:=h
noncomputable def bmc{α:gU}{β:kL}{γ:sB}{δ:KU} [tY] [xH] [FO] [Op](p:HW):α:=Xr x1 (∃x2 x3 x4,bJp)
noncomputable def bsm{α:gU}{β:kL}{γ:sB}{δ:KU} [tY] [xH] [FO] [Op](p:HW):β:=Xr x2 (∃x3 x4,dGw bOW)
noncomputable def bxm{α:gU}{β:kL}{γ:sB}{δ:KU} [tY] [xH] [FO] [Op](p:HW):γ:=Xr x3 (∃x4,p bOW cLO x3 x4)
noncomputable def b9p{α:gU}{β:kL}{γ:sB}{δ:KU} [tY] [xH] [FO] [Op](p:HW):δ:=Xr x4 (p bOW cLO (bxm p) x4)
noncomputable def Qt4{α:gU}{β:kL}{γ:sB}{δ:KU}(p:HW)(G:aE)(x1:α)(x2:β)(x3:γ)(x4:δ):aE:=cNz
noncomputable abbrev QA4{α:gU}{β:kL}{γ:sB}{δ:KU}(p:HW)(G:aE):aE:=eSG eWE
theorem clb{α:gU}{β:kL}{γ:sB}{δ:KU} [tY] [xH] [FO] [Op]{p:HW}{G:aE}(h:cZy)(k:Qt4 p G bOW cLO (bxm p) (b9p p)):G:=k eBb dA8
theorem clc{α:gU}{β:kL}{γ:sB}{δ:KU}{p:HW}{G:aE}{x1:α}{x2:β}{x3:γ}{x4:δ}(h:cNz):eWE:=h
theorem cgp{a b c G:aE}(h:dZ a b c)(k:jW a b c G):G:=k h.1 h.2.1 h.2.2
theorem cgq{a b c d G:aE}(h:jU a b c d)(k:qQ a b c d G):G:=k h.1 aQv aQ5 cF3
theorem cgr{a b c d e G:aE}(h:eX a b c d e)(k:VH a b c d e G):G:=k h.1 aQv aQ5 Ea h.2 h.2.2.2.2
theorem cgs{a b c d e f G:aE}(h:zA a b c d e f)(k:cA a b qQ c d e f G):G:=k h.1 aQv aQ5 Ea h.2 aBX h.2 aVh h.2
theorem id2{α:gU}{β:kL}{P:tZ}:kQ a b yZ P yZ P:=AW h h
theorem cld{a b G:aE}(h:a∧b)(k:cA a b G):G:=k h.1 h.2
theorem cgt{α:gU}{β:kL}(p:α×β):∃a b,p=(a,b):=kM p.1 p.2 rfl
noncomputable def Wrap(P:aE):aE:=P
theorem wrap{P:aE}(h:P):Wrap P:=h
theorem unwrap{P:aE}(h:Wrap P):P:=h
@[elab_as_elim]theorem rwE{α:aQw}{M:WW}{a b:α}(h:tW)(k:M b):M a:=h▸k
@[elab_as_elim]theorem rwS{α:aQw}{M:WW}{a b:α}(h:b=a)(k:M b):M a:=h▸k
theorem exR{α:aQw}{p:WW}{G:aE}(h:eAj)(k:As (p x) G):G:=bDM k
theorem cle{α:aQw}{β:DZ v}{p:tZ}{G:aE}(h:cWH)(k:kQ x1 x2 aPB G):G:=Yy a Yy b (k a b h)
theorem clf{α:aQw}{β:DZ v}{γ:DZ w}{p:OB}{G:aE}(h:cYF)(k:∀x1 x2 x3,aPt→G):G:=Yy a Yy b Yy c (k a b c h)
theorem clg{α:aQw}{β:DZ v}{γ:DZ w}{δ:DZ x}{p:HW}{G:aE}(h:cZy)(k:eSG cNz):G:=Yy a Yy b Yy c Yy d (k a b c d h)
theorem ax.{u1,u2}{A1:Xl}{A2:Xm}{p:lR A1 A2}(x1:A1)(x2:A2)(h:aPB):cWH:=kM x1 x2 h
theorem cw.{u1,u2,u3}{A1:Xl}{A2:Xm}{A3:aDC}{p:A1→lR A2 A3}(x1:A1)(x2:A2)(x3:A3)(h:aPt):cYF:=sC x1 x2 x3 h
theorem jh.{u1,u2,u3,u4}{A1:Xl}{A2:Xm}{A3:aDC}{A4:aJe}{p:cA A1 A2 lR A3 A4}(x1:A1)(x2:A2)(x3:A3)(x4:A4)(h:bJp):cZy:=qY x1 x2 x3 x4 h
theorem xa.{u1,u2,u3,u4,u5}{A1:Xl}{A2:Xm}{A3:aDC}{A4:aJe}{A5:aQx}{p:eMp lR A4 A5}(x1:A1)(x2:A2)(x3:A3)(x4:A4)(x5:A5)(h:eZc):∃x1 x2 x3 x4 x5,eZc:=SK x1 x2 x3 x4 x5 h
theorem agk.{u1,u2,u3,u4,u5,u6}{A1:Xl}{A2:Xm}{A3:aDC}{A4:aJe}{A5:aQx}{A6:aZW}{p:qQ A1 A2 A3 A4 lR A5 A6}(x1:A1)(x2:A2)(x3:A3)(x4:A4)(x5:A5)(x6:A6)(h:fAA):∃x1 x2 x3 x4 x5 x6,fAA:=zM x1 x2 x3 x4 x5 x6 h
theorem ajx.{u1,u2,u3,u4,u5,u6,u7}{A1:Xl}{A2:Xm}{A3:aDC}{A4:aJe}{A5:aQx}{A6:aZW}{A7:bN0}{p:VH A1 A2 A3 A4 A5 lR A6 A7}(x1:A1)(x2:A2)(x3:A3)(x4:A4)(x5:A5)(x6:A6)(x7:A7)(h:fBy):∃x1 x2 x3 x4 x5 x6 x7,fBy:=CG x1 x2 x3 x4 x5 x6 x7 h
theorem bsn.{u1,u2,u3,u4,u5,u6,u7,u8}{A1:Xl}{A2:Xm}{A3:aDC}{A4:aJe}{A5:aQx}{A6:aZW}{A7:bN0}{A8:cJX}{p:eZY lR A7 A8}(x1:A1)(x2:A2)(x3:A3)(x4:A4)(x5:A5)(x6:A6)(x7:A7)(x8:A8)(h:fB9):∃x1 x2 x3 x4 x5 x6 x7 x8,fB9:=SL x1 x2 x3 x4 x5 x6 x7 x8 h
theorem a88.{u1,u2,u3,u4,u5,u6,u7,u8,u9}{A1:Xl}{A2:Xm}{A3:aDC}{A4:aJe}{A5:aQx}{A6:aZW}{A7:bN0}{A8:cJX}{A9:DZ u9}{p:eMp qQ A4 A5 A6 A7 lR A8 A9}(x1:A1)(x2:A2)(x3:A3)(x4:A4)(x5:A5)(x6:A6)(x7:A7)(x8:A8)(x9:A9)(h:fCH):∃x1 x2 x3 x4 x5 x6 x7 x8 x9,fCH:=LK x1 x2 x3 x4 x5 x6 x7 x8 x9 h
theorem a4s.{u1,u2,u3,u4,u5,u6,u7,u8,u9,u10}{A1:Xl}{A2:Xm}{A3:aDC}{A4:aJe}{A5:aQx}{A6:aZW}{A7:bN0}{A8:cJX}{A9:DZ u9}{A10:DZ u10}{p:eZY cA A7 A8 lR A9 A10}(x1:A1)(x2:A2)(x3:A3)(x4:A4)(x5:A5)(x6:A6)(x7:A7)(x8:A8)(x9:A9)(x10:A10)(h:fC0):∃x1 x2 x3 x4 x5 x6 x7 x8 x9 x10,fC0:=OD x1 x2 x3 x4 x5 x6 x7 x8 x9 x10 h
theorem ao{a1 a2 a3:aE}(h1:a1)(h2:a2)(h3:a3):dZ a1 a2 a3:=kM h1 h2 h3
theorem bp{a1 a2 a3 a4:aE}(h1:a1)(h2:a2)(h3:a3)(h4:a4):jU a1 a2 a3 a4:=sC h1 h2 h3 h4
theorem cu{a1 a2 a3 a4 a5:aE}(h1:a1)(h2:a2)(h3:a3)(h4:a4)(h5:a5):eX a1 a2 a3 a4 a5:=qY h1 h2 h3 h4 h5
theorem gp{a1 a2 a3 a4 a5 a6:aE}(h1:a1)(h2:a2)(h3:a3)(h4:a4)(h5:a5)(h6:a6):eXs a6:=SK h1 h2 h3 h4 h5 h6
theorem adc{a1 a2 a3 a4 a5 a6 a7:aE}(h1:a1)(h2:a2)(h3:a3)(h4:a4)(h5:a5)(h6:a6)(h7:a7):Et a1 a2 a3 a4 a5 a6 a7:=zM h1 h2 h3 h4 h5 h6 h7
theorem anr{a1 a2 a3 a4 a5 a6 a7 a8:aE}(h1:a1)(h2:a2)(h3:a3)(h4:a4)(h5:a5)(h6:a6)(h7:a7)(h8:a8):jU a1 a2 a3 eX a4 a5 a6 a7 a8:=CG h1 h2 h3 h4 h5 h6 h7 h8
theorem ba0{a1 a2 a3 a4 a5 a6 a7 a8 a9:aE}(h1:a1)(h2:a2)(h3:a3)(h4:a4)(h5:a5)(h6:a6)(h7:a7)(h8:a8)(h9:a9):MX a1 a2 a3 a4 a5 a6 a7 a8 a9:=SL h1 h2 h3 h4 h5 h6 h7 h8 h9
theorem aca{a1 a2 a3 a4 a5 a6 a7 a8 a9 w_:aE}(h1:a1)(h2:a2)(h3:a3)(h4:a4)(h5:a5)(h6:a6)(h7:a7)(h8:a8)(h9:a9)(h10:w_):eXs eX a6 a7 a8 a9 w_:=LK h1 h2 h3 h4 h5 h6 h7 h8 h9 h10
theorem ns{α:gU}{x:α}{G:aE}(h:aS=aO x):G:=aDD
theorem sn{α:gU}{x:α}{G:aE}(h:aHc=aS):G:=aDD
theorem ft{G:aE}(h:bI=aY):G:=aDD
theorem tf{G:aE}(h:aY=bI):G:=aDD
theorem nc{α:gU}{x:α}{l:eK}{G:aE}(h:[]=HS):G:=aDD
theorem cn{α:gU}{x:α}{l:eK}{G:aE}(h:HS=[]):G:=aDD
theorem oe{α:gU}{β:kL}{x:α}{y:β}{G:aE}(h:Except.ok x=Except.error y):G:=aDD
theorem eo{α:gU}{β:kL}{x:α}{y:β}{G:aE}(h:Except.error y=Except.ok x):G:=aDD
theorem ct{α:gU}{G:aE}(f:PN Nat){a b:α}(h:tW)(n:Nat.beq (f a) (f b)=bI):G:=bL bB h aF Nat.beq_refl n sE n
end EE
end
section
open PySem
noncomputable instance:rS cM:=dPZ
noncomputable instance:rS bC:=dPZ
noncomputable instance:rS aK:=⟨PySem.W.aWorld 1⟩
noncomputable instance:rS Thread:=XC
noncomputable instance:rS PySem.Model:=XC
noncomputable instance:rS PySem.Ctx:=XC
end
section
noncomputable instance:rS aEH:=XC
noncomputable instance:rS fY:=⟨aKI⟩
noncomputable instance:rS lF:=⟨sC 0 [] 0 0⟩
noncomputable instance:rS HZ:=⟨BI []⟩
noncomputable instance:rS dI:=⟨Yt [] 0⟩
noncomputable instance:rS IA:=⟨BI aKI⟩
noncomputable instance:rS Si33.Piece:=XC
noncomputable instance:rS aSV:=XC
end
section
local macro_rules (kind := Lean.Parser.Tactic.intro) | s => Z.mIntro s
local macro_rules (kind := Lean.Parser.Tactic.delta) | s => Z.mDelta s
local macro_rules (kind := Lean.Parser.Tactic.obtain) | s => Z.mObtain s
local macro_rules (kind := Lean.Parser.Tactic.rintro) | s => Z.mRintro s
local macro_rules (kind := Lean.Parser.Tactic.rwSeq) | s => Z.mRw s
local macro_rules (kind := Lean.Parser.Tactic.decide) | s => Z.mDecide s
local macro_rules (kind := Lean.Parser.Tactic.rcases) | s => Z.mRcases s
section
namespace L2
open PySem PySem.Spec PyProof.Rows
abbrev Key:=Sum Int Str
def amd:cA Key bU gE|aPJ,v=>Value.isInt k v|aQY,v=>Value.isStrOf x v
def bxp(w:aK):aVP Key|aPJ=>hashInt k|aQY=>hashStr w x
theorem m9:Li k Key v bU cQU v ((∃i t,k=aSW i∧v=bCf)∨(∃x t,k=dA9 x∧v=bR1))|gB i,v,h=>eMh (Value.isInt_shape (k:=i) (v:=v) h) (.inl) i|aQY,v,h=>eMh (Value.isStrOf_shape (x:=x) (v:=v) h) (.inr) x
theorem apw(i:Int)(t:Tok):amd gB i (.int i t)=aY:=HB amd Value.isInt
theorem bso(a b:Int):aJV dYZ a b:=bK vL a b SC bB e cG AR h dYZ Ur (e (Sum.inl.inj q)) DO h aB oU (beq_eq_false_iff_ne.mpr e)
theorem bsp(a b:Str):NE dY0 aKa:=Wo vL a b bB e cG AR h dY0 Ur (e (Sum.inr.inj q)) aQ dQx dQq
theorem bsq(a:Int)(b:Str):aPO dLx dA9:=dTj
theorem bsr(a:Str)(b:Int):aPO dLy aSW:=dTj
def df(eJ:aM)(w:aK):PySem.KeyKind eJ w Key where
 is:=amd
 hash:=bxp w
 inj:=oW v a b ha hb Wo bDv (m9 ha) eKI oS cVu aH e1 aB XD e eKI jB aB XD e cVu aH e1
 byValue:=fR k v h dR6 bDv (m9 h)
 bDN:=bG hv h Ax bDv (m9 hv) jN wpAny_pyHash_int jN wpAny_pyHash_str
 bDO:=fR hu hv h Wo bDv (m9 hu) eX2 fP aF bso h jN wpAny_eqBool_int aF bsq h aB (SeqAt.EqAt.int_str i t y u _ _ _ _ h) eX2 fP aF bsr h aB (SeqAt.EqAt.str_int x t j u _ _ _ _ h) aF bsp h jN wpAny_eqBool_str
 «strs»:=oW k x t v h bK bIA (m9 h) i u e y jK aB XD e cVu bB e1 Hv v
end L2
namespace L2
open PySem PySem.Spec PyProof.Rows
inductive V where|fu|bl(b:gE)|int(i:Int)|str(x:Str)|byt(b:dQN)|flt(b:UInt64)|ref(a:aA)|ty(n:uR)deriving dBa
def RelV:dXT|iE,u=>u=aEJ|Hh,u=>eEA|zF,u=>aHj bCf|KR,u=>aHj bR1| .byt b,u=>aHj (Value.bytes b t)| .flt b,u=>aHj (Value.float b t)|jT,u=>Tc| .ty n,u=>eI4
abbrev Vals:lR aN eQ:=Paired RelV
def ajy:lR bJ Mn|VT,aHy=>CF|aS,aS=>Ps|_,_=>oJ
def KV{κ:cJ}:lR wK Pi:=Paired cTb cOz (κ×bU) (p.1=q.1∧dVe)
def kV:Key→V|gB i=>zF|aQY=>KR
inductive HO where|lst(xs:aN)|tup(xs:aN)|dK(kvs:sT)|dT(kvs:jQ)|set(S:aJd Int)(n:Nat)|ins(C dx:aA)(fs:yF)|own(x:aA)|xd(fs:yF)|met(f x:aA)|rng(lo hi:Int)|ox(o:Obj)(u:HO)|tbl(ps:qA)|ext(φ:YV aU)
abbrev Hp:=aAW aA HO
section
variable(P:aM)(w:aK)
def jk(H:Hp)(h:aU)(a:aA):bAZ|Ln=>NT∧AX its eQ n Nat (aPk∧Ao cG5)|MJ=>NT∧GK its eQ aPk dYn h|GN=>cQp|ES=>cDh GK xs Pm sJ cTb bPS (yU×aVo) eT2 kvs xs fBj (bVJ=Zg (entryOfKey (tupleKind aWX)))|eEp=>h.SetOf (intKind P w) a S n|aNm=>eX eBv bL9 (dx≠a) Ao cRu wF mA cWE cYd eTe|EY _=>eKm| .xd fs=>eY mA (h.Ns1 a mA) cYd| .rng lo hi=>∃t u v,Ao EL Pw Zh dHt|bKC=>Ao o∧jk H h a u|aNi=>Ao cTR| .met f x=>Ao cS3 yT| .ext φ=>dZ (φ h) eKm (∀h1 h2:aU,cA (φ h1) iJ o yY h1.get? o yY h2.get? o (φ h2))
def HOk(H:Hp)(h:aU):aE:=kQ a o BL o bDj o
end
def Rd(H:Hp)(a:aA)(u:HO):aE:=BL u∨aG1 BL bKC
theorem Rd.ok{P:aM}{w:aK}{H:Hp}{h:aU}{a:aA}{u:HO}(r:aNS u)(x:RQ):bDj u:=bK LL r r o r jB aB (x a u r) bDR q (x a _ r) aB q
structure Un(fs ex:bM)(H H':Hp)(h h':aU):aE where
 sF:eJm (b∉fs) aHC
 XF:eJm yC fs eIt
 OE:ZV Wu cA xB bMb aN6
 Px:aF8 Wu bMb eIu
 aEK:cYs
 ams:eXw
 apx:ePj
def trk(h:aU)(H:Hp):bM:=(aGs SM).filter bT a CJ (H a)
def ax'(h:aU)(H:Hp):aU:=PySem.W.hideAll h (trk h H)
theorem bcy(h:aU)(H:Hp):Bx bSE=SM:=qR PySem.W.hideAll_size
theorem bgr{h:aU}{H:Hp}{b:aA}{o:Obj}(e:Wu)(n:xB):aO4 bSE:=PySem.W.hideAll_get _ e bT hm bL aG q sN (H b) ((List.mem_filter.mp hm).2) aF n q eM q
theorem bmd{h:aU}{H:Hp}{b:aA}{o:Obj}(e:aO4 bSE):Wu∧xB:=bL aG e' Wu (PySem.W.of_hideAll (trk h H) e) aI eO e' bBk q (H b) x bD hm yC (trk h H) dSU dQe List.mem_range.mpr e' fW q z Sv ((bSE).get?) (PySem.W.hideAll_none (trk h H) hm) aF z e kU
end L2
namespace L2
open PySem PySem.Spec PyProof.Rows
structure Mod(K:aL)(mg:bF)(aW:aU):aE where
 kin:cOh
 glob:dLi
 blt:eY mb (base.Ns aSY mb) eUa
 nolimit:base.NoLimit
def frs(l:FN):bM:=bVM (·.frame)
abbrev XK:=aH3 MD yH
abbrev VK:=aYF
end L2
namespace L2
open PySem PySem.Spec PyProof.Rows
def bi(K:aL)(H:Hp)(a:aA)(xs:aN):aE:=eWT Ln zA dT1 (aEL=VL) dRj dSy cKT cN3
def ly(K:aL)(H:Hp)(a:aA)(xs:aN):aE:=eWT MJ eX dT1 cOA dSy cKT cN3
end L2
namespace L2
open PySem PySem.Spec PyProof.Rows
structure Cls(K:aL)(C:aA):aE where
 pg:bTG aKL
 hd:bQM
 po:cOJ
 sa:cV0
def ajz(K:aL)(C:aA)(f:Str):aE:=cSf
end L2
namespace L2
open PySem PySem.Spec PyProof.Rows
structure o5(k:Nat)(A:cM):aE where
 hd:Bk
 dp:dP0 eM8
 un:Dn (Py+16*k+200)
abbrev Sp:=cA aN Hp lR VK XK
abbrev CXT:=qQ FN Hp bC XK cU
structure aya(P:aM)(w:aK)(K:aL)(mg:bF)(aW:aU)(A:cM)(lG:FN)(s:bC)(H:Hp):aE where
 frames:dQi lG
 mod:Mod K mg aW
 bs:ZV uF base.get? dXI
 bsz:base.objs.size≤fJ
 apy:cJV aW lG
 frf:∀b∈frs lG,xB
 hok:bHB kO
 Pz:aXn bDU
def CE(lG:FN)(P:aM)(w:aK)(H:Hp)(s:bC)(Q:VK)(u:bU)(s':bC):aE:=∃v H',bVP=aKM∧eX cPe bTH (frs lG) [] XG (HOk P w H' XG) CF UF v
def CR(CX:CXT)(lG:FN)(P:aM)(w:aK)(H:Hp)(s:bC)(Q:VK)(E:XK)(r:Result)(s':bC):aE:=aKN r dSh fBU (.ok _) oJ (.SO e) bUy lG e s'
structure ajh(P:aM)(w:aK)(K:aL)(mg:bF)(aW:aU)(CX:CXT)(k:Nat)(f:aA)(fd:EA)(ps:iQ)(sp:Sp):aE where
 len:aSK
 run:∀(A:cM)(lG:FN)(s:bC)(H:Hp)(SQ:Args)(us:eQ)(vs:aN)(Q:VK)(E:XK),VH aDl aSM A bSn s SQ dXC aD4 aVx aH5 cNN A (.Qa xW SQ) (CR CX lG P w H s Q E) s
def Binds(K:aL)(fd:EA)(ps:iQ)(ds:eQ):aE:=qG s bC us eQ cA aRP (bV bB4=pF) bSn s BI us (ps.zip bB4)
theorem Binds.all{K:aL}{fd:EA}{ps:iQ}(h:cBy pF bHC fd us bHF ps.zip us):aQi:=aEM s us hl iV yJ Ij hl (.of_eq) (h us hl)
section
variable{X:Cx}{CX:CXT}{k:Nat}{f C:aA}{fd:EA}{ps:iQ}{sp:Sp}{dvs:aN}{ds:eQ}{E:XK}{x m:Str}{p pos CK:Pos}{e o:bZ}{es:mD}{ta:TE}{t:TA}
structure Mk(K:aL)(C f:aA):aE where
 makes:cOK
 init:cSg
 fn:cOx
 kp:eDz
end
end L2
namespace L2
open PySem PySem.Spec PyProof.Rows
def inClass(s:cC)(j:Nat):cC:=xJ s (.ClassDef _ _ _ sV _ _ _ _ _ _ _) (body.getD j cTp) _ cTp
def yt(s:cC):Ik:=xJ s cJz (.FunctionDef) a _ _ a _ ({posonlyargs:=[],SQ:=[],vararg:=aS,kwonlyargs:=[],kw_defaults:=[],kwarg:=aS,defaults:=[]})
def qy(s:cC):aDJ:=xJ s (.FunctionDef _ _ b _ _ _ _ _ _ _) b _ []
def au(s:cC):oX:=xJ s cJz (.FunctionDef) _ sc _ sc _ ({mK:=Ui,wM:=[],isGenerator:=bI,isCoroutine:=bI})
abbrev CX0:CXT:=fun _ _ _ _ _ _=>oJ
structure Fun(K:aL)(x sW:Str)(st:cC)(f:aA)(fd:EA):aE where
 ex:∃(oc:bU)(od:yH)(kV doc pm:bU)(an:yH)(cdv ct:bU)(osl:FR),AG fd bUH bRM fd cSu
 kp:aEq
section
variable{P:aM}{w:aK}{K:aL}{mg:bF}{aW:aU}
theorem bgu{x sW:Str}{st:cC}{f:aA}{oc:bU}{od an:yH}{osl:FR}{kV doc pm cdv ct:bU}(l:bRM bUH)(c:cSu)(k:aEq):cI3 sW bUH:=aT (_root_.EE.a88 oc od kV doc pm an cdv ct osl uN l c) k
end
def ag(H H':Hp):aE:=ZV DI aHg
end L2
end
section
namespace WH
open PySem PySem.Spec PyProof.Rows L2
def vn(t:aR):aN:=eQY Mh aHJ
structure Nums(mg:bF):aE where
 aj0:nU "LINE_END" 10
 ans:nU "BLANK" 32
 bxr:nU "HASH" 35
 bpg:nU "COMMA" 44
 b9s:nU "DASH" 45
 DOT:nU "DOT" 46
 bph:nU "SLASH" 47
 bsv:nU "EQUALS" 61
 bxs:nU "ARROW" 62
 bcz:nU "LAST_SIGN" bVQ
 a03:nU "LONGEST_WORD" 200
 a04:nU "LONGEST_TEXT" aEN
 ant:nU "LONGEST_FORM" 4
 a89:nU "MOST_FORMS" 400
structure gz(mg:bF):aE where
 len:KY aEO
 all:KY "all"
 any:KY "any"
 ord:KY "ord"
 str:KY aSZ
 tuple:KY Zi
 list:KY yI
 range:KY Pw
 enumerate:KY OG
 zip:KY Zj
 reversed:KY aEP
 sorted:KY aKO
 min:KY aEQ
 max:KY "max"
 isinstance:KY aS0
structure Def(P:aM)(w:aK)(K:aL)(mg:bF)(aW:aU)(x:Str)(k:Nat)(ps:iQ)(sp:Sp):aE where
 ex:QG f fd dXh bQV aEq aQi
structure bw(K:aL)(mg:bF)(x:Str)(st:cC)(ps:iQ):aE where
 ex:pL f fd cI3 x fd bQV aQi
def top(i:Nat):cC:=PySem.Challenge.pw_wordhouse_s01_answers.main.body.getD i cTp
end WH
end
section
namespace WH
open PySem PySem.Spec PyProof.Rows L2
structure bgv(mg:bF)(aW:aU)(cdv:bU)(P:aA):aE where
 code:eY c (cdv=DG) (PySem.W.CodeHd aW c P)
 blt:cZ6
end WH
end
section
namespace WH
open PySem PySem.Spec PyProof.Rows L2
abbrev aj1:cC:=dN 13
section
variable{P:aM}{w:aK}{K:aL}{mg:bF}{aW:aU}
abbrev apz:cC:=dN 14
abbrev ap0:cC:=dN 15
abbrev amt:cC:=dN 16
abbrev aj2:cC:=dN 17
end
end WH
end
section
namespace WH
open PySem PySem.Spec PyProof.Rows L2
abbrev acb:cC:=dN 22
end WH
end
section
namespace WH
open PySem PySem.Spec PyProof.Rows L2
structure dj(K:aL)(mg:bF)(x:Str)(C:aA)(fs:iQ):aE where
 cl:aEu
 m:aWt QC
 na:∀f∈fs,bCn
structure abw(K:aL)(mg:bF)(x sW:Str)(C:aA)(st:cC)(ps:iQ):aE where
 ex:eKB (Fun K bDV sW st f fd)
end WH
end
section
namespace WH
open PySem PySem.Spec PyProof.Rows L2
def arr:iQ:=[bDW,bDX,dBe,aKP]
abbrev adf:cC:=aKr 21
end WH
end
section
namespace WH
open PySem PySem.Spec PyProof.Rows L2
abbrev adg:cC:=dN 23
end WH
end
section
namespace WH
open PySem PySem.Spec PyProof.Rows L2
abbrev ava:cC:=dN 24
end WH
end
section
namespace WH
open PySem PySem.Spec PyProof.Rows L2
def avb:iQ:=[Zk,bVR,bDX]
abbrev adh:cC:=aKr 26
abbrev afw:cC:=dN 27
abbrev aj3:cC:=dN 29
end WH
end
section
namespace WH
open PySem PySem.Spec PyProof.Rows L2
abbrev amu:cC:=dN 28
end WH
end
section
namespace WH
open PySem PySem.Spec PyProof.Rows L2
abbrev afx:cC:=dN 30
abbrev acd:cC:=dN 31
end WH
end
section
namespace WH
open PySem PySem.Spec PyProof.Rows L2
open PySem.SeqAt
structure anu(mg:bF):aE where
 SEE:nU "SEE" 0
 a05:nU "LONGEST_HEAD" 40
 ayb:nU "LONGEST_SENSE" 200
 ars:nU "LAST_NUMBER" 9
 anv:nU "MOST_ENTRIES" 300
 aj4:nU "MOST_SENSES" 12
 afy:nU "MOST_POINTERS" 12
abbrev afz:cC:=dN 87
abbrev amv:cC:=dN 85
abbrev ap1:cC:=dN 86
end WH
end
section
namespace WH
open PySem PySem.Spec PyProof.Rows L2
abbrev amw:cC:=dN 84
end WH
end
section
namespace WH
open PySem PySem.Spec PyProof.Rows L2
def rj:iQ:=[Bz,xK,dBf,XH]
def aer:iQ:=[uV,XH]
def ai1:iQ:=[aS1,Bz,xK,qH]
abbrev aho:cC:=aKr 56
abbrev ahp:cC:=aKr 57
abbrev adi:cC:=aKr 58
abbrev ahq:cC:=dN 82
abbrev ahr:cC:=dN 81
end WH
end
section
namespace WH
open PySem PySem.Spec PyProof.Rows L2
def adj:iQ:=["see","like","unlike","under","part"]
structure a8_(K:aL)(mg:bF)(kd:aA):aE where
 m:aX0 "KINDS" kd
 sq:∀H,ly K H kd dUP
abbrev adk:cC:=dN 83
abbrev aj5:cC:=dN 80
end WH
end
section
namespace WH
open PySem PySem.Spec PyProof.Rows L2
abbrev adl:cC:=dN 59
end WH
end
section
namespace WH
open PySem PySem.Spec PyProof.Rows L2
structure avc(mg:bF):aE where
 anw:nU "NO_FAULT" 0
 abx:nU "NOT_AS_TOLD" 1
 a4t:nU "TWICE_THERE" 2
 a06:nU "WRONG_NUMBER" 3
 anx:nU "TOLD_ALREADY" 4
 avd:nU "TOO_MANY" 5
abbrev ace:cC:=dN 60
abbrev a8':cC:=dN 103
abbrev amx:cC:=dN 97
abbrev af0:cC:=dN 100
abbrev acf:cC:=dN 101
end WH
end
section
namespace WH
open PySem PySem.Spec PyProof.Rows L2
abbrev ahs:cC:=dN 99
structure bgw(K:aL)(C:aA):aE where
 cl:aEu
 ha:eG1
 hn:eKo
 htk:eRj
 hm:eQt
structure Apart(K:aL)(mg:bF)(CE CS CP:aA):aE where
 e:bgw K CE
 s:bgw K CS
 p:bgw K CP
 mE:aX0 aKQ CE
 mS:aX0 aKR CS
 ee:bDg CE CE aY
 se:bDg CS CE bI
 pe:bDg CP CE bI
 ss:bDg CS CS aY
 ps:bDg CP CS bI
end WH
end
section
namespace WH
open PySem PySem.Spec PyProof.Rows L2
abbrev ap4:cC:=dN 108
end WH
end
section
namespace WH
open PySem PySem.Spec PyProof.Rows L2
abbrev adm:cC:=dN 107
end WH
end
section
namespace WH
open PySem PySem.Spec PyProof.Rows L2
abbrev aj6:cC:=dN 106
abbrev af1:cC:=dN 105
end WH
end
section
namespace WH
open PySem PySem.Spec PyProof.Rows L2
def a9a:iQ:=[xL,dBg,bVT]
end WH
end
section
namespace WH
open PySem PySem.Spec PyProof.Rows L2
abbrev adn:cC:=aKr 95
abbrev aj7:cC:=dN 98
end WH
end
section
namespace WH
open PySem PySem.Spec PyProof.Rows L2
abbrev aj8:cC:=dN 96
end WH
end
section
namespace WH
open PySem PySem.Spec PyProof.Rows L2
def mq:iQ:=[vP,xL,bVU,aKS]
structure a07(K:aL)(mg:bF)(aW:aU)(x:Str)(st:cC)(ps:iQ)(P:aA):aE where
 ex:∃(f:aA)(oc:bU)(od:yH)(kV doc pm:bU)(an:yH)(c:aA)(ct:bU)(osl:FR),zA bRM eGE dYQ aEq bQV cBt eGE ps eXt
abbrev ave:cC:=dN 34
end WH
end
section
namespace WH
open PySem PySem.Spec PyProof.Rows L2
abbrev acg:cC:=dN 102
end WH
end
section
namespace WH
open PySem PySem.Spec PyProof.Rows L2
abbrev aht:cC:=aKr 33
abbrev aj9:cC:=dN 35
abbrev aj_:cC:=dN 36
end WH
end
section
namespace WH
open PySem PySem.Spec PyProof.Rows L2
abbrev ach:cC:=dN 37
abbrev ado:cC:=dN 38
abbrev aj':cC:=dN 41
abbrev yg:cC:=dN 39
abbrev z_:cC:=dN 40
end WH
end
section
namespace WH
open PySem PySem.Spec PyProof.Rows L2
abbrev vc:cC:=dN 42
end WH
end
section
namespace WH
open PySem PySem.Spec PyProof.Rows L2
abbrev aaa:cC:=dN 43
end WH
end
section
namespace WH
open PySem PySem.Spec PyProof.Rows L2
abbrev adp:cC:=dN 62
abbrev adq:cC:=dN 63
abbrev adr:cC:=dN 64
end WH
end
section
namespace WH
open PySem PySem.Spec PyProof.Rows L2
abbrev amy:cC:=dN 65
end WH
end
section
namespace WH
open PySem PySem.Spec PyProof.Rows L2
abbrev zg:cC:=dN 66
end WH
end
section
namespace WH
open PySem PySem.Spec PyProof.Rows L2
structure a4u(mg:bF):aE where
 b9t:nU "LIKE" 1
 bsw:nU "UNLIKE" 2
 bxt:nU "UNDER" 3
 ba1:nU "RIGHT" 0
 acu:nU "LEADS_NOWHERE_wrong" 1
 a08:nU "NOT_ANSWERED" 2
 bc0:nU "IN_A_RING" 3
 anz:nU "LEADS_ROUND_wrong" 4
abbrev aci:cC:=dN 110
end WH
end
section
namespace WH
open PySem PySem.Spec PyProof.Rows L2
abbrev aa_:cC:=dN 111
end WH
end
section
namespace WH
open PySem PySem.Spec PyProof.Rows L2
abbrev ads:cC:=dN 112
end WH
end
section
namespace WH
open PySem PySem.Spec PyProof.Rows L2
abbrev adt:cC:=dN 116
end WH
end
section
namespace WH
open PySem PySem.Spec PyProof.Rows L2
abbrev acj:cC:=dN 117
end WH
end
section
namespace WH
open PySem PySem.Spec PyProof.Rows L2
abbrev ahu:cC:=dN 115
end WH
end
section
namespace WH
open PySem PySem.Spec PyProof.Rows L2
abbrev avf:cC:=dN 125
abbrev ack:cC:=dN 126
end WH
end
section
namespace WH
open PySem PySem.Spec PyProof.Rows L2
abbrev aka:cC:=dN 127
abbrev vd:cC:=dN 128
end WH
end
section
namespace WH
open PySem PySem.Spec PyProof.Rows L2
abbrev aa':cC:=dN 124
end WH
end
section
namespace WH
open PySem PySem.Spec PyProof.Rows L2
abbrev adu:cC:=dN 71
abbrev af2:cC:=dN 70
end WH
end
section
namespace WH
open PySem PySem.Spec PyProof.Rows L2
abbrev amz:cC:=dN 69
end WH
end
section
namespace WH
open PySem PySem.Spec PyProof.Rows L2
abbrev adv:cC:=dN 72
end WH
end
section
namespace WH
open PySem PySem.Spec PyProof.Rows L2
abbrev ahv:cC:=dN 73
end WH
end
section
namespace WH
open PySem PySem.Spec PyProof.Rows L2
abbrev akb:cC:=dN 76
end WH
end
section
namespace WH
open PySem PySem.Spec PyProof.Rows L2
abbrev acl:cC:=dN 75
end WH
end
section
namespace WH
open PySem PySem.Spec PyProof.Rows L2
abbrev adw:cC:=dN 74
end WH
end
section
namespace WH
open PySem PySem.Spec PyProof.Rows L2
abbrev vm:cC:=dN 78
abbrev adx:cC:=dN 77
end WH
end
section
namespace WH
open PySem PySem.Spec PyProof.Rows L2
abbrev ady:cC:=dN 68
end WH
end
section
namespace WH
open PySem PySem.Spec PyProof.Rows L2
abbrev vo:cC:=dN 113
end WH
end
section
namespace WH
open PySem PySem.Spec PyProof.Rows L2
structure Ad where
 CH:aA
 CL:aA
 CE:aA
 CS:aA
 CP:aA
 CW:aA
 CR:aA
 P1:aA
 P2:aA
 P3:aA
section
variable{Pr:aM}{w:aK}{a:Ad}{H H':Hp}{x:aA}{s:IA}
structure af3(a:Ad):aE where
 p12:OH≠Il
 p13:OH≠Ca
 p23:Il≠Ca
end
structure agl(mg:bF):aE where
 aby:nU "NO_SIGNS" (-1)
 a9b:nU "FAULTY" (-3)
 a4v:aRi "PASSED_FORM" 4
 ahw:aRi "LEADS_ROUND_dictionary" 4
 af4:aRi "LEADS_NOWHERE_dictionary" 5
 asp:aRi "NONE_ABOVE_BOTH" 5
 alr:aRi "NOT_THERE" 6
 bc1:aRi "TOO_LARGE" 7
abbrev ahx:cC:=dN 155
end WH
end
section
namespace WH
open PySem PySem.Spec PyProof.Rows L2
abbrev ahy:cC:=dN 140
abbrev adz:cC:=dN 141
abbrev af5:cC:=dN 145
abbrev acm:cC:=dN 146
abbrev af6:cC:=dN 147
end WH
end
section
namespace WH
open PySem PySem.Spec PyProof.Rows L2
abbrev af7:cC:=dN 143
abbrev ad0:cC:=dN 144
abbrev acn:cC:=dN 149
end WH
end
section
namespace WH
open PySem PySem.Spec PyProof.Rows L2
abbrev aab:cC:=dN 148
abbrev aco:cC:=dN 150
abbrev ad1:cC:=dN 151
abbrev acp:cC:=dN 152
abbrev acq:cC:=dN 153
end WH
end
section
namespace WH
open PySem PySem.Spec PyProof.Rows L2
abbrev acr:cC:=dN 138
abbrev aba:cC:=dN 139
abbrev af8:cC:=dN 142
end WH
end
section
namespace WH
open PySem PySem.Spec PyProof.Rows L2
abbrev af9:cC:=dN 154
end WH
end
section
namespace WH
open PySem PySem.Spec PyProof.Rows L2
structure KDict(P:aM)(w:aK)(K:aL)(a:aA)(kvs:sT):aE where
 of:ZW h aU Hj dJB
end WH
end
section
namespace WH
def nmP:Rv PySem.Str|0=>bVV|1=>bVW|2=>bVX|3=>bVY|4=>bVZ|5=>bV0|6=>bV1|7=>bV2|8=>bV3|9=>bV4|10=>bV5|11=>bV6|12=>bV7|13=>bV8|14=>bV9|15=>bWa|_=>bWb
def shP:Rv Dm|0=>bBi|1=>(1,2)|2=>aRA|3=>(0,2)|4=>aRA|5=>bBi|6=>(1,0)|7=>aRA|8=>aRA|9=>aRA|10=>bBi|11=>bBi|12=>(1,0)|13=>(2,0)|14=>(4,0)|15=>bBi|_=>aRA
end WH
end
section
namespace WH
open PySem PySem.Spec PyProof.Rows L2
def ba2(f:WV):sT:=dKX 17 p bMP dWP
theorem bsx:JY p Nat (p<17) (p=0∨aKs 1 2 aKs 3 4 aKs 5 6 aKs 7 8 aKs 9 10 aKs 11 12 aKs 13 14 (p=15∨p=16)):=iB
structure bxu(P:aM)(w:aK)(K:aL)(mg:bF)(S C:aA)(sh fn:WV):aE where
 hS:mg "SHAPES"=aO aC7
 dS:cVl S (ba2 sh)
 tS:cXi (∀H,ly K H aXB (vn [aSc,cS5]))
 hC:mg "CALLS"=aO QC
 dC:cVl C (ba2 fn)
 hF:cXi aX0 cLP (fn p)
abbrev ap5:cC:=dN 158
end WH
end
section
namespace WH
open PySem PySem.Spec PyProof.Rows L2
structure b9v(Pr:aM)(w:aK)(K:aL)(mg:bF)(aW:aU)(a:Ad)(S C kd:aA)(sh fn:WV):aE where
 asq:eMa
 a4w:eTV
 avg:eHT
 a09:eHU
 bgy:eGs
 avh:eC9
 asr:eCW
 ass:eDa
 ayc:eC5
 avi:eC2
 ast:eDb
 ayd:eC3
 asu:eC8
 aye:eDc
 a0_:eCY
 ap6:eCX
 avj:eCZ
 ayf:eC0
 asv:eC7
 ayg:eC1
 an0:eC6
 asw:eC4
 a4x:eDR
 asx:eVz
 avk:eHV
 aji:eFn
 asy:eHW
 a4y:ePn
 a0':eGk
 bsy:eTW
 ayh:eVA
 avl:eGh
 a4z:eGv
 a40:eMb
 a9c:eDS
 a1a:eME
 akc:eGn
 bc2:eDT
 bc3:eDU
 avm:eGi
 bc4:eDV
 avn:eFy
 asz:eGo
 as0:eFo
 as1:eGl
 as2:eGe
 a9d:eTX
 a1b:eTY
 as3:eMF
 ayi:eFz
 a9e:eFA
 akd:eMG
 avo:eGt
 avp:eGw
 am0:eFp
 an1:eHR
 al7:eHS
 as4:ePq
 a9f:eDW
 a1c:eDX
 avq:eXH
 a41:eMH
 ayj:ePo
 avr:eDY
 a1d:eDZ
 a42:eGf
 avs:eFB
 bc5:eXI
 ayk:eGj
 a43:eGp
 avt:eMI
 a44:eMc
 ayl:ePr
 avu:eGu
 avv:ePs
 ajj:eMd
 avw:eHX
 as5:eM9
 a9g:eGg
 aym:eIx
 a45:ePp
 ap7:eHY
 a46:eXJ
 a47:eXK
 avx:eGm
 a9h:eGx
 a9i:eIy
 ap8:eFq
 bme:RP aKQ dBK EC aho aPz
 bmf:eP3 uA
 bc6:RP aS4 dBL zN adf EZ
 bc7:RP aS5 dBM LM adi aPD
 bc8:RP aKT dBN Qb adn EZ
 bmg:RP aKR dBO ID ahp aPu
 bc9:RP aKU dBP XL adh EZ
 ake:aI6 bD8 vo bCR Ca
 an2:aI6 bD9 aaa Mu Il
 bgz:aI6 bEa ave aXc OH
 bc_:eMJ
 gc:Hu
 abb:aEx zN
 iu:bHm EC
 xb:cAC ID
 ro:cAJ LM
 ac':bRK
 ada:cPE
 g_:fQ
 n1:WB
 n2:Xv
 n3:aJu
 n4:bAD
 n5:WQ
 ap3:Ot
 ap:Apart K mg EC ID LM
 apc:jU (EC≠uA) (ID≠uA) (LM≠uA) (zN≠uA)
 kinds:cVX
 top:fA6
end WH
end
section
namespace L2
open PySem PySem.Spec PyProof.Rows
open PySem.W(WData Codec OpenSpec Well WellAll ReadsW ReadsAllW tabObj)
def bc'(ts:bM)(H:Hp):Hp:=bT b Su aYV aYW (H b)
def bg0(mg:bF)(aW:aU):aE:=cZ6
theorem bda{P:Params}{h:aU}(ns:mZ):ZW vs eQ (WellAll P h vs cRF) bSU:=fDW aB eF Oy x a b bX a aB (.jR rK (ih _ b))
theorem a9j{R:dBR}{cl:bGX aA}{h:aU}(ns:mZ):ZW vs eQ bSU (∃as,ReadsAllW R cl h vs cRF as):=fDW aB gJ ReadsAllW.nil cMm x a b zZ t a cX as q (ih _ b) aB gJ (ReadsAllW.cons (ReadsW.int n t) q)
theorem bmh{n:Nat}(h:n≤bWS):bAv:=Er h
theorem bs0{P:aM}{w:aK}{K:aL}{H:Hp}{h:aU}{a:aA}{xs:aN}(hok:RQ)(KX:Hj)(q:DQ):SN its eQ o Obj n Nat jU aPk Ao o (aEL=VL) (Bw=aBw uS):=bK (by rcases q with q|⟨o,its,n,e,hc,_,hd,_,hv⟩) oS (by obtain(⟨_,its,n,hv,e⟩):=(bNJ Ln (q.ok hok))) aB bAp its n gY hv e rfl rfl aB kF bVN o n gY hv cB KX e hc cK2
def IL(K:aL)(H:Hp)(v:V)(ns:mZ):aE:=eY a (v=jT) bBV
def lsO(vs:eQ):Obj:=EL yI seq aET
def bdb(K:aL)(a:aA)(vs:eQ)(ns:mZ):Hp:=bT b jI b a nN aKW dQ0 aO dI9 aS aS
theorem bmi{K:aL}{a:aA}{vs:eQ}{ns:mZ}{b:aA}{u:HO}(q:eX3):cYQ:=bL cV bdb q bQ hb (b=a) fP aF iF hb q DL hk dQ0 dA hk eBM q aB EK hb aYu q o [dA hk eC aX q,bX q] aF eC hb q bX q
theorem b9w{K:aL}{h:aU}{a:aA}{vs:eQ}{ns:mZ}(KX:Hj)(hl:bAw)(hv:bSU)(e:Ao bJR):NC eTC a aNC:=bA vB hk (bDS a) sQ KQ bJR mY bdb cE tU hk eBM o [aJ e2 (KX a o hk),aF e e2,aME zV e2,nF kF _ aET _ yB hk rfl rfl rfl gG zO hl hv]
theorem bdc{P:aM}{w:aK}{K:aL}{mg mb:bF}{k:Nat}{fa:aA}{p0:Str}{sp:Sp}{s₁:bC}{aKX:eQ}{R:dBR}{cl:bGX aA}{ns ms:mZ}{ts:bM}(KX:K.In Im)(hns:s₁.heap.Ns Ih mg)(hb:s₁.heap.Ns aSY mb)(hbb:eUa)(hlim:s₁.heap.NoLimit)(hg:s₁.gens= #[])(hwl:WellAll bWT Im aKX [aDI cRF])(hwt:WData.weightAll (ns.map aKV)≤bWS)(hr:o5 k aS7)(hts:∀p∈ts,eEn s₁.heap.get?)(hkt:∀p∈ts,bDS p=aS)(hct:∀p∈ts,isCodeTable Im p)(hbm:bg0 mg Im)(F:eVU cOh eY fd (ajh P w K mg aW CX0 k fa fd [p0] sp) cBt fd [p0])(hsp:∀(H0 H:Hp)(a:aA),jW aD6 dWV NC H0 a aNC (sp Bc H cYl ms ts aJg)):aH5 cNN aS7 (.Qa aIv BI aKX) Nk s' (∃u as,eX (r=dSh) (ReadsW R cl XG u aDI (ms.map aKV) as) (OldK Im XG) (bVP=s₁.os) cPe) s₁:=Ze (by obtain⟨a,vs,rfl,ho,hv,hvl⟩:∃a vs,ZY aKX Bc yY s₁.heap.get? bJR bSU bAw:=bA Oy hwl x y bX y XM x list ho aEU [yG hv cB bda aEU xY aDT ho hv (bmh ?_),by rw[←Ff hv,cK,←cK (f:=WData.int)],bOh (PySem.W.length_le_weightAllW _) hwt]) gO hS (b9w KX hvl hv ho) hI kQ b u eX3 cYQ aB9 u (bmi q) aS8 eTC H0 hS hI sX hT p ts (bc' ts H0 p=aO aYW) aCM iF hp aG hN iJ b (b∉ts) (eQc=H0 b) JX eC hb sX at_ p ts (p≠a) QS p hp bL aJ e (hts p hp) dA z ho e HP bD hSm (ag H0 (bc' ts H0)) wC gG (hN b bT hb (at_ b hb bKg hI)) e hfr xT b u (b∉ts) (eQc=aO u) cYQ BG u nb q (hI b u DK (hN b nb) q) aJ go (hsp H0 eGM a hSm hT hS) bEd eGM H hT hfr go zG hok bHB Im dUA FJ aF (hT b z) q bX q aB (hts b z) IE rfl rfl cVD aB cH ho aNl bWU hv hvl yA vs aT hv ho hK bQz dIB dUA dE aB (hkt b z) aB vY cVD no Pq b aA o Obj jW cLu (∀xs n,Bw≠aBw xs) (∀vs,o≠dSC) xB (fun{b o}e n1 n2=>bSc (H b) u bQ z aYV An aF (hts b z) e BJ aYu e (n2 _) bWV rfl cVD aF ho e aMu bAc aB (aS9 rfl (n1 _ _))) at0 ZN b aA o Obj cLu xB aO4 bTP bG e n (bgr e n) zG ns0 Li b aA m bF (s₁.heap.Ns b m) ((bTP).Ns b m) (fun{b m}⟨o,es,ep,e,d,r⟩=>(aQn o cH (at0 e (no e eNo d eEZ d bX d)) d r)) bm0 (bg0 mg (ax' Im H)) (let⟨bm,o,h1,h2,h3,h4,h5,h6,h7⟩:=hbm;(jO bm o bN1 h1 h2 h3 (at0 h4 (no h4 eNo h7 eEZ h7 bX h7)) h5 h6 h7)) nK ZV uF bDS xB wC bSc (H b) u aF aSf hK e HP kb (K.In (ax' Im H)) wC (at0 MR KX MR nK) bD md (Mod K mg bTP) sC kb dZU bR mb (ns0 hb) hbb Zo mc h1 h2 hlim bR mc (ns0 h1) h2 e0 (aya P w K mg bTP aS7 [] s₁ H) CG rfl md wC (bmd e) bNX qR bcy aKY cMW hok (.of_eq hg) cS fd hF hbind (F _ kb dZU bm0) dR hbd bSn s₁ BI Bc ([p0].zip Bc) bJW bN (hbind s₁ Bc KX rfl) Ij bSZ (hF.run aS7 [] s₁ H BI Bc Bc Bc _ _ hr e0 hbd aRq rfl go) r x bNQ r x.elim fl cEW fl Aw x brk Zp Aw x u [by(obtain(⟨v,H',os,Pz,un,bmj,r',⟨ra,rfl,q⟩,hq⟩):=x),bD kept aNA ts cLu uF s'.heap.get? aCJ bA vB q2 (H b) aB (un.keep b o e q2 Dl z BJ iR dHk z aX aX) u2 [IE rfl rfl (hfr b u2 nb q2),bWV e2 cQO (un.ams b _ _ q2),aF ho e,aMu bAc,aB e2] KX' (K.In XG) wC tJ kept lV bK aF (hkt b z) e HP MR KX,Cd its o n rv h1 h2 h3 (bs0 bmj KX' q),cX as hrd (a9j (R:=R) (cl:=cl) (h:=s'.heap) _ _ rv),bX r',HK xY Fi (ReadsW.list h1 h2 h3 hrd) aT bPe bPe os Pz bQ z aYV JM eIV aG e2 MA s'.heap.get? dSC cQO hv aF (hts b z) e aMu bAc nF gB EK (hct b z) jO (#[]) vs kD pP sQ eCN bQ z aYV oS eIV aB gJ cQO hv dL o eCN]
theorem bwo{r:OpenSpec}{k:Nat}{q:aM}{loose:iQ}{XP:lR bF aU}{YP:lR aK aU}{d:DefRec}{K:Params→aL}{p0:Str}{sp:aL→Sp}{ts:bM}{li lo:dZV→mZ}(bxv:r.wellSaid=aY)(hin:∀a,Codec.encAll aKZ a=[aDI iM (li a) aKV])(hout:∀a,r.ret.enc (Codec.app aKZ r.f a)=aDI iM (lo a) aKV)(hr:o5 k aS7)(hY:qG w aK h aU (YP w h→dZ dQC cG4 eEn bDP FS cG4 ((aQj).lookup p=aS) p ts dR4 p))(F:Ce w aK mg bF fa aA h aU jW dQC aKc (mg d.name=aO aIv) eVU ((aQj).In aW) GK fd EA (ajh r.prog w aQj mg aW CX0 k fa fd [p0] (sp (K bWT))) (Binds aQj fd [p0] []))(hsp:∀(K:aL)(H0 H:Hp)(x:aA)(a:dZV),VH aD6 dWV (Codec.withinAll aKZ a=aY) (Codec.app aKZ r.asked a=aY) eJu (li a) (sp K [yT] H cYl (lo a) ts aJg)):PySem.W.WalkOS q loose XP YP r d [] bG f vs (PySem.call f vs):=Id (by intros w s_0 s₁ mg mb G Y fa o pm cd doc dV kV ho hd hcd hD hmg hg SQ aKX as hpre hlay hrd hwl hlo) cS a e1 e2 (PySem.W.os_pre_some hpre) cX e3 hwi (Codec.encAll_of_decAll aKZ SQ a e1) bB e3 jF KX y1 y2 y3 (hY w _ Y) cS bm ob M (PySem.W.bmod_of_top G.T) bD hne (bm≠Ih) lV fN aK0 o es ep e d M.ns (by rw[←z,M.obj]at e) HP aF M.data d bX d hbm (bg0 mg Im) jO bm ob bN1 M.name M.ne hne M.obj M.cls M.dict M.data vQ (hin a) hwl hlay aG hwt (WData.weightAll ((li a).map aKV)≤bWS) ((PySem.W.layableW_iff.mp (List.all_eq_true.mp hlay _ bN6)).2.2) aI (PySem.W.enter_call bSZ (bdc (R:=[]) (cl:=classAt s_0.heap) (ms:=lo a) KX G.T.g G.T.b G.T.builtins G.T.nolimit hg hwl hwt hr y1 y2 y3 hbm (F w mg fa _ KX G.T.g hmg) IF H0 H x hS hT hD (hsp aQj H0 H x a hS hT hwi e2 hD)) r' hq) Cd u as' rfl h1 h2 h3 h4 hq zP (hout a) h1 aB gY gB bAp u as' Fi bKj h1 ((OpenSpec.post_iff bxv hwi _ _).mpr rfl) oO Bool.noConfusion iR (bI=aY) z h2 h3 h4
end L2
end
section
namespace WH
open PySem PySem.Spec PyProof.Rows L2
section
variable{K:aL}{h:aU}{mg:bF}
theorem b7g{x:Str}{st:cC}{ps:iQ}{f:aA}{od an:yH}{sl:FR}{oc kV dc pm cd ct:bU}(X:Hj)(G:aKc)(a:aZE aXw)(l:bKa dXd sl)(c:bJS cd x)(k:aEq)(hb:cSp dXd):eL9:=eAm Lv eM2 bCw a Binds.all hb
theorem bxw{x sW:Str}{st:cC}{ps:iQ}{C f:aA}{od an:yH}{sl:FR}{oc kV dc pm cd ct:bU}(X:Hj)(G:aKc)(aC:dUK)(m:cOK)(i:cSg)(fn:cOx)(kc:eDz)(l:bKa eUw sl)(c:bJS cd sW)(k:aEq)(hb:cSp eUw):eUQ:=eAm gY sC m i fn kc eM2 bCw aC dRG
theorem b7h{x:Str}{C:aA}{fs:iQ}(X:Hj)(G:aKc)(aC:dUK)(pg:bTG aKL)(hd:bQM)(po:cOJ)(sa:cV0)(na:∀f∈fs,cSf):Rs x C fs:=kM sC pg hd po sa bCw aC na
theorem int_mk{x:Str}{i:Int}{t:Tok}(X:Hj)(G:aKc)(a:aZE aO aPQ):∃t,aWt aPQ:=aT t bCw a
theorem cgx{x:Str}(X:Hj)(G:aKc)(a:aZE aS):KY x:=PySem.W.mg_none_of X G a
theorem b7i{aW:aU}{x:Str}{st:cC}{ps:iQ}{f c P:aA}{od an:yH}{sl:FR}{oc kV dc pm ct:bU}(X:Hj)(G:aKc)(XB:cOh)(a:aZE aXw)(l:bKa dXe sl)(cc:dYQ)(k:aEq)(hb:cSp dXe)(hc:eNW)(bm:cZ6):eP6:=⟨(_root_.EE.a4s f oc od kV dc pm an c ct sl yB l cc k bCw a dRG aT Gj c (PySem.W.codeHd_of_K XB hc) bm)⟩
end
end WH
end
section
namespace WH
open PySem PySem.Spec PyProof.Rows L2
def A0:Ad:=LK 158 62 238 259 280 102 469 164 217 572
theorem b9y:∀a:cS0,PySem.W.Codec.encAll aTa a=[aDI iM eAu bWW]:=vC eAz
theorem b7j:∀a:cS0,PySem.Challenge.rw_wordhouse_s01_answers.ret.enc (PySem.W.Codec.app aTa PySem.Challenge.rw_wordhouse_s01_answers.f a)=aDI iM dZW bWW:=aJm eAz Fq PySem.W.WData.list iM dRm bWW
theorem b7k{Pr:aM}{w:aK}{K:aL}{mg:bF}{aW:aU}{x:Str}{k:Nat}{ps:iQ}{sp:Sp}{fa:aA}(D:eMe k)(h:aWt aIv):GK fd EA (ajh Pr w K mg aW CX0 k fa fd ps sp) aQi:=NI (by obtain(⟨f,fd,h1,h2,_,h4⟩):=aTb)
section
variable{K:aL}{fd:EA}{x1 x2 x3 x4 x5:Str}
theorem am1{us:eQ}{n:Nat}(h:By=mI):∃a r,us=Xy∧wN=n:=bA Mx us DT a r aB jO a r kD (Nat.succ.inj h)
theorem bd1(h:∀a,aOu xZ [x1]):bC2 [x1]:=Lx cY us h0 eWw bAn h1 h a
theorem bd2(h:∀a b,aOu Gz [x1,x2]):bC2 [x1,x2]:=fN cY us h0 eWw jF b u2 rfl h2 (am1 h1) bAn h2 aB (h a b)
theorem bd3:Vk fd EA x1 Str x2 Str x3 Str (∀a b c,aOu eLe [x1,x2,x3]) bC2 [x1,x2,x3]:=kK iC fd x1 x2 x3 h dD us h0 cYY cYZ cY0 bAn h3 aB (h a b c)
theorem bd4:∀{fd:EA}{x1:Str}{x2:Str}{x3:Str}{x4:Str}(h:∀a b c d,aOu aZI [x1,x2,x3,x4]),bC2 [x1,x2,x3,x4]:=qF sY fd x1 x2 x3 x4 h _ dD us h0 cYY cYZ cY0 eWe bAn h4 aB (h a b c d)
theorem bd5:∀{fd:EA}{x1:Str}{x2:Str}{x3:Str}{x4:Str}{x5:Str}(h:∀a b c d e,aOu eWW [x1,x2,x3,x4,x5]),bC2 [x1,x2,x3,x4,x5]:=KW xN fd x1 x2 x3 x4 x5 h _ dD us h0 cYY cYZ cY0 eWe nQ e u5 rfl h5 (am1 h4) bAn h5 aB (h a b c d e)
theorem bs2{a:aA}{xs:aN}{od:yH}{its:qA}{n:Nat}{sl:FR}(l:eJf aBw its)(hz:cKT)(r:cN3)(H:Hp):SE:=fF kF _ its n nP l rfl rfl hz r
theorem b9z{a:aA}{x y:Nat}{od:yH}{t1 t2:Tok}{n:Nat}{sl:FR}(l:eJf aBw (#[LZ cZ x t1,LZ cZ y t2]))(H:Hp):ly K H a (vn bPP):=bs2 (xs:=[qT x,qT y]) l CV rQ 2 jL aOQ rK rK H
theorem cgy{h:aU}{c P:aA}(X:Hj)(T:aIw P dVI)(e:eNW):dR4 P:=((PySem.W.codeHd_of_K X e).tab T).isCodeTable
def fnA(p:Nat):aA:=[634,641,648,655,662,669,676,683,690,697,702,709,716,721,728,735,742].getD p 0
def bmk(w:aK)(f:WV):lR Nat cKk|_,[]=>Ps|p,UU=>(dZ (∃t,bWX=YO cZ p) (e.hash=bxp w Gn p) (e.val=eA6))∧bmk w f (p+1) es
theorem avy{Pr:aM}{w:aK}{f:WV}:Nb es cKk p (dZn→Pairs cMY es ((List.range' p SV).map eFW))|[],_,_=>eF|UU,p,eGN _ h3=>dB cE qZ List.range'_succ rC (.jR eVv bWX h3 (avy es (p+1) h))
theorem azo{Pr:aM}{w:aK}{f:WV}:Nb es cKk p zQ dZn e es eY k ((cMY).is k bWX=aY) (e.hash=(cMY).hash k)|[],_,_,_,h=>bA DT|UU,p,eGN h2 _,x,hx=>Ax aEe hx lH Gn p eVv x.key h2 aB (azo es (p+1) h x hx)
theorem bs3(f:WV):∀l:aR,KV YR Zr p bMP dWP (Zr eFW):=Ku l aB eF _ l RU NJ ih
theorem bxx{Pr:aM}{w:aK}{a:aA}{f:WV}{es:WR}{ep:Nat}(l:dKW sC zW Qc aS aVa (#[]))(n:es.toList.length=17)(h:bmk w f 0 bVJ):KDict Pr w K a (ba2 f):=⟨bG hp X OD _ (bs3 f _) _ es ep (X a _ l) bMt rfl aEl (azo _ 0 h e (Array.mem_toList_iff.mpr he)) gT bN (avy (Pr:=Pr) _ 0 h) (by rw[n,←dBU]at aP) aP gG mL (wR:mV ((List.range 17).map bT p bMP))⟩
end
end WH
end
end
namespace PySem.W.Fast
theorem tw10000109150772213369:True:=trivial
theorem tw10093887845903431849:True:=trivial
theorem tw10097695935234890303:True:=trivial
theorem tw10115431138945207237:True:=trivial
theorem tw10123959579807478218:True:=trivial
theorem tw10180331255126932851:True:=trivial
theorem tw10197507445542765305:True:=trivial
theorem tw10206549309794862555:True:=trivial
theorem tw10219420280425541024:True:=trivial
theorem tw10230723929443903508:True:=trivial
theorem tw10242558459797261003:True:=trivial
theorem tw10253128982123319202:True:=trivial
theorem tw10269211719426223173:True:=trivial
theorem tw10280728058585576057:True:=trivial
theorem tw10289372380124181411:True:=trivial
theorem tw10391380345379769007:True:=trivial
theorem tw10393432789756762470:True:=trivial
theorem tw10405411647607583437:True:=trivial
theorem tw10413916570926450650:True:=trivial
theorem tw10426297307094949643:True:=trivial
theorem tw1042715527826876674:True:=trivial
theorem tw10439917542009147338:True:=trivial
theorem tw10461134729022007542:True:=trivial
theorem tw1049313765250478759:True:=trivial
theorem tw10504293238642551771:True:=trivial
theorem tw10525404231814946365:True:=trivial
theorem tw10538104026622202394:True:=trivial
theorem tw10539981977464796888:True:=trivial
theorem tw10603351160512558969:True:=trivial
theorem tw10613917762172927646:True:=trivial
theorem tw10615389308316208595:True:=trivial
theorem tw10669792028515248129:True:=trivial
theorem tw10678711443051090483:True:=trivial
theorem tw10747330908194764209:True:=trivial
theorem tw10769627184952673613:True:=trivial
theorem tw10789613063659021585:True:=trivial
theorem tw10793743698629774531:True:=trivial
theorem tw1080649061358525905:True:=trivial
theorem tw10821232916907911783:True:=trivial
theorem tw10911487759447998026:True:=trivial
theorem tw1094799887270614575:True:=trivial
theorem tw10975886480956044320:True:=trivial
theorem tw10997643727174038560:True:=trivial
theorem tw1100323734439274240:True:=trivial
theorem tw11027117593702309268:True:=trivial
theorem tw1107695105930186773:True:=trivial
theorem tw11131310765896500529:True:=trivial
theorem tw11137549899787159884:True:=trivial
theorem tw11149672064635243220:True:=trivial
theorem tw11161870577061861319:True:=trivial
theorem tw11169330698916899360:True:=trivial
theorem tw1117859512378776180:True:=trivial
theorem tw1118114666882269585:True:=trivial
theorem tw11186743962040518054:True:=trivial
theorem tw11192075940314882803:True:=trivial
theorem tw11192261570683832086:True:=trivial
theorem tw11212906174920572191:True:=trivial
theorem tw11239472949208804010:True:=trivial
theorem tw11239988922587016546:True:=trivial
theorem tw11254858121829368242:True:=trivial
theorem tw11271496786687765304:True:=trivial
theorem tw11284253727799486741:True:=trivial
theorem tw113090208837728591:True:=trivial
theorem tw11323034420534309264:True:=trivial
theorem tw11333209276044371033:True:=trivial
theorem tw11402451179468695094:True:=trivial
theorem tw11406242984009292280:True:=trivial
theorem tw11423855903298635246:True:=trivial
theorem tw11428847514433055061:True:=trivial
theorem tw11438499887531802693:True:=trivial
theorem tw11448838241966008014:True:=trivial
theorem tw11450786996235202755:True:=trivial
theorem tw11458454619195241836:True:=trivial
theorem tw11487476054617626672:True:=trivial
theorem tw11492740689316958465:True:=trivial
theorem tw11494415823784978908:True:=trivial
theorem tw11536343200664362955:True:=trivial
theorem tw11576173879577823599:True:=trivial
theorem tw11576464756016982843:True:=trivial
theorem tw11601175941506514405:True:=trivial
theorem tw1160852443602298680:True:=trivial
theorem tw11610651637546191872:True:=trivial
theorem tw11647949128156897107:True:=trivial
theorem tw11677845336145971131:True:=trivial
theorem tw11678257025717415766:True:=trivial
theorem tw11703900479866768442:True:=trivial
theorem tw11738396929457638902:True:=trivial
theorem tw11767678264137658087:True:=trivial
theorem tw11778097859279231346:True:=trivial
theorem tw11783975545805617388:True:=trivial
theorem tw1182306289640091057:True:=trivial
theorem tw11859600416870497048:True:=trivial
theorem tw11877912806106658072:True:=trivial
theorem tw11891629360961041248:True:=trivial
theorem tw11911563549048500111:True:=trivial
theorem tw11969413135345907479:True:=trivial
theorem tw12027750698246554654:True:=trivial
theorem tw12034441963034200479:True:=trivial
theorem tw12044939558719998482:True:=trivial
theorem tw12088547080058705111:True:=trivial
theorem tw12127037795074363473:True:=trivial
theorem tw12158570907882525493:True:=trivial
theorem tw12169746732217516042:True:=trivial
theorem tw12172316352638378973:True:=trivial
theorem tw12178045972332680262:True:=trivial
theorem tw1218818672858234613:True:=trivial
theorem tw12227112719232125263:True:=trivial
theorem tw12242664804671059781:True:=trivial
theorem tw12283346039441798279:True:=trivial
theorem tw12322387072301499876:True:=trivial
theorem tw12359353438162684603:True:=trivial
theorem tw12359629125614043248:True:=trivial
theorem tw12440967535203951850:True:=trivial
theorem tw12457710422155681963:True:=trivial
theorem tw1246330766194915577:True:=trivial
theorem tw12463718700525257238:True:=trivial
theorem tw12491897225974335589:True:=trivial
theorem tw12566309289161790779:True:=trivial
theorem tw12596221857766878963:True:=trivial
theorem tw12601919735959505837:True:=trivial
theorem tw12612967024928463997:True:=trivial
theorem tw12621874534594706328:True:=trivial
theorem tw12634805719027206308:True:=trivial
theorem tw12642482627857467437:True:=trivial
theorem tw12647970482883228620:True:=trivial
theorem tw12670448084525199259:True:=trivial
theorem tw12702037729107054363:True:=trivial
theorem tw12705771812123409167:True:=trivial
theorem tw12741675140015037954:True:=trivial
theorem tw12741915379311801136:True:=trivial
theorem tw12802729813959402214:True:=trivial
theorem tw12815695910814668300:True:=trivial
theorem tw12833941868038954175:True:=trivial
theorem tw12845656116968517819:True:=trivial
theorem tw12897291056890556001:True:=trivial
theorem tw12917003112636408639:True:=trivial
theorem tw12974358013838192801:True:=trivial
theorem tw13003837671664109665:True:=trivial
theorem tw13043777223312296452:True:=trivial
theorem tw13057829254136964319:True:=trivial
theorem tw13059621477455093467:True:=trivial
theorem tw1308018919318441746:True:=trivial
theorem tw13100058527719557023:True:=trivial
theorem tw13113980476420666415:True:=trivial
theorem tw13115105283208265237:True:=trivial
theorem tw13132139554447377764:True:=trivial
theorem tw13136002655443820604:True:=trivial
theorem tw13142624895513770600:True:=trivial
theorem tw13154823385188663056:True:=trivial
theorem tw1316605568980782890:True:=trivial
theorem tw13170507610114839699:True:=trivial
theorem tw13180586423481864166:True:=trivial
theorem tw1318586343656453266:True:=trivial
theorem tw13194915818764493938:True:=trivial
theorem tw13224717819501051640:True:=trivial
theorem tw13232103080241257526:True:=trivial
theorem tw13249595034254311677:True:=trivial
theorem tw13260843743424403502:True:=trivial
theorem tw1328877425127688532:True:=trivial
theorem tw13319104802427246665:True:=trivial
theorem tw13333478465647223341:True:=trivial
theorem tw13367692120462266918:True:=trivial
theorem tw13374448147086712688:True:=trivial
theorem tw13403421091806634869:True:=trivial
theorem tw13408428566404853812:True:=trivial
theorem tw13424006667507314222:True:=trivial
theorem tw1343178031259029501:True:=trivial
theorem tw13436008943508909180:True:=trivial
theorem tw13444220000605249226:True:=trivial
theorem tw13475828286510093896:True:=trivial
theorem tw13484296111119322956:True:=trivial
theorem tw13550426535855043184:True:=trivial
theorem tw13558346914204461835:True:=trivial
theorem tw13564391687068901433:True:=trivial
theorem tw13585818803270275115:True:=trivial
theorem tw13602064956149057126:True:=trivial
theorem tw13605579601053024822:True:=trivial
theorem tw13607058516039331668:True:=trivial
theorem tw13635422063130109297:True:=trivial
theorem tw13638241621733727203:True:=trivial
theorem tw1364444814448111320:True:=trivial
theorem tw13674644610685100636:True:=trivial
theorem tw13683400748997919613:True:=trivial
theorem tw1369721152698058479:True:=trivial
theorem tw13707831777522356703:True:=trivial
theorem tw13742954049976550403:True:=trivial
theorem tw137862507697766082:True:=trivial
theorem tw13787051133652617038:True:=trivial
theorem tw13811512657146641468:True:=trivial
theorem tw1382232403062607445:True:=trivial
theorem tw13831770009893221121:True:=trivial
theorem tw13838526343817629631:True:=trivial
theorem tw13841838014127983729:True:=trivial
theorem tw13847988002389773987:True:=trivial
theorem tw13853498503348194118:True:=trivial
theorem tw13859389170672604045:True:=trivial
theorem tw1385982178038046311:True:=trivial
theorem tw13948505182956585259:True:=trivial
theorem tw13968526395908877090:True:=trivial
theorem tw13977793562432728261:True:=trivial
theorem tw13989156217567267388:True:=trivial
theorem tw14048761432108851126:True:=trivial
theorem tw14088404420985562799:True:=trivial
theorem tw14113448403315595755:True:=trivial
theorem tw1412048379880172940:True:=trivial
theorem tw14125986442410340900:True:=trivial
theorem tw1413332474277076360:True:=trivial
theorem tw14137085797235361194:True:=trivial
theorem tw14150713294667098996:True:=trivial
theorem tw14160630402504409099:True:=trivial
theorem tw14164342956002325947:True:=trivial
theorem tw14216466498520102352:True:=trivial
theorem tw14229694610907615312:True:=trivial
theorem tw14241247886206212543:True:=trivial
theorem tw14242594980195749924:True:=trivial
theorem tw14250313386167906496:True:=trivial
theorem tw14266211819725248493:True:=trivial
theorem tw1427260210329615014:True:=trivial
theorem tw14280715715386395230:True:=trivial
theorem tw14310902862762820545:True:=trivial
theorem tw14313658112267811266:True:=trivial
theorem tw14359022144718379416:True:=trivial
theorem tw14362904977888444331:True:=trivial
theorem tw14369243409698525480:True:=trivial
theorem tw1438207902364299469:True:=trivial
theorem tw14388611595458871736:True:=trivial
theorem tw14404465456716905631:True:=trivial
theorem tw14417088534047683091:True:=trivial
theorem tw14432103889293147046:True:=trivial
theorem tw14435969189234511801:True:=trivial
theorem tw14457179508904773220:True:=trivial
theorem tw14469015517550624060:True:=trivial
theorem tw14517628600986568890:True:=trivial
theorem tw14536834324276121259:True:=trivial
theorem tw14591286912884602150:True:=trivial
theorem tw14607639144279126927:True:=trivial
theorem tw14612897678075303043:True:=trivial
theorem tw14614103451882784879:True:=trivial
theorem tw14635513994037199539:True:=trivial
theorem tw14642121845700165395:True:=trivial
theorem tw14651890834391286750:True:=trivial
theorem tw1465739682019412818:True:=trivial
theorem tw14697361521176546634:True:=trivial
theorem tw14717570747436565479:True:=trivial
theorem tw14741603412433534432:True:=trivial
theorem tw14769301132916676284:True:=trivial
theorem tw14794562353549496578:True:=trivial
theorem tw14810081935409851124:True:=trivial
theorem tw14812814590370201450:True:=trivial
theorem tw14830205284642513885:True:=trivial
theorem tw14892491773402122509:True:=trivial
theorem tw14899243265849402552:True:=trivial
theorem tw14910910301237336807:True:=trivial
theorem tw14987217026576831133:True:=trivial
theorem tw15003433012219983800:True:=trivial
theorem tw15004948375085325927:True:=trivial
theorem tw15007191840223475789:True:=trivial
theorem tw15053223397763869599:True:=trivial
theorem tw15085353190845034984:True:=trivial
theorem tw15129244339428467258:True:=trivial
theorem tw15132596249468760204:True:=trivial
theorem tw15166779516277559170:True:=trivial
theorem tw15201540571388389942:True:=trivial
theorem tw15201987122094662334:True:=trivial
theorem tw15208150538288073007:True:=trivial
theorem tw1524185433992959094:True:=trivial
theorem tw1525036147873475596:True:=trivial
theorem tw15263652102691180:True:=trivial
theorem tw15274953618323847743:True:=trivial
theorem tw15281886005870065893:True:=trivial
theorem tw1528348612807529887:True:=trivial
theorem tw15306942286713484731:True:=trivial
theorem tw15394744047003031399:True:=trivial
theorem tw15397152836336425597:True:=trivial
theorem tw15403832308416952823:True:=trivial
theorem tw15486035435304246222:True:=trivial
theorem tw15523902183114651661:True:=trivial
theorem tw15536478810734075321:True:=trivial
theorem tw15621325262618439146:True:=trivial
theorem tw15716088813339947150:True:=trivial
theorem tw15722987749489144497:True:=trivial
theorem tw1574733757386585285:True:=trivial
theorem tw15757102074253489122:True:=trivial
theorem tw1575903009153454052:True:=trivial
theorem tw15777106495045689367:True:=trivial
theorem tw15778596491296044701:True:=trivial
theorem tw15807010159940231241:True:=trivial
theorem tw15824282311012280221:True:=trivial
theorem tw15853455313331032970:True:=trivial
theorem tw1588429554557377671:True:=trivial
theorem tw1588796476906247032:True:=trivial
theorem tw15900214185917603894:True:=trivial
theorem tw15920994898501682046:True:=trivial
theorem tw15934973787353920078:True:=trivial
theorem tw15935597503859830302:True:=trivial
theorem tw15940044447497746152:True:=trivial
theorem tw15954562447350173974:True:=trivial
theorem tw15958251840233852513:True:=trivial
theorem tw16014122377748801370:True:=trivial
theorem tw16017270019315447300:True:=trivial
theorem tw16031094845832847177:True:=trivial
theorem tw16032579428175697526:True:=trivial
theorem tw16040425474387389735:True:=trivial
theorem tw16047580132934572082:True:=trivial
theorem tw16050132568650888344:True:=trivial
theorem tw1606959808800595217:True:=trivial
theorem tw16150252151555597942:True:=trivial
theorem tw16165436265799589256:True:=trivial
theorem tw16211214150662944749:True:=trivial
theorem tw16211925350322782931:True:=trivial
theorem tw16211958651563864384:True:=trivial
theorem tw1626654785247074434:True:=trivial
theorem tw16273808086367986208:True:=trivial
theorem tw16288680010934121000:True:=trivial
theorem tw16294158318793264160:True:=trivial
theorem tw1634243904347377419:True:=trivial
theorem tw16349767763770386238:True:=trivial
theorem tw16375828390726372020:True:=trivial
theorem tw16432996995275927909:True:=trivial
theorem tw16436769878439767884:True:=trivial
theorem tw16463814784039894554:True:=trivial
theorem tw16472696503166509485:True:=trivial
theorem tw16493543096884825773:True:=trivial
theorem tw16498830254820787665:True:=trivial
theorem tw16548961282080077385:True:=trivial
theorem tw16559943850033137632:True:=trivial
theorem tw16615615407811580443:True:=trivial
theorem tw16632148834473087694:True:=trivial
theorem tw16633123527259739201:True:=trivial
theorem tw16639342466759231185:True:=trivial
theorem tw16646983984680374953:True:=trivial
theorem tw16651223687811682537:True:=trivial
theorem tw16652354507363034590:True:=trivial
theorem tw16666756797366870923:True:=trivial
theorem tw16678510382334243891:True:=trivial
theorem tw16681434485052110699:True:=trivial
theorem tw16720015300865735865:True:=trivial
theorem tw16728656950200242508:True:=trivial
theorem tw16729828933294064228:True:=trivial
theorem tw16749411798477430469:True:=trivial
theorem tw16750129588476111101:True:=trivial
theorem tw1676439914413764410:True:=trivial
theorem tw1677330429231587901:True:=trivial
theorem tw16797971048445819290:True:=trivial
theorem tw16809822508150324933:True:=trivial
theorem tw16839065418352721960:True:=trivial
theorem tw16875325937459401905:True:=trivial
theorem tw16911364762230463731:True:=trivial
theorem tw16933336227700317803:True:=trivial
theorem tw16934407040414203445:True:=trivial
theorem tw16935055282306895888:True:=trivial
theorem tw16936257161938600090:True:=trivial
theorem tw17039036742491310931:True:=trivial
theorem tw17052944145972358801:True:=trivial
theorem tw17070971532155133711:True:=trivial
theorem tw17074516574466627330:True:=trivial
theorem tw17108677837218366460:True:=trivial
theorem tw17135072757054328472:True:=trivial
theorem tw17155406917344964836:True:=trivial
theorem tw17197916355831939863:True:=trivial
theorem tw17218152071190534393:True:=trivial
theorem tw17220820000808875534:True:=trivial
theorem tw17231039613819265226:True:=trivial
theorem tw17234205659461398896:True:=trivial
theorem tw17262655993399626591:True:=trivial
theorem tw17337532342840568991:True:=trivial
theorem tw1735057660295046535:True:=trivial
theorem tw17384438612678167068:True:=trivial
theorem tw17410419238448724870:True:=trivial
theorem tw17485447230868781862:True:=trivial
theorem tw17488837724548555706:True:=trivial
theorem tw17493388162610448317:True:=trivial
theorem tw17495255332707545390:True:=trivial
theorem tw17496672728846614412:True:=trivial
theorem tw17522571713516430281:True:=trivial
theorem tw17542787829750463988:True:=trivial
theorem tw17579038743066079091:True:=trivial
theorem tw17607475393957821258:True:=trivial
theorem tw1761762518408731271:True:=trivial
theorem tw17629848433257198665:True:=trivial
theorem tw17645348273112324793:True:=trivial
theorem tw17686209892136850369:True:=trivial
theorem tw17709201524076258262:True:=trivial
theorem tw17726562328674042827:True:=trivial
theorem tw17743779773416292876:True:=trivial
theorem tw17759906468170854026:True:=trivial
theorem tw17762270474055868918:True:=trivial
theorem tw17767033480710332568:True:=trivial
theorem tw177822529245331091:True:=trivial
theorem tw17845294709613791432:True:=trivial
theorem tw17876447314082152884:True:=trivial
theorem tw17880505303857025771:True:=trivial
theorem tw17902524026437176473:True:=trivial
theorem tw17904606487467450434:True:=trivial
theorem tw17917757288796114540:True:=trivial
theorem tw17927944078723695611:True:=trivial
theorem tw17931580836738002467:True:=trivial
theorem tw17935085769705122751:True:=trivial
theorem tw17952089734819239173:True:=trivial
theorem tw18000794380652880422:True:=trivial
theorem tw18021794110588921528:True:=trivial
theorem tw18025469962790456367:True:=trivial
theorem tw18046853605260568065:True:=trivial
theorem tw18049027491063783329:True:=trivial
theorem tw18058929913693142695:True:=trivial
theorem tw18074691327500242911:True:=trivial
theorem tw18103913361330208799:True:=trivial
theorem tw18132038861913917173:True:=trivial
theorem tw18161866728099250040:True:=trivial
theorem tw18172378883444231803:True:=trivial
theorem tw18183272016086072244:True:=trivial
theorem tw18184669868338165725:True:=trivial
theorem tw18191385818255670867:True:=trivial
theorem tw18269737445605333230:True:=trivial
theorem tw18275675523371109737:True:=trivial
theorem tw18290944646325677192:True:=trivial
theorem tw18323789507677693030:True:=trivial
theorem tw18389215777213571949:True:=trivial
theorem tw18394124900759010948:True:=trivial
theorem tw18402867169338668895:True:=trivial
theorem tw18406182055482663975:True:=trivial
theorem tw18410092997129398322:True:=trivial
theorem tw1841850758179403085:True:=trivial
theorem tw18421710259216005712:True:=trivial
theorem tw18432056827143309350:True:=trivial
theorem tw18441889364264546565:True:=trivial
theorem tw1845384290117801556:True:=trivial
theorem tw1882050971200726784:True:=trivial
theorem tw1896083679910303672:True:=trivial
theorem tw1959220315578358920:True:=trivial
theorem tw1972251835631161601:True:=trivial
theorem tw204120091681246797:True:=trivial
theorem tw2043591088845202209:True:=trivial
theorem tw2065010698209736927:True:=trivial
theorem tw208859686926708033:True:=trivial
theorem tw2110647564804482754:True:=trivial
theorem tw2137483829594056733:True:=trivial
theorem tw2138989533657658847:True:=trivial
theorem tw2166559456407303578:True:=trivial
theorem tw2196593331588198957:True:=trivial
theorem tw2214642768427423787:True:=trivial
theorem tw2221900696870969285:True:=trivial
theorem tw230488920423808790:True:=trivial
theorem tw2316607308615070633:True:=trivial
theorem tw2380098243711133215:True:=trivial
theorem tw2381432613276371957:True:=trivial
theorem tw2384971116170486981:True:=trivial
theorem tw2389726857450796321:True:=trivial
theorem tw2392569120346324019:True:=trivial
theorem tw2394489931892781394:True:=trivial
theorem tw2459490285844476096:True:=trivial
theorem tw2462584130115354498:True:=trivial
theorem tw2480152633287408689:True:=trivial
theorem tw2492725137400613393:True:=trivial
theorem tw2493895913985873741:True:=trivial
theorem tw249958352357954885:True:=trivial
theorem tw2540966903411070877:True:=trivial
theorem tw2559664335273491900:True:=trivial
theorem tw2611497246105942295:True:=trivial
theorem tw2658097534629032275:True:=trivial
theorem tw265984969536064922:True:=trivial
theorem tw26695696021573277:True:=trivial
theorem tw2687318183019580819:True:=trivial
theorem tw2689899403684322641:True:=trivial
theorem tw2691803728761019775:True:=trivial
theorem tw2713328501347402698:True:=trivial
theorem tw2727500280075744056:True:=trivial
theorem tw2785223602013274094:True:=trivial
theorem tw281596674502277034:True:=trivial
theorem tw2824909061660762666:True:=trivial
theorem tw2827320626264354983:True:=trivial
theorem tw2834556672390459620:True:=trivial
theorem tw2839567073405238357:True:=trivial
theorem tw2842024668305721932:True:=trivial
theorem tw2911914215604394704:True:=trivial
theorem tw293668580656332489:True:=trivial
theorem tw2937096084001290426:True:=trivial
theorem tw2946218284031235424:True:=trivial
theorem tw2999057069758278539:True:=trivial
theorem tw3017211133330198799:True:=trivial
theorem tw3047778811644293529:True:=trivial
theorem tw3064296853478353583:True:=trivial
theorem tw306906902625075510:True:=trivial
theorem tw308337887787599346:True:=trivial
theorem tw311453851260072941:True:=trivial
theorem tw311522778543145200:True:=trivial
theorem tw3117872818927500113:True:=trivial
theorem tw3153359278626483800:True:=trivial
theorem tw3160131306976853190:True:=trivial
theorem tw3167160794761964993:True:=trivial
theorem tw3171490965190237484:True:=trivial
theorem tw3199523059713293760:True:=trivial
theorem tw3206146754206068097:True:=trivial
theorem tw3220884252682531133:True:=trivial
theorem tw3243149153010942658:True:=trivial
theorem tw3243733898737787485:True:=trivial
theorem tw3250548672275479457:True:=trivial
theorem tw3271287123731660941:True:=trivial
theorem tw3324522793329152276:True:=trivial
theorem tw3344175761106098804:True:=trivial
theorem tw3363919023477845582:True:=trivial
theorem tw338820617642429392:True:=trivial
theorem tw3397229367745380675:True:=trivial
theorem tw3415280765809332819:True:=trivial
theorem tw3421910678947684520:True:=trivial
theorem tw3440563867133123347:True:=trivial
theorem tw3443391912523876129:True:=trivial
theorem tw3454675025245884687:True:=trivial
theorem tw3506772717708121196:True:=trivial
theorem tw3507706131966648411:True:=trivial
theorem tw3529774096619168383:True:=trivial
theorem tw3557207253931389660:True:=trivial
theorem tw3565722662356787113:True:=trivial
theorem tw3573454119254799277:True:=trivial
theorem tw3596468615235446907:True:=trivial
theorem tw3608857035346270484:True:=trivial
theorem tw3611769335114922101:True:=trivial
theorem tw3656007885788860716:True:=trivial
theorem tw367902502058157257:True:=trivial
theorem tw3679218531814094767:True:=trivial
theorem tw3680274263572097129:True:=trivial
theorem tw3691306521665032212:True:=trivial
theorem tw3716586810860144372:True:=trivial
theorem tw3719083352922298477:True:=trivial
theorem tw3756648018230194900:True:=trivial
theorem tw3765353184394874218:True:=trivial
theorem tw377029960893857542:True:=trivial
theorem tw3786819329445926364:True:=trivial
theorem tw3787220368145776830:True:=trivial
theorem tw3869967118954995840:True:=trivial
theorem tw3890849765189221256:True:=trivial
theorem tw389130622065847444:True:=trivial
theorem tw390358026263778033:True:=trivial
theorem tw3934782563716993283:True:=trivial
theorem tw3954719309929927368:True:=trivial
theorem tw3971166865743474981:True:=trivial
theorem tw3986407442007473456:True:=trivial
theorem tw4003000581837523976:True:=trivial
theorem tw4037290526496274973:True:=trivial
theorem tw4039591017147108618:True:=trivial
theorem tw4058934104361098207:True:=trivial
theorem tw406374373375983334:True:=trivial
theorem tw4105051826374830775:True:=trivial
theorem tw4110332847275016095:True:=trivial
theorem tw4114055509297112221:True:=trivial
theorem tw4116288405894798537:True:=trivial
theorem tw4135501267033373407:True:=trivial
theorem tw4151733835705861391:True:=trivial
theorem tw4177001887653782528:True:=trivial
theorem tw4183820626945369775:True:=trivial
theorem tw4193365843129815512:True:=trivial
theorem tw4243446017290060317:True:=trivial
theorem tw4288117534358478796:True:=trivial
theorem tw4293314593782259995:True:=trivial
theorem tw4312277654637267896:True:=trivial
theorem tw4320877946561185747:True:=trivial
theorem tw433120203883417978:True:=trivial
theorem tw4384415975424114998:True:=trivial
theorem tw4403986126486129062:True:=trivial
theorem tw4404766317607582023:True:=trivial
theorem tw448168927501743305:True:=trivial
theorem tw4487930878518271066:True:=trivial
theorem tw4547212948622665880:True:=trivial
theorem tw4565379019352367291:True:=trivial
theorem tw4660442369603735556:True:=trivial
theorem tw466088183029997322:True:=trivial
theorem tw4711713880183146659:True:=trivial
theorem tw4741383590661771518:True:=trivial
theorem tw4830955702985821206:True:=trivial
theorem tw4877483799412291059:True:=trivial
theorem tw4877810476982121177:True:=trivial
theorem tw4899459113143287864:True:=trivial
theorem tw4903363132454473798:True:=trivial
theorem tw4923778436138843997:True:=trivial
theorem tw4946092528712692357:True:=trivial
theorem tw4947000403163620706:True:=trivial
theorem tw4947852804467256201:True:=trivial
theorem tw4958893428383943554:True:=trivial
theorem tw4980511857999718460:True:=trivial
theorem tw4982386518249235774:True:=trivial
theorem tw498386059189498544:True:=trivial
theorem tw4985025254230880074:True:=trivial
theorem tw500873199322406564:True:=trivial
theorem tw5061646135792007568:True:=trivial
theorem tw5068120318794026929:True:=trivial
theorem tw5071060099796921662:True:=trivial
theorem tw5075220358908586455:True:=trivial
theorem tw5086953514939941202:True:=trivial
theorem tw5091123464317185959:True:=trivial
theorem tw5155825905033453888:True:=trivial
theorem tw5164109526490947792:True:=trivial
theorem tw5177063436065237336:True:=trivial
theorem tw5218363076962934190:True:=trivial
theorem tw5276947537333703148:True:=trivial
theorem tw527981084879202280:True:=trivial
theorem tw5281894859411942667:True:=trivial
theorem tw5285547612466415535:True:=trivial
theorem tw534517865059739524:True:=trivial
theorem tw5380938783099227782:True:=trivial
theorem tw5406697817936400291:True:=trivial
theorem tw5424416788323174408:True:=trivial
theorem tw5429572388684591030:True:=trivial
theorem tw5431690305332768808:True:=trivial
theorem tw5443284832669056263:True:=trivial
theorem tw5446976591104538782:True:=trivial
theorem tw5459332446976687852:True:=trivial
theorem tw5488827249154376718:True:=trivial
theorem tw5493013212919251309:True:=trivial
theorem tw5564687907961976334:True:=trivial
theorem tw5659393859770649478:True:=trivial
theorem tw5729224716920065901:True:=trivial
theorem tw5769579231423272449:True:=trivial
theorem tw5787001169516093241:True:=trivial
theorem tw5801517022838546789:True:=trivial
theorem tw5868003482978584561:True:=trivial
theorem tw589394911085766407:True:=trivial
theorem tw5904406952454936006:True:=trivial
theorem tw5928978908429569996:True:=trivial
theorem tw5952342246917653191:True:=trivial
theorem tw5960985975982052485:True:=trivial
theorem tw5961342856622790499:True:=trivial
theorem tw596188887265291185:True:=trivial
theorem tw5976650198071264412:True:=trivial
theorem tw6002108460608491855:True:=trivial
theorem tw6015367299497366118:True:=trivial
theorem tw6049347326295808793:True:=trivial
theorem tw6070269263149374805:True:=trivial
theorem tw6108653787275429513:True:=trivial
theorem tw6148144377475360920:True:=trivial
theorem tw6153850045169007895:True:=trivial
theorem tw6156082355381406736:True:=trivial
theorem tw6209453344600322267:True:=trivial
theorem tw6214785327039409886:True:=trivial
theorem tw6216616357512087885:True:=trivial
theorem tw6238389689599721527:True:=trivial
theorem tw6263825738367049300:True:=trivial
theorem tw6283167589960186747:True:=trivial
theorem tw6287461471311350994:True:=trivial
theorem tw6300074090748539064:True:=trivial
theorem tw6388371555662778544:True:=trivial
theorem tw6407845727335130978:True:=trivial
theorem tw642774989397616576:True:=trivial
theorem tw6438561537344513891:True:=trivial
theorem tw6438990875002634440:True:=trivial
theorem tw6443452890784968989:True:=trivial
theorem tw6457841771093277295:True:=trivial
theorem tw6459847130195478835:True:=trivial
theorem tw6468730464998789270:True:=trivial
theorem tw6486728307141559117:True:=trivial
theorem tw6538770428227316280:True:=trivial
theorem tw6572810409229601720:True:=trivial
theorem tw65997234558666682:True:=trivial
theorem tw660415589660076563:True:=trivial
theorem tw6658126734398674395:True:=trivial
theorem tw6676846209567484674:True:=trivial
theorem tw6714802484385662206:True:=trivial
theorem tw6718448015478403418:True:=trivial
theorem tw6723544889023162490:True:=trivial
theorem tw6737006281045005040:True:=trivial
theorem tw6765493759675864370:True:=trivial
theorem tw6784110662400136093:True:=trivial
theorem tw6785452347695225241:True:=trivial
theorem tw6790172396229435429:True:=trivial
theorem tw6856379256544641332:True:=trivial
theorem tw6873949933163592677:True:=trivial
theorem tw69045284669812993:True:=trivial
theorem tw6915852819232280382:True:=trivial
theorem tw6943728465545234729:True:=trivial
theorem tw6956819998148932138:True:=trivial
theorem tw6972464662261631553:True:=trivial
theorem tw7033897339263613260:True:=trivial
theorem tw7068004202680299248:True:=trivial
theorem tw7101661005322484935:True:=trivial
theorem tw7105073040304174910:True:=trivial
theorem tw7125166452143319107:True:=trivial
theorem tw7153828008328443037:True:=trivial
theorem tw7213219782437689156:True:=trivial
theorem tw7260758511885768038:True:=trivial
theorem tw729293934658775435:True:=trivial
theorem tw7297807202455807190:True:=trivial
theorem tw7305942948263855233:True:=trivial
theorem tw7310780441079224495:True:=trivial
theorem tw7340577868892962369:True:=trivial
theorem tw7354078029829071429:True:=trivial
theorem tw7358830506325674459:True:=trivial
theorem tw7370148807527527995:True:=trivial
theorem tw7372588063820079635:True:=trivial
theorem tw7435811272005432184:True:=trivial
theorem tw7436236454114185424:True:=trivial
theorem tw7538878220789228588:True:=trivial
theorem tw7544726902208385190:True:=trivial
theorem tw7565749303934348474:True:=trivial
theorem tw7570457955785406278:True:=trivial
theorem tw757662606690215818:True:=trivial
theorem tw7598111200296059998:True:=trivial
theorem tw7637190671544504982:True:=trivial
theorem tw7645033340862520888:True:=trivial
theorem tw766800615750367504:True:=trivial
theorem tw7685789122095104746:True:=trivial
theorem tw7692553360309706840:True:=trivial
theorem tw7711527962277603298:True:=trivial
theorem tw7719446091560275775:True:=trivial
theorem tw7765145213795876222:True:=trivial
theorem tw7786148843387938608:True:=trivial
theorem tw7791631115216623702:True:=trivial
theorem tw7794498638283488823:True:=trivial
theorem tw78007915239869477:True:=trivial
theorem tw781165999761697049:True:=trivial
theorem tw7837361886068125735:True:=trivial
theorem tw7849002950706552304:True:=trivial
theorem tw785908600828710129:True:=trivial
theorem tw7865110161537306410:True:=trivial
theorem tw7904816932543927629:True:=trivial
theorem tw7923453316861475744:True:=trivial
theorem tw8021334869164065336:True:=trivial
theorem tw8026141958866841470:True:=trivial
theorem tw804705080780860526:True:=trivial
theorem tw8050270051971552342:True:=trivial
theorem tw8069396295919569941:True:=trivial
theorem tw8107912778619485799:True:=trivial
theorem tw8123027555090277994:True:=trivial
theorem tw8145295165273481108:True:=trivial
theorem tw8172702387302800172:True:=trivial
theorem tw8193283172759341373:True:=trivial
theorem tw8218210927182546081:True:=trivial
theorem tw8235940642162793256:True:=trivial
theorem tw8250101279276315096:True:=trivial
theorem tw8267769786178117928:True:=trivial
theorem tw8307706422264122754:True:=trivial
theorem tw8343579582828462834:True:=trivial
theorem tw836596708778610459:True:=trivial
theorem tw8399094736382200167:True:=trivial
theorem tw840480596384858793:True:=trivial
theorem tw8413664197011023284:True:=trivial
theorem tw8427027230509738720:True:=trivial
theorem tw842799390201049761:True:=trivial
theorem tw8441853928805620108:True:=trivial
theorem tw846021546410784132:True:=trivial
theorem tw8465319164944050188:True:=trivial
theorem tw8486064626397373075:True:=trivial
theorem tw8497844640400274685:True:=trivial
theorem tw8503319138075140655:True:=trivial
theorem tw854117798549292391:True:=trivial
theorem tw8543406625126828578:True:=trivial
theorem tw8567507799349048849:True:=trivial
theorem tw8617772760507596031:True:=trivial
theorem tw8646498057314923443:True:=trivial
theorem tw8721115824047174222:True:=trivial
theorem tw881667663567011784:True:=trivial
theorem tw8845103878981057881:True:=trivial
theorem tw8900966885912225621:True:=trivial
theorem tw8917894887012708031:True:=trivial
theorem tw8933586455681227864:True:=trivial
theorem tw896474864862510496:True:=trivial
theorem tw9061313186310725831:True:=trivial
theorem tw9067729854541720139:True:=trivial
theorem tw9075930405398282339:True:=trivial
theorem tw915160150218710777:True:=trivial
theorem tw9153175122614475857:True:=trivial
theorem tw9174141523258582848:True:=trivial
theorem tw9177830950673401404:True:=trivial
theorem tw9179993205184032034:True:=trivial
theorem tw9202727068089220544:True:=trivial
theorem tw922507088933079228:True:=trivial
theorem tw9232888033498784163:True:=trivial
theorem tw9252159999362215351:True:=trivial
theorem tw9256049879951601451:True:=trivial
theorem tw9324170640130883582:True:=trivial
theorem tw9341826588242291631:True:=trivial
theorem tw9358589215258855405:True:=trivial
theorem tw9388159698012157161:True:=trivial
theorem tw9403988479162010881:True:=trivial
theorem tw9408002587574955064:True:=trivial
theorem tw9410725044876375054:True:=trivial
theorem tw9414211980101015934:True:=trivial
theorem tw9443295366219170461:True:=trivial
theorem tw9447597299694860455:True:=trivial
theorem tw9454724380613594213:True:=trivial
theorem tw9474962394103213508:True:=trivial
theorem tw9494690950532069993:True:=trivial
theorem tw9508736801136630989:True:=trivial
theorem tw9509809441361285310:True:=trivial
theorem tw9531286437794498580:True:=trivial
theorem tw9534601688553013751:True:=trivial
theorem tw9540095851352438859:True:=trivial
theorem tw9559559357922393673:True:=trivial
theorem tw9602704054855606248:True:=trivial
theorem tw9608345158509509567:True:=trivial
theorem tw9610852793161032957:True:=trivial
theorem tw9620362511243231438:True:=trivial
theorem tw9631808379607319740:True:=trivial
theorem tw9648422194349851516:True:=trivial
theorem tw9671920017935632870:True:=trivial
theorem tw9679566257868932018:True:=trivial
theorem tw9715303531074262114:True:=trivial
theorem tw9716004017769787381:True:=trivial
theorem tw973474468110409473:True:=trivial
theorem tw9745265585415875276:True:=trivial
theorem tw9753259770482082235:True:=trivial
theorem tw9758252966269304345:True:=trivial
theorem tw9768303893913679736:True:=trivial
theorem tw9860595282772439058:True:=trivial
theorem tw986257098172489398:True:=trivial
theorem tw9868850299714939407:True:=trivial
theorem tw9881803663892143149:True:=trivial
theorem tw9885279486691743027:True:=trivial
theorem tw9885588760858851093:True:=trivial
theorem tw9922107370898876825:True:=trivial
theorem tw9930912560770056218:True:=trivial
theorem tw9984943545225187904:True:=trivial
theorem tw11780312574277169452:True:=trivial
theorem tw2926832586430536964:True:=trivial
theorem tw17809500174388454853:True:=trivial
theorem tw4096408254843148890:True:=trivial
end PySem.W.Fast
end
section
open PySem PySem.W PyProof.Rows
section
local macro_rules | `(tactic| o_headS (kHook $k $a $e)) => `(tactic| o_headS (PySem.W.kmHook $k $a $e [164, 217, 572]))
local macro_rules | `(tactic| o_law) => `(tactic| skip)
local macro_rules | `(tactic| k_head) => `(tactic| k_headS)
local macro_rules | `(tactic| w_witness2) => `(tactic| exact ⟨[.list [.int 0]], by decide +kernel, by decide +kernel⟩)
open_top WH.hd for PySem.Challenge.rw_wordhouse_s01_answers
end
set_option maxRecDepth 100000 in
set_option maxHeartbeats 0 in
theorem WH.allT {w : World} {mg : Str → Option Value} {h base : Heap} (KX : (WH.hd.heap_1 w.params).In h) (G : h.Ns mainGlobals mg) (XB : (WH.hd.heap_1 w.params).In base) (bm : L2.bg0 mg base) : WH.b9v PySem.Challenge.rw_wordhouse_s01_answers.prog w (WH.hd.heap_1 w.params) mg base WH.A0 750 768 221 (fun p => 751 + p) WH.fnA := by
  k_fillS
  constructor
  all_goals first
    | (apply WH.b7g KX G; (focus k_is); (focus k_is); (focus k_is); (focus k_is); first | exact WH.bd1 fun _ => rfl | exact WH.bd2 fun _ _ => rfl | exact WH.bd3 fun _ _ _ => rfl | exact WH.bd4 fun _ _ _ _ => rfl)
    | (apply WH.bxw KX G; (focus k_is); (focus k_is); (focus k_is); (focus k_is); (focus k_is); (focus k_is); (focus k_is); (focus k_is); first | exact WH.bd1 fun _ => rfl | exact WH.bd2 fun _ _ => rfl | exact WH.bd3 fun _ _ _ => rfl | exact WH.bd5 fun _ _ _ _ _ => rfl)
    | (apply WH.b7i KX G XB; (focus k_is); (focus k_is); (focus k_is); (focus k_is); (focus first | exact WH.bd1 fun _ => rfl | exact WH.bd3 fun _ _ _ => rfl); (focus kernel_rfl); exact bm)
    | (refine WH.b7h KX G ?_ ?_ ?_ ?_ ?_ ?_; k_is; k_is; k_is; k_is; k_is; intro f hf; simp only [WH.mq, WH.arr, WH.rj, WH.aer, WH.ai1, WH.avb, WH.a9a, List.mem_cons, List.not_mem_nil, or_false] at hf; repeat (first | (rcases hf with rfl | hf; k_is) | (subst hf; k_is)))
    | (constructor <;> first | (refine' WH.cgx KX G ?_; k_is) | (apply WH.int_mk KX G; (focus k_is)) | decide)
    | decide
    | skip
  case ap =>
    refine' ⟨⟨⟨?_, ?_, ?_, ?_⟩, ?_, ?_, ?_, ?_⟩, ⟨⟨?_, ?_, ?_, ?_⟩, ?_, ?_, ?_, ?_⟩, ⟨⟨?_, ?_, ?_, ?_⟩, ?_, ?_, ?_, ?_⟩, PySem.W.mg_of KX G ?_, PySem.W.mg_of KX G ?_, ?_, ?_, ?_, ?_, ?_⟩ <;> first | k_is | kernel_rfl
  case kinds =>
    refine' ⟨PySem.W.mg_of KX G ?ka, WH.bs2 ?kl ?kz ?kr⟩
    case ka => k_is
    case kl => k_is
    case kz => decide
    case kr => exact .cons ⟨_, rfl⟩ (.cons ⟨_, rfl⟩ (.cons ⟨_, rfl⟩ (.cons ⟨_, rfl⟩ (.cons ⟨_, rfl⟩ .nil))))
  case top =>
    refine ⟨PySem.W.mg_of KX G ?_, ?_, ?_, PySem.W.mg_of KX G ?_, ?_, ?_⟩
    · k_is
    · apply WH.bxx
      (focus k_is)
      · rfl
      · repeat' (first | exact trivial | refine ⟨⟨⟨_, rfl⟩, rfl, rfl⟩, ?_⟩)
    · intro p hp
      rcases WH.bsx hp with h | h | h | h | h | h | h | h | h | h | h | h | h | h | h | h | h <;> subst h <;> (apply WH.b9z; (focus k_is))
    · k_is
    · apply WH.bxx
      (focus k_is)
      · rfl
      · repeat' (first | exact trivial | refine ⟨⟨⟨_, rfl⟩, rfl, rfl⟩, ?_⟩)
    · intro p hp
      rcases WH.bsx hp with h | h | h | h | h | h | h | h | h | h | h | h | h | h | h | h | h <;> subst h <;> (refine PySem.W.mg_of KX G ?_; k_is)
end
section
local macro_rules (kind := Lean.Parser.Command.declaration) | s => Z.ex s
local macro_rules (kind := Lean.Parser.Command.variable) | s => Z.ex s
local macro_rules (kind := Lean.Parser.Command.mutual) | s => Z.ex s
local macro_rules (kind := Lean.Parser.Tactic.intro) | s => Z.mIntro s
local macro_rules (kind := Lean.Parser.Tactic.delta) | s => Z.mDelta s
local macro_rules (kind := Lean.Parser.Tactic.obtain) | s => Z.mObtain s
local macro_rules (kind := Lean.Parser.Tactic.rintro) | s => Z.mRintro s
local macro_rules (kind := Lean.Parser.Tactic.rwSeq) | s => Z.mRw s
local macro_rules (kind := Lean.Parser.Tactic.decide) | s => Z.mDecide s
local macro_rules (kind := Lean.Parser.Tactic.rcases) | s => Z.mRcases s
section
theorem a48{a b:Nat}{P Q:aE}(h1:bBr a b P)(h2:bBr b a Q):dZ tW P Q:=Wo LL h1 z z p LL h2 y y q dE Nj (Nat.lt_trans z y) BJ y.symm (SW z) (by rcases h2 with y|⟨_,q⟩) dE BJ z.symm (SW y) aB cH z p q
theorem avz{x y z:Nat}{P Q R:aE}(h:eSc)(k:y<z∨y=z∧Q)(r:cA P Q R):x<z∨x=z∧R:=bDM wE gB (k.elim yE (Nat.lt_trans h k) yE (Nat.lt_of_lt_of_eq h k.1)) wE (k.elim yE gB (dBV (bEe h.1) k) yE fF (And.intro pZ h.1 k.1 (r h.2 k.2)))
theorem av0{x y:Nat}{P Q:aE}(r:P∨Q):eSc∨(y<x∨y=x∧Q):=(Nat.lt_trichotomy x y).elim wE cKA wE (bDM tO (r.elim bT p gB fF (And.intro e p) Ur fF fF (And.intro aK1 q)) wE fF aXt)
theorem om0:(-BY)≤wG:=kH
theorem om1:wG<BY:=fC
theorem om2:vZ 0:=cKN bWY
theorem om3:(qC 0):=cKN 12
theorem om4:0≤9:=cKN 9
theorem om5:1≠0:=lC Nat.one_ne_zero
theorem om6(h0:oJ):oJ:=iP
theorem om7{z0 z1:Int}:((z0≤z1)∧(z1≤z0))↔(z1=z0):=iP
theorem om8{z0:Int}(h0:eWs):(aZQ z0)≤1:=fC
theorem om9{z0:Int}(h0:eWs):(z0=GV)∨(z0=wG):=fX
theorem b91{a0:Nat}(h0:aQV):dS3∧(Fd∨dS3):=iP
theorem b92{a0:Nat}(h0:aQV):iD (2^24):=HX
theorem b93{a0 a1 a2 a3 a4 a5 a6:Nat}(h0:aQ9)(h1:bPi)(h2:a3<a2)(h3:qC a4)(h4:a5≤(a1+(12*a3)))(h5:iD (a5+(vA a6 a4))):iD 200000:=fX
theorem b94{a0 a1 a2 a3 a4 a5 a6 a7 a8 a9 w_ a11:Nat}(h0:aHi QF bS5 aYO (a0<a8) (a0=a8) a4 w_ a6 a11)(h1:aHi bS5 WC aHi a8 a2 aHi w_ a5 (a11≤a7)):fBu:=eG9 dNq eKv
theorem b95{a0 a1 a2 a3 a4 a5:Nat}(h0:aQ9)(h1:bPi)(h2:a3<a2)(h3:qC a4)(h4:a5<a4)(h5:iD cVo a3 a5):aQV:=fX
theorem b96{a0 a1 a2 a3 a4 a5 a6 a7 a8:Nat}(h0:JB (a0<a6) (a0=a6) JB (a2<a7) (a2=a7) (a4≤a8))(h1:aYO (a6<a1) (a6=a1) a7 a3 a8 a5):eY2:=eG9 eKv
theorem b97{a0 a1 a2 a3 a4:Nat}(h0:Ht)(h1:bPi)(h2:a3≤dTz)(h3:bOF a3):Hi:=Ye
theorem b98{a0 a1 a2 a3 a4 a5 a6 a7:Nat}:fBu∨(aHi WC QF aYO cMI cNd a5 a4 a7 a6):=av0 (av0 (av0 dRe))
theorem b99{a0 a1 a2 a3 a4 a5 a6:Nat}(h0:(RT+a3)≤Zs)(h1:a0=RT)(h2:a1=a4)(h3:dLM)(h4:(a6+(a5+2))=a3):aGS IG:=Ye
theorem b9_{a0 a1 a2 a3:Nat}(h0:Ht)(h1:bPi)(h2:a3≤a2)(h3:bOF a3):iD 10000:=fX
theorem b9'{a0 a1 a2 a3 a4 a5 a6:Nat}(h0:mT (cVn+3))(h1:a4=((3+a5)+a0))(h2:(a6+a4)≤a3):Bg:=kH
theorem b_a{a0 a1 a2 a3 a4 a5 a6:Nat}(h0:cLY a5)(h1:a5=(a1+a6))(h2:(a2+a4)≤a6):vZ ((QF+a2)+(vA a3 a4)):=Ye
theorem b_b{a0 a1:Nat}(h0:Ht)(h1:nW):vZ (0+(12*a0)):=fX
theorem b_c{a0 a1:Nat}(h0:Ht)(h1:nW):vZ (0+(200*a0)):=fX
theorem b_d{a0 a1 a2:Nat}(h0:qP a2)(h1:Pe):qP SG:=kH
theorem b_e{a0 a1 a2 a3 a4 a5:Nat}:eAB (eJl∧(cZ a4=cZ a5)) (aP1∧(a4=a5)):=fX
theorem b_f{a0 a1 a2 a3 a4 a5:Nat}:eY2∨(aYO Pf Yk a3 a2 a5 a4):=av0 (av0 dRe)
theorem b_g{a0 a1 a2 a3 a4:Nat}(h0:mT aCY)(h1:a2=(No+a4))(h2:a3=kT):bO0 bBK:=kH
theorem b_h{a0 a1 a2 a3 a4 a5:Nat}(h0:a0=cVn)(h1:aZX ((cVn+a4)+a5)):cKX:=fX
theorem bxz{a0 a1 a2 a3 a4:Nat}(h0:WL IG)(h1:qP a2)(h2:a3≤(a1+dTz))(h3:cLg):iD bWZ:=LE
theorem bx0{a0 a1 a2 a3:Nat}(h0:a1=WC)(h1:a0<WC):nG:=LE
theorem b_i{a0 a1 a2 a3 a4:Nat}(h0:qP a3)(h1:iD vA a4 a3):bN4 (min a1 (min 1 a2)) 2000:=bRS (Nat.add_le_add (aS6 h1 (Nat.min_le_right _ _)) eE8 Nat.min_le_left) (Nat.add_le_add_right h0 1) iB
theorem b_j{a0 a1 a2 a3 a4:Nat}(h0:cLY a3)(h1:a3=(a2+a4)):cLY aZd:=Ye
theorem b_k{a0 a1 a2 a3 a4:Nat}(h0:bN4 a3 Qe)(h1:(a1+a4)≤a3)(h2:a2≤a4):(QF+a2)≤Qe:=kH
theorem b_l{a0 a1 a2 a3 a4:Nat}(h0:(a3+a4)≤a2)(h1:a3=a0)(h2:a4=a1):aRE:=LE
theorem b_m{a0 a1 a2:Nat}(h0:a0=aCY):zH=a2:=dJQ Nat.eq_sub_of_add_eq'
theorem b_n{a0 a1 a2 a3 a4:Nat}(h0:a0=(a3+a4)):(a0+aCY)=((a3+a1)+(a4+a2)):=aEf
theorem b_o{a0 a1 a2 a3:Nat}(h0:No=zH)(h1:0<a2):(a0-aCY)<zH:=iP
theorem b_p{a0 a1 a2:Nat}(h0:a1=cD8):oH:=dU7
theorem b_q{a0:Nat}:(vA a0 a0)=a0:=bAq bW0
theorem bx1{a0 a1 a2 a3:Nat}(h0:Ht)(h1:aJU)(h2:a0=bCx):Hi:=kH
theorem b_r{a0 a1 a2 a3:Nat}(h0:Pe)(h1:a3=a2)(h2:a0<a3):nG:=LE
theorem xf{a0 a1 a2:Nat}(h0:Pe)(h1:Nv):nG:=eMg
theorem b_s{a0 a1 a2 a3 a4:Nat}(h0:Pe)(h1:a3=a4)(h2:cLg)(h3:a4=a2):nW:=fC
theorem b_t{a0 a1:Nat}(h0:aQ9):vZ SG:=FH
theorem b_u{a0 a1 a2 a3 a4:Nat}(h0:a0=WC)(h1:(a1-a2)=(a3+(a4+1))):nG:=LE
theorem bx2{a0 a1 a2 a3:Nat}(h0:a1=WC)(h1:Nv):nG:=Ye
theorem a9k{a0 a1 a2:Nat}(h0:aJW)(h1:Nv):nG:=kH
theorem b_v{a0 a1 a2 a3:Nat}(h0:mT ((((dQh+a3)+(0+1))+a1)+a2))(h1:iD a3):eCm∧(mT (((a3+a1)+a2)+3)):=fX
theorem b_w{a0 a1 a2 a3:Nat}:eAB eJl aP1:=fX
theorem b_x{a0 a1 a2 a3:Nat}:((kT+a1)+(a2+(1+a3)))=(cRl+(1+a3)):=aWQ (Nat.add_assoc (kT+a1) a2 (1+a3))
theorem b_y{a0 a1 a2:Nat}(h0:mT (QF+a2)):bQb:=fX
theorem bs4{a0 a1 a2 a3:Nat}(h0:(SG-a2)=No):(SG-RT)=a3:=cUQ
theorem bs5{a0 a1 a2 a3:Nat}(h0:dZe):nG:=iP
theorem bs6{a0 a1 a2 a3:Nat}(h0:(cNw-a0)=No):nG:=iP
theorem b_z{a0 a1 a2:Nat}(h0:cUW)(h1:aRS≤4)(h2:4≤aRS):oJ:=fX
theorem a49{a0 a1:Nat}(h0:¬Pf):oH:=dRs
theorem b_0{a0 a1 a2:Nat}(h0:nW)(h1:bO0 (RT+a1)):Bg:=kH
theorem bx3{a0 a1 a2:Nat}(h0:nW)(h1:aJW)(h2:Nv):oJ:=kH
theorem b_1{a0 a1 a2 a3:Nat}(h0:aIE)(h1:bO0 (No+a2))(h2:a1=No):mT bBK:=Ye
theorem a9l{a0 a1:Nat}(h0:Pf):aRn<zH:=aBU Nat.sub_succ_lt_self a0 a1 h0
theorem b_2{a0 a1 a2 a3:Nat}:iD (((a1+((a0+(a2+No))+1))+1)+1):=Xq
theorem b_3{a0 a1 a2 a3:Nat}(h0:iD ((cVo a2 a3)+12)):iD cVo a2 No:=iP
theorem b_4{a0 a1 a2 a3:Nat}(h0:dZe):kT≤aZd:=fX
theorem bx4{a0 a1 a2 a3:Nat}(h0:a1=bCx)(h1:a0<bCx):nG:=iP
theorem bx5{a0 a1 a2 a3:Nat}(h0:a1=bCx)(h1:aZT bCx):nG:=kH
theorem b_5{a0 a1 a2 a3:Nat}(h0:Pe)(h1:(a2-kT)=No):bPE:=LE
theorem bdd{a0 a1:Nat}(h0:oH)(h1:aZS):nW:=fX
theorem b_6{a0 a1 a2:Nat}(h0:bOQ)(h1:aIE)(h2:Ym):Hi:=fX
theorem bx6{a0 a1 a2:Nat}(h0:Ht)(h1:iD a2)(h2:aJU):Hi:=fX
theorem b_7{a0 a1 a2:Nat}(h0:Ht)(h1:a0=cNw):Xt:=tX
theorem b_8{a0 a1:Nat}(h0:nG)(h1:WL 2):iD 2:=kH
theorem b_9{a0 a1 a2:Nat}(h0:Pe)(h1:kT<a2):bPE:=eMg
theorem a4_{a0 a1:Nat}(h0:bOQ)(h1:nW):Hi:=LE
theorem b__{a0 a1 a2:Nat}(h0:aQ9)(h1:cM0):bOx:=fX
theorem b_'{a0 a1 a2 a3:Nat}(h0:cLS)(h1:Ky WC)(h2:iD a3):Bg:=fX
theorem caa{a0 a1 a2 a3:Nat}(h0:WL Zt)(h1:Ky WC)(h2:cLg):iD Zt:=fX
theorem cac{a0 a1 a2:Nat}(h0:aJU)(h1:a0=(a2+aRS)):nW:=kH
theorem cad{a0 a1 a2:Nat}(h0:aOh (a2=10) (zH=4))(h1:zH≤4):(kT-a1)≤4:=bSp
theorem cae{a0 a1 a2 a3:Nat}(h0:cNd)(h1:a3=a1)(h2:aP1):nW:=fC
theorem caf{a0 a1 a2:Nat}(h0:(a1-kT)=RT):bPE:=pN Nat.lt_of_sub_eq_succ
theorem cag{a0 a1 a2 a3:Nat}(h0:aP1)(h1:Nv)(h2:a1=a3):nG:=LE
theorem bg1{a0 a1 a2 a3:Nat}(h0:aP1)(h1:a0<a3)(h2:Pe):nG:=LE
theorem cah{a0 a1 a2:Nat}(h0:Nv)(h1:WL aF6 (a2-a0)):aRE:=kH
theorem cai{a0 a1 a2 a3:Nat}(h0:Ym)(h1:iD WC)(h2:qC a3):bOz 12:=kH
theorem bx7{a0 a1 a2:Nat}(h0:aRn=RT):(a0-(wW+1))=a2:=cUQ
theorem caj{a0 a1 a2:Nat}(h0:cPg)(h1:nW):a0=aZd:=fX
theorem cak{a0 a1 a2:Nat}(h0:eCm):Bg:=fX
theorem cal{a0 a1 a2:Nat}(h0:mT (((a1+a0)+a2)+3)):Bg:=kH
theorem cam{a0 a1 a2:Nat}(h0:eJq (a2+4)):cM2:=fX
theorem can{a0 a1 a2:Nat}(h0:eJq a2):cM2:=fX
theorem cao{a0 a1 a2:Nat}(h0:((a0+(3*RT))+5)<a1):nG:=kH
theorem cap{a0 a1 a2:Nat}:(kT+aCY)=cRl:=aWQ (Nat.add_assoc kT a1 a2)
theorem bx8{a0 a1 a2:Nat}(h0:cO3≤Zs)(h1:nW):iD Zs:=fX
theorem bpj{a0 a1 a2:Nat}(h0:((vA a2 a0)-a1)=0)(h1:cPg):oH:=iP
theorem bpk{a0 a1 a2:Nat}:(a0+(aCY+1))=cRl:=Xq
theorem bx9{a0 a1 a2:Nat}(h0:cLT):(dZc+a2)≤bEk:=aEf
theorem bx_{a0 a1 a2:Nat}(h0:cLT):dZc≤bEk:=kH
theorem bx'{a0 a1 a2:Nat}(h0:cLT):dVQ:=iP
theorem bya{a0 a1 a2:Nat}(h0:aRE):aGS RT:=cL6
theorem byb{a0 a1 a2:Nat}(h0:cM0):oH:=pN Nat.le_of_add_right_le
theorem byc{a0 a1 a2:Nat}(h0:zH=RT):aRn=a2:=cUQ
theorem bpl{a0 a1:Nat}(h0:(wW+1)=kT):a0=wW:=aWQ (Nat.add_right_cancel h0)
theorem byd{a0 a1 a2:Nat}(h0:wW≤cD8)(h1:Ym):cLh:=fX
theorem bpm{a0 a1 a2:Nat}(h0:SG≤a2):(SG-a2)=0:=pN Nat.sub_eq_zero_of_le
theorem bpn{a0 a1:Nat}(h0:0<a1)(h1:nW):Bo:=kH
theorem bye{a0 a1 a2:Nat}(h0:a0<cO3):eB9:=aEf
theorem bpo{a0 a1 a2:Nat}(h0:a0<aZd):nG:=kH
theorem bpp{a0 a1 a2:Nat}(h0:a0<cNw):nG:=kH
theorem byf{a0 a1:Nat}(h0:nG)(h1:0=cOC):oJ:=kH
theorem ba3{a0 a1 a2:Nat}(h0:Nv)(h1:Pe):nG:=gC Nat.lt_of_lt_of_eq h0 dGL h1
theorem bpq{a0 a1 a2:Nat}(h0:Nv)(h1:aJW):nG:=aRZ Nat.lt_of_lt_of_eq
theorem bpr{a0 a1 a2:Nat}(h0:a0=cO3):bOF RT:=kH
theorem byg{a0 a1 a2:Nat}(h0:bKp):(a0=10)∨(WL a2):=gC Or.intro_left WL a2 h0
theorem byh{a0 a1 a2:Nat}(h0:nW):eB9:=fC
theorem byi{a0 a1 a2:Nat}(h0:aIE)(h1:Ym):oH:=aRZ le_of_eq_of_le
theorem byj{a0 a1 a2:Nat}(h0:aDE 10)(h1:aRS≠4):cUW:=aRZ not_or_intro
theorem byk{a0 a1 a2:Nat}(h0:iD aRS):aB8≤aRS:=Tm aZ
theorem bps{a0:Nat}(h0:Hi):aQV:=HX
theorem byl{a0 a1 a2:Nat}(h0:Bf)(h1:qC a2)(h2:WL (a2*12)):aGS 156:=kH
theorem bym{a0 a1 a2:Nat}(h0:oH)(h1:aJW)(h2:cMI):oJ:=Ye
theorem byn{a0 a1 a2:Nat}(h0:iD a2):iD aCY:=pN Nat.le_add_left_of_le
theorem bpt{a0:Nat}(h0:lY=GV):Fd:=pN Int.ofNat_eq_zero.mp
theorem byo{a0 a1 a2:Nat}(h0:cPg)(h1:Ky 1)(h2:JQ a2):aDE 1:=fX
theorem bpu{a0 a1:Nat}(h0:Yk):SG=a0:=fC
theorem byp{a0 a1 a2:Nat}(h0:Pe)(h1:aB8<a2):cM1:=aRZ xf
theorem byq{a0 a1 a2:Nat}(h0:Pe)(h1:2≤a2)(h2:nW):Bo:=kH
theorem byr{a0 a1 a2:Nat}(h0:((vA a0 a2)-a1)=0)(h1:¬Ym):oH:=kH
theorem bpv{a0 a1:Nat}(h0:bOQ)(h1:bBg):Hi:=fX
theorem bys{a0 a1:Nat}(h0:nG):eB8 a1:=fC
theorem bg2{a0 a1:Nat}(h0:aQ9)(h1:oH):bOx:=aJ8
theorem byu{a0 a1 a2:Nat}(h0:cLS)(h1:Ky (a2+a0)):Bg:=fX
theorem byv{a0 a1 a2:Nat}(h0:Ht)(h1:cM0):Xt:=fX
theorem bpw{a0 a1 a2:Nat}(h0:a2<SG):(SG-a2)=((SG-RT)+1):=tX
theorem bpx{a0 a1 a2:Nat}(h0:Pf)(h1:Ym):eLd:=bSp
theorem byw{a0 a1 a2:Nat}(h0:cMI)(h1:Yk):eLd:=Tm aZ
theorem byx{a0 a1 a2:Nat}(h0:aJU)(h1:Nv):nG:=aND Nat.lt_trans
theorem ba4{a0 a1 a2:Nat}(h0:aJU)(h1:aIE):nG:=aND lt_of_eq_of_lt
theorem byy{a0 a1 a2:Nat}(h0:aJU)(h1:iD RT):oH:=aJ8
theorem byz{a0 a1 a2:Nat}(h0:a2=(a0+cOC))(h1:aJW):(a0+cOC)=a1:=Tm (by rcases h0 with⟨_,_⟩)
theorem by0{a0 a1:Nat}(h0:Yj):(zH=0)↔nW:=kH
theorem by1{a0 a1:Nat}(h0:(a1-kT)=0)(h1:bBg):kT=a1:=kH
theorem by2{a0 a1 a2:Nat}(h0:aJW)(h1:eB8 a2):nG:=HX
theorem by3{a0 a1 a2:Nat}(h0:aJW)(h1:oH)(h2:JQ a2):nW:=fX
theorem by4{a0 a1:Nat}(h0:Ht):qP SG:=iP
theorem by5{a0 a1:Nat}(h0:Ht):MO SG:=kH
theorem by6{a0 a1 a2:Nat}(h0:mT a2)(h1:aRE):bQb:=fX
theorem by7{a0 a1 a2:Nat}(h0:mT a2)(h1:aRE):mT QF:=aJ8
theorem by8{a0 a1 a2:Nat}(h0:qC a2)(h1:bOz (12*a2)):bOz 200:=fX
theorem by9{a0 a1 a2:Nat}(h0:a2≤Zu):(vA zH (a2-a1))≤Zu:=bRS cGe qR Nat.sub_le h0
theorem by_{a0 a1 a2:Nat}(h0:a2≤Zt)(h1:aRE):aGS Zt:=fX
theorem bg3{a0 a1 a2:Nat}(h0:Ym)(h1:aIE):oH:=dS0
theorem by'{a0 a1 a2:Nat}(h0:Ym)(h1:iD RT):aQW:=fX
theorem bpy{a0 a1 a2:Nat}(h0:Ym)(h1:cNd):oH:=LE
theorem bza{a0 a1 a2:Nat}(h0:cUW)(h1:bKp):oJ:=fX
theorem bzb{a0 a1 a2:Nat}(h0:aZS)(h1:aIE∧aJU):oJ:=fC
theorem bzc{a0 a1:Nat}:(((dQh+a0)+(0+1))+a1)=((3+a0)+a1):=fX
theorem bzd{a0 a1:Nat}:cZ dQ6=((lY+wG)+ZO):=Xq
theorem bze{a0 a1:Nat}:((cLJ+1)+1)=(a0+(a1+3)):=bOp bpl
theorem bzf{a0 a1:Nat}(h0:bO0 bBK):Bg:=fX
theorem bzg{a0 a1:Nat}:(lY+(wG+ZO))=cZ ((kT+a1)+0):=Xq
theorem bg4{a0 a1:Nat}:(lY+ZO)=cZ QF:=cQR Int.ofNat_add_ofNat
theorem bzh{a0 a1:Nat}(h0:eNC):zH=4:=iP
theorem bzi{a0 a1:Nat}(h0:aRX>GV):aRX=cZ zH:=iP
theorem bzj{a0 a1:Nat}:(kT+wW)=(a0+(wW+1)):=gC Nat.succ_add_eq_add_succ a0 wW
theorem bpz{a0 a1:Nat}:bBK=cLJ:=cQR Nat.succ_add_eq_add_succ
theorem bp0{a0 a1:Nat}(h0:bBK≤Zs):aGS Zs:=fX
theorem bzk{a0 a1:Nat}:(vA (aB8-a1) a0)=(aB8-a1):=Xq
theorem bzl{a0 a1:Nat}:lY<cZ cLJ:=bOp Int.lt.intro
theorem azp{a0 a1:Nat}(h0:bBE):nG:=bPb
theorem ba5{a0 a1:Nat}(h0:cHB):nW:=dRt
theorem bzm{a0 a1:Nat}(h0:cHB):¬bBE:=fC
theorem bzn{a0 a1:Nat}(h0:ZO<lY):¬oH:=aEf
theorem bzo{a0 a1:Nat}(h0:ZO=lY):¬bBE:=fC
theorem ba6{a0 a1:Nat}(h0:nG):bBg:=HX
theorem bzp{a0 a1:Nat}(h0:oH):iD aZQ ((ZO+wG)-wG):=aEf
theorem bzq{a0 a1:Nat}:bN4 (12*a1) (a0+(12*wW)):=Xq
theorem bzr{a0 a1:Nat}:(a0+wW)=dQ6:=Xq
theorem a4'{a0 a1:Nat}(h0:bPE):nG:=dRu
theorem bg5{a0 a1:Nat}(h0:kT=wW):nW:=pN Nat.add_right_cancel
theorem bzs{a0 a1:Nat}(h0:kT≤(0+a1))(h1:Yj):oJ:=bSp
theorem bzt{a0 a1:Nat}(h0:bBg):aQW:=fX
theorem bg6{a0 a1:Nat}(h0:cM2):(kT+1)<a1:=dRu
theorem bzu{a0 a1:Nat}(h0:zH=4):4≤zH:=cQQ
theorem bzv{a0 a1:Nat}(h0:zH=4):eNC:=kH
theorem bp1{a0 a1:Nat}:nG↔bBE:=dO Iff.symm Int.ofNat_lt
theorem bzw{a0 a1:Nat}(h0:JQ wW):eND:=cKi
theorem bzx{a0 a1:Nat}(h0:(a1-1)<a0):aZU:=pN Nat.ne_zero_of_lt
theorem bp2{a0:Nat}(h0:Bo):cLh:=bOp ((Nat.sub_eq_iff_eq_add h0).mp)
theorem bzy{a0 a1:Nat}(h0:Ky 2)(h1:nW):JQ 2:=LE
theorem bp3{a0 a1:Nat}(h0:nG):bBE:=pN Int.ofNat_lt.mpr
theorem bzz{a0 a1:Nat}(h0:nG):(0+SG)=a0:=fX
theorem bz0{a0 a1:Nat}(h0:nG):kT<wW:=gC Nat.add_lt_add_right h0 1
theorem bz1{a0 a1:Nat}(h0:nG):a0<wW:=gC bx2 rfl h0
theorem bz2{a0 a1:Nat}(h0:nG):¬nW:=dRr
theorem bg7{a0 a1:Nat}(h0:nG)(h1:nW):oJ:=fC
theorem bz3{a0 a1:Nat}(h0:nG):aDE a1:=dRr
theorem bz4{a0 a1:Nat}(h0:nG)(h1:Yj):oJ:=kH
theorem bz5{a0 a1:Nat}(h0:a0=(0+a1)):nW:=aEf
theorem bz6{a0 a1:Nat}(h0:Fd)(h1:(Ky 1)∧(WL 4))(h2:Yj):oJ:=fC
theorem bz7{a0 a1:Nat}(h0:Fd):oH:=fC
theorem ba7{a0:Nat}(h0:bQg):Bo:=pN azp
theorem bz8{a0 a1:Nat}(h0:nW)(h1:0<a1):Bo:=LE
theorem bz9{a0 a1:Nat}(h0:nW)(h1:Ky 2):JQ 2:=LE
theorem bp4{a0 a1:Nat}(h0:nW):oH:=pN bEe
theorem bz_{a0 a1:Nat}(h0:nW)(h1:bOQ):Hi:=LE
theorem bz'{a0 a1:Nat}(h0:nW)(h1:cLS):Bg:=LE
theorem bp5{a0 a1:Nat}(h0:nW)(h1:bAS):Bf:=aND bg3
theorem b0a{a0 a1:Nat}(h0:nW)(h1:Ht):cLx:=HX
theorem bp6{a0:Nat}(h0:¬bQg):Fd:=fC
theorem b0b{a0 a1:Nat}(h0:nW)(h1:¬(12<a1)):Bf:=fC
theorem b0c{a0 a1:Nat}(h0:nW)(h1:¬(300<a1)):Xt:=fC
theorem b0d{a0 a1:Nat}:iD ((a0-(vA a1 a0))+a1):=iP
theorem bp7{a0 a1:Nat}:iD QF:=cQR Nat.le_add_right
theorem bp8{a0 a1:Nat}(h0:aQW)(h1:aDE wW):oH:=fX
theorem b0e{a0 a1:Nat}(h0:aQW)(h1:aZR wW):oH:=fX
theorem b0f{a0 a1:Nat}(h0:eBE):SG=a0:=fX
theorem b0g{a0 a1:Nat}(h0:iD 0):oH:=fC
theorem bp9{a0:Nat}(h0:aQV):cKZ:=HX
theorem bp_{a0:Nat}(h0:¬(a0<2)):JQ 2:=dRs
theorem b0h{a0 a1:Nat}(h0:Bg)(h1:WL 10):bQb:=fX
theorem b0i{a0 a1:Nat}(h0:iD dB3)(h1:WL 10):bQb:=fX
theorem bg8{a0:Nat}(h0:Bf):cLx:=HX
theorem abz{a0:Nat}(h0:Xt):Hi:=HX
theorem b0j{a0:Nat}(h0:cKX)(h1:aZR 400)(h2:JQ 400):oJ:=fX
theorem bp'{a0 a1:Nat}(h0:oH)(h1:dXH):eBE:=fX
theorem bqa{a0 a1:Nat}(h0:oH):kT≤wW:=gC Nat.add_le_add_right h0 1
theorem b0k{a0 a1:Nat}(h0:oH):dQP:=pN Nat.lt_one_add_iff.mpr
theorem b0l{a0 a1:Nat}(h0:oH)(h1:a0=wW):oJ:=Ye
theorem b0m{a0 a1:Nat}(h0:oH)(h1:cMV):cM1:=iP
theorem azq{a0 a1:Nat}(h0:oH):aQW:=cL6
theorem b0n{a0 a1:Nat}(h0:oH):bOz 12:=cL6
theorem bqb{a0 a1:Nat}(h0:oH):oH:=iP
theorem b0o{a0 a1:Nat}(h0:oH)(h1:¬nW):bBg:=fX
theorem b0p{a0 a1:Nat}(h0:a1<IG)(h1:aQW):aQV:=aJ8
theorem b0q{a0 a1:Nat}(h0:Pf):(aRn+1)=zH:=tX
theorem b0r{a0 a1:Nat}(h0:Pf):kT≠a1:=kH
theorem b0s{a0 a1:Nat}(h0:Pf):a0=(wW+aRn):=aWQ (Nat.add_sub_of_le h0)
theorem b0t{a0 a1:Nat}(h0:Pf):aDE a1:=dQp (SW h0)
theorem b0u{a0 a1:Nat}(h0:Pf):¬oH:=pN Nat.not_le_of_lt
theorem ba8{a0 a1:Nat}(h0:a1=kT):oH:=dU7
theorem b0v{a0 a1:Nat}(h0:Yk)(h1:GV<ZO):Bo:=fC
theorem bqc{a0 a1:Nat}(h0:Yk)(h1:fM 12<ZO):12<a0:=Ye
theorem b0w{a0:Nat}(h0:mT (2*a0)):Bg:=fX
theorem b0x{a0:Nat}(h0:mT (3*a0)):Bg:=fX
theorem b0y{a0:Nat}(h0:a0=400):JQ 400:=cQQ
theorem art{a0 a1:Nat}(h0:Yk):nW:=fC
theorem bg9{a0:Nat}(h0:Bf):Hi:=HX
theorem bg_{a0 a1:Nat}(h0:Yk):oH:=cQQ
theorem b0z{a0 a1:Nat}(h0:Yk)(h1:a1=0):Fd:=fC
theorem bg'{a0 a1:Nat}(h0:aQ9)(h1:nW):bOx:=LE
theorem b00{a0 a1:Nat}(h0:bAS)(h1:(JQ 1)∧dQP):Bf:=kH
theorem b01{a0 a1:Nat}(h0:bAS)(h1:nG):qC kT:=aJ8
theorem b02{a0 a1:Nat}(h0:bAS)(h1:iD (a1*12)):iD 144:=fX
theorem bqd{a0 a1:Nat}(h0:bAS)(h1:oH):Bf:=aJ8
theorem b03{a0 a1:Nat}(h0:WL 400)(h1:nW):cKX:=dS0
theorem bqe{a0 a1:Nat}(h0:WL Qe)(h1:oH):bOx:=fX
theorem b04{a0 a1:Nat}(h0:WL Qe)(h1:oH):iD Qe:=aJ8
theorem b05{a0 a1:Nat}(h0:Yj)(h1:aRX<fM 4):aRX=cZ cMz:=fX
theorem bha{a0 a1:Nat}(h0:Yj):eND:=pN Nat.sub_add_comm
theorem b06{a0 a1:Nat}:cMz≤zH:=gC Nat.min_le_right 4 zH
theorem b07{a0 a1:Nat}(h0:Yj):aZS:=pN Nat.not_lt.mpr
theorem b08{a0 a1:Nat}(h0:Yj)(h1:¬Yk):zH=(aRn+1):=fX
theorem b09{a0 a1:Nat}(h0:¬(aRX<fM 4)):fM 4=cZ cMz:=tX
theorem b0_{a0 a1:Nat}(h0:¬(aRX>GV)):GV=cZ zH:=fC
theorem b0'{a0 a1:Nat}(h0:¬(lY>ZO)):oH:=aEf
theorem bqf{a0 a1:Nat}(h0:aZS)(h1:a0<wW):nW:=aND Nat.eq_of_lt_succ_of_not_lt
theorem bqg{a0 a1:Nat}(h0:aZS):bOF zH:=fC
theorem b1a{a0 a1:Nat}(h0:aZU)(h1:¬Pf):cM1:=kH
theorem b1b{a0 a1:Nat}(h0:¬Yj):nG:=cL7
theorem b1c{a0:Nat}:(cZ kT-wG)=lY:=bOp Int.sub_eq_iff_eq_add.mpr
theorem b1d{a0:Nat}:((wG=lY)∨(aEn 2))↔(cHb 1 2):=fX
theorem b1e{a0:Nat}:aEr=cZ kT:=bAq Int.ofNat_add_one_out
theorem b1f{a0:Nat}(h0:cXa):cLh:=fX
theorem bqh{a0:Nat}:(GV+lY)=lY:=lC (Int.zero_add ↑a0)
theorem b1g{a0:Nat}:bQg↔Bo:=lC Int.natCast_pos
theorem b1h{a0:Nat}:(wG+lY)=cZ kT:=Xq
theorem b1i{a0:Nat}(h0:(aEn 35)∨(aEn 46)):cHb 35 46:=fX
theorem b1j{a0:Nat}:(kT-kT)≤4:=fC
theorem b1k{a0:Nat}(h0:lY<wG):a0<1:=bPb
theorem bhb{a0:Nat}:¬(lY<GV):=bAq Int.not_ofNat_neg
theorem b1l{a0:Nat}(h0:lY<Fx):¬(lY≥Fx):=pN Int.not_le.mpr
theorem b1m{a0:Nat}(h0:lY=wG):a0=1:=cYC
theorem b1n{a0:Nat}(h0:lY=fM 10):bKp:=cYC
theorem b1o{a0:Nat}(h0:lY=fM 3):a0=3:=cYC
theorem b1p{a0:Nat}(h0:lY=fM 400):a0=400:=dRt
theorem b1q{a0:Nat}(h0:lY>wG):lY=cZ cQg:=fX
theorem bqi{a0:Nat}:(-BY)≤aEr:=gC Int.neg_ofNat_le_ofNat BY kT
theorem b1r{a0:Nat}:(-BY)≤lY:=gC Int.neg_ofNat_le_natCast BY a0
theorem b1s{a0:Nat}:(1+a0)=kT:=gC Nat.add_comm 1 a0
theorem b1t{a0:Nat}(h0:wG<lY):1<a0:=bPb
theorem b1u{a0:Nat}:wG≤aEr:=fX
theorem bhc{a0:Nat}(h0:wG≤lY):JQ 1:=cL8
theorem bqj{a0:Nat}(h0:dXH):Bo:=kH
theorem b1v{a0:Nat}(h0:fM 200<lY):aJO:=pN azp
theorem b1w{a0:Nat}(h0:fM 9<lY):9<a0:=bPb
theorem b1x{a0:Nat}:(aZQ ((-wG)+aEr))=a0:=Xq
theorem bqk{a0:Nat}:kT≠0:=dQp (Nat.zero_ne_add_one a0)
theorem b1y{a0:Nat}:kT≤kT:=dO bEi kT
theorem b1z{a0:Nat}:bN4 2 (a0+4):=fC
theorem b10{a0:Nat}(h0:(¬(aEn 32))→((¬(aEn 47))→(aEn 44))):eO2:=fX
theorem b11{a0:Nat}(h0:Bo):cXa:=kH
theorem b12{a0:Nat}(h0:Bo):bQg:=pN Int.natCast_pos.mpr
theorem b13{a0:Nat}(h0:Bo):aB8<a0:=pN Nat.sub_one_lt_of_lt
theorem b14{a0:Nat}(h0:1<a0):aZR 1:=pN Nat.ne_of_lt'
theorem b15{a0:Nat}:1≤kT:=gC Nat.le_add_left 1 a0
theorem b16{a0:Nat}:(aKm bVQ)↔(iD bVQ):=iP
theorem b17{a0:Nat}(h0:JQ 1)(h1:iD 0):oJ:=fC
theorem b18{a0:Nat}(h0:aJO):fM 200<lY:=dRv
theorem b19{a0:Nat}(h0:aJO):aJO:=iP
theorem b1_{a0:Nat}(h0:9<a0):fM 9<lY:=dRv
theorem b2a{a0:Nat}:a0<kT:=HX
theorem b2b{a0:Nat}(h0:cLw):a0<(2^20):=HX
theorem b2c{a0:Nat}(h0:cLw):cKZ:=fX
theorem b2d{a0:Nat}(h0:a0<20):a0<1920:=HX
theorem b2e{a0:Nat}(h0:a0<400):iD 399:=pN Nat.le_of_lt_succ
theorem a5a{a0:Nat}(h0:Fd):Fd:=iP
theorem b2f{a0:Nat}(h0:a0=32):eO2:=dO Or.symm (Or.inr h0)
theorem b2g{a0:Nat}(h0:a0=35):aEn 35:=fC
theorem b2h{a0:Nat}(h0:a0=46):aEn 46:=fC
theorem bql{a0:Nat}(h0:cMV):cXa:=iP
theorem b2j{a0:Nat}:iD kT:=gC Nat.le_add_right a0 1
theorem bqm{a0:Nat}(h0:iD 0):Fd:=pN Nat.eq_zero_of_le_zero
theorem b2k{a0:Nat}(h0:iD 10):kT≤11:=pN Nat.succ_le_succ
theorem bqn{a0:Nat}(h0:Hi):cLw:=HX
theorem ba9{a0:Nat}(h0:Bg):dVQ:=aEf
theorem b2l{a0:Nat}(h0:Bf):aEr<BY:=kH
theorem b2m{a0:Nat}:(aZQ (aEr-wG))=a0:=fC
theorem b2n{a0:Nat}(h0:Bf)(h1:aDE 12):a0<12:=aRZ Nat.lt_of_le_of_ne
theorem b2o{a0:Nat}(h0:Bf)(h1:aDE 12):iD 11:=fX
theorem bqo{a0:Nat}(h0:Bf)(h1:aZR 12):aZT 12:=fX
theorem b2p{a0:Nat}(h0:cKZ):lY<Fx:=kH
theorem av1{a0:Nat}(h0:iD bW1):bOy:=HX
theorem b2q{a0:Nat}(h0:Xt):cLx:=gC b0a rfl h0
theorem b2r{a0:Nat}(h0:Xt)(h1:aDE 300):iD 299:=aRZ bp8
theorem av2{a0:Nat}(h0:Xt):bOy:=HX
theorem b2s{a0:Nat}(h0:Xt)(h1:aZR 300):aZT 300:=fX
theorem b2t{a0:Nat}(h0:bOy):aEr<BY:=kH
theorem b2u{a0:Nat}(h0:aKm 200):cKW:=cL8
theorem b2v{a0:Nat}(h0:aKm aEN):iD aEN:=fX
theorem b2w{a0:Nat}(h0:aKm 40):cKY:=cL8
theorem b2x{a0:Nat}(h0:JQ aZQ aEr):oJ:=dJz bx3
theorem b2y{a0:Nat}(h0:bOy):(a0-2)≤Zu:=bSp
theorem b2z{a0:Nat}:JQ 0:=bAq dBX
theorem b20{a0:Nat}(h0:cKW):aKm 200:=cSV
theorem b21{a0:Nat}(h0:iD aEN):aKm aEN:=cSV
theorem b22{a0:Nat}(h0:cKY):aKm 40:=cSV
theorem b23{a0:Nat}(h0:aZT 4):a0<4:=cL7
theorem b24{a0:Nat}(h0:cKY):Xt:=HX
theorem bqp{a0:Nat}(h0:iD 9):Bf:=HX
theorem av3{a0:Nat}:iD a0:=bAq bEi
theorem b25{a0:Nat}(h0:¬(lY>wG)):wG=cZ cQg:=fX
theorem b26{a0:Nat}(h0:aOh (a0<1) aJO):¬aJO:=fC
theorem bqq{a0:Nat}(h0:¬Bo):Fd:=pN Nat.eq_zero_of_not_pos
theorem b27{a0:Nat}(h0:¬aJO):cKW:=pN a49
theorem b28{a0:Nat}(h0:aZT 400):a0<400:=cL7
theorem b29{a0:Nat}(h0:aZU):(1-1)<a0:=pN Nat.sub_ne_zero_iff_lt.mp
theorem b2_{a0:Nat}(h0:aZU):a0=cQg:=fX
theorem bhd{a0:Nat}(h0:aZU):cMV:=iP
end
section
namespace WH
open Si33
section
variable{α:cJ} [BEq α] [LawfulBEq α]
noncomputable def vk(l:eK)(a:α):eK:=fZ (a∈l) l aPX
theorem bhe{l:eK}{a b:α}:yC (vk l a)↔yC l∨b=a:=mY vk bO
theorem vp(l:eK)(a:α):Cf aPX=vk bEn a:=SI aH List.eraseDups_append vk AT h a l SC eV ([a].removeAll l=[]) dYr aZ eV ([a].removeAll l=xZ) dYr aQ aP eC UP h List.mem_eraseDups.mp (by rfl)
theorem zh(l:eK):eAk:=fAO eAk jB tT jS aK2 vp aTg (ih m rX) (by rfl)
theorem af_:∀(l acc:eK)(b:α),yC cHF↔yC acc∨yC l:=GO l cY acc b cG a l [cY acc b,cE aEW ih bhe,bO]
theorem an3{acc:eK}{a:α}(h:a∈acc):vk acc a=acc:=aDR
theorem as6(l acc:eK):eKk:=fAO eKk HQ tT (by rw[aK2,vp,aTg,←ih m rX]) aV vk AT q a m.eraseDups kG qX q aB oU (an3 ((HG af_).mpr fF q)) bS
theorem a9m{β:cJ}(f:β→eK)(l:DM):Cf dUo=Cf aYX:=bL aQ zh zh bEo (∀acc,(dUo).foldl vk acc=(aYX).foldl vk acc) (aP []) PQ l qK x l [bY acc,by rw[SX,SX,aTg,aTg,as6,ih]]
theorem ab0(l:eK):l.eraseDups.Nodup:=Wq zh bEo (∀(l acc:eK),acc.Nodup→mV cHF) (aP l [] LN) bY l PQ l cG a l [cY acc h,aDy aEW (ih _ ?_),bDE vk]
end
noncomputable def newOf(kA:Pa)(l:Bd):Bd:=l.eraseDups.filter aK4 s bBJ s
theorem azr(kA:Pa):Zv kA []=[]:=fW Zv
theorem xg:Zw kA Pa l Bd s zR (s∈aQo↔s∈l∧∀n,(s,n)∉kA):=vG lM kA l s aV Zv jS List.mem_filter aTi dB5 bW2 bO
theorem a9n:Ce kA Pa l Bd a zR n Nat (Zv kA aPX=nN eRI aQo (aQo++[a])):=wA jG kA l a n Hd h eRI Gi qX h aV Zv aH vp aV vk oY xG (by rfl) uW q aH aEX eV ((bBJ a)=aY) bL dA dB6 aEY h iA h h h aPL aB h aTj dA OI Cg h dG x hx e h eM e bB e aB (q (List.mem_eraseDups.mpr dV5)) bS [jJ h,uB dB6 aEY Zx h,eP h1 h2 h,aG h1' ((bBJ a)=bI) dB aF Bool.not_eq_true h1 h1,Xk Zv vp,aV vk,aQ Zn aEX,HQ bS bE z rG h2 aQ OI Cg aI bR a (xg.mpr aT (List.mem_eraseDups.mp z) mR n q) aX bO]
noncomputable def db(d:cR)(mK:Nat)(s:zR):Bd:=RN cC0 [] x eDj x.links.filter mK
theorem an4(d:cR)(mK:Nat)(s:zR):steps d mK s=Cf (db d mK s):=NI mW steps db
theorem aru(d:cR)(mK:Nat)(kA:Pa)(gF:Bd):((Cf (last.flatMap (steps d mK))).filter aK4 s bBJ s)=XA:=mY Zv FU (a9m cMG gF) iR ((tL Cf bSL)=steps d mK) nM aK6 oU (an4 d mK x)
noncomputable def azs(d:cR):Bd:=nM d.zipIdx.flatMap eV6
theorem an5(d:cR):gD azs d=aJs:=cN mW azs allSenses dB7 (∀(d:cR)(k n:Nat),eIZ ((dQ8).foldl) eNQ) [hM (aP d 0 0),dB7 Nb l Ds oZ n eIZ dB4 (n+bV aYH eV6) dH,bY l,PQ l qK x l dH] bY d PQ d aZ e d aZ
theorem ap9:Pq d cR s zR (s∈cK8↔bOS):=fN dD d s mW azs aK5 aH List.mem_flatMap HY jK dH bE h CC s.2 0 jB aZ aO6 z bCC (d[s.1]?) KS x e eM h aI bR (x,s.1) (List.mem_zipIdx_iff_getElem?.mpr e) aOW jA (s.2-1) (List.mem_range.mpr h) dH
theorem aac{α:cJ} [Pk]:cTe eK cA bEq bQp (x∈m) (iS≤aK7):=aCx l iX m _ _ YX dBX a l iX m h s cX h1 h2 (List.nodup_cons.mp h) aJ ha (s a aX) bN (ih (m:=m.erase a) h2<|NI aI1) bO
theorem a5b:Xp d cR x xO s zR (leads d x=aO s) bOS:=bAN d x s cV leads h Af (entryAt d aK8 Zy) i [KS i e,bCu,vB e2 cKG (i,bTS) aZ y [fH y,aZ]]
theorem ahz{d:cR}{mK:Nat}{s t:zR}(h:cEL mK):sN cKG t:=aQE db Af cC0 x [aF e h,IE y hy (List.mem_filterMap.mp h),aB (a5b hy)]
structure Known(d:cR)(mK:Nat)(s:zR)(kA:Pa)(gF:Bd):aE where
 nd:mV aPc
 Px:∀x∈kA,sN cKG x.1
 AY:AH kA
 lk:∀x∈gF,x∈aPc
theorem Known.le{d:cR}{mK:Nat}{s:zR}{kA:Pa}{gF:Bd}(K:bC5):aTn≤aJs:=bL hM an5 bN (aac aTo (m:=cK8) AO iV bUL ap9.mpr dSO) bMd
theorem Known.start{d:cR}{mK:Nat}{s:zR}(h:bOS):aVZ mK s cPk [s]where
 nd:=aX
 Px:=pP
 AY:=aX
 lk:=aX
theorem Known.next{d:cR}{mK:Nat}{s:zR}{kA:Pa}{gF:Bd}(K:bC5)(n:Nat):aVZ mK s dMu XA XA where
 nd:=bL cE lN mL SY aI pD aTo ?_ dA0 eV Ft XA (cLV∘bT s (s,n)) XA vC bEs (bEr (Zv kA _)) aH aP aB ((ab0 _).sublist bW4) ED a ha b hb e bB e aW2 x hx ha cRV y hy hb eM e bB e aB ((xg.mp hy).2 x.2 lC hx)
 Px:=bL aI1 Ic xG aB (K.there x hx) bUL bN dV6 IE z hz (List.mem_flatMap.mp aP) aB (ahz hz)
 AY:=fW K.self
 lk:=fC
theorem ah0:∀{d:cR}{mK:Nat}{s:zR}{kA:Pa}{gF:Bd}(K:bC5){f n:Nat}(hf:cHP aJs),wF g (f=g+1) (XA=[]→cDu=kA) (AH XA→cDu=bEt d mK g mI bBn XA XA∧aJs+1≤g+bV bBn XA):=WG yK d mK s kA gF K f n hf bN K.le bNi g f (g+1) (f-1) gC byd hf aP _ Bi aT g uN ?_ tO NR bE e aH bEt lO aru bS aH bEt lO aru bS kG eV (0<bV XA) (List.length_pos_iff.mpr e) dH
theorem ayo:Zw d cR mK Nat s zR dOS Pa Bd jW bC5 cHP aJs cN1 (x∈gF∨∀y∈bSL,xA aPc) dZ cN1 (x∈bQr) (∀x∈bQr,∀y∈bSL,xA bQr) aJi P YV zR cN1 (P x) zQ xT x y (P x) xA bSL (P y) x bQr (P x):=RM d mK s bE f dPD dO0 dAE K.le (bzs hf aP) Ge n kA gF K hf hc XA bMh aH (h1 e) aI cH YW h h eMU ?_ Ci P h h eD1 wY eV (y∉XA) aCs e kW SZ bE ny aI (aP (xg.mpr aT ePu dYW ny)) AQ eP e1 e2 (h2 e) aH e1 cS r1 r2 r3 (ih mI _ _ dLr e2 AO cN dA lN mL hx Ic Wn aI fF ?_ cY y hy cE lN mL bEu eD1 kG bQ z xA aPc dE qK aI fF aOW MZ y (xg.mpr aT ePu dYW z) bS aZ) aI pD YW h (r1 x tX) r2 aZO P p1 p2 (r3 P bSw p2) dA lN mL hx Ic jK qK aCW y hy hx bOD z hz hzy dV6 aB (p2 z y (p1 z (K.lk z hz)) hzy)
end WH
end
section
namespace WH
section
variable{α:cJ} [Pk]
inductive Rch(mM:PN eK):dXU|aE1(x:α):aGN x|zS{x y z:α}:cA xA bAC bTk z aGN z
variable{mM:PN eK}
theorem Rch.trans{x y z:α}(h:aJ1)(g:bTk z):aGN z:=bA dAg h g aB (.zS e (ih g))
theorem Rch.one{x y:α}(h:xA bAC):aJ1:= .zS h aRT
theorem Rch.snoc{x y z:α}(h:aJ1)(g:z∈cNH):aGN z:=h.trans (.one g)
end
section
noncomputable abbrev Nd:=EW
variable{mM:aEw}
structure Dfs(mM:aEw)(iG bx:FD)(st:aSq):aE where
 nd:left.Nodup
 le:∀x∈iG,bAR
 a1f:VE cA bAR aDF x cP6 st
 gre:As cP6 st (bAR∧aDF x)
 aTp:mV (st.filter xP)
 aTq:st.Pairwise bG u l (l.2=aY→Rch mM l.1 u.1)
 aTr:∀x∈iG,∀y∈bAC,xA bx
 aTs:∀pre x aAa,zQ (st=pre++(x,aY)::aAa) y bAC (xA bx∨(y,bI)∈pre)
 aTt:∀u∈iG,iJ g cQJ cA aDF g aSu g eY w (w∈bx) dZ aDF w aSu w eG5
 gF:∀a v b,iG=a++v::b→iJ u aSu v (Rch mM v u∨eY w aSu w dZ eG5 (w∉a) (w≠v))
theorem Dfs.b3a{iG bx:FD}{st:aSq}(D:cQf){u v:Nd}(r:aSu v)(hu:u∈iG)(hv:aDF v):wF g cQJ aDF g aSu g:=dPs r Yv y z [bQ hy xA iG,oS jF g g1 g2 g3 (ih hy hv) dL g cH g1 g2 (.zS e g3) dL y cH (D.black _ hu _ e) hy (.one e)]
theorem Dfs.start(iT:FD):Dfs mM [] [] eRy where
 nd:=LN
 le:=bUg
 a1f:=bUg
 gre:=bL cY x h eO4 kU
 aTp:=gG (bEv<|sR cY x h eO4 hM e bW5) LN
 aTq:=List.pairwise_map.mpr (List.pairwise_of_forall aE2 bW5)
 aTr:=bUg
 aTs:=cN vR pre x aAa e eV cP6 eRy uE e aB (dB9 _ XN) IE k e (Qg aP) kU
 aTt:=bUg
 gF:=bK vR a v b e oT sE a kU
theorem Dfs.skip{iG bx:FD}{st:aSq}{k:Nd}(D:eGF)(hk:k∈bx):cQf where
 nd:=D.nd
 le:=D.le
 a1f:=bL iX x h1 h2 bN cUv h2 GX
 gre:=YW h cV2
 aTp:=xX bEw FT
 aTq:=(List.pairwise_cons.mp dCa).2
 aTr:=D.black
 aTs:=cN (by intros pre x aAa e y hy) bU2 cGV pre aAa aRo dU qK bO
 aTt:=D.both
 gF:=bEx
theorem Dfs.enter:∀{mM:aEw}{iG bx:FD}{st:aSq}{k:Nd}{bmm:FD}(D:eGF)(hk:k∉bx)(ha:∀y,xA bmm↔xA (mM k)),Dfs mM iG aHM bx (bmm.map eEb++cOG st):=kK yK mM iG bx st k bmm D hk ha _ oQ kl aDF k wE (hk (D.le _ h)) kst eK8 wE (hk (cEs D.gre h).1) nof VE ((x,aY)∉bmm.map eEb) Kh x h eM h eTG cGA ({nd:=D.nd,le:=YW h (List.mem_append_left _ (D.le x h)),a1f:=?_,gre:=?_,aTp:=?_,aTq:=?_,aTr:=eMU (List.mem_append_left _ (D.black x hx y hy)),aTs:=?_,aTt:=?_,gF:=bEx}) lJ x h1 h2 vK h1 h1 kG bN cUv h2 fO fO dD x h iA (List.mem_append.mp h) h h jB qK iA bJM h h jB aZ bN cV2 bS aD2 AZ aEX (bEv aX) OK dRR aAb aI eO wE (kst (List.mem_filter.mp h).1) bN bEw FT aH List.pairwise_append bOV pD ?_ (List.pairwise_cons.mpr aT YM l hl eMw c2) aH dCc fO iC u hu l hl e aCW y hy hu aJ hy' ((ha y).mp hy) aEe hl aDc aB (.one hy') ((eMw).snoc) hy' Yf eYx _ aF List.append_eq_append_iff e bW6 e m e1 e2 wH Qi m e1 e2 _ aBx m aZ q m [pE q m,eM e2,eP e2 e3 e2,bB e2,bU2 cGV m aAa bA qK,dU fO,fO] Qi m e1 e2 _ aBx m fO q m [pE q m,aZ] Ge u hu g hg hgl r vK hg hg cF1 dG w w1 w2 bUo g hg hgl r fO eM hg bB hg bNF g' (D.b3a r hu hgl) dG w w1 w2 bUo g' h1 h2 h3 fO
theorem Dfs.leave:∀{mM:aEw}{iG bx:FD}{st:aSq}{k:Nd}(D:aWg mM cOG st),Dfs mM aHM iG bx st:=KW sY mM iG bx st k D _ (by have⟨ke,kl⟩:=D.gre k aX) eTG bD kst eK8 gT bN bEw dA dRR aAb aP wE (this.1 (List.mem_filter.mpr NP h)) toK RA g cQJ (g∉aHM iG) (Rch mM g k) vG lM g h1 h2 eM h2 bN (D.a1f g h1 h2.1) bO aQ6 ({nd:=?_,le:=?_,a1f:=?_,gre:=?_,aTp:=?_,aTq:=c2,aTr:=?_,aTs:=?_,aTt:=?_,gF:=?_}) aH SY aI pD D.nd aX bO SH Ic dU aB (D.le x hx) aZ SJ lJ x h1 h2 eM h2 bN cUv h2.1 aZ dD x h bN cV2 bO SC bN bEw aZ cYm Ic xG aB (D.black x hx y hy) eM hx bB hx bU2 [] st rfl dE aB h tT JM eYx _ bU2 cOG pre aAa aRo dU qK aZ [sY u hu g hg hgl r,gQ gk (toK g hg hgl),aG caq aDF g oO hgl (List.mem_append_left _ z),vK hu hu,wY AM w w1 w2 w3 w4 bUo g hg caq r vL w k kG bB e dL g gY hg hgl r (gk.trans w4) bO,bO] wY sY a v b e u r _ bKU (List.eq_nil_or_concat b) b' z Nn eP e1 e2 eB5 eM e2 LP e1 e2 bQ uk (u=k) dU aZ AT hu u iG KO EF w w1 w2 w3 w4 bUo k ke kl r _ bO nF aT u gY aRT aRT hu uk [fH b',fH z,by rw[aK2,←Qj,←EG]at e,bEy e1 eB5,_,aB (bEx a v b' e1 u r)]
structure ame(mM:aEw)(iG:FD)(j:Nat)(R:aKp):aE where
 all:∀x∈left.drop j,Vs
 aLb:kQ x y Vs cA aJ1 bTk x eIX
 val:kQ x r rT R r dZ sN (R r) aGN r (Rch mM r x)
structure Back(mM:aEw)(iT:FD)(nH:Nd)(R R':aKp)(st:FD):aE where
 old:As Vs (R' x=R x)
 new:xT x r rT R' r aY6 (r=nH∧bQa)
 wait:∀x∈st,Hr∧bQa
 bde:xT x y aY6 cLF cA aRp (x∈cNH) (sN (R' y)∨xA st)
 rt:sN (R' nH)∨nH∈st
theorem Back.start{iT:FD}{nH:Nd}{R:aKp}(h:dU3):aZy R [nH]where
 old:=Rr
 new:=kI x r e n fC
 wait:=AO bL eM hx bB hx dL h aRT
 bde:=kI x y n e fC
 rt:=fF aX
theorem Back.skip{iT:FD}{nH k:Nd}{R R':aKp}{st:FD}(B:eIr)(hk:sN (R' k)):aZy R' st where
 old:=aTu
 new:=B.new
 wait:=AO eG2
 bde:=IF x y n e hy s dXS fA3
 rt:=dXS cNu
theorem Back.take:∀{mM:aEw}{iT:FD}{nH k:Nd}{R R':aKp}{st ps:FD}(B:eIr)(hk:R' k=aS)(hp:∀y,xA ps↔aRp∧k∈cNH),aZy tL cIV k (ps++st):=jX (by intro mM iT nH k R R' st ps B hk hp) gQ kr ((B.wait k aX).2) aG kR (R k=aS) dUd (R k) r fH r dAD (aTu k aRo) Bi ({old:=?_,new:=?_,wait:=?_,bde:=?_,rt:=?_}) SH eV (x≠k) Fu pQ e lO eC aP aB (aTu x hx) qW x r e n bQ xk (x=k) jB aZ OJ eC xk e aB (B.new x r e n) bOL SH Ic oS eP h1 h2 ((hp x).mp hx) dL h1 (.zS h2 kr) aB eG2 Ge x y n e hy s bQ yk (y=k) dU bS lO eC yk bQ xk (x=k) xG aZ OJ eC xk e fA3 dU qK aZ kG bQ rk (nH=k) xG bS lO eC rk cNu dU qK aZ
theorem Back.done:∀{mM:aEw}{iT iG bx a b:FD}{st:aSq}{nH:Nd}{R R':aKp}(B:aZy R' [])(D:cQf)(el:iG=a++nH::b)(T:aPs mM (BA+1))(aEU:∀x∈iT,x∈iG)(II:VE zQ Hr y bAC aRp)(hle:∀x∈iG,Hr)(hkr:kQ x y aJ1 (Hr∨x=y)),ame mM iG BA R':=jX (by intro mM iT iG bx a b st nH R R' B D el T aEU II hle hkr) _ zG rt sN (R' nH) Ax cNu aB h tT up As cLF JB Vs aY6 dLR Go x hx cQu e (R x) r qK eP r er (Option.isSome_iff_exists.mp hx) bEy rfl (B.new x r er e) _ Gu rk dU3 (hle _ fD) fwd xT x y Hr aJ1 aRp kX jG x y hx r dAg r hx bO zG mtl eGz (bQa∧Rch mM nH x) Gv x n e (by obtain⟨_,r⟩:=B.new x nH e n) dJ eO r (by rcases bEx a nH b el x r with h|⟨w,w1,w2,w3,w4⟩) Dk aB h [by delta w w1 w2 w3 w4,_,aTj,aG xk Hr bK iA (hkr x nH r) h h dE aB h bO,eN wk lW fwd xk w1 wl (aEU w wk),aF el wl,aG wb (w∈b) bK vK wl h dE Yv aZ,aJ ws (T.all w fC),dAD (T.whole w x ws w2 w1)] toKey As bQa Hr Go x r bO key xT z t (Rch mM z t) (t=nH) cA dTc (Rch mM nH z) (R z=aS∧sN (R' z)) kX lM z t rz (by induction rz with|aE1 x=>rw[aZ]|@zS p q t e rq ih=>rw[dAF p q t e rq ih,lJ et n rp,bB et,eP q1 q2 (ih rfl n (rp.snoc e)),dR np (R p=aS) dAW ep (R p) r fH r dAD (T.whole p t fD (.zS e rq) rp) eO np,iA (B.bde q p q1 q2 (toKey p (.zS e rq)) e) h h,dE aB h tT]) bhf eGz dTc KH lM x n e bW3 m1 m2 dZu bBk er (R nH) r fH r bN (T.whole nH x fD m2 m1) aZ Bi ({all:=?_,aLb:=?_,val:=?_}) SH (by rw[el,dCd,List.drop_of_length_le lC av3,OK,bEz,Iq]at hx) aEe hx jK aB rt bN (T.all x fC) aH cLt aP aB aP iC x y hx r1 r2 LL (up x hx) h n e Bj bN (T.whole x y h r1 r2) aQ cLt h (aTu y fD) aB aP pE n e eP m1 m2 dZu eP k1 k2 (key y nH (r2.trans m1) rfl (bhf x n e) (m2.trans r1)) bO Oj lJ x r hx LL (up x fD) h n e qB aF cLt h hx eP v1 v2 (T.val x r hx) dL gG (aTu r v1) v1 v2 pE n e aZ
theorem ame.same{iG:FD}{j:Nat}{R:aKp}(T:aPs mM j){x y:Nd}(hx:Vs)(h:aJ1):eIX↔bTk x:=bK HY JM bY e cX r er (Option.isSome_iff_exists.mp hx) aAc h1 (T.val y r vJ e er) bW7 h2 (T.val x r er) aB (bEA h2) aB (T.whole x y hx h)
end
end WH
end
section
namespace WH
open Si33
noncomputable def nextOf(d:cR)(i:Nat):oC:=Lo ((aBZ).bind) Fp cMN (e.sees.head?.bind (seesTo d))
noncomputable def itN(d:cR):aGI Nat oC|0,i=>lI|zE,i=>(aWy).bind (itN d k)
noncomputable def isRing(d:cR)(i:Nat):aE:=∀k,sN (itN d k i)
theorem arv{d:cR}{i j:Nat}(h:bQC):bPv↔aWp j:=bK HY aD2 cY r k bN (r zE) dA itN h aP aB aP cY r k cOy k (by rfl) aQ itN h aB (r k)
theorem akf{d:cR}{i:Nat}(h:bPv):eY j bQC aWp j:=VG (h 1) itN Af aWy j WF j ((arv e).mp h)
noncomputable def endOf(d:cR)(i n:Nat):End:=RN aBZ bN3 e fZ cMN (.at_ i n) bN3
theorem azt{d:cR}{i j f n:Nat}(h:bQC):bAH (f+1) n i=bAH f mI j:=JT cV aLc h dCe rM
theorem a9o:∀{d:cR}{i f n:Nat}(h:cOe i),bAH (f+1) n i=eCD:=fN iC d i f n h cV aLc h aH dCe aV aTv dH
theorem arw{d:cR}:∀(f n i:Nat),bPv→bAH f n i=aNF:=Dl f aCc f [iX _ _ _,MK] f [iX n i h,cS j e r (akf h),aH (azt e),aB (ih mI j r)]
theorem ap_:Xp d cR x xO i Nat (seesTo d x=aO i) HH:=bAN d x i aLd seesTo entryAt h Af (d.findIdx? tO cE7 aK8 Zy) j [aF e h,aJ hj aB5 List.findIdx?_eq_some_iff_getElem.mp,bCu,pG h,dU aZ,aZ]
theorem bdf:∀{d:cR}{i j:Nat}(h:bQC),j<iH:=bAN d i j cV aLc h bCC aBZ KS x e bCu pG h dE tT vB e2 x.sees.head? aZ y [KS y e2,jN ap_]
inductive Way(d:cR)(i:Nat):lR aR oC|OL:aGi [] lI|zS{w:aR}{p:Nat}:bLa p→aGi (w++[p]) aJp p
section
variable{d:cR}{i:Nat}{w:aR}{p:oC}
theorem Way.spread(h:aJ4):∀q∈w,bB0→eY p0 (p=aO p0) aWp p0:=bCL Yv [iX q hq r,vK hq hq,wH cS p0 e r0 (ih q hq r) kU aB (akf r0) eM hq bB hq aB (akf r)]
theorem Way.back(h:aJ4):cXd zQ aWp p0 q w bB0:=bCL bO [ED p0 e r q hq,aJ r' ((arv e).mpr r),bO]
theorem Way.closed(h:aJ4):∀p0,zQ (p=aO p0) q w eY q' (aJp q=aO q') (q'∈w∨q'=p0):=bCL Yv bO
theorem Way.round{p0:Nat}(h:cQt)(hp:p0∈w):∀q∈w,bB0:=bK iX q hq k (by induction k generalizing q with|aTf=>rfl|mM k ih=>rw[cS q' e h' (h.closed p0 rfl q hq),aQ itN e,bO])
theorem Way.lt(h:aJ4)(hi:HH):kJ q w (q<iH)∧cXd (p0<iH):=bCL bS [aI aT mR q hq bG p0 e (bdf e),bO]
theorem Way.first(h:aJ4):w=[]∧p=aO i∨i∈w:=bCL cG bO
theorem Way.at(h:aJ4)(hl:aE3≤iH+1):cXd dTD bAH cRM aE3 p0:=dHG [cY p0 e,dIt] [cY p0 e,eM hl,cE (ih aQS hl p' rfl) cDS (cRM=(iH+1-bV (w++[p']))+1) cG aB (bha hl) (azt e),cG]
theorem Way.len(h:aJ4)(hi:HH)(nd:bW9):aE3≤iH:=xX ePM nd Vx ((h.lt hi).1) aZ
theorem Way.ah1{p0:Nat}(nd:bW9)(hp:p0∉w):mV cO5:=FH
theorem Way.ring{p0:Nat}(h:cQt)(hp:p0∈w):dUE:=YT (h.round hp) bXa h.first rfl h dE cF hp aB Dr arw (aP i h)
theorem Way.over{w:aR}{l:Nat}(h:bLa l)(hi:HH)(nd:mV (w++[l]))(e:cOe l):dTD (aTv d l aE3):=bL aJ hl ((Way.step h).len hi nd) eM hl cE (h.at dO bzt hl l rfl) CV (cRM=(iH-aE3)+1) aB (bzw hl) (a9o e)
theorem bhg:eYa aDG m w aR p0 Nat qQ cQt bW9 (p0∉w) (iH-aE3=m) AX w' aR l Nat dZ aGi w' aO l mV dU5 (cOe l∨∃q∈dU5,aJp l=aO q):=RM d i hi bE m aCc m [eZL,bN ((Way.step h).len hi (dCf nd q)),tI aWM rF] m [pE m ih,eZL,vB e aJp p0 aB eUg aQK p1 [fH p1,AT q1 p1 cO5,jK aB eUg fF bR p1 q1 e eBh h aF e h2 aB (ih cO5 p1 h2 dMz q1 aGt byc hm)]]
theorem bhh{n:Nat}:eCD≠aNF:=mY aTv rM
theorem a9p:eYa (dUE↔bPv):=RM d i hi HY KO bE h (by obtain⟨w',l,hw,nd,e|⟨q,hq,e⟩⟩:=bhg hi _ [] i .OL LN aX rfl) An aF (hw.over hi nd e) h BJ h bhh eBh hw aF e h2 bXa h2.first z z oS fH z eM z aB (h2.round hq i z) aB HG arw
end
theorem bdg:∀{d:cR}{mK:Nat}{s t:zR}(hs:bOS),(cG9 (reach d mK s) t)=aY↔Rch cMG s t:=qF iC d mK s t hs aV reach bOZ bO dG r1 r2 r3 (ayo aJs 0 cPk [s] (Known.start (kind:=kind) hs) aX aX) mN (bEt d mK aJs 0 cPk [s]) l aG e ((EN bEB y y.1 t)=aY↔t∈aWw) bL aQ Cg dCg HY dE cG cG aH e HY xG aB (r3 tL (Rch cMG s x) aGt (.aE1) _ kI x y h1 h2 (h1.snoc h2) t) bE h aJ hs' (r1 s aX) (by clear r1 r3 e hs) dAg h hs' bO
noncomputable abbrev Node:=aA0 zR
noncomputable def jm(d:cR)(x:gL):iN:=aDg (db d x.1 x.2) t x.1 t
noncomputable def av4(d:cR)(iT:iN)(x:gL):iN:=fZ Hr cNB bQv lT aRp []
theorem am2{d:cR}{iT:iN}{x y:gL}:xA (av4 d iT x)↔dZ Hr xA bQv aRp:=zK av4
noncomputable def ad2(d:cR)(iT:iN):aE:=∀x:gL,Hr↔AH bQv
theorem bhi{d:cR}{iT:iN}{x y:gL}(h:Rch cTz x y):x.1=y.1∧Rch aF9 x.1 x.2 y.2:=eZa Nf aRT aAc h (am2.mp e) cS t ht rfl cK0 ih.1 ht ih.2
theorem bhj{d:cR}{iT:iN}(K:aXv iT){k:Nat}{s t:zR}(h:Rch aF9 k s t)(ht:aRj∈iT):aRk∈iT∧Rch cTz aRk aRj:=eZa dL ht aRT cX h1 h2 (ih ht) bD hx aZY (k,z) (k,x) aOW MZ z e kx ((k,x)∈iT) dUg fC kx (am2.mpr cH kx hx h1) h2
theorem bhk{d:cR}{iT iG:iN}{j:Nat}{R:aDt}(K:aXv iT)(T:aPs cTz j)(hd:VE (Vs↔Hr)){k:Nat}{s t:zR}(ht:cEL k):R aRj=R aRk↔(cG9 (reach d k t) s)=aY:=cN aG hs (aRk∈iT) dUg Fu eV aZY aRj aRk cVs aH (bdg (ahz ht)) AT kt aRj iT fP aH (T.same ((hd _).mpr hs) (.one (am2.mpr cH hs cVs kt))) dL wE ((bhi h).2) wE ((eMz).2) HY jB bO bY h BJ ((eMz).1) kt
end WH
end
section
namespace WH
open Si33
noncomputable def split(sep:Nat):aR→fB|[]=>[[]]|BS=>jI c sep ([]::Nh) xJ Nh [] [[c]] (h::r) ((c::h)::r)
noncomputable def ahead(h:aR):fB→fB|[]=>[h]|x::r=>(h++x)::r
theorem av5:eJr AH Nh:=Go sep t aBx t mF Cj c t [pE c t,aV Cj,bO]
theorem abc(sep:Nat)(t:aR):bSq (sep::t) ([]::Nh):=vJ Cj tU
theorem vq:∀{sep c:Nat}(h:cMt)(t:aR),bSq BS aSi [c] t:=wA jG sep c h t aQ Cj eC h bRf Nh x (by rfl)
theorem azu(l:fB)(h:AH l):IJ [] l=l:=bA Mx l qK x r (by rfl)
theorem a5c(a b:aR)(l:fB):IJ a (IJ b l)=IJ Ib l:=bA bRf l x mF IJ
theorem bdh(h:aR)(sep:Nat)(t:aR):aSi h (sep::t)=h::Nh:=uE abc mF IJ
theorem a5d(h:aR){sep c:Nat}(e:cMt)(t:aR):aSi h BS=aSi aIb h t:=vJ (vq e) a5c
theorem bdi(h:aR)(sep:Nat):aSi h []=[h]:=HB Cj IJ
noncomputable def toks:VH Nat Nat Nat cW cW BP xF|r,v,f,had,[]=>([cC5],r+1)|r,v,f,had,BS=>cZm 32 cXm (r+1) cZm 47 eOU cZm 44 eGI (toks r v f aIb had t)
noncomputable def fG(r v f:Nat)(g:fB):xF:=bJN g.zipIdx f aGO x.1 x.2
noncomputable def fV(r v:Nat)(l:fB):xF:=bAE (l.zipIdx v) (fG r x.2 0 Tu 44 x.1)
noncomputable def fL(r:Nat)(l:fB):xF:=bAE (l.zipIdx r) (fV x.2 0 Tu 47 x.1)
theorem xi{sep:Nat}{t:aR}:∃h r,bSq t (h::r):=bA cTf e Nh aB (absurd e (av5 sep t)) h r bO
theorem aue(r v f:Nat)(x:aR)(g:fB):cYP (x::g) (aGO x f::Ak (f+1) g):=HB fG XQ
theorem auf(r v:Nat)(x:aR)(l:fB):fV r v HS=Ak 0 dWo++fV r (v+1) l:=HB fV XQ
theorem a1g(r:Nat)(x:aR)(l:fB):fL r HS=fV r 0 dWp++fL (r+1) l:=HB fL XQ
noncomputable def av6(r v f:Nat)(had:cW)(t:cW):xF:=xJ Ai [] [] (a::ls) ((xJ Tu 47 a [] [] (b::gs) (Ak f (ahead had (split 44 b))++fV r (v+1) gs))++fL (r+1) ls)
theorem bdj:LO t cW (∀(r v f:Nat)(had:cW),cSC=(av6 r v f had t,r+bV Ai)):=Fv t Vo t jG r v f had (by simp[Ir,av6,Cj,IJ,fG,fV,fL]) c t [AS c t ih,qW r v f had,dG a ls ea cHS,dG b gs eb eAG,dG d fs ed eAH,aV Ir,bQ h1 (c=32),Gi bB h1 aQ tU ih bD e47 (split 47 []=[[]]) rfl e44 (Cj 44 []=[[]]) rfl (by simp only[av6,abc,ea,e47,e44,IJ,Ij,eb,ed,OK,qZ,aue,a1g,auf]) CI fG fV aB bzj [jJ h1,aG e32 (split 32 BS=(c::a)::ls) zB (vq h1) ea,bQ h2 (c=47),bA5 bB h2 aQ tU ih aG e44 (split 44 []=[[]]) rfl (by simp only[av6,e32,abc,ea,eb,ed,IJ,qZ,aue,auf,OK,e44,Ij]) mF fG jJ h2 aG e47 (split 47 (c::a)=(c::b)::gs) zB (vq h2) eb bQ h3 (c=44) SJ bB h3 aQ tU ih (by simp only[av6,e32,e47,abc,ea,eb,ed,IJ,qZ,aue,OK,Ij]) cG aQ eC h3 ih (by simp only[av6,e32,e47,vq h3,ea,eb,ed,IJ,qZ]) cG]]
theorem bhl(t:cW):cXm 0=(eUG,bV Ai):=jX aH bdj cS a ls ea cHS cS b gs eb eAG cS d fs ed eAH (by simp only[av6,ea,eb,ed,IJ,a1g,auf,OK]) cG
theorem a5e:∀{p:Nat}{l m:xF}{f:aAd}(h:ended p l f= .ok m),AG m UW f (cSv=bI) (iS<400):=cN iC p l m f h cV ended h pG h HQ tT uW q bD q1 (¬cSv=aY) oO q gB z q2 (¬FORMS≤iS) oO q aYE aI pD fC fD cV FORMS q2 aB (b28 q2)
structure xj(l:xF):aE where
 nd:cJ1
 len:aZX iS
 short:∀f∈l,1≤aAe∧aAe≤4
theorem xj.snoc{l:xF}(h:xj l){f:aAd}(h1:cSv=bI)(h2:iS<400)(h3:AH XS)(h4:aAe≤4):xj UW f:=dTM kM ?_ aGt b2e h2 ?_ aQ lN SY aI pD Ck aX GX cY g hg eM hg iA hg hg rfl dU aB (h.short g hg) bO
theorem av7:LO t cW (∀(p r v f:Nat)(had:cW)(l m:xF)(n:Nat),jW (xj l) (bXb≤4) bNc (lettersFrom p r v f had l t) eFK (l++(cSC).1) ((cSC).2)):=Fv t Ju t [fFo,fBp tT eVZ bB a1 aB cH fW Ir fW Ir eWM] c t [AS c t ih,fFo,wH uW hc pG h fBp eVZ aG hm' (xj m') gG a1 eWM Qk h bDE Ir uW hc pG h xG tT uW hq aG hlt (bXb<4) bL AR z (dCh≤bXb) oO hq aYE cV dCh z pH b23 aV Ir dH]
theorem a9q{t:cW}{m:xF}{n:Nat}(h:bNc dGq lettersFrom):eFK eUG bV Ai:=bL cS a b c (av7 t 0 0 0 0 [] [] m n eKY aX h) vQ bhl a b aZ
end WH
end
section
namespace WH
open Si33
noncomputable def vt(l:xF)(t:cW):Nw|0=>0|zE=>nN eEj zE aOP k
noncomputable def av8(l:xF)(x:cW):aQJ:=aNk l.find? x
noncomputable def an6(t:cW)(b:aQJ)(f:aAd):aQJ:=aH6 f.signs.isPrefixOf t RN b aO f g Su (bED<aAe) f aO g b
theorem a5f(l:xF)(t:cW):eI0 eMr aS:=rfl
structure bdk(l:xF)(t:cW)(b:aQJ):aE where
 none_:zQ (b=aS) f l (f.signs.isPrefixOf t=bI)
 ba_:UY g b (g∈l∧FS (g.signs.isPrefixOf t=aY) f l (f.signs.isPrefixOf t=aY→aAe≤bED))
theorem bdk.step:∀{l:xF}{t:cW}{b:aQJ}(h:bdk l t b)(f:aAd),bdk UW f t (an6 t b f):=SI iC l t b h f an6 bQ hp (f.signs.isPrefixOf t=aY) fP qX hp fD2 b [dP eO Dv g e,OJ dCi e,bB e,aI pD aX hp,lJ f' hf' hp',eM hf',eEh,kG aF (h.none_ rfl f' q) hp' cF hp',aB av3] g fH g cWS (h.ba_ g rfl) Cl bQ hl (bED<aAe) wH qX hl aI eO Dv dH jJ hl aI eO Dv dH jJ hp bP2 NR lJ e f' hf' eM hf' eEh dU aB (h.none_ e f' q) bS dD g e cWS (h.ba_ g e) dH
theorem bdm(t:cW):∀(l k:xF)(b:aQJ),bdk k t b→bdk (k++l) t eMr b:=cGs l cG f iX k b h bN (ih (k++[f]) _ (h.step f)) aZ
theorem an7(l:xF)(t:cW):bdk l t bSy:=xX (bdm t l [] aS bQQ) aE4 a5f aP
theorem ba'(l:xF)(t:cW):∀n,aOP n≤n:=cVW aBo k [bVw vt,aDc aB b1y Nat.le_succ_of_le ih]
theorem bhm(l:xF)(t:cW):∀n,0<aOP n→∃f∈l,XS=t.take aOP n:=cVW [bY h,Iu vt h] k [bY h,XT vt h,Hd hh eEj,jB aZ yJ eC hh h jN ih]
theorem a5g(l:xF)(t:cW):kQ n k (k≤n) cA (0<k) (∃f∈l,XS=bEC k) (k≤aOP n):=cVW [vR k h h0 _,jN b0g] n [vR k h h0 hk,bVw vt,jK aB h uW hn aG hne (k≠mI) cPj kW hn XU hk aB (ih k gC bp8 h hne h0 hk)]
theorem arx{a t:cW}(h:a.isPrefixOf t=aY):a=t.take BA∧BA≤nJ:=bK cX r e (List.isPrefixOf_iff_prefix.mp h) bTh
theorem bba:∀{l:xF}(nd:cJ1),∀{f g:aAd},jW (f∈l) (g∈l) (XS=XR) (f=g):=Go l nd PQ l KZ x l [AS x l ih,KZ]
theorem bdn:∀{l:xF}(nd:cJ1){f:aAd}(hf:f∈l),av8 l XS=aO f:=wA jG l nd f hf aV av8 vB e bJ2 l.find? XS bO g [uL h1 List.find?_some e h2 List.mem_of_find?_eq_some e,eM h1,aH (bba nd h2 hf h1)]
theorem a1h{l:xF}(h:xj l){t:cW}(e:vt l t bI4=0):eI0 aS:=bA Ej q bSy g [by(obtain(⟨g1,g2,-⟩):=(an7 l t).ba_ g q),cX p1 p2 (arx g2),aJ s (h.short g g1),dAE fBz (bz6 e s aP)]
theorem a1i:∀{l:xF}(h:xj l){t:cW}(e:0<bQZ),eY f (bSy=aO f) dZ (f∈l) (XS=t.take bQZ) (aAe=bQZ):=kK qW l h t e dG f hf es (bhm l t _ e) aJ hk (ba' l t bI4) aG el (aAe=bQZ) iV aQ es sZ b0f hk aI aT f gY ?_ hf es el aJ B (an7 l t) DL q bSy bN (B.none_ q f hf) bO g [fH g,cWS (B.ba_ g q),eP p1 p2 (arx g2),eN s (h.short g g1) m1 fBz,aJ m2 (g3 f hf tX),eV (XR=XS) bL aQ p1 es pB aB (by3 el m1 m2),aH (bba Ck g1 hf aP)]
theorem ary(L:yM):ZK k t cW (aLf L k t=aLf L 0 (Cm k))|0,t=>rfl|zE,[]=>fW aLf|zE,BS=>zB aLf (ary L k t)
noncomputable def rk(L:yM)(x:Piece):uZ EW:=aKN x (.letter f) aO (f.rank,dCj,f.form) (.passed _) aS (.foreign c) aO (aLg+c,0,0)
noncomputable def q_(L:yM)(t:cW):Yb:=(dJk).filterMap (rk L)
theorem bdo:qG L yM t cW (ranksOf L t=aCf bBp):=bL dD L t aAf ranksOf q_ pieces dO8
theorem a1j(L:yM)(t:cW):dCk L t=iM bBp dCl:=eA7 dCk
theorem bdp(L:yM)(t:cW):formsOf L t=iM bBp dCm:=eA7 formsOf
theorem a5h(L:yM):q_ L []=[]:=rfl
theorem an8:∀{L:yM}(h:bRO){c:Nat}{t:cW}(e:0<bDa),eY f (av8 aAg ((BS).take bDa)=aO f) (q_ L BS=(f.rank,dCj,f.form)::q_ L ((BS).drop bDa)):=FI iC L h c t e AM f e1 hf es el eLn a1i vQ qZ es el aI jA f tQ hM es bdn Ck hf aV q_ aQ aLf e1 wP aE5 rk aQ ary el Ip k hk (∃k,eTy zE) aT (bDa-1) bA GG bp2 _ bS
theorem an9{L:yM}(h:bRO){c:Nat}{t:cW}(e:eTy 0):q_ L BS=(aH6 L.passed.contains c [] [eIT])++bBp:=cN aV q_ aQ aLf eLn a1h bQ hp (L.passed.contains c=aY) fP Oc hp hp CI aE5 rk FK hp hp CI aE5 rk
noncomputable def lexLt:cR5|_,[]=>bI|[],uP=>aY|Xy,Bt=>jI a b (tE r s) mQ a b
theorem ad3:LO a aR (∀b:aR,(jU (rows a b= -1) cM9 dUB Yn)∨(dZ (iI a b=0) tW cRi)∨(jU (rows a b=1) cRi bBU tE Yn)):=Fv a Vo a bE b Mx b nF gB bMt b s sQ eJw a r [AS a r ih,bE b,aBx b nF fF eJw b s [pE b s,mW iI tE,Iv yZ Nat.lt_trichotomy h h,HQ eMZ gB gY aDR ?_ ?_ eBy SW SW dQz bB h jS eCH eCH tU tU fC3 (ih s) wH eSR _ sQ eTp Qi h1 h2 h3 _ nF gB cH h1 (aLi _ h2) h3 qB eSR _ nF fF eTp,kG eMZ fF fF bKW ?_ eBy aLh Nat.lt_asymm aDR dU cEV SW dQz]]
noncomputable def ij:cA fB fB gE|_,[]=>bI|[],uP=>aY|Xy,Bt=>jI a b (ij r s) cMi
noncomputable def sortRow(L:yM)(w:cW):fB:=[ranksOf L w,nN aLj aAh dV7 dV7,formsOf L w,w]
noncomputable def T3(r:Int)(p q:gE)(e:aE):aE:=(AG r (-1) (p=aY) (q=bI))∨Fn r 0 e AG r 1 (p=bI) (q=aY)
theorem agm(x y:aR){r:Int}{p q:gE}{e:aE}(h:T3 r p q e):T3 fZ (dTo≠0) dTo r fZ (x=y) p (tE x y) jI y x q (tE y x) e:=fDc (ad3 x y) fP eRe sQ cHC jS h1 eC oO z rfl cF4 iF dCn aB h eRe
theorem a5i(a b:aR):T3 yZ iI jI a b bI cMi jI b a bI (tE b a) tW:=fDc yZ ad3 oS cE h1 eC h4 cIl sQ cHC nF gB cQH cE h1 eC h4 cIl
theorem akg:cWN yM cW ((eLK (-1) (cYX=aY) (ePw=bI))∨Fn (bXc L a b) 0 tW eLK 1 (cYX=bI) (ePw=aY)):=Gv L a b bW Dr T3 _ mW bXc aLk lO ij aIp aLj eNG eNG
end WH
end
section
namespace WH
open Si33
noncomputable def nonEmpty(p:aR):gE:=mQ 0 p.length
noncomputable def ve(r:cW):gE:=lT (wN≤40)&&(Tu 32 r).all Cn
theorem a9r{c:Nat}(h:cMs)(t:cW):(Tu 32 BS).tail=(Ai).tail:=eRp (by rfl)
theorem azv{c:Nat}(h:cMs)(t:cW):(Tu 32 BS).all Cn=(Ai).tail.all Cn:=eRp CI IJ Cn
theorem azw(t:cW):(Tu 32 (32::t)).all Cn=bI:=uE abc mF Cn
theorem bs7(t:cW):∀c:Nat,(cMs→eI5 ((Ai).tail.all))∧(c=32→eI5 ((Ai).all)):=bA Vo t bY c HK eAh eV (cMJ=aY) lX h XV bEF Cj aP bB h XV bEF Cj Cn d t [bY c,cX i1 i2 (ih d),JU eAh [aH bEF,pO (c==32&&d==32) bI fW h,cE e bEG aLm,bQ hd (d=32),oS cE (i2 hd) hd abc (by rfl) aQ (i1 hd) (a9r hd)] bB h aH bEF bQ hd (d=32) FJ bB hd aH azw cG pO (UE 32==32&&d==32) bI cK2 AZ e bEG aLm (i1 hd) (azv hd)]
theorem bdq:∀{t:cW}(h:∀c∈t,dZ RX (c≠35) (c≠46)),eIk:=fN dD t h aAf ve bXd HEAD aBk ha (t.all bT c (cAF&&aSF)) Wq aLn dD c hc dG a b d (h c hc) XV a b d aH ha aBx t CI Cj Cn c t [bQ hc (c=32),wH bB hc aH azw cG aBk e1 (aLo BS !=aO 32) fW hc cE (azv hc) e1 ((bs7 t c).1 hc) cG]
noncomputable def fz(gF:Nat)(row:cW):Nat:=Ma dNV n row bAL
theorem agn:RA n aRg bPZ eX (numberOf bAL=n) AH bAL NW dec n 3 ((bAL).all aTw=aY) (n≤9→dec n=[48+n]):=wR
theorem an_:∀{gF:Nat}(hl:bAT){n:Nat}(h1:bPZ)(h2:n≤gF),fz gF (dec n)=n:=wA XO gF hl n h1 h2 aV fz cOH eKz bAL bN (List.find?_eq_none.mp e n (List.mem_range'_1.mpr aT h1 dO b0k h2)) aZ k bDH a List.find?_some e b dIC List.mem_range'_1.mp eM a eN c1 ((agn n gC bqd hl h2 h1).1) c2 ((agn k gC b00 hl b b.1).1) aZ
theorem aes:∀{gF:Nat}{row:cW}(h:aSD≠0),dZ (row=dec aSD) (1≤aSD) (aSD≤gF):=RM gF row h XT fz h Af eKz row k [fH k,tI aZ rF]
theorem ab1:∀{gF:Nat}(hl:bAT)(row:cW),numberIn gF row=Fp cOX row aO aSD:=RM gF hl row bQ h cOX row aA7 qX h aV aLp oY JM uW q FV q1 q2 q3 q4 q5 q6 q _ bN (an_ hl q5 q6) dH (by rfl) [jJ h,dG a b c (aes h),by(obtain⟨d1,d2,d3,d4,-⟩:=agn aSD gC bqd hl c b),_,by rw[←a]at d1 d2 d3 d4,bDE aLp]
noncomputable def mark(c:Nat):gE:=c==35||c==46
noncomputable def cx(row:cW):Nat:=Mi (row.findIdx? Co) lI (i-1) bXe
noncomputable def xm(jM:cW):eBe:=fZ (rest.take 2=[32,35]) aIQ dVw EX dVw (rest.drop 3) EX 0 jM
noncomputable def ju(jM:cW):eBe:=fZ cRe rest.take aIQ dVB EX dVB [] EX 0 jM
noncomputable def mz(row:cW):uZ (cW×Dm):=Fp (ve dYi=bI) RN (xm (row.drop (cx row))) aS a RN (ju a.2) aS b eJG dYi a.1
theorem a9s(row:cW):(row.findIdx? Co=aS∧kJ c row Vr c)∨∃h c r,ZY row (h++Um) cN2 h bCz (row.findIdx? Co=aO dCo):=aBI row sQ kD dR5 x row [aH bEH,bQ hx (Co x=aY),xG nF kF [] x row aDT dR5 hx iF hx aJ hy (Bool.eq_false_iff.mpr hx) jJ hx fCc ih Hz aT aRo eP4 hm kF (x::h) c r aDT eP4 h1 h2 aRo]
theorem a5j{c:Nat}(h:Vr c):aSF=aY:=aQE Co GX
theorem a5k{c:Nat}(h:bCz):aSF=bI∧(c=35∨c=46):=aRC Co
theorem as7{h r:cW}{c:Nat}(h1:∀x∈h,Vr x)(h2:bCz):(h++Um).takeWhile aB4 aSF=h:=bA Vo h cE OK XW ((a5k h2).1) (by rfl) x h [cE Qj XW (a5j dX5),aZ]
theorem a1k{h:cW}(h1:∀x∈h,Vr x):h.takeWhile aB4 aSF=h:=aBI h (by rfl) x h [aQ XW (a5j dX5),aZ]
theorem bbb{t:cW}(h10:∀c∈t,RX)(h:∀c∈t,Vr c):eIk:=cN aI (bdq cQW) bN (h c hc) cV Co aP aZ
theorem a9t:ve []=bI:=iB
theorem bdr:qG r cW H cW (((aLp NUMS (r.takeWhile aTw)).bind bT n aKN (r.drop gD r.takeWhile aTw) [] aO (H,n,0) (32::46::q) ((aLp aLq q).map bT m (H,n,m)) _ aS)=(aIQ cPc RN (ju (r.drop 1)) aS b eJG H cPc)):=cN dD r H HJ h9 NUMS 9 rfl h12 aLq 12 rfl aQ h9 h12 aGb r [bD e bMM [] iB e2 cWh [] iB,CI e e2] y r [pE y r,LQ dCp aAi Ql Iq,bQ hy (isDigit y=aY),An aQ XW iF hy aGb r [Ix List.takeWhile_nil qZ aEZ Ql List.drop_nil,bTg,dYX,dE mF h0 CI h0 ju] z r [pE z r,bQ hz (isDigit z=aY),cMu bD clw (z≠32) cN pQ e bB e aLr hz jL e1 cWh eOC bL bTg bQ h0 bMM eOC xG Gu dG a b c (aes h0) aJ d ((eNR).2.2.2.2 c) uB d XW iF hz a eM a aH e1 lO Option.bind_none oY bOY eV (ju (z::r)=aO (0,z::r)) cN aV ju aH Zn bE e Mx r eM e w r aZ bS aQ XW eC hz LQ qZ aEZ Ql Iq bTg dYX aPL mF h0 FK h0 h0 lO Zz aV ju bQ hs cRe ((z::r).take) dU dSi r eM hs w pE w r eM hs eP rfl rfl hs Ix dCp aAi aAj Ql Iq bTg bO bO] aG hy' (aTw y=bI) lX hy aQ XW eC hy bD e0 bMM [y] kK kW SZ bE h0 dG a b c (aes h0) (by obtain⟨-,-,-,d,-⟩:=eNR) _ zP a d Iu hy' d e2 cWh [] iB bS]
theorem av9:∀(row:cW)(h10:∀c∈row,RX),mz row=aAk row:=bL dD row h10 fCc (a9s row) Nn aAf mz cx aAk aH e lO (a1k hm) cE OM aTx (bbb h10 hm) bQ hh (headOk row=aY) dU XV hh xm ju bS [aJ et (as7 (r:=r) h1 h2),aAf mz cx aAk,aH e,lO et,aH bXf,bKU (List.eq_nil_or_concat h) g x,Dk mF a9t [aG l1 (bV bPW-1=Cp) aX,by simp only[aK2]at*,aH l1,bD l2 ((bPW++Um).take Cp=g) aX l3 ((bPW++Um).drop Cp=bAP) aX,aQ l2 l3,sX cau y g (y≠10) cMC h10,sX hgm y g Vr y cMC h1,aH (bbb cau hgm),LQ List.getLast?_append List.getLast?_singleton Option.some_or List.dropLast_concat,bQ hx (x=32),SJ bB hx bQ hh (headOk g=aY) qB FK cF2 cF2 aP5 ((a5k h2).2) dQf jJ iB aI (Eq.trans ?_ oU (bdr r g)) aV xm qX aX wP Ql Iq bQ h0 (cPc=0) dU mF h0 bS [qX rfl,aV xm,jJ aX,TD,aV ju,qX aX,wP Ql Iq,aMO h12 aLq 12,aQ h12 (ab1 iB),bQ h0 (fz 12 r=0),dE mF h0 mF h0] bS qX iR (aHc≠aO 32∨bXd g=bI) gB pP oY bOY bD n1 (xm bAP=aO (0,bAP)) mY xm jJ aOD n2 (ju bAP=aO (0,bAP)) mY ju jJ aOD bS]]
end WH
end
section
namespace WH
open Si33
noncomputable def zp:jW Nat aZ8 cW uZ xO|_,[],_=>aS|k,n::ns,row=>fZ (row.take RE=bQF) iM (mz (row.drop RE)) bT a eK1 k (zp zE ns row)
noncomputable def abo(row:cW):uZ xO:=zp 0 bXg row
theorem a5l:∀n∈bXg,aRR:=wR
theorem ah2{n r:cW}(h:aRR):(bJr n).takeWhile aB4 cMJ=n:=bP0 n cG x eM h jS Qj XW iF tX (ih h.2)
theorem bds{n r:cW}(h:aRR):aLs bJr n=aO (n,r):=mY aLs wP (ah2 h) bXf
theorem takeWhile_all{n:cW}(h:aRR):n.takeWhile aB4 cMJ=n:=bP0 n (by rfl) x eM h cE XW iF cKi (ih h.2)
theorem a9u(row:cW):(aLs row=aS∧32∉row)∨pL w r (row=bB9) (32∉w) (aLs row=aO (w,r)):=bK AT h 32 row Bj jF w r e hw (List.append_of_mem h|>eZ (List.eq_append_cons_of_mem h)) bB e nF bMI w r hw bds hw aI gB Wm h aJ e (takeWhile_all h) aV aLs bS
theorem start_iff{n w r:cW}(hn:aRR)(hw:32∉w):(bB9).take RE=bQF↔n=w:=Vc HY Oj bY h pO bB9 (n++32::(bB9).drop RE) VG (bEI RE bB9) h XU this.symm aJ a (ah2 (r:=r) hw) dA e (ah2 hn) a aB a
theorem av_(row:cW)(h10:∀c∈row,RX):Nb ns aZ8 k (kJ n ns aRR→zp k ns row=nM ((dUS).bind) cOP eMD x.1 ((aAk x.2).map bT a eK1 (k+j))):=GO ns cY k h Hv dUS n ns [cY k h,aJ hn (h n aX),sX hns m ns (32∉m) bG m hm (h m fW hm),Xk zp (ih zE hns),bEJ (a9u row) e h32 w r rfl hw e,cF1 aQ e Zn bO5 bY q eV (32∈row.take RE) aCs q bO aH e lO Zz aH bEH WP n w bA4 aH aXr ((start_iff hn hw).mpr) q bB q aG d ((bJr n).drop RE=r) aX aQ d (av9 r dLJ) cG FK UP q ((start_iff hn hw).mp) pP bQd eMD w j bO]
theorem a9v(row:cW)(h10:∀c∈row,RX):abo row=aTy row:=JT mW abo aTy (av_ row h10 bXg 0 a5l) cG
inductive Told where|ent(h:cW)(n:Nat)|sen(t:cW)|ptr(x:xO)
noncomputable def aad(row:cW):Np:=RN (mz row) aS a jI aOX 0 aO (.ent a.1 aCR) aS
noncomputable def aae(row:cW):Np:=Fp (bXe<1∨200<bXe) aBV sen row
noncomputable def readLine(t:cW):Np:=fZ Ph aCj cTt aad fZ Ph Tx cTt aae fZ Ph bPp iM cTt abo (.ptr) aS
noncomputable def du(e:oZ):Fb:=Mi bXh aO s Cq XX
noncomputable def ad4(e:oZ)(t:cW):Nat:=fZ (0<aAl) 1 nN Og e.senses.any t 4 jI IH 12 5 0
noncomputable def ad5(e:oZ)(x:xO):Nat:=jI (x.kind==0) bQH 1 nN aBh ((aHf).any) y y x 4 jI aZ0 12 5 0
noncomputable def di(l:CB)(x:Np):Nat:=aLt x aS 1 dZs jI iS 300 5 0 cEN eQB ad4 t aBV ptr x eQB ad5 x
noncomputable def mv(l:DV)(p:Nat)(x:Told):DV:=aKN x aWG h UW (p,Yt h n) (.sen t) cNc tO cVd (.ptr x) cNc tO (e.point x)
structure yh(e:oZ):aE where
 aAo:qC aAl
 aAn:qC IH
 Qm:∀s∈qL,qC aE6
structure Small(l:DV):aE where
 len:MO iS
 each:∀x∈l,yh x.2
theorem ago(l:DV):(aBl).getLast?=l.getLast?.map xP:=aX
theorem a1l:qG l Fb x xO ((aBh bEB y y x)=l.contains x):=Go l x bO
theorem take2{t:cW}{a b:Nat}(h:Ph Gz):∃r,t=a::b::r:=bA cCI t h (x::y::r) h GX
theorem arz{l:DV}(sm:Fy){x:cLj}(hx:aAm=aO x):qC bSt:=bL aJ S cSQ aV du bAU dCr x.2 aB bXi s aB (S.links s (List.mem_of_getLast? e))
theorem spcas{β:Type}{t:Text}{F:Nat→List Nat→β}{e:β}{G:Nat.hasNotBit 2 t.ctorIdx→β}(hG:∀x,G x=e)(h:∀a r,t=a::r→F a r=e):aimIn._sparseCasesOn_1 (motive:=fun _=>β) t F G=e:=by
 cases t with
 |nil=>exact hG _
 |cons a r=>exact h a r rfl
theorem dtcas{β:Type}{c:Prop}[Decidable c]{A:c→β}{B:¬c→β}{e:β}(h:∀h,A h=e)(g:∀h,B h=e):dite c A B=e:=by
 by_cases x:c
 · exact (dif_pos x).trans (h x)
 · exact (dif_neg x).trans (g x)
theorem ndcas{β:Type}{a b:Nat}{x:β}(h:a=b):Eq.ndrec_symm (motive:=fun _=>β) x h=x:=by cases h;rfl
theorem lineE{β:Type}{f g k:List Nat→β}{e:β}{t:Text}(h1:t.take 2≠[61,32])(h2:t.take 2≠[45,32])(h3:t.take 2≠[62,32]):lineIn.match_8 (fun _=>β) t f g k (fun _=>e)=e:=by
 delta lineIn.match_8 at⊢
 exact spcas (fun _=>rfl) fun a r i=>dtcas (fun h=>(ndcas h).trans (spcas (fun _=>rfl) fun b s j=>dtcas (fun q=>absurd (by rw[i,j,h,q];rfl) h1) fun _=>rfl)) fun _=>dtcas (fun h=>(ndcas h).trans (spcas (fun _=>rfl) fun b s j=>dtcas (fun q=>absurd (by rw[i,j,h,q];rfl) h2) fun _=>rfl)) fun _=>dtcas (fun h=>(ndcas h).trans (spcas (fun _=>rfl) fun b s j=>dtcas (fun q=>absurd (by rw[i,j,h,q];rfl) h3) fun _=>rfl)) fun _=>rfl
theorem lineD{l:List (Nat×Entry)}{p:Nat}{t:Text}(h1:t.take 2≠[61,32])(h2:t.take 2≠[45,32])(h3:t.take 2≠[62,32]):lineIn l p t=.error (1,p):=by
 unfold lineIn
 exact lineE h1 h2 h3
theorem lineA(l:List (Nat×Entry))(p:Nat)(r:Text):lineIn l p (61::32::r)=(match aimIn r with|some (h,n,0)=>if ENTRIES≤l.length then .error (5,p) else .ok (l++[(p,⟨h,n,[],[]⟩)])|_=>.error (1,p)):=rfl
theorem lineB(l:List (Nat×Entry))(p:Nat)(r:Text):lineIn l p (45::32::r)=(match l.getLast? with|none=>.error (1,p)|some x=>if r=[]∨TEXT<r.length∨x.2.sees≠[] then .error (1,p) else if (x.2.senses.any fun s=>s.text==r)=true then .error (4,p) else if SENSES≤x.2.senses.length then .error (5,p) else .ok (lastBy l fun e=>{e with senses:=e.senses++[⟨r,[]⟩]})):=rfl
theorem lineC(l:List (Nat×Entry))(p:Nat)(r:Text):lineIn l p (62::32::r)=(match l.getLast?,linkIn r with|some x,some k=>if (k.kind==0)≠x.2.senses.isEmpty then .error (1,p) else if (match x.2.senses.getLast? with|some s=>s.links|none=>x.2.sees).contains k=true then .error (4,p) else if LINKS≤(match x.2.senses.getLast? with|some s=>s.links|none=>x.2.sees).length then .error (5,p) else .ok (lastBy l fun e=>e.point k)|_,_=>.error (1,p)):=rfl
theorem azx:∀{l:DV}(sm:Fy)(p:Nat)(t:cW)(h10:∀c∈t,RX),eOw RN bOT (.SO (1,p)) x fZ cFs (.ok cCr) (.SO (di (Zr xP) aHc,p)):=SI iC l sm p t h10 aTz bQ h1 Ph aCj Yf cUR h1 qX h1 eWZ [aH lineA,by dsimp only[Ql,Iq,aad],aH (av9 r hr)] RG (aAk r) a [fH a,dG h n m a,by(cases m with|mM m=>rfl|aTf=>rw[by dsimp only,BB di cK aAj,aJ hl aE7,aV ENTRIES,bQ h3 (iS=300),dNu gC b2s hl h3 h3])] jJ h1 bQ h2 Ph Tx SJ cUR h2 qX h2 [aH lineB,by dsimp only[Ql,Iq,aae]] aNJ e aAm (by skip) (bQ hb (wN<1∨200<wN)) [[aH (if_pos hb),by try rfl],aH (if_neg hb),eSS,by rfl] x [fH x,Cl,bQ hb (wN<1∨200<wN),dQQ aQ iF hb bEc iA hb q q dE aZ nF gB iV aV TEXT b19 q jJ hb Ix di ago e IK ad4 aJ S dJi e bQ hs (0<(x.2).sees.length) HQ fO bD hr0 AH r bL pQ q bB q eM hb hr2 (¬TEXT<wN) iV aV TEXT b26 hb aG hs0 ((x.2).sees=[]) dT8 bqq hs FK fD hs Hd ha Og ((x.2).senses.any) r HQ bS FK ha ha bN bEL aV aLq bQ h12 (cFT=12) eSi aP] jJ h2 bQ h3 Ph bPp Yf cUR h3 qX h3 eWZ [aH lineC,aH (show (62::32::r).drop 2=r from rfl),aH (a9v r hr)] bON ek (aTy r) cG k fH k lO IK DL e aAm eSS (by rfl) x [fH x,Ix di ago e IK ad5,gO S (arz sm e) hk ((bQn≠(x.2).senses.isEmpty)↔(bQn=dTp)) aGh oT sE Cr x.2 sE bQn cG,bQ h4 (bQn=dTp),HQ aZ FK UP h4 hk.mp h4 bW ((aH6 ((du x.2).contains) k _ fZ (LINKS≤bSt) _ _)=_) aH a1l bQ h5 ((du x.2).contains k=aY) xG aZ FK h5 h5 aV LINKS bQ h12 (bSt=12) eSi S] jJ h3 (by skip) aB (lineD h1 h2 h3)
theorem a1m{h:cW}(h10:∀c∈h,RX):Ce p Nat had cW l DV t cW cJk (h++10::t) aZc (aLu l p cHQ) aHs m (Iz (eEx+1) [] m t):=bNe h eSQ jS OK Iz tU Ij (by rfl) c h [eSQ,jS Qj Iz eC dVc cXu h10,cG]
theorem a1n{h:cW}(h10:∀c∈h,RX):aDG p had cW l DV cJk h jI cHQ [] aYN (.SO (1,eEx)):=bA Vo h iX p had l aQ Iz Ij c h [iX p had l,cE Iz eC dVc cXu h10,cG]
theorem akh(l:DV)(x:cLj)(f:cS2):bEK aRt f=UW (x.1,f x.2):=zK bEK
theorem an'{l:DV}(sm:Fy){f:cS2}(h:eT3 yh):Small (bEK l f):=bK dNc x jK aB sm aLv aK2 aH akh Ww Wm dX8 bN aE7 bMd eM hy bTC dU aB (dCq y cB7) bS
theorem a5m:∀{e:oZ}(S:aCB){x:xO}(h:aZ0<12),yh (e.point x):=vG jG e S x h aV dCs cV du h aNJ q bXh aF q h aI kM ?_ bEL S.links dH s [KS s q,Qk h,aG ne cMN bL pQ z aF z q cF q,bOV kM bXi ?_ ?_ bN bEL bS aKo eM hy bTC dU aB dRo S.links y hy dH]
theorem aki:∀{l:DV}(sm:Fy)(p:Nat){x:Told}(h:cFs),Small (mv l p x):=kX XO l sm p x h eW3 x [pE hd n,ON di cK h,aJ hl aE7,eV (iS≠300) bL pQ e aF Vn h tT,dP eO tQ mF mv b2r hl aP y hy,Iu mv hy,bTC,dE aB (sm.each y hy) aB eKY] t [fH t,fFy ad4,eN S cSQ h2 bEL,eSg cFT,dP kM bXi tQ cG b2o h2 aP ?_ y hy,eM hy,bTC,dE aB (S.links y hy) cG] k [fH k,fFy ad5,eN S cSQ h2 (arz sm hx),eSg bSt,aB (a5m S gC b2n h2 aP)]
end WH
end
section
namespace WH
open Si33
theorem vw:eQS aR cM9 tE|[],[],c,h,_=>fE|uP,[],c,h,_=>bOc tE|a,Bt,[],_,h=>bOc tE|[],Bt,c::u,_,_=>rfl|Xy,Bt,c::u,h1,h2=>cN cTg tE bQ ab (a=b) Oj bB ab aF tU h1 bQ ac (a=c) eZB vw aZ bEl
theorem aaf:LO a aR bQL tE:=cN bE a (by rcases ad3 a a with⟨_,_,_,h⟩|⟨_,_,h⟩|⟨_,_,_,h⟩) dE FT aB h FT
theorem akj:bDd aR Yn (cM9∨bBU tE):=vG lM a b h (by rcases yZ ad3 with⟨_,q,_,_⟩|⟨_,q,_⟩|⟨_,_,q,_⟩) dE qK Yv tI (by right) FT
theorem uv:∀a:fB,bQL ij:=cNt a x a aV ij qX rfl aB ih
theorem aoa:bS3 fB (Yn→Eb ij∨bBU ij)|[],[],h=>absurd rfl h|[],uP,_=>xR|uP,[],_=>Tj|Xy,Bt,h=>qS ij vL a b FJ bB e aQ tU tU aB (aoa r s JP q h bA aH q) eVT GG akj
theorem ah3:eQS fB Eb ij ij|[],[],c,h,_=>fE|uP,[],c,h,_=>bOc ij|a,Bt,[],_,h=>bOc ij|[],Bt,c::u,_,_=>rfl|Xy,Bt,c::u,h1,h2=>bL cTg ij bQ ab (a=b) Yf bB ab aF tU h1 bQ ac (a=c) eZB ah3 aZ aF eC ab h1 bQ bc (b=c) jK aZ aF eC bc h2 gO t cJb ac aJT cPj aF aaf t cF t bS
noncomputable def ac2(L:yM)(e:oZ):Oz:=(aCt pA,yL)
noncomputable def keyLt(a b:Oz):gE:=jI a.1 b.1 mQ a.2 b.2 cHN ij
theorem keyLt_irrefl(a:Oz):bQL OO:=zK OO
theorem akk:bDd Oz Yn (cNa∨bBU OO):=vG lM a b h aV OO vL a.1 b.1 jB bO eVT aB cB aoa e
theorem keyLt_trans:∀{a b c:Oz}(h1:cNa)(h2:bMG OO),bMk OO:=cN eUY cTg OO bQ ab (a.1=b.1) jK dH aF eC ab h1 bQ bc (b.1=c.1) xG aZ aF eC bc h2 aJ t cTZ ah3 aH Zn jK aB t bE e dA e uv t cF t
theorem a5n{a b:Oz}(h:cNa):dUC:=bA cSA (OO b a) (by rfl) bVx (keyLt_trans h e) bEM cF aP
theorem a5o{L:yM}{a b:cW}(h:aLk L a=aCt b):tW:=aRC aLk
theorem ad6:cWN yM oZ (bRJ=! cSU):=jX lJ L a b aAf dCt OO ac2 dCu (akg L a.head b.head) h1 h2 h3 FJ Qi h1 h2 h3 _ fO pE h1 h2 fO AS h1 h2 h3 fO
theorem ayp:∀(L:yM)(a b c:oZ)(h1:bRJ=aY)(h2:eFg c=aY),dCt L a c=aY:=vG sY L a b c h1 h2 aLv ad6 (by simp at h1 h2⊢) cSA dJt aOF c (by rfl) bQ q eJC jK aZ aH0 akk q kG aF (keyLt_trans e z) h2 cF h2 aZ
theorem ayq(L:yM)(a b:oZ):(bRJ||eFg a)=aY:=bK aQ ad6 ad6 cSA cSU cG aH (a5n e) cG
noncomputable def akl(d:cR):aE:=mV cYk
theorem keys_eq:cWg bAA (∀{a b:oZ},qQ (a∈d) yC d aZk (a.num=b.num) tW):=bL dD d h cV akl h PQ d bO x d [AS x d ih,bO]
theorem aag{α:cJ}{R:dXU}:cTe eK qQ dS2 (l.Pairwise R) (m.Pairwise R) (∀a∈l,∀b∈l,cA yZ R (R b a) tW) (l=m)|[],m,p,_,_,_=>fC|HS,[],p,_,_,_=>aVV bXl|HS,y::m,p,h1,h2,as=>cN aG hxy (x=y) jX aJ hx (p.subset XN) aJ hy (p.symm.subset XN) dVy (by simp only[aE8]at hx hy) iA hx e hx dE aB e bO bB hxy dVy aH (aag (List.Perm.cons_inv p) h1.2 h2.2 kI a ha b hb (as a fW ha b fW hb))
theorem si(L:yM)(d:cR):(cOE).Perm d:=List.mergeSort_perm d _
theorem as8(L:yM)(d:cR):dXn cOE (bRJ=aY):=List.pairwise_mergeSort (ayp L) (ayq L) d
theorem ayr{L:yM}{d p:cR}(k:bAA)(hp:p.Perm d)(hs:p.Pairwise bG a b (cSU=bI)):p=cOE:=bK6 (aag (hp.trans oU (si L d)) (hs.imp bT h ?_) (as8 L d) ?_) aQ ad6 h [by intros a ha b hb h1 h2,vQ ad6 h1 h2,bJ0,aG e eJC dLO aH0 akk q dE aZ aZ,cV ac2 e,eM e,aB (keys_eq k (hp.subset ha) (hp.subset hb) (a5o e.1) e.2)]
theorem akl.perm{d e:cR}(h:bAA)(p:cK9):akl e:=(p.map _).nodup_iff.mpr h
end WH
end
section
namespace WH
open Si33
noncomputable def gh(all:DV)(h:cW):Nat:=bV EN all.filter y QI h
noncomputable def fits(n k:Nat):gE:=jI k 1 (n==0) (cD0 n&&lT (n≤k))
theorem a9w:bN7 n k ((jI k 1 (n !=0) (n==0||mQ k n))=! cH3):=Vc dD n k aV fits
theorem ai2:Ce all DV had CB x cLj l DV (bEN all had HS=nN eQz EX 2 x.1 nN ePy eQ3 EX 3 x.1):=vG jG all had x l aH bEN oY bO5 bW ((nN fZ (gh all Fs=1) (aH7 !=0) (aH7==0||mQ (gh all Fs) aH7) EX 3 x.1 eQ3)=_) aH a9w bO
theorem keys_cons{x:oZ}{l:CB}(k:akl l)(h:∀y∈l,¬(aK8=y.head∧Zy=y.num)):akl HS:=bL aI (List.nodup_cons.mpr aT Nq k) cRV y hy z aB (h y hy aT oU IY bEO e oU IY aTA e)
theorem as9:qG all DV l DV aJi had CB (bEN all had l=aS) (bM4 akl∧∀x∈l,∀e∈had,¬(pA=Fs∧yL=aH7)):=Go all l cOp l dD had h dL LN YW z aU2 x l AS x l ih dD had h aF ai2 h Hd h1 eQz SC aIg h1 tT aO6 h1 Hd h2 ePy FJ aIg h2 eP k d (ih aCo x.2 h) Bi eO (keys_cons k ?_) lM y hy z _ aCW y' hy' hy aB (d y' hy' x.2 XN z) iC y hy e he z VM hy q q oS bB q aB (h1 (List.any_eq_true.mpr bR e he zB dPQ z.1 dPQ z.2)) aB (d y q e bIX he z) aO6 h2 tT
structure am3(d:cR):aE where
 iT:bAA
 len:MO iH
 each:∀e∈d,aCB
theorem am3.perm{d e:cR}(h:cLa)(p:cK9):am3 e:=kM (h.keys.perm p) gG bXl h.len AO eLS h.each
theorem ays:fCd jW kJ c had RX Fy eIM (Small m):=eZ1 eYB _ aF Iz h eYB h10 pG h FJ aF (azx sm p had h10) h pG h jK tT Iy k e pG e bSA Iy x ex KO uW h0 kU aB (ih _ _ _ _ aX (aki sm p h0) h) kU uW hc aB (ih _ _ _ _ tX sm h)
theorem bmn:Xp L yM t cW d cR eFP fBe bM4 am3 cLa:=bAN L t d cV readDict h bLh e (Iz 0 [] [] t) f aZ l [KS l e,Qk h,cQu q (bEN l [] l) f aZ aF q h tT gO sm (ays t 0 [] [] l aX bQQ e) D bM4 am3 kM ((as9 l l [] q).1) gG cK aE7 AO tQ bUL dCq y hy dL l Fi q rfl D (D.perm (si L _))]
end WH
end
section
namespace WH
open Si33
noncomputable def fw:aGI RC aR|_,[]=>[]|n,lI::r=>cS7 r|n,Xz=>cPN r
noncomputable def restOf:cA RC CB CB|Xz,bAV=>e::cAO r|aO _::r,_::l=>cAO r|_,_=>[]
theorem yj:eH1 (bV aQf=pF)|_,[]=>rfl|n,lI::r=>HB fw (yj n r)|n,Xz=>HB fw (yj mI r)
noncomputable def m_{β:cJ}(f:aSG)(E:CB)(bs:bA3):CB:=bs.foldl bG E b cST E
theorem av'{β:cJ}(f:aSG)(E:CB)(bs:bA3)(b:BP β):m_ f E (bs++[b])=dJp ((aJ7 f).modify):=zK m_
theorem xn{β:cJ}(f:aSG):qG bs bA3 E CB (bV aJ7 f=aAp):=GO bs bY E MK b bs [bY E,Xk m_ aEW,bN (ih cST),cV m_ aP,GX]
theorem bhn{β:cJ}(f:aSG)(bs:bA3):aJi E CB dXM (∀k,(aJ7 f)[k]?=dSj Mi cYj aO b (f b.1 e) e):=bNe bs iX E _ k bW (aDj=dSj e) aH Option.map_id' b bs [dAR E k,bW ((m_ f cST bs)[k]?=_),aQ (ih _ h.2) bEP,bQ hb (b.2=k),SJ aC9 n cYj (List.find?_eq_none.mpr QS x hx cDU h.1 bR x hx pZ (beq_iff_eq.mp z) hb.symm) aQ eLq List.find?_cons_of_pos (beq_iff_eq.mpr hb) n lO iF hb Hv aDj aH eLq List.find?_cons_of_neg UP hb beq_iff_eq.mp lO eC hb Hv aDj]
noncomputable def numOf(hs:aZ8)(k:Nat):Nat:=jI ePK hs.filter 1 0 ePK ((hs.take zE).filter)
noncomputable def s_(ss:WN)(t:cW):WN:=nN Og ss.any t ss bAk aG5
noncomputable def lj(ss:WN)(es:WN):WN:=eJO acc (s_ acc uX)
theorem aob:bS9 WN cA cNJ kJ s ss (Cq=[]) (lj ss es=ss++bQD (((es.map vS).filter aK4 t ((Ow).contains t)).map)):=GO es iX ss _ _ mF lj e es [dAR ss hl,bW (lj cVN es=_),sX hl' s cVN (Cq=[]) qS s_ oY dE aB hl bO,aH (ih _ h.2 hl'),aG an ((Og ss.any Cs)=(Ow).contains Cs) sR aQ List.contains_eq_any_beq OI pB aE9 s BEq.comm,aV s_,cE an rC bEQ,bQ q ((Ow).contains Cs=aY),bOm aZ jJ q aJa q' ((Ow).contains Cs=bI) lX q q' (by simp only[bEG,aAj,lN,rC,Jb,EG,Qj,OK]) aLy pB aI (List.filter_congr mR t ht) bO]
noncomputable def dk(had:Fb)(l:Fb):Fb:=l.foldl vk had
noncomputable def aah(ss:WN)(t:cW)(f:cRH):WN:=ss.modify dT5 cPy (f Cq)
noncomputable def ku(c:eAe)(e:oZ)(x:oZ):oZ:=eN9 (e.senses.foldl bG ss s dY9 bER)
theorem aoc:TB ss WN t cW f cRH dZH (aah ss t f):=vG lM ss t f aV aah kW IM KZ
theorem bdt:Ce ss WN t cW f cRH nd dSE (aah ss t f=aCq ss.map jI uX t Rx Qm (f Cq) s):=WG jG ss t f nd aV aah kW IM bE k aQ kB bEP RG (ss[k]?) s [cHu hk,WP uX t,kG eV (bXn aWe=k) vM aG h1 (aR1<aFa) dMA (Qn e) fW q aJ h2 (List.findIdx_getElem (w:=h1)) kW ((List.getElem?_inj aUC aWM nd).mp) jS kB kB e (FW h1) lO IK pB aH q aB (eq_of_beq h2) bS,aQQ]
noncomputable def aod(es:WN)(t:cW):Fb:=(aCq ((Og es.find? t).map) Cq).getD []
theorem a5p(g:Ja→Fb):bS9 WN cA cNJ dSE (es.foldl bG ss s bM0 uX Lf l g s ss=nM ss.map uT x Qm Lf x.links ((iM Og es.find? aTC g).getD) []):=Dl es Ju es [iX ss _ _,bW (ss=_),dP1 ss,aQP LR x ?_,by rfl] e es [dAR ss hs,bW (es.foldl _ bM0 Cs Lf l g e=_),cE (ih _ h.2 gG aoc hs) Dr bdt hs mL,aQP LR x ?_,bW ((_:Ja)=_),WP aTC Cs,wY eV (es.find? JO s uX aTC=aS) Mw aH bES iX y hy z h.1 (aTm bR y hy bA KZ) aBk eb (Cs==aTC) fW q Ix bET iF q aP aLz eb (by rfl),KZ]
end WH
end
section
namespace WH
section
variable{α β:cJ}{l:eK}{m:DM}{i:Nat}{v:α}
theorem azy(h:YU l):i<iS:=(List.getElem?_eq_some_iff.1 h).1
theorem bs8(h:YU l)(e:iS=aK7):i<aK7:=e▸azy h
theorem akm(e:aK7=iS)(j:Fin iS):aFb<aK7:=gG e j.isLt
theorem ah4(f:aJC)(n:Nat)(h:iS≤n):tR (List.map f l) n:=gG cK h
end
end WH
end
section
namespace WH
open Si33
section
variable{d g:cR}
theorem vx(d:cR)(g:CB):LO had aR AG bV aSe Cp iJ i (lI∈aSe) (HH∧i∉had) eQT kC aSe a lI kC aSe b lI:=bNe g bY had aV bEU aB uN vE z bMz aLa bK vR a b i z aOU e g [bY had,bVw bEU,Gi Iy i hi eTA aCo i Gd a1 (List.mem_range.mp (List.mem_of_find?_eq_some hi)) a2 List.find?_some hi aG a3 (i∉had) bL bY z dA Jc (List.contains_iff_mem.mpr z) a2 aB XD a2.1 bEd dGU aCo i ps h1 h2 h3 fA4 oS aOU dL a1 a3 dL ((h2 j z).1) JP y ((h2 j z).2) bIX y cOy b (by rfl) cF ha eMQ hb aGP b [cF hb,eMQ ha] b eXE [eTA had,bEd aSe ps h1 h2 h3,fA4 dE aOU aB (h2 j z) cF ha bME b cF hb eXE]]
theorem aug:eSU j i (cQ3→AD aQf i)|[],_,_,_,h=>vN|bAG,n,0,i,h=>bK eM h CI fw h|Xz,n,0,i,h=>vN|bAG,n,jP,i,h=>eVr n|Xz,n,jP,i,h=>eVr mI
theorem a1o:eSU j0 j (dVf→eY m dYh Be cQV j0 eEH)|[],_,_,_,h=>vN|bAG,n,j0,0,h=>vN|Xz,n,j0,0,h=>bR 0 fW fw fC|bAG,n,j0,jP,h=>eVs n bR m aIu fw h1 dSd|Xz,n,j0,jP,h=>eVs mI bR (m+1) eBp h1 dSd
theorem a1p:∀(ps:RC)(n j0 m:Nat)(x:BP oC),Be cQV j0 x→wF j (x=eEH) dVf dYh|[],_,_,_,_,h=>vN|bAG,n,j0,m,x,h=>bL dA XQ (List.filter_cons_of_neg aX) h eYq n dL jP cH tX fE aIu fw h3|Xz,n,j0,0,x,h=>bL dA XQ bP7 h eM h dL 0 cH bA AQ aX fW fw|Xz,n,j0,m+1,x,h=>cN dA XQ bP7 h eM h eYq mI dL jP cH tX fE eBp h3
theorem ap'{ps:RC}(un:eQT cQP a cQP b)(i:Nat):(iJ j cQ3 eXc)∧iJ j eXc cQ3:=bL aG at_ As (ps.zipIdx.find? Uu x.1 lI=aO x) cQP x.2 Lx cY x e aG q (x.1=aO i) dPR aQz List.find?_some Ew BP oC (x.1==lI) hM q List.mem_zipIdx_iff_getElem?.mp (List.mem_of_find?_eq_some e) aI aT mR j h mR j h jB DL e (ps.zipIdx.find? Uu x.1 lI) aF bES e aB (absurd (beq_self_eq_true _) (e (lI,j) (List.mem_zipIdx_iff_getElem?.mpr h))) x WD uQ (un _ _ i (at_ x e) h) cS x e rfl aYC aB (at_ x e)
noncomputable def akn(d g:cR):aR:=fw iH aIl
theorem tj{k:Nat}(h:k<iH):aHQ (aWn,aQ1 aNQ ((aIl).zipIdx.find?) aWn x.2):=Ed bXp cE dPS dB aQ cK aLA h kB dQA
theorem aqa(m:Nat):(yV)[iH+m]?=nM (((dVa)[m]?).map) dS9:=mY bXp AZ (List.getElem?_append_right bK aQ cK aLA aY2) cK aLA bXq kB
theorem ab2:Xp d cR g cR j Nat (j<Cp) (∃k x,eCS∧dTq):=eTP jG d g j h aG hj (j<bV aIl) gG f1 h dX3 ((aIl)[j]) eE1 aS aB3 m (a1o _ iH 0 j e') aI jO _ aS eO h1 aQ aqa h2 cG i [eE1 lI,yG hi ((mC f2 i e').1) jO i lI eO GP aug e',aQ bPr ((ap' f3 i).1 j e')]
theorem ar0:∀{d:cR}{g:cR}{k j:Nat}{x:oC}(h:dTq),eCS∧j<Cp:=eTP sY d g k j x h bRr Ae cTL bN cP1 aJ e ((ap' f3 k).2 j aP) dL GP aug e cAl WH.bs8 fAa _ aF aqa h Af ((dVa)[m]?) y [KS y e,bNF j' (a1p _ iH 0 m y e),bVx cP1 h1,eM aP,bB aP,dL h3 bA rM]
theorem am4{k i:Nat}{y:oC}(h:aHQ (lI,y)):k=i∧HH:=bK bRr SC cTL aZ fAa aF aqa h aZ
theorem bdu:∀(d g:cR),Ft yV (aTD d g) (bXk aFc++iM (aLx aIl g) aFc):=jX dD d g aV bXp Cl aH lN pB Nn aH mL kW IM bE k aP0 bRr kG aQ dTv (FW hk) CI aTD hk bS [aH mL,aJ f1 ((aZq).1),bEo (∀(ps:RC)(g0 g1:CB),pF=g1.length→Ft cQV g0.length (aTD d (g0++g1)∘tL dS9) iM (restOf ps g1) aFc) (aP _ [] g f1),bE ps,Vo ps lM g0 g1 h mF aLx p ps [AS p ps ih,lJ g0 g1 h,dSi g1 eM h e pE e g1 bN (ih (g0++[e]) g1 rX) dA fA EG aP (by simp only[qZ,aEZ,Qj,OK]at aP) aH XQ (by cases p with|uQ i=>rw[fH i,aH (List.filter_cons_of_neg aX),aB aP]|aS=>rw[cE bP7 rC aP,CI aLx aTD])]]
theorem numAt_eq:∀(d g:cR){k:Nat}(hk:aII),aZb=dWi:=QJ jG d g k hk mW numAt bEV aG e ((cIA).getD k []=Vu cH7) HB aLB hk (by simp only[e,Qo,cK,←dCy]) (by rfl)
end
end WH
end
section
namespace WH
open Si33
noncomputable def aoe(d g:cR):CB:=(List.range bIe).map bT k Yt ((cIA).getD k []) dWi
noncomputable def vy(e x:oZ):oZ:=uT x aAn (lj bER qL)
noncomputable def onT(own:cR)(T:aR):Ds oZ:=own.zip T
noncomputable def ajl(d g:cR):CB:=m_ vy (m_ vy cLe aSz) cXT
noncomputable def b8(own:cR)(T:aR)(E:CB)(x:xO):xO:=xJ eSz aS x lI (match rW own,(rW T).bind bT k aDj with|aO e,aO t=>eO3 bUU aWA 0 ePv (t.senses.findIdx? JO s uX ((aCq ((qL[aYJ]?).map) uX).getD []))|_,_=>x)
noncomputable def awa(d g:cR):CB:=m_ (ku (b8 g Nc Au)) (m_ (ku eDd) Au aSz) cXT
noncomputable def ym(d:cR):aE:=∀e∈d,aWE
section
variable{d g:cR}
theorem awb:fCt aSz bJ6:=SI iC d g k b h onT bRr Yf cTL aG e1 (b.1=aO k) bA hM zV h aH e1 lO Zz aNJ e cXq cWQ aF bES e eSP (d[k]) cWQ k mF hk bO x [fH x,eP m hm cR7,bO] LC b.1 aS dUd b.1 i fH i dAE (am4 (y:=b.2) bA EH h e) (bzb hk aP) aH e1 dYw cXq cWQ fH x aTj eP m hm cR7 bO
theorem ar1:bV Nc=Cp:=aJw akn yj ((aZq).1)
theorem ar2:fCt cXT cOP b.2 (g[j]?):=aJF d g k b aV onT DL e cXq dZY aF bES e Ej e2 b.2 j [fH j,eP h1 h2 (ar0 (x:=b.1) bA EH h e2),eSP (g[j]) dZY j dL (FW h2) h1,dH] x [fH x,eP j hj cR7,aF bEW hj,uL aP List.find?_some e aP eq_of_beq aP,nQ k' x' q1 q2 aZ3 iO hj.1,aZ]
theorem ah5{α:cJ}(l:eK)(h:∀(i j:Nat)(x:α),cA aRf bRv (i=j)):bEq:=cN aQ List.nodup_iff_pairwise_ne bEX (by intros i j hi hj hij e) bN (h i j l[i] cGq fD) NQ bg7 hij
theorem a5q:mV Nc:=fN aI (ah5 _ cI9 k) bD la (a<Cp) DK dP2 iO ha lb (b<Cp) DK dP2 iO hb jF k1 x1 p1 p2 aZ3 la jF k2 x2 q1 q2 aZ3 lb aZ
theorem als{own:cR}{T:aR}(h:T.Nodup):mV eDm:=by rw[dR up bN7 i x (YS eDm→YS T) Vc iX i x e cV onT e (ah5 _ oW i j x hi hj ?_),eN hi (up i x hi) hj (up j x hj),aB ((List.getElem?_inj iO hi h).mp (hi.trans hj.symm))]
noncomputable def a1q{β:cJ}(f:aSG)(o:aJl)(e:oZ):oZ:=Mi o aO b (f b e) e
theorem ah6{β:cJ}(f:aSG){bs:bA3}{E:CB}(nd:dXM){k:Nat}{o:aJl}(hf:Ft cYj wL o):(aJ7 f)[k]?=iM aDj (a1q f o):=aDM (bhn f bs E nd k) bB hf Hv (bs.find? JO b b.2 k)
theorem ar3(n:Nat):mV dRc:=List.nodup_range
theorem bho{k:Nat}(hk:aII):GL cLe Yt Vu aEs aZb:=qS aoe cE kB dTv (numAt_eq d g hk) bS
theorem ah7{es:WN}(h:cNJ):lj [] es=bQD ((es.map vS).map):=zB (aob es [] h aX) (List.filter_eq_self.mpr aX)
theorem aof(hd:Hk)(hg:Pd){k:Nat}(hk:aII):GL Au sC Vu aEs aZb [] ((aMU aEs).map bT t aG5):=qF bOk hb hk aV ajl cE (ah6 vy (als a5q) (ar2 hb)) (ah6 vy eCJ (awb hb)) (bho hk) lO IK pB bCP aLC aEs b bD nA cQE eUP hd nB cQD eUP hg eRv vB eB aPx mF a1q y [BB a1q vy (ah7 (nB y eB)),cG,aH (List.filter_eq_self.mpr aX),cG] aPZ eB aPx eKi cG y eKi aH (aob bEY _ cTX aX) cG
theorem bmo(l:aZ8)(t:cW):l.idxOf t=l.findIdx bQj:=rfl
theorem findIdx?_text(l:aZ8)(t:cW)(h:t∈l):(Og ((bQD Zr).findIdx?) t)=aO (l.idxOf t):=fN aH List.findIdx?_map aH bmo bN (List.findIdx_lt_length_of_exists (xs:=l) (p:=bQj) bR t h aX) aH dCz dL aP rfl
theorem ad7{d:cR}{h:cW}{n i:Nat}(e:entryAt d h n=aO i):HH:=aB5 List.findIdx?_eq_some_iff_getElem.mp
theorem vz{own:cR}{i m:Nat}{e:oZ}(he:dV1)(hm:bBd):aK5 own ZS=qL[m-1]?:=GU aK5
theorem a5r:∀{d:cR}{g:cR}(hd:Hk)(hg:Pd)(Qp:gE){own:cR}{T:aR}(ho:own=cWl)(hT:iJ i (i<own.length) (∃k,∃hk:aII,dZ bKH ((EN ((yV).findIdx?) b nN Qp b.2 b.1 lI)=aO k) (∀e,zQ dV1 s qL (uX∈aMU aEs))))(x:xO),b8 own T Au x=bU5 Qp:=vG yN d g hd hg Qp own T ho hT x mW b8 dCA (by simp only[←ho]) Ej ea eSz i [fH i,aJ hi (ad7 ea),AM k hk h1 h2 h3 (hT i hi),aG ei gH own (own[i]) cGq,Ix h1 h2 Zz cFj hk ei,mN (own[i]) e,CC CO 0,jK bS wP bAu (vz ei z) bQ q (IH<CO) bOm KZ jJ q aG hl (aYJ<IH) gC b1a z q aH (FW hl) wP IK bEZ aJ hm (h3 e ei (qL[aYJ]) (List.getElem_mem hl)) aH cB findIdx?_text hm bS]
theorem awc{l:iU aAq}{f:aJd aAq}{k:Nat}{b:aAq}(h:GL l b)(hf:f b=aY)(un:xT k' b' kC l k' b' (f b'=aY) (k'=k)):l.findIdx? f=aO k:=JT aJ hk aR2 List.findIdx?_eq_some_iff_getElem aIH bR hk ?_ cHl aZ bY q bN (un j _ Al gC byx hk hj q) NQ bg7 hj
theorem aai(i:Nat)(h:HH):i<bIe:=iV bN (tj (g:=g) h) WH.azy fE
theorem a9x(hd:Hk)(hg:Pd)(x:xO):b8 d Vx Au x=bU5 bI:=dTM (a5r (own:=d) hd hg bI rfl vE hi eVR i (aai i hi) (dCx hi) x) eXG bPr eM q aB ((am4 (i:=i) (y:=b'.2) eF2).1) aG hb gH yV ((yV)[i]'(aai i hi)) PL aF bPr hb bS8 bCP dH
theorem a5s(hd:Hk)(hg:Pd)(x:xO):b8 g Nc Au x=bU5 aY:=cN aI (a5r (own:=g) hd hg aY rfl cHl x) jF k y h1 h2 aZ3 hj aJ hk iO h2 zX eVR k hk h1 eXG h2 eM q bN ((ar0 (j:=j) (x:=b'.1) eF2).1) aZ [bOk hb hk,aF h2 hb,bS8,bCP,aQQ]
theorem aog(l:Fb):dk [] l=bEn:=oU (zh l)
theorem a1r(a b:Fb):dk (dk [] a) b=Cf Ib:=aJw dk zh aTg
theorem ah8(c:eAe)(e x:oZ)(he:aWE)(hx:bHN x.senses.map):cWX=eN9 aCq x.senses.map Rx Qm Lf Cq ((aod qL uX).map) c:=kK aV ku aH (a5p bT s (s.links.map c) qL bER he hx) pB aQP LR s ?_ aLy aV aod Hv (e.senses.find? JO t aTE uX)
theorem amf:eZk Hk Pd b aAq mV Uy:=jX iC d g hd hg b bCP Cl bD nA cQE eNS hd nB cQD eNS hg bD n1 eYv b.1 d bA bAU bJ6 cG x qK n2 eYv b.2 g bA bAU aPx cG x qK bO
noncomputable def aet(d g:cR):CB:=(yV).zipIdx.map fun(x:BP aAq)=>eK0 x.1 aWd x.2 aHl (seesAt g aNY) aMU x.1 dOh aHl aNY
theorem bbd:∀{d:cR}{g:cR}(hd:Hk)(hg:Pd),awa d g=Vp:=WG jG d g hd hg aV aet kW IM bE k bQ hk aII bOe bDJ hb FW hk e1 aK6 (a9x hd hg) e2 aK6 (a5s hd hg) aV awa (by rw[e1,e2,ah6 _ (als a5q) (ar2 hb),ah6 _ eCJ (awb hb),cFj hk,kB,bE0,hb]) wP IK Jd pB aJ nT (amf hd hg aEs) aAf dCB aFd aAr FX hB aEs b oQ nA cQE eZ9 hd nB cQD eZ9 hg nT' mV aYD ((bQD ((Uy).map))) sR aH mL eX9 (aG5:Ja) aH aP nT eRv bON eB aPx mF a1q y lO a1q aH cTY cTX dZr aNJ eB aPx lO a1q aH cTY cH0 dZr y [lO a1q,aQ cTY cH0 Dr ah8 cTX,dU XV a1r aod bET,bO] [aG l1 tR (awa d g) k kK aV awa aQ xn xn aV ajl aQ xn xn aV aoe cG aB (a49 hk),bS]
theorem azz(L:yM)(hd:Hk)(hg:Pd):joined L d g=sorted L (awa d g):=DE (bbd hd hg)
end
end WH
end
section
namespace WH
open Si33
structure ako(l:xO):aE where
 mK:IN<5
 head:bXt≤40
 num:aLE≤9
 bXr:qC aTF
structure aoh(e:oZ):aE where
 head:bXu≤40
 num:yL≤9
 aAo:∀l∈XX,bAQ
 text:∀s∈qL,s.text.length≤200
 Qm:∀s∈qL,∀l∈Cq,bAQ
 nd:aWE
 ei:eFG
theorem aeu{most:Nat}{t:cW}{n:Nat}(h:aLp most t=aO n):n≤most:=aQE aLp tI aTh rF
theorem alt{h:cW}(e:headOk h=aY):dU0:=Fu aLd bXd HEAD e
theorem a5t:∀{t h:cW}{n m:Nat}(e:aBu aAk (h,n,m)),dZ dU0 (n≤9) qC m:=fN iC t h n m e cV aAk e Qk e pG e fP pG e KO uW q kU aB cH (alt q) lC om4 cL1 kU pG e HQ kU uW q aF Zx q aG hh (headOk dCC (t.takeWhile bT c aSF)=aY) lX q.2 pG e dE eX1 e2 aF e2 e k lC om4 DL e2 dKZ NUMS aF e2 e kU k [aF e2 e,OJ Zz e,pG e,oS kU aB cH (alt hh) (aeu e2) cL1 eX1 e3 aF e3 e j (aeu e2),dU kU]
theorem bdv:∀{t:cW}{x:xO}(h:aBu aTy x),ako x:=RM t x h cV aTy h vB e1 (aLs t) aZ w [KS w e1,bCu,vB e2 (KINDS.findIdx? yE (k==w.1)) aZ k [KS k e2,bCu,vB e3 (aAk w.2) aZ a [KS a e3,tT,cWR (a5t (t:=w.2) (h:=a.1) (n:=aCR) (m:=aOX) e3),aB sC dQL e2 h1 h2 h3]]]
theorem am5{l:DV}(h:∀x∈l,aRL){f:cS2}(hf:eT3 aoh):∀x∈cNc f,aRL:=mY bEK vB e aAm aB h y [aI1,Qk hx,Ic,dU aB (h x (List.dropLast_subset l hx)),aZ]
theorem lineQ(t:Text):(∃r,t=61::32::r)∨(∃r,t=45::32::r)∨(∃r,t=62::32::r)∨∀l p,lineIn l p t=.error (1,p):=by
 by_cases h1:t.take 2=[61,32]
 · exact .inl (take2 h1)
 by_cases h2:t.take 2=[45,32]
 · exact .inr (.inl (take2 h2))
 by_cases h3:t.take 2=[62,32]
 · exact .inr (.inr (.inl (take2 h3)))
 exact .inr (.inr (.inr fun _ _=>lineD h1 h2 h3))
theorem a1s:∀{l m:DV}{p:Nat}{t:cW}(h:∀x∈l,aRL)(e:eOw (.ok m)),∀x∈m,aRL:=QJ sY l m p t h e (by rcases lineQ t with⟨r,rfl⟩|⟨r,rfl⟩|⟨r,rfl⟩|q0) (by all_goals first|rw[lineA]at e|rw[lineB]at e|rw[lineC]at e|rw[q0]at e) fP pG e KO (by rename_i h0 n0 ea) pG e HQ kU kU dG a1 a2 a3 (a5t ea) SH Ic jK AQ eM hx aH hx aB zM a1 a2 aX aX aX aX aX kU pG e bSA (by rename_i _ y ey) bSA uW q bSA uW q2 Dk kU [fD3,dPB,ePL,dA Zx Zx q,bD hs ((y.2).sees=[]) lX q.2.2 ht (wN≤200) YT cFR cV TEXT aP JN b27,aIC eY0 hs dD s hs' vK hs' hs' dU aB (O.text s hs') aZ qW s hs' k hk vK hs' hs' dU aB (O.links s hs' k hk) aZ,wY bW mV bAi (Cr y.2++[_]) aQ lN SY aI pD O.nd aX GX] oS pG e bDL (by rename_i y k ey ek) ePL aJ K (bdv ek) aAZ es dCr y.2 [fEH,fD3,fFx nn List.getLast?_eq_none_iff.mp,dP zM O.head O.num ?_ O.text O.links O.nd lV (aS9 nn z) z hz,vK hz hz,dU aB (O.sees z hz),aZ] s [fEH,kU,vI am5 h,aI1,fFx hs List.mem_of_getLast?,aG eq ((y.2).senses.dropLast++[s]=Cr y.2) JT cX ys hy (List.getLast?_eq_some_iff.mp es) hy cG,Fw eY0 (O.ei<|Dl z aZ) cY z hz vK hz hz jK aB dRo O.text z hz eM hz aH hz aB (O.text s hs) vR z hz w hw vK hz hz HQ aB (O.links z (List.dropLast_subset _ hz) w hw) eM hz aF hz hw vK hw hw dU aB (O.links s hs w hw) aZ,kG bN O.nd bO] kU kU
theorem ayt:fCd (bQp aRL→zQ eIM x m aRL):=eZ1 eYy aF Iz e eYy pG e oS pG e jB kU Iy k ek aGF ih _ _ (a1s h ek) e aGF ih _ _ h e
structure Good(d:cR):aE where
 ok:cLa
 ent:∀e∈d,aoh e
theorem Good.nil:Good []:=aOz kM LN aX aX
theorem Good.perm{d e:cR}(h:uK)(p:cK9):Good e:=aT (h.ok.perm p) AO eLS h.ent
theorem Good.texts{d:cR}(h:uK):Hk:=aEl ((aHO h.ent).nd)
theorem az0{L:yM}{t:cW}{d:cR}(h:eFP):fBe dVz uK:=bL vT l h1 h2 h3 h4 h5 (bmn h) aG g dVz aT h4 gT cY e he aW2 x hx he (ayt t 0 [] [] l aX h1 x hx) dL l nP h1 h2 h3 g (h3▸g.perm (si L _))
end WH
end
section
namespace WH
open Si33
section
variable{d g:cR}
theorem aoi{k:Nat}{e:oZ}(h:cNW):eY b aHQ b (e=eK0 b aZb b.1 dYE Uy eKF):=aRC aet
theorem a1t:bV Vp=bIe:=zK aet
theorem az1{k:Nat}(h:aII):∃e,cNW:=gJ Al gG a1t h
theorem a1u{d e:cR}(p:d.Perm e):aTG d=aTG e:=aJw aTG bXl p.any_eq
theorem akp{α:cJ}(f:bO7)(l:eK):bN7 a b cA (a<b) cVV b (cPT (a+1)<cPT (b+1)):=cN (by intro a b hab⟨x,hx,fx⟩) aJ hb iO hx bD e1 cTr (b+1) (aFe b) dYg e2 (aFe b=bI2 (l.take (a+1)) (l.drop (a+1)) (b-(a+1))) Mw hM List.take_add pB b0s hab bS
theorem bs9{α:cJ}(f:bO7)(l:eK){a b:Nat}(hab:a<b)(ha:cVV a)(hb:cVV b):dUk≠1:=fN cS x hx fx ha aJ q (akp f l a b hab hb) bD e1 cTr (a+1) (aFe a) dYg q1 (1≤cPT (a+1)) bK cE e1 aEX fA mF fx aG q2 NW ((l.take (b+1)).filter) f dUk dCD ((dRg).filter f) aB (byo q q1 q2)
theorem b3b:akl Vp:=kK aV akl aI (ah5 _ cI9 x) aG one iJ i YS aDg Vp e pA yL wF c gH yV c (Vu c=x.1) (aWd i=x.2) bL cY i h aF kB h Af rW Vp y [aF e h,Sr c (aoi e),fO] jF c1 p1 p2 p3 (one a ha) jF c2 q1 q2 q3 uI one aG key (∀(a b:Nat)(c1 c2:aAq),jW kC yV a c1 (Vu c1=x.1) (aWd a=x.2) qQ kC yV b c2 (Vu c2=x.1) (aWd b=x.2) (a<b) oJ) vM (by intros a b c1 c2 p1 p2 p3 q1 q2 q3 hab) bD ga ((yV).getD a bJT=c1) bA2 p1 gb ((yV).getD b bJT=c2) bA2 q1 (by unfold numAt at p3 q3) (by simp only[ga,gb,p2,q2]at p3 q3) aJ n1 (bs9 eM0 yV hab bR c1 p1 fW p2 eRk) vQ eC n1 p3 q3 bN (akp eM0 yV a b hab eRk) aB (bx3 p3 q3 aP) fO
theorem a9y(d:cR):∀(g:CB)(had:aR)(j i:Nat),AD aSe lI→eRM:=GO g eOa Iu bEU h e g [eOa,dPF bEU,oS Iy k hk eWz aZ eWz eM h]
theorem bdw{k i j:Nat}(h:aHQ (lI,aYy)):eRM:=cN cX rfl hi (am4 h) aF bPr h bN cP1 aB (a9y d g [] j k ((ap' (aZq).2.2 k).2 j aP))
theorem a5u{a b:oZ}(h:dK4):aTH=[]↔bXv=[]:=aRC oneWord
theorem ah9:∀{d:cR}{g:cR}(hd:uK)(hg:aPa)(hn:eHy)(hs:eVy)(Qp:gE){x:xO}(X:ako x),ako bU5 Qp:=QJ yK d g hd hg hn hs Qp x X aV dCA Cl oY jK aB X Iy i ei oY Dk aB X [Iy k ek,dS1 hk dQL ek hb,aG gb ((yV).getD k bJT=aEs) bA2 hb,oY,jB aB eKZ X.sense oY aPL aB X (by rename_i z _ s es) aI eKZ ?_ bN (hs k _ hb) bW qC (eKL+1) aG hlt (eKL<bV aMU cH7) kK aQ List.idxOf_lt_length_iff gb aG hm bTs cWl (s∈qL) bL cV aK5 es aF eC z es vB e0 rW cWl aZ e fO dG e he hse hm aJ bE2 vY (List.findIdx?_eq_some_iff_getElem.mp ek) aJ hq (eq_of_beq bE2) bCP aIp Qp fO fO fO]
theorem a5v:∀{own:cR}(h:bCb){i:oC}{t:cW},∀l∈linksAt own i t,bAQ:=vG jG own h i t dD l hl aLd dCB aAr hl bCC bTA fH x aF e hl cSL vB e2 (x.senses.find? aWe) aZ s [fH s,aF e2 hl,cSL,aLD k hk dIw,_,aB ((bT8).links s (List.mem_of_find?_eq_some e2) l hl)]
theorem bbe{own:cR}(h:bCb){i:oC}:∀l∈aFd own i,bAQ:=bL cY l hl cV aFd hl bCC bTA aF e hl cSL cWe aB ((bT8).sees l hl)
theorem a5w:∀{own:cR}(h:bCb){i:oC},∀t∈aYD dYc,bOU:=Gv own h i dD t ht aCW s hs ht cV aAr hs bCC bTA aF e hs ON IK bEZ hs cWe aB ((bT8).text s hs)
theorem bbf{own:cR}(h:bCb)(i:Nat):NW ((Lo ((rW own).map) pA).getD) [] 40:=bA bAU rW own cG x aB aLw mC h.ent x e
theorem bdx:eZk uK aPa hm (aTG Vp=bI) (Good Vp):=bN2 iC d g hd hg hm cV aTG hm (by simp only[Bool.or_eq_false_iff,decide_eq_false_iff_not,bW2,aEY,LS,Zx,Nat.not_lt,Cg,not_exists,not_and]at hm) eP h1 h2 hm sX at_ e Vp (∃k,cNW) aEl (List.mem_iff_getElem?.mp he) bD hn eHy kK dD k hk eP e he (az1 hk) aLD b eb (aoi he) _ bN ((mC h2 e he).1) aF eb aP aB aP hs eVy vM lJ k b hb eP e he (az1 iO hb) dG b' hb' eb (aoi he) aF hb hb' cF hb' bN Ea mC h2 e he aF eb aP aE4 aLq aP dP eO kM b3b h1 aEl kM vY bQG Ea bQG bLd ((bQG).2.2.2 s hs) e he eP k hk aHO at_ dG b hb eb (aoi hk) aJ nm ((bQG).1) bB eb cMQ zM ?_ nm ?_ ?_ ?_ ?_ ?_ bW tR Vu b 40 bVw aTD dE aB (bbf hd _) aB (bbf hg _) dU cG dD l hl dA aTi bEu hl iA hl hl hl eXl bbe Gi dD s hs' aCW t ht hs' bW bOU cV bXs ht vK ht ht dE aB (a5w hd t ht) aB (a5w hg t (List.mem_filter.mp ht).1) [jG s hs' l hl,EO t ht Qg hs',ON aTi bEu hl,iA hl hl hl,eXl a5v] JM bW mV bAi bAi Uy aH mL eX9 (eKF:Ja) aH aP aB (amf hd.texts hg.texts b) [bE hne,bW (Cf (bAi (seesAt d b.1)++bAi dYE)=[]),aG hA JB (cMB b.1 []∧dY6 b.2) (aFd d b.1=[]) (aFd g b.2=[]) cN aG one (∀{own:cR}(h:bCb)(i:oC),AH dYc→aFd own i=[]) (fun{own}h i q=>bL cV aAr q aV aFd dYw bTA Ch x aF e q cWe aB ((bT8).ei q)) bW3 b1 b2 b _ cMh b1 bQ z dY6 b2 Hz kD z kD (one hg b2 z) i [fH i,cMh b2 bQ z cMB lI [] Hz NP z NP (one hd _ z) j [fH j,AM a c ha hc hw (bdw hb),bD sa cMB lI aTH mY aAr mF ha sc (aAr g aYy=c.senses) mY aAr mF hc,bN (a5u hw),rM]],aTI hA q1 q2,Wn pE q1 q2 aTj kW hne bW Ft Uy _ [] aV bXs bS,pE q1 q2,bS]
end
end WH
end
section
namespace WH
open Si33
noncomputable def evL(d:cR)(i m:Nat)(l:xO):uZ cPM:=aDg eBt t (IN,i,m) (IN,t)
noncomputable def evS(d:cR)(i:Nat)(s:BP Ja):LG:=(s.1).links.filterMap (evL d i aQH)
noncomputable def evE(d:cR)(x:BP oZ):LG:=(x.1).senses.zipIdx.flatMap (evS d x.2)
noncomputable def events(d:cR):LG:=cMO evE
noncomputable def keysOf(E:LG):iN:=dWk
noncomputable def ma(E:LG)(k:gL):iN:=eT4
theorem akq(E:LG)(e:cPM):eS9 Qq:=fW Qq
theorem akr(E:LG)(e:cPM)(k:gL):ma cGZ k=eEP bRt:=mY ma dH
theorem am6{E:LG}{k:gL}:eAA aJN:=cO8 Qq af_
theorem adb(E:LG):mV aJN:=eCo Qq
theorem awd(E:LG):NW keysOf E aAp:=eTH (adb E) am6.mp
theorem awe{E:LG}{k:gL}(h:k∉aJN):ma E k=[]:=eYd ma am6.mpr
theorem bdy{E:LG}{k:gL}(h:k∈aJN):AH bRt:=Wr cS e he rfl (Qg (am6.mp h)) bY z cV ma z dA List.map_eq_nil_iff List.filter_eq_nil_iff z
theorem aqb{α:cJ}(g:PN LG)(k:gL):∀l:eK,ma dRN k=aYH (ma (g x) k):=eIm bE3 ma bS
theorem bhp{α β:cJ}(h:eAf){i:Nat}(hz:eRq):eJ0 QN ((bO1).flatMap h=[]):=bBN l cY _ _ y cY n hn jS XQ SX (hz y n dO b0t hn) (ih mI dO bz1 hn) (by rfl)
theorem awf{α β:cJ}(h:eAf){i:Nat}(hz:eRq):eJ0 aDh ((bO1).flatMap h=(aBO ((l[i-n]?).map) (h (y,i))).getD []):=cQC cY n _ cG y cY n hn aQ XQ SX vL n i KO bB e aQ (bhp h hz l mI lC b2a) bEz cG AZ (hz y n e) (ih mI gC b0o hn e) OK aQ4 (i-n=(i-mI)+1) b08 hn e dCE
theorem bhq:∀(d:cR)(i j:Nat)(s:Ja)(k:Nat),ma (evS d i (s,j)) (k,i,jP)=aDg eDj s.links.filter k t k t:=cN iC d i j s k mW evS ma Cl cGH Cq l ls AS l ls ih aPZ hl eBt aQ (List.filterMap_cons_none mY evL Gu) ih bO t fH t aH (List.filterMap_cons_some (b:=((IN,i,jP),(IN,t))) GU evL) bO
theorem awg(d:cR)(x:gL):ma dQH x=bQv:=SI cS k i m x bXw aH8 aqb (awf (i:=i) _ pX e j hj d 0 mJ) dA0 Ol bXx mW jm db DL hd aBZ eV (senseAt d ZS=aS) qS aK5 lO hd aJf oY bS e [bW (ma (evE d (e,i)) (k,i,m)=_),aV evE,Ol aqb,aGP m [eV (senseAt d (i,0)=aS) rfl,Ol aP,bW (_=[]),Ol dCF,cY s _,dAZ,dAS,fEw] m [Ol (awf (i:=m) _ pX s j hj _ 0 mJ),SJ Ol bXx eV (aK5 d (i,m+1)=qL[m]?) vC Ol (vz hd lC bqk) Ol aP Ej hs (qL[m]?) s aB (bhq d i m s k) dAZ dAS fEw]] aV evE aH8 aqb dCF cY s _ dAZ dAS dM1 bO
theorem a5y(d:cR):aXv cMP Qq:=tL DK awg aT bdy wE (SZ bT n (h (awe n)))
theorem auh{α β:cJ}(g:aRa)(c:Nat):ZW l eK bQp NW g x c NW aK3 g (iS*c):=aCx l bY _ cG x l bY h bN cXv bN (h x aX) jS SX fA qZ Nat.succ_mul rF
theorem aui:eYh n BP α (x∈bO1) (x.1∈l):=kX XO α l n x h dH
theorem a9z:cWg uK NW bXw d Qe:=eYG bXw cLb 144 kK SH dY5 eN hs Cr cV8 hl ((cV8).links) eIv (evS d x.2) fN aKe bN eLT hl bN (List.length_filterMap_le (evL d x.2 aQH) (s.1).links) aV evS rF aF aLG aP aV evE NQ b02 hs
noncomputable def zi(d:cR)(i:Nat)(e:oZ):aDZ:=nM e.sees.zipIdx.map (Ma dRx x.1,i,0,x.2)
noncomputable def l4(d:cR)(i:Nat)(s:BP Ja):aDZ:=nM ((s.1).links.zipIdx.map) (Ma dV0 (i,aQH),i,aQH,x.2)
noncomputable def ajm(d:cR)(e:BP oZ):aDZ:=zi d e.2 e.1++(e.1).senses.zipIdx.flatMap (l4 d e.2)
noncomputable def a90(d:cR):aDZ:=cMO ajm
theorem a5z{α β:cJ}(w:aAW α Nat)(g:aJC)(h:∀x,w x≠aO 0):eFU aB7 (Ma (w x),g x) bT y (y.1 !=0) nM bVM aDg (w x) v v (g x):=eIm aH rC bAU (w x) bS v bO
theorem ar4{α β:cJ}(p:aJd β)(g:aRa):eFU dRN p aYH ((g x).filter p):=aXg x [cE SX aEX ih,by rfl]
theorem bs_:eVo i Nat dRx x:=RM d i x aV dCG rM
theorem bmp:eVo s zR (dCH d s x):=RM d s x aV dCH rM
theorem bdz:LO d cR ((cLc).filter tL (x.1 !=0)=bXy d):=qF bE d mW a90 bXy aH ar4 pB aE9 e aV ajm aQ aEX ar4 pB jK aB (a5z Ew BP xO (dCG d e.2 x.1) tL (e.2,0,x.2) tL (bs_ d e.2 x.1) _) pB aE9 s aB (a5z Ew BP xO dV0 (e.2,aQH) tL (e.2,aQH,x.2) tL (bmp d _ x.1) _)
theorem bhr:cWg uK vZ gD a90 d:=eYG a90 bOC 156 qF SH dY5 eN hS cV8 h1 hS.sees aJ h2 hS.senses eIv (l4 d x.2) cN aKe bN eLT hS.links aV l4 aZ aF aLG aP mW ajm zi cE fA cK aLG aB (byl h1 h2 aP)
theorem ac3{α β:cJ}(g:aRa)(l:eK)(i:Nat):dSz g gD aK3 g:=eBq eBL XY
end WH
end
section
namespace L2
open PySem PySem.Spec PyProof.Rows
theorem bd0(x:Str)(t:Tok):amd aQY (.str x t)=aY:=HB amd Value.isStrOf
theorem a50(eJ:aM)(w:aK)(i:Int)(t:Tok):(Mq).is gB i (.int i t)=aY:=apw i t
theorem a51(eJ:aM)(w:aK)(x:Str)(t:Tok):(Mq).is aQY (.str x t)=aY:=bd0 x t
end L2
namespace L2
open PySem PySem.Spec PyProof.Rows
noncomputable instance:rS V:=⟨iE⟩
theorem Vals.length{xs:aN}{us:eQ}(r:RH):dF=By:=cMD
theorem Vals.get:aAs xs aN us eQ i Nat x V cA RH VI DD u us u Ah|_,_,_,_,eF,e=>bA eM e|_,_,0,_,.jR r _,e=>gT eM e bB e sS r|_,_,eG,x,bCQ,e=>Kw Sr u (Vals.get (i:=i) (x:=x) t lX e) u bL8 h2
theorem Vals.append:∀{xs ys:aN}{us ws:eQ},cA RH IZ ys ws IZ (xs++ys) (us++ws)|_,_,_,_,eF,s=>s|_,_,_,_,Yp,s=>aBD r Vals.append t s
theorem Vals.take:eIN xs.take us.take|_,_,0,_=>eF|_,_,_+1,eF=>eF|_,_,mI,Yp=>aBD r Vals.take n t
theorem Vals.drop:eIN xs.drop us.drop|_,_,0,r=>r|_,_,_+1,eF=>eF|_,_,mI,bCQ=>Vals.drop n t
noncomputable instance:rS HO:=⟨sK⟩
noncomputable def upd(H:Hp)(a:aA)(o:HO):Hp:=bT b jI b a aO o (H b)
theorem ah{H:Hp}{a:aA}{o:HO}:En a o a o:=mY upd qX rfl
theorem aq{H:Hp}{a b:aA}{o:HO}(h:pY a):upd H a o b=H b:=mY upd jJ h
theorem ii{H:Hp}{a b:aA}{o u:HO}(h:BL o)(h':aWS)(d:o≠u):Yn:=Lx bY e bB e aF h h' d zV h'
theorem ay{H:Hp}{a b:aA}{o:HO}(h:BL o)(h':xB):Yn:=cPj aF h h' cF h'
section
variable{P:aM}{w:aK}{H H':Hp}{h h':aU}{a:aA}{o:HO}
theorem jk.lt:∀{P:aM}{w:aK}{H:Hp}{h:aU}{a:aA}{o:HO}(x:bDj o),a<SM:=kX xN P w H h a o x (by cases o with|lst xs=>rw[eAI,Gm]|tup xs=>rw[bE4 p x,aB p.lt]|dK kvs=>rw[fEo]|dT kvs=>rw[fEo]|set S n=>rw[eLr,Gm]|ins C dx fs=>rw[eAJ,Gm]|own y=>rw[bDR e x,Gm]|xd fs=>rw[by(obtain(⟨_,⟨_,_,_,e,_⟩,_⟩):=x),Gm]|rng lo hi=>rw[bE4 e x,Gm]|ox ob u=>rw[bWV e x,Gm]|tbl ps=>rw[ePe]|met f y=>rw[ePe]|ext φ=>rw[eAK,Gm])
theorem Paired.c_{α β:cJ}{F G:tZ}:ZN l₁ eK l₂ DM Ei l₁ l₂ kQ a b Ov yZ G eMu|_,_,eF,_=>eF|_,_,Yp,f=>aBD cB f r bE5 t f
theorem jk.stay:∀{P:aM}{w:aK}{H:Hp}{H':Hp}{h:aU}{h':aU}{a:aA}{o:HO}(x:bDj o)(k:xT b u (b=a∨JA EY a) bJP cAY)(ho:iJ b JA EY a oA b EY a)(ht:cYs),cYV H' o:=kX XZ P w H H' h h' a o x k ho ht (by induction o with|lst xs=>rw[bU4 x,dL z uJ its n r Wc]|tup xs=>rw[vT z its r ob e c x,dL z bR its r bR ob Wc c]|dK kvs=>rw[aAt z y vs r ob es ep e c x,aB cH z y bR vs r cSs ob]|dT kvs=>rw[fH kvs,aLH z y xs r ob es ep e c x,_,aB cH z y bR xs ME r QS p q cTA eBc cSs ob]|set S n=>rw[vT ob es ep t e c x,aB AN ob es ep t aT Wc c]|ins C dx fs=>rw[AS C dx fs,by(obtain⟨d,z,ne,e,mA,⟨od,es,ep,e2,c⟩,r⟩:=x),_,aB nP (ho _ d) z ne Wc bR mA aXf od lW k fF d e2 c r]|own y=>rw[cX ob e x,dL ob Wc]|xd fs=>rw[by(obtain(⟨mA,⟨od,es,ep,e,c⟩,r⟩):=x),lH mA cSs od r]|rng lo hi=>rw[jF t u v e x,aB kF t u v Wc]|ox ob u ih=>rw[cX e q x,dL Wc (ih q)]|tbl ps=>rw[fH ps,fES cTR]|met f y=>rw[pE f y,fES cS3 qO]|ext φ=>rw[by(obtain(⟨p,⟨o,e⟩,st⟩):=x),aB cH lW st p bG o q lW k xR q Wl Wc st])
theorem HOk.lt(x:RQ)(e:BL o):a<SM:=(eHF).lt
theorem HOk.fresh(x:RQ)(e:cPf):aCU:=bA Ej q (H a) u Nj bOK x.lt q e
theorem HOk.kept(x:RQ)(k:bR9):bHB h':=YM a o ((eHF).stay aEM b u q aSf k cHR aY4)
theorem HOk.laid(x:RQ)(k:bR9)(hp:cPf)(new:cYV aJZ o):HOk P w aJZ h':=MG u bL aJ hn (x.fresh hp) bQ hb (b=a) aD2 bB hb aF ah e kU aB new aRe hb aB ((x b u e).stay aEM c v q (k c v q) eEY dZf)
end
noncomputable def Mut:YV uZ HO|aO gW _=>Ps|aO (.dK _)=>Ps|aO uD _=>Ps|aO qR (.set)=>Ps|aO dSe=>Ps|aBV ext _=>Ps|_=>oJ
section
variable{P:aM}{w:aK}{H:Hp}{h h':aU}{x e:aA}{o':HO}
theorem HOk.write(ok:RQ)(mu:cUO)(he:cW2)(k:cSz bJP)(heo:cXG)(new:jk P w eBS h' x o'):HOk P w eBS h':=aB9 u bL bD b3c kQ c y aIc bA7 (c≠x) eNT y caw dNx (c≠x) eNT xs bQ hb (b=x) SJ bB hb aF ah q cF q aB new aF (aq hb) q bQ hbe (b=e) Yf aG q' JA EY x bK zI he jB BJ (hbe.trans z) hb aH hbe aB z aF q q' cF q' cX v hv heo dL v gG hbe hv aI ((aSf ok).stay kI c v hc r cIR r bG c r vH (b3c c b r) r fR c xs r vH (caw c xs r) r) eLk jK aB hbe aCS zI he jK aB (b3c c b hc z) aF hc z aOU aGl hb
end
section
variable{fs fs' ex ex':bM}{H H1 H2:Hp}{h h1 h2 h':aU}{a x e:aA}{o:HO}
theorem Un.any(u:cVf){b:aA}{ob:Obj}(q:MA bDP ob)(n:xB)(hx:bMb):∃sl,MA h1.get? uT ob bVK sl:=Ax bQ hb yC fs aB (u.slot b ob q n hb hx) dL dCI eOd hb hx
theorem Un.kept(k:bR9):aPA H h':=zM bTa ob cXY bTa ob aT dCI cXY (fun _ _ _ n _=>n) cTh ob aT ob cXY aY4 Je q q aAu ps q bKf aCs q
theorem Un.refl:aPA H h:=Un.kept aY4
theorem Un.laid(k:bR9)(hp:cPf)(hn:aCU):aPA aJZ h' where
 sF:=bTa u aSf k
 XF:=bTa u dPW aSf k
 OE:=eSV gG (aq (SW bOK dBc q hp)) n
 Px:=cTh u aT u aSf k
 aEK:=aB9 xs bLv
 ams:=BG u xs q bLv
 apx:=eEl (aq (ay q hn))
theorem Un.write(mu:cUO)(he:cW2)(k:cSz bJP)(heo:cXG):aPA cPW h':=fN bD hx cOR pY x fR b n z dMc aF n mu hb cOR pY e fR b n z bL bB z iA he r r jB aB (hx b n r) aF n r cF r aG hm xT b u aWS (¬Mut aHy) pY x oW b u q nm z Mw bB z aF q mu nm mu aI zM eSW dY2 eSW dPW dY2 eSV vH (hx b n) n cTh u ?_ aB9 xs dTC BG u xs q dTC eEl (aq dOd) bQ hbe (b=e) oS bB hbe aB heo dL u (k b u hbe q)
end
noncomputable def bmr(g h:aU)(L:aA):dM:=ePO sN (g.get? a)
noncomputable def rest(g h:aU)(L d:aA):dM:=(bmr g h L).filter bT p lT aOi d
end L2
namespace L2
open PySem PySem.Spec PyProof.Rows
structure Cx where
 eJ:aM
 w:aK
 K:aL
 mg:bF
 aW:aU
 A:cM
 N:iQ
 s_0:bC
 H_0:Hp
 env:Env
 lG:FN
 aFf:FN
 ex:bM
 fn:aJd Str
 calm:gE
 pn:dM
 xe:cU
noncomputable instance:rS Cx:=XC
noncomputable abbrev Cx.fs(X:Cx):bM:=frs aLI
noncomputable def Vis(sc:oX)(x:Str):aE:=cTa (bR2∨rT sc.names.lookup AC)
noncomputable def Loc(sc:oX)(x:Str):aE:=cTa bR2
noncomputable def Look(env:Env)(h:aU)(m:bF)(x:Str)(u:bU):aE:=aGj aVB env.kindOf rT m u dXL env.kindOf eY c rT env.cells.lookup c (h.IsCell c aHy)
structure Cx.Ok(X:Cx):aE where
 mod:eOs
 mK:bXC=Ui
 glob:dCJ=Ih
 blt:X.env.builtins=aSY
 above:aLJ≤IO
 inj:Dz x y c bHY aRK (x=y)
 has:As dXL X.env.kindOf (∃c,bHY)
 cab:xT x c cCg bHY (aLJ≤c)
 hd:KP→dRk
 frames:X.A.frames=aO OP
 stk:OP=aLI∨(OP=pR::aLI∧X.env.frame=aO IO)
 exf:∀b∈aFh,aWT∧aX1 b
 bs:bRc (uF X.s_0.heap.get?∧dR8)
 bsz:X.base.objs.size≤aLJ
 bhs:bRc (b∉aFh)
 bht:∀b∈aFh,bPa
 apy:X.s_0.heap.FunFrames TF aLI
 frf:∀b∈YA,dR8
structure Inv(X:Cx)(bH:dM)(σ:Gh)(H:Hp)(s:bC):aE where
 ok:X.Ok
 os:aKM=X.s_0.os
 Pz:aXn bDU
 aW:Un YA aFh X.H_0 H X.s_0.heap kO
 loc:eY m dYL aDG i x Str v V jW aD0 cPR bQW eY u CF (Look pR kO m x u)
 cell:bIB (∃v,dWf)
 OE:nZ IO
 acv:bIB aO1
 pin:∀p∈bLe,fAQ
 hok:eDE kO
 len:aTJ=X.N.length
section
variable{X:Cx}{bH:dM}{σ:Gh}{H H':Hp}{s:bC}{h':aU}
theorem Cx.Ok.cay(ok:X.Ok){b:aA}{o:Obj}(e:uF X.base.get?):bPa:=bT hb VG ((ok.apy.mem hb).1) e cF aP
theorem Inv.bs(I:dQ):bRc dXI:=wC aT (dCK b o dUa eAi (I.ok.cay e) dRI) (dCL b o dUa eAi dRI)
theorem Inv.bk(I:dQ):bRc QQ:=wC bKg aLL
theorem Inv.mod(I:dQ):eOs:=bE6
theorem Inv.kIn(I:dQ):X.K.In kO:=I.ok.mod.kin.keeps aAv
theorem Inv.nolimit(I:dQ):dCM:=I.ok.mod.nolimit.keeps aAv
theorem Inv.lt(I:dQ):IO<fJ:=Zo _ hn _ OQ hn.lt
theorem Inv.sz(I:dQ):aLJ≤fJ:=eBf aLM I.lt
theorem Inv.bta(I:dQ){a:aA}(h:cHc):a∉YA:=bT hb bK eLs eEE aPG ho I.sz h
theorem Inv.cne(I:dQ):aX1 IO:=eJh jX eVV (by obtain(⟨m,⟨o',es,ep,ho',hd',_⟩,_⟩):=OQ) dA z ho' ho cF ho aF hd' hd cF hd
theorem Inv.apy:∀{X:Cx}{bH:dM}{σ:Gh}{H:Hp}{s:bC}(I:dQ),cJV TF aLI:=wA sY X bH σ H s I aG all LO l FN cA kJ b (frs l) yC YA (X.s_0.heap.FunFrames TF l) (s.heap.FunFrames TF l) Fv l Vo l (by intro _ _) (by trivial) env r [AS env r ih,dD hs hl,by(obtain⟨hk,⟨L,o,hf,hn,ho,hd⟩,hr⟩:=hl),_,aG hL (L∈YA) (hs L gT aV frs aQ aE5 hf XN),eP sl e (dCN L o ho (I.ok.frf L hL) hL eBz L hL),aB cH hk yA L gY hf hn e hd (ih JX (hs b qS frs aQ aE5 hf cMd hb) hr)] aB (all aLI wO hb hb I.ok.apy)
theorem Inv.stack(I:dQ):cJV TF OP:=eQj aH e aB I.apy IP m hn OQ aI (.jR uE Jf jL hf hn ?_ I.apy) aB (Heap.get?_none_of_le dVg)
theorem Inv.a91(I:dQ):∀b∈bRq,yC (IO::YA):=JX eQj aF e hb cMd hb cV frs hb dA aE5 hf hb aB hb
theorem Inv.a1w(I:dQ):∀b∈bRq,xB:=JX bK VM uI I.a91 e hb fP aH e aB aAw eLs aB (I.base.free b o ho uI I.ok.frf eBz b hb)
theorem Inv.step{g':dQO}{t':Nat}{d':Drawn}{ch:bM}(I:dQ)(hch:∀b∈ch,cZV)(sF:eNx bPa aHC)(XF:eNx yC YA eIt)(OE:ZV aYS cA QQ xB aN6)(Px:aNA ch QQ eIu)(aEK:cYs)(ams:eXw)(apx:ePj)(ns:iJ m dYL (h'.Ns IO m))(hok:cSW)(hg:aXn g'):fCm:=kK bD neL ZV uF X.s_0.heap.get? aWT wC dQW SW aN1 aLM neC aF8 uF X.s_0.heap.get? (b∉aFh) aYS bL ED b o e hx hb zI aUX hch dE pH hx Nj aHb aN1 z aG cellK bIB iJ v dWf (h'.IsCell c v) cN (by rintro(x)c e v⟨o,ho,hd⟩) aG nch (c∉ch) eXi AT hc c YA oS cX sl q eYe XF aB rP q hd lH o eYe sF hd aIH OD I.ok I.os hg dND eXy MG xs (aEK b xs eCx) UM xs tJ ams xs dRF xs aXA ?_ ?_ cRg ?_ cRg aZp hok Qs aB (sF b o MR neL hb bRg cQn bUe) cSe cX sl' e2 (XF b _ MR neL hb bRg e1 bUe) dL sl' e2 fP cHp aB (OE b o' bRg e1 bUe) cHp aB (Px b o' bRg e1) bOL cX m1 e1 eCy cX m2 e2 (apx b _ e1) dL (m1++m2) eCT cYg aI bR m (ns m hn) bUE i x v cS u r l (hl i x v e1 e2 e3) aI jA u r eAL l c z Hz l aT k aDL e eVm _ fP cX v z cGR dL v eVm v (by obtain(⟨m,⟨o,_,_,ho,_⟩,_⟩):=OQ) aB (OE _ o bSx hch ho aAw) SC eVV aB (OE c o eXi ho cGS) cZ2 aG nch (p.1∉ch) lV ((hch p.1 z).2.2.2 p hp rfl) aB nP (sF p.1 p.2 ne nf nch e n) (OE p.1 p.2 nch e n) ne nf d
theorem Inv.un{t':Nat}(I:dQ)(u:bTH YA [] h')(hok:cSW):aVm aPf:=fBM aX bTb [] wO z aU2 eZm u.keep eZm u.slot cYK (u.free b o e n aX) Xg dTf aX bXz bXA bXB fDB hok
theorem Inv.call{g':dQO}{t':Nat}{d':Drawn}{ch:bM}(I:dQ)(u:bTH bRq ch h')(hok:cSW)(hg:aXn g')(hch:∀b∈ch,cZV):fCm:=fBM bSx hch (I.step (ch:=ch) hch (fun b o hL hb hc e n=>bIQ u.keep lV ((bEh dSA).elim hL hb) hc) (fun b o _ _ hc e n=>u.any e n hc) oW b o hc e n (u.free b o e n hc) UM hc dTf hc bXz bXA bXB fDB hok hg)
theorem Inv.turned{t':Nat}{it:aA}(I:dQ)(k:cSm it)(hn:nZ it)(hL:it≠IO)(h1:it∈aFh∨aLJ≤it)(h2:aX1 it)(h3:∀p∈bLe,aOi it):cLd:=bL aG nit bQz pY it bL vR b u e z dA z hn e kU aIG bTb [it] Wb bLF cOU bLF aYt cOU eAM UM hc Wl cOU AW e e Je e e dYP dMg cG1 aCP it bB e aB gY h1 hL h2 h3 cZL dXK KJ hL qB eKG zI hc cZo
theorem Inv.tok(I:dQ)(t:Nat):aAY aM4 t:=I.un (h':=s.heap) (t':=t) Un.refl TM
theorem Inv.kept{t':Nat}(I:dQ)(k:cC1 cNk):cLd:=I.un (Un.kept k) (I.hok.kept k)
theorem Inv.laid{a:aA}{o:HO}{t':Nat}(I:dQ)(k:cC1 cNk)(hp:cHc)(new:Uz aJZ h' a o):yS aJZ aPf:=I.un (Un.laid k hp (bE7 hp)) (I.hok.laid k hp new)
theorem Inv.write{x e:aA}{o:HO}{t':Nat}(I:dQ)(mu:cUO)(he:cW2)(k:cSz cNk)(heo:cXG)(new:jk pC X.w cPW h' x o):yS cPW aPf:=I.un (Un.write mu he k heo) (I.hok.write mu he k heo new)
theorem Inv.weak{σ':Gh}(I:dQ)(hl:σ'.length=aTJ)(w:∀(i:Nat)v,gH σ' VT→cPR):bIa σ' H s:=dJW Zo m hn hl' OQ bR m hn IF i x v e1 e2 e3 (hl' i x v e1 (w i v e2) e3) aTM (hl.trans Qs)
theorem Inv.bbg{v_:dM}(I:dQ)(h:∀p∈v_,fAQ):cWU v_:=cWz aCM ((List.mem_append.mp hp).elim lV (aTM p (List.mem_append_left _ z)) (h p))
theorem aoj{N:iQ}(hN:aTN){i j:Nat}{x:Str}(a:YS N)(b:cPq):i=j:=eXF
theorem az2{M:BC}{A:cM}{E:cU}{i:Nat}{x:Str}{v:V}{u:bU}{Q:aJr}(I:dQ)(hN:YB)(hi:aD0)(hx:bB1)(r:CF)(h:RA s' eN8 eY a cUD XG (a=IO∨rT X.env.cells.lookup a) (Q () s'))(hf:bCN:=by rw[bDo]):eGH:=fN cS m hn hl (id OQ) bD hcls ((bXC== .class||(bXC== .module&&IO !=dCJ))=bI) DE Jf hiσ (i<aTJ) gG Qs iO hi gO cne I.cne tracked ZN a aA h' aU Xs cPp aCU cUD h' eDE h' (fun{a h'}ha hs b ob e=>fN bW7 TN ha cIi ob w' pZ cK5 c q cHR aY4 aCS eLk fP aF TN e kU aF TN hc cF hc) iA hx hk hk bMh aI (wpAny_storeName_local hk hn pX h' hn' hs hcls) (by obtain(⟨oL,_,_,hoL,_⟩):=id hn) aPU (h _ fBW rP hn' bUE j y v' Mo y c oL hoL aAw rP hs xR) bOa cDH aLM cQn cSe dL sl bSB aLM fDa bSB aLM gB aOz hk bE8 q k e k c e z KO aI aNu k eV cM4 tO (hj (aoj hN e1 (e▸hi))) CI aP e nF aT k aDL e eFf fP cX w' z (Qr y c e) dL w' eFf cZ2 aB nP bHP (hs.2 p.1 ne) n ne nf d aG hfn cCg bK zI hf jB aB z aF z hk cF hk cX c hc (I.ok.has x gB hk) cX w' z (Qr x c hc) aI (wpAny_storeName_cell Jf hk hc z pX h' hc' hs) cS oc hoc caz (id z) aPU (h NG fBW bR m (hn.sameBut hs (bEm (cne x c hc))) bUE j y v' Mo y c' oc hoc (aTL x c hc) aDL hs fF hc) bOa cDH cX7 cQn cSe dL sl bSB cX7 fDa bSB cX7 KQ gB hk aDL hc hc' eAL q c' z' jK sQ q aI KQ k bR c' e (z'.sameBut hs ?_) aCS aB (hj (aoj hN e1 (Dq I.ok.inj e hc▸hi))) PF bQ hcc (c'=c) fP bB hcc aB gJ hc' cX w2 z2 (Qr y c' e) dL w2 (z2.sameBut hs hcc) [cZ2,aI nP bHP cK5 p.1 n ne nf d,bY q,dA q hoc e,aG q' (oc=p.2) bAc,aB (d w' DK q' caz)]
theorem awh{M:BC}{A:cM}{E:cU}{i:Nat}{x:Str}{v:V}{u:bU}{Q:aJr}(I:dQ)(hN:YB)(hi:aD0)(hx:bB1)(r:CF)(h:aPw eN8 ())(hf:bCN:=by rw[bDo]):eGH:=eXQ az2 Ci s' I' (h s' I')
theorem Inv.b3f{s':bC}{ch:bM}(I:dQ)(ho:bVP=aKM)(u:bTH bRq ch XG)(hok:HOk pC X.w H' XG)(hg:cPe)(hch:∀b∈ch,cZV):aON:=sR qM h' g' d' t' o' s' pO o' aKM ho bB e (I.call (g':=g') (t':=t') (d':=d') u hok hg hch)
end
noncomputable abbrev St:=Gh
noncomputable abbrev TE:=St→aA4
noncomputable abbrev TT:=bSm Xw
noncomputable abbrev TA:=bSm cF5
structure Ends where
 nx:QB
 rt:VK
 bk:QB:=Uj
 ct:QB:=Uj
noncomputable instance:rS yO:=XC
noncomputable abbrev TS:=yO→QB
noncomputable def EP(X:Cx)(bH:dM)(σ:St)(Q:VK)(u:bU)(s':bC):aE:=bUx v CF
noncomputable def TP(X:Cx)(bH:dM)(σ:St)(Q:Xw)(b:gE)(s':bC):aE:=eY H' aON UF b
noncomputable def AP(X:Cx)(bH:dM)(σ:St)(Q:cF5)(us:eQ)(s':bC):aE:=bUx vs aD4
noncomputable def SP(X:Cx)(bH:dM)(D:yO)(f:Flow)(s':bC):aE:=aLt f (.aEV) cQF aFj (.brk) cQF D.bk (.Zp) cQF D.ct aBj u (∃v σ' H',dZ cBR CF (D.rt v H'))
noncomputable def PE(X:Cx)(e:bZ)(t:TE):aE:=bCD VK Uo Sn
noncomputable def PT(X:Cx)(e:bZ)(t:TT):aE:=bCD Xw eH4 Sn
noncomputable def PW(X:Cx)(e:bZ)(t:TT):aE:=bLM aLb aOK Q Xw aNd cBQ eH4 aLb
theorem PW.pt{X:Cx}{e:bZ}{t:TT}(h:PW X e t):dWt:=h _
noncomputable def PA(X:Cx)(es:mD)(t:TA):aE:=eWo (spliced cBl)
noncomputable def PS(X:Cx)(st:cC)(t:TS):aE:=eUJ exec
noncomputable def PSs(X:Cx)(st:aDJ)(t:TS):aE:=eUJ execs
theorem j7{α:cJ}{t:bPR}{Q Q':cK3}{M:BC}{A:cM}{E:cU}{s:bC}(h:aIm t Q)(hQ:ePP):eFe:=aZt h hQ
end L2
namespace L2
open PySem PySem.Spec PyProof.Rows
section
variable{X:Cx}
inductive bqu(i:Nat)(σ:cO)(H:Hp)(Q:VK):aE|mk v(_:cPR)(_:vD v):Ou bqu i
noncomputable def ajn(i:Nat):TE:=Ry Ou bqu i
noncomputable def tC(v:V):TE:=aKn vD v
theorem btc{i:Nat}{x:Str}{pos:Pos}(hN:aD0)(hv:bQW)(hd:autoParam (FQ) EE.autd._auto_1)(hcd:autoParam (dSn) EE.autd._auto_1):eNK:=kK oR Q h cS v e h h cYg cS u r l (hl i x v hN e hv) aG fin aPE u s bMX v r fAo jB aB (wpAny_Name (wpAny_loadName_local Jf hk hn hm fin) hd) iA hk hk hk dE aB (wpAny_Name (wpAny_loadName_cell Jf hk hc aTO fin) hd) aB (wpAny_Name (wpAny_loadName_free Jf hk hc aTO fin hcd) hd)
theorem aw{i j pos}:bRB zF zF:=eIs wpAny_Constant_int zF
theorem agp{b j pos}:bRB aJM Hh:=aZC (Constant_bool aGZ Hh h)
theorem gf{j pos}:bRB uH iE:=aZC (Constant_none aGZ iE h)
theorem bhu{x j pos}:bRB KR KR:=eIs Calls.Constant_str KR
noncomputable def Gl(X:Cx)(x:Str):aE:=rT X.env.kindOf (.globalImplicit)
theorem auj{E:cU}{bH:dM}{s:bC}{σ:St}{H:Hp}{x:Str}{u:bU}{pos:Pos}{Q:cU}(I:dQ)(hg:LJ)(hm:aJA u)(h:Q u s)(hd:autoParam (FQ) EE.autd._auto_1):dUL:=eSC (Calls.loadGlobal_global eJs hm h)
theorem zj{E:cU}{bH:dM}{s:bC}{σ:St}{H:Hp}{x:Str}{u:bU}{pos:Pos}{Q:cU}(I:dQ)(hg:LJ)(hm:aRy)(hv:bKs u)(h:Q u s)(hn:autoParam (aIT) EE.autd._auto_1)(hd:autoParam (FQ) EE.autd._auto_1):dUL:=dB Sr mb I.mod.blt eSC (Calls.loadGlobal_builtin eJs hm DR dCP h1.keeps aAv pZ (h2 x hn) hv h)
theorem bbh{x:Str}{v:V}{u:bU}{pos:Pos}(hg:LJ)(hm:aJA u)(r:CF)(hd:autoParam (FQ) EE.autd._auto_1):cPt v:=aZC (auj I hg hm bMX v r hd)
variable{a b:bZ}{ta tb:TE}{pos:Pos}
noncomputable def PC(X:Cx)(op:Qu)(a b:bZ)(t:TE):aE:=bCD VK dPa aHG (dCQ op v u) bMn s₂
inductive tB_(Q:Xw)(x:V)(H1:Hp):aE|mk c(_:x=pI c)(_:RV c):aEj tB_
noncomputable def tB(t:TE):TT:=JD t x aEj tB_
theorem btd{op:Qu}{t:TE}(h:eVa)(h1:aSw:=by rw[eXd]):pJ bU7 t:=aCA Q hw (wpAny_Compare1 dNo h1)
theorem abd{op:Qu}{t:TE}(h:eVa)(h1:aSw:=by rw[eXd]):PT X bU7 (tB t):=eWg aI (wpAny_isTrue_Compare1 (j7 cT5 eIU (j7 h1 fR u s2 h2 (j7 h2 aAx c s3 x H1 I1 r1 q1 ?_))) h1)
theorem i8{e:bZ}{t:TE}(h:cNg)(he:∀aLb,isTrue e pR aLb=(do let v←whole;standAt e.pos;holding [v] (truthy v)):=by rw[bVz]):PT X e (tB t):=eWg aI (isTrue_plain cA3 cT5 v x (he _))
variable{tA tB':TT}{jM:mD}
noncomputable def ca0(t u:TT):TT:=cSj bK3 u RV bI
noncomputable def tOr(t u:TT):TT:=cSj RV aY bK3 u
noncomputable def ca1(t:TT):TT:=JD t c dSG
theorem aev(ha:bCF):aSI And xZ tA:=eUU isTrue_and aIp c GG isTrue_and_nil aB e
theorem ad8(ha:bCF):aSI Or xZ tA:=eUU isTrue_or bTI c GG isTrue_or_nil aB e
theorem aks(ha:bCF)(hb:aSI And bPT tB'):aSI And bT1 (ca0 tA tB'):=eVL isTrue_and fBC lH H1 I1 q1
theorem ai3(ha:bCF)(hb:aSI Or bPT tB'):aSI Or bT1 (tOr tA tB'):=eVL isTrue_or lH H1 I1 q1 fBC
theorem tm(ha:bCF):PT X Kg bXH (.Not) a (ca1 tA):=bOA isTrue_not aV7 ha aFT c dSG I h
inductive bhv(tb:TE)(σ:cO)(Q:VK)(x:V)(H1:Hp):aE|mk c(_:x=pI c)(_:nN c cQm RV aCE):bRp bhv
noncomputable def b3h(ta tb:TE):TE:=OA bRp bhv
inductive bqv(tb:TE)(σ:cO)(Q:VK)(x:V)(H1:Hp):aE|mk c(_:x=pI c)(_:nN c RV Lb cQm):bRp bqv
noncomputable def ca2(ta tb:TE):TE:=OA bRp bqv
theorem am7{op}{t:TE}(h:pJ a t):Ev bXG op xZ t:=eFT BoolOp_one
theorem am8:∀{X:Cx}{a:bZ}{b:bZ}{ta:TE}{tb:TE}{pos:Pos}{jM:mD}(ha:HV)(hb:bSH And bPT tb),bSH And bT1 (b3h ta tb):=fDJ BoolOp_and aIp c aZL hb Q aB Fh aCE H1 I1 q1
theorem b3i:∀{X:Cx}{a:bZ}{b:bZ}{ta:TE}{tb:TE}{pos:Pos}{jM:mD}(ha:HV)(hb:bSH Or bPT tb),bSH Or bT1 (ca2 ta tb):=fDJ BoolOp_or bTI c aZL hb Q aB Fh Lb H1 I1 q1
noncomputable def tIf(t:TT)(ta tb:TE):TE:=cSj bK3 ta cQm
theorem agq{c:bZ}(hc:PT X c tA)(ha:HV)(hb:Yw):pJ UN IfExp c a b (tIf tA ta tb):=eQV oR Q h wpAny_IfExp Q aZL hb Q
end
end L2
namespace L2
open PySem PySem.Spec PyProof.Rows
noncomputable def ca3:aH3 bJ|uH=>aO iE|aJM=>aO Hh|cPU=>aO zF| .str x _=>aO KR| .bytes b _=>aBV byt b| .float b _=>aBV flt b|jT=>rY|zW n=>aBV ty n|_=>aS
theorem RelV.abs{x:V}{u:bU}(r:Ah):ca3 u=aO x:=bA (by cases x with|fu=>rw[aKH]|bl _=>rw[aKH]|int _=>rw[bVA]|str _=>rw[bVA]|byt _=>rw[bVA]|flt _=>rw[bVA]|ref _=>rw[aKH]|ty _=>rw[aKH])
theorem RelV.inj{x y:V}{u:bU}(r:Ah)(q:BZ):x=y:=cKr r.abs.symm.trans q.abs
theorem Vals.inj:∀{xs ys:aN}{us:eQ},cA RH UR ys bMv|_,_,_,eF,eF=>rfl|_,_,_,Yp,.jR r' t'=>vJ (r.inj r') (Vals.inj t t')
section
variable{X:Cx}{bH:dM}{σ:St}{H:Hp}{s:bC}{a:aA}{xs ys:aN}
theorem bi.of{K:aL}(h:aBe xs):DQ:=cKA
theorem ly.of{K:aL}(h:BL MJ):SE:=cKA
theorem Inv.list(I:dQ)(h:dYI):eVn (PlainL kO a uS):=fBl (by rcases h with h|⟨o,its,n,hk,hc,hd,hs,hz,r⟩) bU4 (h.ok TM) jO _ n QZ e rfl rfl Us o n eNO hc hd cLB
theorem Inv.tuple(I:dQ)(h:cPs xs):eVn dYn kO:=fBl bFd h h o its n hk hc hs hz r jF z its r p (h.ok TM) p Mt o eNO hc aT n cLB
theorem Inv.agr(I:dQ)(h:dYI)(h':Tn bi a ys):bMv:=qF (by obtain(⟨its,r,⟨o,n,e,_,_,d⟩,_⟩):=aLO h) (by obtain(⟨aTQ,r',⟨o',n',e',_,_,d'⟩,_⟩):=aH2 h') aF e e' cF e' aF d d' aEI d' d1 _ eV (its=aTQ) eCd d1 bB aP aB (r.inj r')
end
noncomputable abbrev Cx.ata(X:Cx)(E:cU):Cx:=uT X xe E
noncomputable abbrev Cx.nox(X:Cx):Cx:=X.ata Uj
theorem Cx.Ok.ata{X:Cx}(ok:X.Ok)(E:cU):dP3:=⟨ok.mod,aLP,dCS,ok.blt,dCT,ok.inj,ok.has,ok.cab,ok.hd,dCU,ok.stk,ok.exf,ok.bs,ok.bsz,ok.bhs,ok.bht,ok.apy,ok.frf⟩
theorem Cx.Ok.af'{X:Cx}{E:cU}(ok:dP3):X.Ok:=⟨ok.mod,aLP,dCS,ok.blt,dCT,ok.inj,ok.has,ok.cab,ok.hd,dCU,ok.stk,ok.exf,ok.bs,ok.bsz,ok.bhs,ok.bht,ok.apy,ok.frf⟩
section
variable{X:Cx}{bH:dM}{σ:St}{H:Hp}{s:bC}{E:cU}
theorem Inv.ata(I:dQ)(E:cU):eUV:=eZW (I.ok.ata E)
theorem Inv.af'(I:eUV):dQ:=eZW I.ok.af'
theorem SP.af'{D:yO}{f:Flow}{s':bC}(h:SP cEi bH D f s'):eNP f:=bA cZq cXw cWx brk Zp cXw cWx u vT v σ' H' I r q h aB kF v σ' H' bBc I.af'
theorem PSs.nox{st:aDJ}{t:TS}(h:PSs X.nox st t):PSs X st t:=aCA D hw dOq D AW q q.af'
end
section
variable{X:Cx}{st:cC}{jM:aDJ}{t u:TS}{e:bZ}{te:TE}{pos:Pos}
noncomputable def b3j:TS:=Lq aVf
noncomputable def ca4(t u:TS):TS:=Lq (t eLa σ H)
theorem br:PSs X [] b3j:=fun _ _ σ H _ I h=>wpAny_execs_nil dX4
theorem ai(h1:cR4)(h2:PSs X jM u):PSs X (st::jM) (ca4 t u):=fDm eLa [jF σ' H' I' q q,aB (h2 bH s1 σ' H' D I' q)]
theorem am(h1:cR4):PSs X [st] t:=fDm D cKh q
theorem Inv.quiet{bH:dM}{σ:St}{H:Hp}{s:bC}(I:dQ):interactive pR=bI:=HB interactive Jf
noncomputable def b3k(te:TE):TS:=Lq aA2 te wO H1 Dy H1
theorem cq(he:Xb)(hs:autoParam (cC7 e aS bFe bI) EE.autr._auto_1):eJj bZ e b3k:=dB oR D h (wpAny_Expr_any dZN uJ σ H1 I1 q1 I.quiet hs)
noncomputable def ca6(te:TE):TS:=Lq aA2 te D.rt
theorem a_(he:Xb):eJj Return aO e ca6:=iV oR D h wpAny_Return_some dZN kF x σ H1 cH I1 r1 q1
noncomputable def ca7(c:TT)(t u:TS):TS:=Vw c b nN b (t D σ H1) (u D σ H1)
theorem cr{c:bZ}{a b:aDJ}{tc:TT}(hc:eFk)(ha:PSs X a t)(hb:PSs X b u):PS X UN If c a b (ca7 tc t u):=eQV oR D h wpAny_If D aZL hb D
end
noncomputable abbrev TG:=cA V St aF0 QB
noncomputable abbrev TGs:=cA aN St aF0 QB
noncomputable def PG(X:Cx)(aFl:bZ)(t:TG):aE:=bNS v V u bU QB CF Ou t v dYm (assign aFl pR u)
noncomputable def PGs(X:Cx)(ts:mD)(t:TGs):aE:=bNS vs aN us eQ QB aD4 Ou t vs dYm (assignInOrder NA dRA ts us)
noncomputable abbrev TIp:=Hw
noncomputable def PIp(X:Cx)(op:bFf)(t:TIp):aE:=eSj QU t (inplaceOp op v u)
section
variable{X:Cx}{pos:Pos}
noncomputable def a53(i:Nat):TG:=aI8 v vD cHy
theorem be{i:Nat}{x:Str}(hN:YB)(hi:aD0)(hx:bB1)(hf:bCN:=by rw[bDo]):PG X bJf (a53 i):=iV aMX v u r h wpAny_assign_Name eXQ awh bG s' I' aA6 _ aT I' h
noncomputable def ca_:TGs:=aI8 vs (bOn∧vD σ)
inductive bhx(t:TG)(u:TGs)(vs:aN)(σ:cO)(H:Hp)(Q:MD cO):aE|mk v r(_:vs=v::r)(_:t v σ H bG σ' H' (u r σ' H' Q)):eWj
noncomputable def b3m(t:TG)(u:TGs):TGs:=aI8 vs eWj
theorem jn:PGs X [] ca_:=aO3 bMy cX e h h bB e cF r assignInOrder_nil dX4
theorem cj{e:bZ}{es:mD}{t:TG}{u:TGs}(h1:PG X e t)(h2:PGs X es u)(hs:autoParam (Ft dRA UU xP (assign e pR::NA cEu)) EE.autr._auto_1):PGs X UU (b3m t u):=cN bMy jF v vr e1 h h bB e1 bJQ r [aH hs,aI (assignInOrder_cons JF (h1 bH s σ H _ _ _ I r h)),by rintro(_)(s1)(⟨σ1,H1,I1,q1⟩),aB (h2 bH s1 σ1 H1 _ _ Q I1 rr q1)]
inductive bqw(K:aL)(n:Nat)(t:TGs)(v:V)(σ:cO)(H:Hp)(Q:MD cO):aE|mk a xs(_:v=jT)(_:SE)(_:dF=n)(_:Ou t xs):fAY
noncomputable def b3n(K:aL)(n:Nat)(t:TGs):TG:=aI8 v fAY
theorem qm{es:mD}{k:Nat}{t:TGs}{n:Nat}(hc:KP)(h:eDl)(hn:autoParam (eDr) EE.autr._auto_1)(hst:autoParam (eBn) EE.autr._auto_1):eUu (b3n X.K n t):=vM aMX v u r hw vT a xs e1 hq hl hw hw bB e1 cF r aNo ht aFm aI (assign_Tuple_tuple NH ht bA (by simp[hn,←hl,bXJ]) hst mR h' hx) aQm NG bXK I.kept wC JJ hx bCX aB (h bH _ σ H xs _ Q I1 lX rv hw)
noncomputable def b3o(te:TE)(g:TG):TS:=Vw te x (g x σ H1 aFj)
theorem bb{i:Nat}{x:Str}{e:bZ}{te:TE}{TQ:Pos}(hN:YB)(hi:aD0)(hx:bB1)(he:Xb)(hs:autoParam (cIG e cOr) EE.autr._auto_1)(hf:bCN:=by rw[bDo]):bUF cOr e eDt te:=gT oR D h aR8 wpAny_Assign_Name he aSk v y r1 ?_ hs (awh I1 hN hi hx r1 bG s2 I2 uJ _ H1 I2 q1 hf)
inductive bqy(i:Nat)(te:TE)(ti:TIp)(D:yO)(σ:cO)(H:Hp):aE|mk x(_:dUi)(_:Jy te y (ti x y H1 bG z H2 (aFj (σ.set i aO z) H2))):eZ6
noncomputable def ca'(i:Nat)(te:TE)(ti:TIp):TS:=Lq eZ6
theorem aqc:∀{X:Cx}{pos:Pos}{i:Nat}{x:Str}{e:bZ}{te:TE}{op:bFf}{ti:TIp}{TQ:Pos}(hN:YB)(hi:aD0)(hx:bB1)(he:Xb)(ho:PIp X op ti)(hf:bCN:=by rw[bDo]),PS X UN AugAssign cOr op e (ca' i te ti):=Gf (by intro X pos i x e te op ti TQ hN hi hx he ho hf) _ KE D _ dG v e1 h h dG m hn hl OQ aG vis bQW bL iA hx k k sQ k nF aPJ dG u r l (hl i x v hi e1 vis) rG wpAny_AugAssign_Name aG go ZA Sn bG w s₂ aHG eDN w Nk s₃ aHG dMj r eZ (SP X bH D .aEV) s₃ s₂ jX aI VA he aCn w y H1 r1 dJ JF (ho bH s1 σ H1 v y u w _ I1 r r1 q1) bUV z zv r2 _ aB (awh I2 hN hi hx r2 cET uJ _ H2 I3 q2 hf) fAo Bj Qh hk hm _ aB (wpAny_loadName_local Jf hk hn hm go) (by delta hk c hc aTO) _ iA hk hk hk jB aB (wpAny_loadName_cell Jf hk hc aTO go) iA hx k k wH eLm aF k aP cF aP eLm aF k aP cF aP
inductive b3p(f:cO0)(x:V)(y:V)(H:Hp)(Q:VK):aE|mk i j(_:aDV)(_:aRr)(_:Mj (f i j)):bTW b3p f
noncomputable def ipI(f:cO0):TIp:=VD bTW b3p f
theorem awi:eMV (.Add) (i+j):=fCR iadd_int
theorem btf:eMV (.Sub) (i-j):=fCR isub_int
end
section
variable{X:Cx}{pos:Pos}
noncomputable def btg(c:TT)(tb:TS):TS:=Lq cAo aDY (W m σ H) (∀m σ H,W m σ H→Jy c b nN b GK N QB dGy bHy m (W m' σ' H') (tb dF7 N σ H1) Dy H1)
theorem wa:∀{X:Cx}{pos:Pos}{c:bZ}{sV:aDJ}{tc:TT}{tb:TS}(hp:eU7)(hc:eFk)(hb:eF8),PS X UN While c sV [] (btg tc tb):=Gf yK X pos c sV tc tb hp hc hb _ KE D _ (by obtain⟨W,⟨m0,w0⟩,IQ⟩:=h) _ aI (wpAny_While (codeAny_whileLoop cO1 cDD (W n σ' H') ?_ m0 dKJ aT I w0)) (by rintro n s1⟨σ1,H1,I1,w1⟩) dJ eTc (hc bH s1 σ1 H1 _ I1 (IQ n σ1 H1 w1)) (by rintro b s2⟨H2,I2,q2⟩) _ aLl b aY [dG N hN q2 q2,qX rfl,bND (hb bH s2 σ1 H2 _ I2 q2),lJ f s3 q3,cEW f fFh Zp brk aB q3 v aB q3] bI [jJ aFn,cKh uJ σ1 H2 I2 q2]
end
structure It where
 go:bOG
 yld:aGI Hp aYF
 TU:bOG
noncomputable instance:rS It:=XC
noncomputable def aaj(X:Cx)(bH:dM)(H:Hp)(b:aA):aE:=eX xB aWT bPa dJl FS aX1 b p bLe aOi b
theorem Inv.aqd{X:Cx}{bH:dM}{σ:St}{H H':Hp}{s:bC}{b:aA}(I:dQ)(hb:fJ≤b)(hn:aN6):cSa:=bA Gp yB hn dQW aLh I.lt hb (I.bta hb) fF US I.sz hb eJh ?_ pX p hp z cX v q cGR Nj aHb q.lt eB0 Nj bOK dBc ((cEA).1) eB0
structure Turn(P:aM)(w:aK)(K:aL)(tg:bZ)(J:It)(fp:bM)(it:aA)(tn:bRV):aE where
 mem:it∈fp
 obj:∀i h,zQ aCV h b fp Xs Wu cRv
 sF:Dz i h h' aCV h bIw iJ o Wu aHC aCV h'
 OR:fAH cEf Nk s1 eY u aJk u YI LY P w X.A ePH wO s2 QG x H' aVm s2 Ah bI6 FS (tn eG bXL) b fp aN6 E s1
 pS:fAH (J.stop i H) Nk s1 (r=aS∧aAY s1)
 AY:∀(A:cM)(i:Nat)(s:bC)(Q:cU)(E:cU),cA aCV kO (Q NF s) aPW (pyIter NF)
noncomputable abbrev TI:=bSm CD
noncomputable def PIE(X:Cx)(bH:dM)(σ:St)(tg:bZ)(R:CD)(itv:bU)(s2:bC):aE:=∃(it:aA)(fp:bM)(tn:bRV)(J:It)(H':Hp),itv=NF∧eX aVm s2 eWF fp it (tn 0 bXL) bIw cSa (R J H')
noncomputable def PI(X:Cx)(tg TV:bZ)(wi:TI):aE:=bIS R CD aA2 wi R ZA Sw TV ML s1 aHG (pyIter v) eL7 s1
theorem az3:∀{M:BC}{A:cM}{E:cU}{s:bC}{tg:bZ}{it:aA}{u:bU}{o:Obj}{n:uR}{vs:qA}{Q:aJr}(ho:GS it o)(hc:aEL=zW n)(hd:Bw= .Zh vs)(hn:dQ2 n)(hQ:Q () s),aIm ePH Q:=wA (by intro M A E s tg it u o n vs Q ho hc hd hn hQ) aV dCW oT sE tg rD NS hQ qN oT sE u rD NS hQ (by (rw[Nr wpAny_load ho,aQ hc hd,bW UH M A aOb ([OG,Zj,"dict_itemiterator","dict_reverseitemiterator","odict_iterator","itertools.zip_longest","itertools.pairwise"].contains n&&vs[0]?==aO (aTR _)) Q E,jJ bL pQ h dA hn bXM h tT,NS hQ]))
noncomputable def Itl(K:aL)(a:aA):It:=eVh DQ bSd
noncomputable def Itr(lo:Int)(n:Nat):It:=eWy bOg i
theorem bd7{P:aM}{w:aK}{K:aL}{tg:bZ}(a it:aA):aZH WY cSE where
 mem:=aX
 obj:=eJ5 eII
 sF:=aDw Md st.at e aPh o e
 OR:=KW HN DW cZB aKu aSC WJ eSL wpAny_pyNext_list_item st aQm NG aNr aKb bC1 o c d eWd st'
 pS:=kK HN DW cYI aKu WJ aRM aB (wpAny_pyNext_list_end NH st Qv bP1 aZx cE6)
 AY:=eLt wpAny_pyIter_listiter
theorem a92{P:aM}{w:aK}{K:aL}{tg:bZ}(it:aA)(lo:Int)(n:Nat):aZH bTF (IsRangeIter h it (lo+aVd*1) (GY-aVd) 1)where
 mem:=aX
 obj:=cFm gT aCP it bB e kM _ st ML z bK aG z' (Data.fields _=Data.cell v) z cF z'
 sF:=aDw aPh _ st
 OR:=vM HN DW WJ aJ W (Walks.range (prog:=X.prog) (w:=X.w) NH it lo 1 n) fBR zZ t hv dR I1 aAY aEd fAB sS (az3 (s:=aEd) (n:="range_iterator") st' rfl rfl iB cDq bOg i eO t NJ st') aH Int.mul_one
 pS:=sR HN DW WJ cYB wpAny_pyNext_range_end Tm eV aDh hg
 AY:=eLt wpAny_pyIter_rangeiter
end L2
namespace L2
open PySem PySem.Spec PyProof.Rows
section
variable{X:Cx}{tg:bZ}
inductive bhy(K:aL)(R:CD)(x:V)(H1:Hp):aE|mk a(_:rN)(_:(∃xs,aEv))(_:bC9 Itl):dWD
noncomputable def bqz(K:aL)(tl:TE):TI:=aVj tl x dWD
theorem dm:∀{X:Cx}{tg:bZ}{l:bZ}{tl:TE}(hl:pJ l tl),aOo l (bqz X.K tl):=Ze iC X tg l tl hl KE R dJ VA hl cHG _ (by obtain⟨a,e,⟨xs,hq⟩,q⟩:=q1) _ bB e cF r1 SU its rv p hz (I1.list hq) dJ (wpAny_pyIter_list Qv ?_) aI cFu pT [pT] aYw aRh (bd7 a _) aIW Wb aCP pT bB e bJK lB aYZ
theorem a54:∀{X:Cx}{tg:bZ}{bH:dM}{σ:St}{H:Hp}{s:bC}{R:CD}{E:cU}{lo hi:Int}{t u v:Tok}{tk:Nat}(I:dQ)(h1: -BY≤lo)(h2:lo<BY)(h3: -BY≤hi)(h4:hi<BY)(q:R (Itr lo cHT) H),bHK X.A (pyIter HA) eL7 E dVi:=vG (by intro X tg bH σ H s R E lo hi t u v tk I h1 h2 h3 h4 q) aI (wpAny_pyIter_range (IsRange.new ..) (small_one h1 h2 h3 h4) ?_) aQm dVi (I.kept aRh) Bi OD cJ3 [cJ3] _ _ H rfl (I1.kept (t':=tk) aRh) (a92 _ lo cHT) ?_ Wb q HJ e1 (lo+aXs*1) lo aX e2 eHm (dCY lo hi 1) uE rangeSize_one oT oY mG bW (IsRangeIter _ _ (lo+aXs*1) eHm 1) aR3 cRY aCP cJ3 bB e bJK lB aYZ
inductive bhz(R:CD)(vs:aN)(H1:Hp):aE|mk(j:Int)(_:IV gR j)(_:cQI)(_:j<BY)(_:R (Itr 0 j.toNat) H1):aR6 bhz
noncomputable def b3q(ta:TA):TI:=bJy aR6 bhz
inductive bh0(R:CD)(vs:aN)(H1:Hp):aE|mk(i j:Int)(_:vs=[zF,gR j])(_:(jU wD (-BY) (i<BY) cQI (j<BY)))(_:aCw (Itr i LT (j-i))):aR6 bh0
noncomputable def b3r(ta:TA):TI:=bJy aR6 bh0
theorem az4:∀{X:Cx}{tg:bZ}{a:bZ}{ta:TA}{p pos:Pos}(hg:bP9)(hm:bPI)(ha:cOZ)(hs:autoParam (aEz) EE.autr._auto_1),eIf xZ b3q:=qF yN X tg a ta p pos hg hm ha hs _ KE R _ bC6 bXO EF j e q1 q2 q q1 _ bB e dUH pE r rr cF rr eP t rfl r aB (call_range_1 (a54 I1 iP iP q1 q2 lX q))
theorem bd8:∀{X:Cx}{tg:bZ}{a b:bZ}{ta:TA}{p pos:Pos}(hg:bP9)(hm:bPI)(ha:bIM Gz)(hs:autoParam (Sm Gz [(bI,bH0),(bI,cDp)]) EE.autr._auto_1)(hs2:autoParam (eD7) EE.autr._auto_1),eIf Gz b3r:=qF XZ X tg a b ta p pos hg hm ha hs hs2 _ KE R _ cCx bXO (bXP cCC vJ hs hs2 DE hs2) (by obtain⟨i,j,e,⟨q1,q2,q3,q4⟩,q⟩:=q1) _ bB e bJQ r1 [pE r rr,XM rr jR r' rr [pE r' rr,cF rr,aVk t r t' r',aB (call_range_2 (a54 I1 q1 q2 q3 q4 q))]]
noncomputable def b3s(wi:TI)(g:TG)(tb:TS):TS:=Vw wi J cBZ (W 0 m σ H1) eZ4
noncomputable def awj(fp:bM)(h:aU):dM:=fp.filterMap bT b aDg dQZ o b o
theorem am9{fp:bM}{h:aU}{b:aA}{o:Obj}(hb:yC fp)(e:Wu):(b,o)∈eCF:=List.mem_filterMap.mpr bR b hb aRo
theorem bd9:∀{fp:bM}{h:aU}{p:dSq}(hp:p∈eCF),p.1∈fp∧aIw p.1 p.2:=wA jG fp h p hp dG b hb e (List.mem_filterMap.mp hp) DL q dQZ aF q e kU o [fH o,aF q e,NN e' (b,o) p bAc,dL hb q]
theorem Inv.pinned{bH:dM}{σ:St}{H:Hp}{s:bC}{fp:bM}(I:dQ)(hf:∀b∈fp,aZh)(ho:∀b∈fp,Xs QQ cRv):cWU (bH++awj fp kO):=eHL ((List.mem_append.mp hp).elim lV eGW z<|kK bY z cX hb e (bd9 z) YC f0 f1 f2 (hf p.1 hb) cS o e' d (ho p.1 hb) aF e e' cF e' aB nP e f0 f1 f2 d)
theorem Inv.aok{bH pl:dM}{σ:St}{H:Hp}{s:bC}(I:cWU (bH++pl)):dQ:=eHL (aTM p cNC List.mem_append_left hp)
theorem fc{TV:bZ}{sV:aDJ}{wi:TI}{g:TG}{tb:TS}{pos:Pos}(hp:eU7)(hc:KP)(hi:bTN)(hg:PG X tg g)(hb:eF8)(hs:bVf:=by rw[bVz]):PS X (.For tg TV sV [] pos) (b3s wi g tb):=vM oR D h aR8 wpAny_For hi eIU ePX h1 hs (by obtain(⟨it,fp,tn,J,H2,e,I2,T,st2,f2,W,⟨m0,w0⟩,IQ⟩):=h2) bB e dR a93 (∀{H':Hp},dZq cSa) fR hn b hb aT uI hn dUY (codeAny_forLoop_any cO1 eXL cBR aCV XG n ?_ m0 kF 0 σ H2 gY I2 st2 JX aUX f2 w0) bFh n s3 i σ3 H3 I3 st3 fr3 w3 bE8 (IQ i n σ3 H3 w3) TU qn go N hN zS aA7 fCS T.done TU eAO s4 I4 bB hr cKh uJ σ3 H3 I4 qn [fCS T.item go,fE5 s4 h4,bND h4,by rintro(_)(s5)(⟨x,H5,I5,r5,y5,st5,fr5⟩),yG I5' (I5.pinned (a93 fr5) cB T.obj st5) eTc (hg _ s5 σ3 H5 x u _ I5' r5 (step x H5 y5)),by rintro(_)(s6)(⟨σ6,H6,I6,q6⟩),bND (hb _ s6 σ6 H6 _ I6 q6),iX f s7 q7,aG aLR ZN σ7 St H7 Hp (Inv X (bH++awj fp s5.heap) σ7 H7 s7) (N σ7 H7) bUA eXL bIa σ' H' s7 aCV dCZ m (fun{σ7 H7}I7 n7=>sR cS m' hm w7 (hN σ7 H7 n7) aI bR m' hm kF eG σ7 H7 gY bXQ cGh st5 cWW ((dZR).1) Wb w7 cS o e d cW1 st5 vY dZR),cZq cYJ n7 eLP Zp brk cYJ q7 aB uJ σ7 H7 bXQ q7 v vT x7 σ7 H7 I7 r7 q7 q7 aB kF x7 σ7 H7 cH bXQ r7 q7]
end
theorem jo:∀{K:aL}{a:aA}{xs:aN}{g:TG}{tb:TS}{D:yO}{σ:St}{H:Hp}(Pv:aDY)(h0:aJL)(hl:cRo)(hs:∀i x σ H,cA VI aNa eHD x)(hd:bCp),aSQ WY:=jX (by intro K a xs g tb D σ H Pv h0 hl hs hd) dJ jA dOC dF aO9 cXf dF fAp gQ q cCB hl hi bQ hlt (i<dF) Yf aI KQ bJw q fW hlt jA aM0 cZi (dF-eG) iP lJ x H' y eP e y y bB e aB (hs i x σ _ (y xs q) p) pO i dF iP bB e sQ aT bJV q eBX
theorem aqe{lo:Int}{n:Nat}{g:TG}{tb:TS}{D:yO}{σ:St}{H:Hp}(Pv:aDY)(h0:aJL)(hs:aYk QN eHD bOg i)(hd:dT6):aSQ bTF:=cN aI jA eKH cXf n (by rintro(i)m σ H⟨rfl,hi,p⟩) cRJ SJ aI KQ hlt bR aM0 cZi (n-eG) iP pX x H' y cX e y y LP e y aB (hs i σ _ hlt p) pO i n iP bB e sQ aT lB eBX
end L2
namespace L2
open PySem PySem.Spec PyProof.Rows
noncomputable abbrev R2:=Hw
noncomputable def OpR(X:Cx)(f:bSQ)(r:R2):aE:=eSj QU r cE8
noncomputable def UnR(X:Cx)(f:aH3 aOK)(r:bPK):aE:=eWC VK Uo (f v)
noncomputable def zq(X:Cx)(f:bU)(r:LH):aE:=bNS xs aN us eQ VK RH (r xs H Q) Uo Em f us
noncomputable def tOp(r:R2)(ta tb:TE):TE:=OA bKF cRw y
noncomputable def tUn(r:bPK)(ta:TE):TE:=OA (r x H1 Q)
inductive b3u(g:aIn V)(x:V)(y:V)(H:Hp)(Q:VK):aE|mk i j(_:aDV)(_:aRr)(_:vD aEa):bTW b3u g
noncomputable def rI0(g:aIn V):R2:=VD bTW b3u g
inductive rU_(g:dVL)(x:V)(H:Hp)(Q:VK):aE|mk i(_:aDV)(_:vD (g i)):eMA
noncomputable def rU(g:dVL):bPK:=aFW x eMA
section
variable{X:Cx}{a b c:bZ}{ta tb tc:TE}{pos:Pos}
theorem btj(ha:HV)(hb:Yw){bH:dM}{s:bC}{σ:St}{H:Hp}{R:V→aYF}(I:dQ)(h:cWk cIu){Q:cU}{f:bSQ}(hf:fDf):dZS:=fC7
theorem h_{op:bFf}{r:R2}(ho:OpR X (binaryOp op) r)(ha:HV)(hb:Yw):pJ UN BinOp a op b bST:=bOA wpAny_BinOp dAv eVK
theorem amg{op:bXH}{r:bPK}(ho:UnR X (unaryOp op) r)(ha:HV):Ev bXH op a (tUn r ta):=bOA UnaryOp_ cJA Sd ha v x (ho bH s1 σ H1 x v Q I1 r1 q1)
theorem b3v{f:bSQ}{g:cO0}(Qw:fDi eIO aEa eXY):eE9 Lu gR aEa:=fBq bJh gR aEa
theorem btk{f:bSQ}{g:aIn gE}(Qw:fDi (Q Kr aEa s→bLD eXY)):eE9 Lu pI aEa:=fBq aGZ pI aEa q
noncomputable def b3w(i j:Int):aE:=aGj (-aJG<i) (i<aJG) (-aJG<j) (j<aJG)
theorem b3w.ok{i j:Int}(h:b3w i j):IntMulOk i j:=Ax aTI h h1 h2 eBZ of_left eBZ of_right
theorem vf:ePa Add (i+j):=bDc b3v add_int
theorem akt:ePa Sub (i-j):=bDc b3v sub_int
theorem unI{f:aH3 aOK}{g:aVP Int}(Qw:∀(i:Int)(t:Tok)(s:bC)(Q:cU)(E:cU),eIO (g i) (f aPQ)):UnR X f (rU VW gR (g i)):=cN aMX x v rx h AJ i q h Lc aB (Qw i t s _ _ bJh gR (g i))
theorem aga:UnR X (unaryOp .USub) (rU VW gR (-i)):=unI bXS q (neg_int q)
end
noncomputable def b3x:eDe|iE,iE=>aY|iE,ZX=>aY|ZX,iE=>aY|iE,Eh=>aY|Eh,iE=>aY|iE,Hs=>aY|Hs,iE=>aY|ZX,ZX=>aY|Eh,Eh=>aY|Hs,Hs=>aY| .byt _,.byt _=>aY|ZX,Hs=>aY|Hs,ZX=>aY|Eh,Hs=>aY|Hs,Eh=>aY|_,_=>bI
noncomputable def rEq:R2:=eDn aIJ (x=y)
noncomputable def rNe:R2:=eDn bPq cKK
theorem bbj{i j:Int}:aJV bHZ i j i j:=cOa
theorem bh1{i j:gE}:aJV (Cw i=Cw j) i j:=cOa
theorem bbk{i j:Str}:aJV (Zl i=Zl j) i j:=cOa
theorem bbl{i j:dQN}:aJV (V.byt i=V.byt j) i.toList j.toList:=Wq IR cF i cF j cG
section
variable{X:Cx}{a b c:bZ}{ta tb tc:TE}{pos:Pos}
theorem i3{bH:dM}{σ:St}{H:Hp}{s:bC}{Q:VK}{k k':gE}(I:dQ)(q:BR k)(e:k=k'):aPE Kr k' s:=dB bB e aGZ pI k q
theorem qt:Bu Eq rEq:=fDY PySem.EqNone.eq_none_none PySem.EqNone.eq_none_bool PySem.EqNone.eq_none_int PySem.EqNone.eq_none_str PySem.EqNone.eq_bool_none Sl eq_bool bh1 PySem.EqMixed.eq_bool_str PySem.EqNone.eq_int_none Sl eq_int bbj PySem.EqMixed.eq_int_str PySem.EqNone.eq_str_none PySem.EqMixed.eq_str_bool PySem.EqMixed.eq_str_int Sl eq_str bbk Sl PySem.W.eq_bytes bbl
theorem awk:Bu bXT rNe:=fDY PySem.EqNone.ne_none_none PySem.EqNone.ne_none_bool PySem.EqNone.ne_none_int PySem.EqNone.ne_none_str PySem.EqNone.ne_bool_none bPw ne_bool bh1 PySem.EqMixed.ne_bool_str PySem.EqNone.ne_int_none bPw ne_int bbj PySem.EqMixed.ne_int_str PySem.EqNone.ne_str_none PySem.EqMixed.ne_str_bool PySem.EqMixed.ne_str_int bPw ne_str bbk bPw PySem.W.ne_bytes bbl
theorem ar5:cV5 Lt aWq (i<j):=bDc btk lt_int
theorem aol:cV5 LtE aWq (i≤j):=bDc btk le_int
theorem zr:cV5 Gt pI mQ j i:=bDc btk gt_int
theorem aak:Bu Is VD (y=iE∧aIJ (x=iE)):=eXS is_none_gen
theorem aew:Bu IsNot VD (y=iE∧bPq lT (x=iE)):=eXS isnot_none_gen
theorem bq(b:bZ){op:Qu}(h:autoParam (dVR) EE.autd._auto_1)(h2:autoParam (dVS) EE.autd._auto_1):aSw:=by
 have e1:(op==CmpOp.In)=false:=by cases op<;>first|rfl|exact absurd rfl h
 have e2:(op==CmpOp.NotIn)=false:=by cases op<;>first|rfl|exact absurd rfl h2
 cases b<;>first|rfl|(show(_&&(op==CmpOp.In||op==CmpOp.NotIn)&&_)=false;rw[e1,e2];simp)
theorem qa{op:Qu}{r:R2}(ho:cUA)(ha:HV)(hb:Yw)(hm:aSw):pJ bU7 bST:=tQ oR Q h wpAny_Compare1 dAv eVK hm
inductive bh2(Q:Xw)(x:V)(H':Hp):aE|mk k(_:x=pI k)(_:UF k):eMP
noncomputable def bq1(t:TE):TT:=Ry aA2 t YW H' eMP
theorem bh{op:Qu}{r:R2}(ho:cUA)(ha:HV)(hb:Yw)(hm:aSw):PT X bU7 (bq1 bST):=aO3 oR Q h aR8 wpAny_isTrue_Compare1 ha aSk v x r1 dOo fCj c hm bB e cF r3 wpAny_truthy_bool bR H3 I3 q3
inductive bbm(r':R2)(tc:TE)(σ:cO)(Q:VK)(y:V)(z:V)(H3:Hp):aE|mk k(_:z=pI k)(_:(nN k (tc σ H3 bG w' H4 (r' y w' H4 Q)) (Q aCE H3))):fAd
noncomputable def btl(r r':R2)(ta tb tc:TE):TE:=OA bKF (r x y H2 bG z H3 fAd)
theorem awm{op op':Qu}{r r':R2}(ho:cUA)(ho':cAu op' r')(ha:HV)(hb:Yw)(hc:pJ c tc)(hm:lastMarks eAt [b,c]=bI:=by rw[dHg]):pJ UN dCR a eAt [b,c] (btl r r' ta tb tc):=jX oR Q h aR8 Compare_chain ha aSk v x r1 (chain_link (j7 bHD hb q1 aAx u s2 y H2 I2 r2 q2 fCj d)) hm bB e cF r3 dKL bTI k aB (ite_ff Fh aCE H3 I3 q3) aB (ite_tt (chain_last aW9 aFY hc s3 H3 I3 q3 (by rintro(w')s4⟨z',H4,I4,r4,q4⟩) (ho' bH s4 σ H4 y z' u w' Q I4 r2 r4 q4)))
theorem a1x:UE vO<Fx:=uE aFo jL
theorem vals1{x:V}{us:eQ}(r:UR [x]):eFI:=bA Oy r r1 r2 cF r2 aB sS r1
theorem vals2:∀{x y:V}{us:eQ}(r:UR bPP),cIQ w' [u,w'] aUS w':=kX jG x y us r Oy r r1 r2 pE r1 r2 Oy r2 r3 r4 cF r4 aB xY uN r1 r3
theorem aqg(hc:KP):eXV "max" fZ (j>i) j i:=fDd max_two_ints (j>i)
theorem bd_(hc:KP):eXV aEQ fZ (j<i) j i:=fDd min_two_ints (j<i)
theorem a1y:aVE zW aSZ wF i aHW zF (i.natAbs.log2<1920) vD EQ (toString i):=fBf jF i rfl hz q h PySem.P.str_of_int bJh Hs
theorem bh3:aPo "ord" wF x aHW KR (bXU=1) Mj UE (x.cps.getD 0 0):=fBf jF x rfl hz q h ord_of_one bMR
noncomputable def btm(K:aL)(x:V)(H:Hp)(n:Nat):aE:=aLt x EQ y dWN (.byt y) dWO iW eF0 bC0 bTR _ oJ
theorem bv:aPo aEO cY2 X.K:=jX aC1 QX x n e q h cYq aJ hl a1x eTi fFu y bVG dWN len_str bMR byt y bVG dWO PySem.W.len_bytes bMR cF rx aG e' eF0 dWW bRy xs e bW6 e' xs hx e' eUk Du r' pl aLO hx bB5 Calls.call_len_list eRK Du r' pl aFm hx len_tuple aBH iR oJ e
end
end L2
namespace L2
open PySem PySem.Spec PyProof.Rows
structure bd'(h:aU)(x dx C:aA)(mA:bF):aE where
 obj:rT bDP cRu
 ns:cWE
 ne:dx≠x
theorem bea{h:aU}{dx:aA}{mA:bF}(n:cWE):eXj aIw dx od:=FI (by obtain(⟨o,es,ep,ho,hd,hk,_,hm⟩):=n) aI jA o ho bY tF aJ e (hm tF) aLd nsFind findBy e zP Array.find?_toList e aV PySem.W.lookIn aH hd TD oY dQQ Iy y q aF q e WD uQ e uW q aF q e bD a (es.toList.any dC4=bI) Wq bW2 cY y hy cS z t II (hk y (Array.mem_toList_iff.mp hy)) CI DictEntry.refKey II a' (¬es.toList.any dC4=aY) gG a aFn jJ a' WD uQ e
theorem bd'.look{h:aU}{x dx C:aA}{mA:bF}(I:cIF h mA):eXj (PySem.W.InstAt h x cRu C aO od):=Zo od ho hl (bea I.ns) bR od aUI bXV rfl ho hl
section
variable{eJ:aM}{w:aK}{A:cM}{E:cU}{s:bC}{K:aL}{x dx C f:aA}{mA:bF}{tF:Str}{v:bU}
theorem get_map{expr:gE}{Q:cU}(X:aRP)(I:dZl)(hg:bTG tF)(hh:bQM)(ha:aHa tF aS)(hv:mA tF=aO v)(hv':dQT v)(h:Q v aIR):FE (getAttr yT tF expr):=dB cS od J hl I.look (PySem.W.get_value X J (PySem.W.plainGet_of hg).1 (PySem.W.findObj_own hh ha rfl vJ hl hv) hv' h)
theorem bms:∀{eJ:aM}{w:aK}{A:cM}{E:cU}{s:bC}{K:aL}{x:aA}{dx:aA}{C:aA}{mA:bF}{tF:Str}{v:bU}{ns:iQ}{Q:aJr}(X:aRP)(I:dZl)(hs:cV0)(hp:cOJ)(ht:eHQ tF)(hh:bQM)(hw:PySem.Within mA ns)(hsz:rQ aLS)(h:cHI cIF h' bT y jI y tF VT (mA y) dx () aGk (FY+2)),FE (setAttr yT tF v):=Id (by intro eJ w A E s K x dx C mA tF v ns Q X I hs hp ht hh hw hsz h) _ dG od J hl I.look QW (PySem.W.set_plain X J hs (PySem.W.osa_open (s:=aIR) (r:=none) X J hp ht ?_)) b dG cd hc hd' (PySem.W.any_some hh) dR hx rT bVO sC QC aO dx (.plain) (#[]) bXV dKV YQ aLQ (wpAny_loadPart hx (aLQ (PySem.W.Looks.here (s:=aIR) (PySem.W.looks_clsIn X hc) ?_))) aH hd' gZ (Cv (a:=aO dx) cJU cND) (wpAny_nsSet1 (s:=aIR) I.ns ?_) lJ h' hn2 hs2 FV oD esD epD hoD hdD hcD (hn2.count (PySem.Within.cons tF v hw)) _ ZD wpAny_lookBehind hoD DR hdD pastItsLine_dict US hcD uE qZ mG NS (h _ kM pZ (hs2.2 _ (bEm I.ne)) bXV hn2 I.ne hs2)
theorem bh4{R:bAy}{vs:eQ}{kw:aPT}(X:aRP)(hm:cOK)(hi:cSg)(hf:PySem.W.typeIn K xW=aO zW dC5)(h:aH5 aVH (A.under dH0 (QC::vs)) (.Qa xW aT (cI xC::vs) kw) (PySem.W.InitBack xC R) GM cYN):cWu (.Qa QC aT vs kw):=dB qM hh g d t os s (PySem.W.make_core (PySem.W.makes_of X hm) (PySem.W.looks_findIn X hi) bT AY (PySem.W.bind_fn X AY hf) xR h)
end
noncomputable def ah_(f:Str)(v:V):yF→yF|[]=>[(f,v)]|(g,x)::r=>jI g f ((g,v)::r) ((g,x)::cBT r)
theorem a55(f g:Str)(v:V):∀fs:yF,(bRl).lookup g=jI g f VT (fs.lookup g):=aPP fs bW (aFp g [(f,v)]=_) bQ h (g=f) fP cR3 (g==f) BB aFp hb aDR cVj (g==f) BB aFp hb eC h p_ r [aN0 k x,aJ ih ih,dPK,wH qX hk bQ h (g=k) fP cR3 (g==k) BB aFp hb aXr h.trans hk cVj (g==k) eJ4 (h (e.trans hk.symm)) jJ hk bQ h (g=k) SC cR3 (g==k) eJ4 (hk (h.symm.trans e)) cVj (g==k) wP aFp hb aB ih]
theorem az5(f:Str)(v:V):∀fs:yF,f∈aCf bRl∧iJ g (g∈fs.map wL) (g∈aCf bRl):=fA0 dL fW ah_ bG g h vN cX i1 i2 ih FJ qX hk bB hk dL aX bG g h lX h jJ hk Wv Wm mR g h aH rC cMd i1 yJ rC h iA bJM e e dE aB (List.mem_cons.mpr aQK) aB (List.mem_cons_of_mem _ (i2 g e))
theorem a56(f:Str)(v:V):∀fs:yF,tR bRl (aSX+1):=fA0 mF ah_ aJ ih ih fP cE iF hk qZ qZ mG cE eC hk qZ qZ mG
theorem ajy.some_of{v:V}{o:Mn}(r:ajy VT o):eY u (o=aO u) CF:=bA aPb o bNm u WF u r
theorem beb{v:V}{u:bU}(r:CF):dQT u:=bA (by cases v with|fu=>rw[bVF (u=aEJ)]|bl b=>rw[bVF eEA]|int i=>rw[bVC bCf]|str x=>rw[bVC bR1]|byt b=>rw[bVC (Value.bytes b t)]|flt b=>rw[bVC (Value.float b t)]|ref a=>rw[bVF Tc]|ty n=>rw[bVF eI4])
section
variable{P:aM}{w:aK}{H H':Hp}{h h':aU}{a C dx:aA}{fs fs':yF}
theorem a1z(hok:RQ)(e:bPd):∃mA,eX (bd' h a dx C mA) cYd eTe bL9 eBv:=QY Qx d z ne ob mA n r q bNJ aNm (hok a _ e) mA nP kM ob n ne r q z d
end
theorem Cls.get{K:aL}{C:aA}(c:aEu)(f:Str):bTG f:=c.pg
theorem ajz.b3z{K:aL}{C:aA}{f:Str}(n:bCn):eHQ f:=aP2 PySem.W.takerIn iR cSf n
section
variable{X:Cx}{bH:dM}{σ:St}{H:Hp}{s:bC}{a C dx:aA}{fs:yF}{f:Str}{v:V}{A:cM}{E:cU}
theorem a95{b:gE}{Q:cU}(I:dQ)(e:bPd)(c:eEG)(n:cEG ajz)(l:cUU)(h:xT u s' aIA CF (Q u s')):aCb (getAttr jT f b):=gT (by obtain(⟨mA,O,r,_,_,_⟩):=ZM a1z) cS u hu ru bN8 (mA f) iV hM l r f (get_map aAy O (c.get f) c.hd n hu (beb ru) (h u _ PY ru))
theorem a96{y:V}{u:bU}{Q:aJr}(I:dQ)(e:bPd)(c:eEG)(n:cEG ajz)(hl:aSX<aKK)(ry:BZ)(h:cPb aGB Jz cQx ()):aCb (setAttr jT f u):=fN (by obtain(⟨mA,O,r,wi,_,ho⟩):=ZM a1z) dR hz rQ gD fs.map wL Tm aQ cK aFo (bms aAy O c.sa c.po n.b3z c.hd wi hz fR h' O' sb (h _ ?_)) dR hd bKu o dx bTc o _ e' O'.ns Wl e' (I.write (x:=a) (e:=dx) bM5 fF ho eOc dRi hd ?_) Ww nP vH O.ne ho ?_ O.ne O'.obj gJ cH O'.ns aH4 g mR g hg bN bLl a56 mG bW (ajy ((cQx).lookup g) eKd) aH a55 WP g f fP Oc q q aB ry FK q q aB (r g) kG WP g f An aH q aB ((bLl az5).1) aI ((bLl az5).2 g (wi g oO hg ?_)) bW (eKd=aS) jJ q aB z
theorem Inv.made:∀{X:Cx}{bH:dM}{σ:St}{H:Hp}{s:bC}{C:aA}(I:dQ),yS kP rE fJ EY xC xC aIy C fJ GM cYN:=WG xN X bH σ H s C I aDm aJj aX2 fJ bXW (Heap.get?_push_size kO rfl) aJj cYN xC cES fJ dRp cTi aX2 cES fJ Jg aG e3 ((aX2).Ns fJ aPI) kF bXW (#[]) _ QZ e1 aEl aVV he bKj aJ I1 eAP EY xC aX2 dUz gJ e1 aI (I1.laid (a:=xC) (o:=aIy C fJ) (t':=s.toks) dUz bNX qR Jg ?_) dR ne (fJ≠xC) eCI nP vJ (aq ne) ah mJ ne e2 Mt aPI Md ((Heap.Ns1.of_empty e3).at) q PV q eZ aAz ZB (aS9 rfl hy)
theorem bmt{eJ:aM}{w:aK}{env:Env}{e:bZ}{f:Str}{pos:Pos}{s:bC}{Q:cU}(hb:cBe e f env cME)(h:dZw cME bBX (getAttr o f aY) Q s₁):FE bCM Kg aLT e f:=Attribute_any_ h vJ arm_eval_Attribute hb
end
inductive bq2(K:aL)(f:Str)(Q:VK)(x:V)(H1:Hp):aE|mk a C dx fs v(_:rN)(_:bR4)(_:aEu)(_:bCn)(_:cUU)(_:RV v):bUZ bq2
noncomputable def bmu(K:aL)(ta:TE)(f:Str):TE:=OA bUZ bq2
inductive bq4(K:aL)(f:Str)(D:yO)(σ:cO)(y:V)(x:V)(H2:Hp):aE|mk a C dx fs(_:rN)(_:yY H2 aNm)(_:aEu)(_:bCn)(_:aSX<aKK)(_:Dy FG a Jz cQx):fAZ
noncomputable def cbh(K:aL)(ta tv:TE)(f:Str):TS:=Vw tv y MS ta x fAZ
section
variable{X:Cx}{o e EI:bZ}{f:Str}{pos TQ YD:Pos}{ta tv:TE}
theorem awo(he:cNh)(hb:cZd):eKD:=jX oR Q h aI (bmt hb (j7 Sd he ?_)) (by rintro(u)(s1)(⟨x,H1,I1,rx,a,C,dx,fs,v,ex,ea,c,n,l,q⟩)) bB ex Vh aB (a95 I1 ea c n l kI u' s2 I2 ru jO v H1 cH I2 ru q)
theorem im(ha:pJ o ta)(hv:cQT)(hs:cIG EI eED):bUF eED EI (cbh X.K ta tv f):=Ac oR D h aR8 plainObj_wpAny_Assign_Attribute hv aAx u s1 y H1 I1 ry q (j7 bHD ha q fun ov s2⟨x,H2,I2,rx,a,C,dx,fs,ex,ea,c,n,l,q2⟩=>?_) hs bB ex So aBa ov a rx (a96 I2 ea c n l ry cET yA σ aT I3 q2)
end
section
variable{X:Cx}{bH:dM}{σ:St}{H:Hp}{s:bC}{A:cM}{E:cU}{Q:cU}{c:bU}{b:gE}
inductive aom(K:aL)(H:Hp):dXT where|fu:aQa iE "NoneType"|bl(x:gE):aQa pI x "bool"|int(i:Int):aQa zF bXX|str(x:Str):aQa KR aSZ|flt(x:UInt64):aQa (.flt x) "float"|lst{a:aA}{xs:aN}(e:aBe xs):bQw VL|ox{a:aA}{o:Obj}{xs:aN}(e:BL dSa):bQw VL|tup{a:aA}{xs:aN}(e:BL MJ):bQw To|dK{a:aA}{kvs:sT}(e:aD1):eFS|dT{a:aA}{kvs:jQ}(e:Yc):eFS|ins{a C dx:aA}{fs:yF}(e:bPd)(cl:aEu)(ha:eG1)(hn:eKo)(htk:eRj)(hm:eQt):bQw QC
theorem bec{x:V}{u t:bU}(I:dQ)(rx:Ah)(ty:eMR)(e:eHu c)(h:∀tk,Q aJM aM4 tk):bKN aS0 [u,c]:=bA (by cases ty with|fu=>rw[aEh (u=aEJ),aHI PySem.W.kitx_none aAz]|bl y=>rw[aEh (u=bVI y),aHI PySem.W.kitx_bool aAz]|int i=>rw[dA2 bCf PySem.W.kitx_int]|str y=>rw[dA2 (Value.str y t) PySem.W.kitx_str]|flt y=>rw[dA2 (Value.float y t) PySem.W.kitx_float]|@lst a xs ea=>rw[aEh Tc,bFk n h1 bDt Ln,eEN]|@ox a ob xs ea=>rw[aEh Tc,by(obtain(⟨_,_,_,n,_,h1⟩):=(bDt (.ox ob Ln))),eEN]|@tup a xs ea=>rw[aEh Tc,bE4 p bDt MJ,YC o h1 h2 p,aHI PySem.W.kitx_tuple bR o h1 h2]|@dK a kvs ea=>rw[aEh Tc,bFk vs p bDt GN,aK0 o es ep h1 h2 p,eKs]|@dT a kvs ea=>rw[aEh Tc,by(obtain(⟨_,_,xs,_,o,es,ep,h1,h2,_⟩):=(bDt ES)),eKs]|@ins a C dx fs ea cl ha hn htk hm=>rw[aEh Tc,IP mA O (a1z TM ea),IP od J O.look,aHI (PySem.W.kitx_own (cl.get _) cl.hd ha hn htk hm) J])
end
end L2
namespace L2
open PySem PySem.Spec PyProof.Rows
theorem o5.mono{j k:Nat}{A:cM}(r:aDl)(h:j≤k):o5 j A:=kM r.hd dTZ cPo
theorem o5.deeper{k:Nat}{A:cM}(r:bQ0)(env:Env):cDm env:=eQe (bDT+1+3*k+5) (Py+3+16*k+200)
theorem o5.in1{k:Nat}{A:cM}(r:bQ0):o5 k GA:=eQe eM8 (Py+1+16*k+200)
theorem a97{A:cM}{C:aA}{us:eQ}{kw:aPT}:(cRD).depth=bDT+1:=bQu (by simp[bXY,Code.weight,Code.isCreation,Code.isGuard,Code.isCaller,dC6,bXZ,guardIds])
theorem a98{A:cM}{C:aA}{us:eQ}{kw:aPT}:(cRD).units=Py+1:=bQu (by simp[bXY,Code.cUnits,dC6,bXZ])
theorem o5.make{k:Nat}{A:cM}(r:bQ0)(C:aA)(us:eQ)(kw:aPT):o5 k (A.under dI3):=kM r.hd YT r.dp aH a97 mG YT r.un aH a98 mG
theorem o5.depth{k:Nat}{A:cM}(r:aDl):dP0 bDT:=dTZ
theorem o5.units{k:Nat}{A:cM}(r:aDl):Dn (Py+64):=cPo
theorem o5.abe{k:Nat}{A:cM}(r:aDl):SD:=cPo
noncomputable def atb:TA:=aKn vD []
noncomputable def aex(ta:TE)(tr:TA):TA:=OA MS tr xs RK aRb
section
variable{X:Cx}{e:bZ}{es:mD}{te:TE}{t:TA}{pos:Pos}
theorem ak:PA X [] atb:=fun _ _ _ _ H Q I h=>Calls.spliced_nil eG6
theorem aa:∀{X:Cx}{e:bZ}{es:mD}{te:TE}{t:TA}(ha:Xb)(hr:cOw)(hs:autoParam (Zb) EE.autr._auto_1),PA X UU (aex te t):=KW BD X e es te t ha hr hs _ dPn pos _ aH hs cMo bIb cBl aI (bX0 VA ha) aCn u x H1 r1 _ aB aW9 (hr pos bH s1 σ H1 _ I1 q1) bUV us xs r2 VX aRb H2 I2 (.jR r1 r2) q2
noncomputable def b30(t:TA):TE:=eEB KB p MJ
noncomputable def b31(t:TA):TE:=eEB Ep p xs
theorem io:∀{X:Cx}{es:mD}{t:TA}{pos:Pos}{x1}(h:cOw),Uf Kg bXI es x1 b30 t:=qF (by intro X es t pos _ h) _ cZr hq _ aI (wpAny_Tuple_spliced JF cAD h hq) eYp eHB fAq KB pT MJ lH z us cEa r GR
theorem cg:Vk X Cx es mD t TA pos Pos cOw Uf (.List es pos) b31 t:=vM iC X es t pos h cZr hq _ aI (wpAny_List_spliced JF cAD h hq) eYp eHB fAq Ep pT xs dL z uJ us 0 r GR
end
theorem aya.make{P:aM}{w:aK}{K:aL}{mg:bF}{aW:aU}{A:cM}{lG:FN}{s:bC}{H:Hp}(e:aSM A)(C:aA)(us:eQ)(kw:aPT):aSM cRD:=fAD bA rD aB bX1 qN (by simpa[bXY,Code.envs,bXZ,pushEnvs]using bX1)
section
variable{X:Cx}{bH:dM}{σ:St}{H:Hp}{s s':bC}
theorem Inv.b32(I:dQ):aya pC X.w X.K aFg TF X.A OP s H:=CG bX2 bE6 aLL cQ4 bX3 bX4 TM aFi
theorem Inv.after{Q:VK}{u:bU}(I:dQ)(h:CE OP pC X.w H s Q u s'):aPE u s':=sR Qx v H' os Pz un hok r q h qM hh g d t os' s' So (os'=aKM) os cQS bBc (I.call (h':=hh) (g':=g) (d':=d) (t':=t) (ch:=[]) un hok Pz bG b z aVV z)
end
noncomputable def b33(sp:Sp)(dvs:aN)(E:XK)(t:TA):TE:=aRO (sp bCs H1 Q E)
noncomputable def bq7(C:aA)(sp:Sp)(dvs:aN)(E:XK)(t:TA):TE:=aRO cZY cSc dvs E
noncomputable def Passes(CX:CXT)(X:Cx)(E:XK):aE:=∀(bH:dM)(σ:St)(H:Hp)(s:bC)(e:bU)(s':bC),aNd bUy OP e s' (Cu e s')
section
variable{X:Cx}{CX:CXT}{k:Nat}{f C:aA}{fd:EA}{ps:iQ}{sp:Sp}{dvs:aN}{ds:eQ}{E:XK}{x m:Str}{p pos CK:Pos}{e o:bZ}{es:mD}{ta:TE}{t:TA}
theorem bh6{bH:dM}{σ:St}{H:Hp}{s:bC}{Q:VK}{us:eQ}{vs:aN}(F:bDC)(hr:bP8)(hb:bDs)(hd:bCT)(hx:bDb)(I:dQ)(r:aD4)(h:sp bCs H Q E):Uo Em xW us:=bL bD r2 IZ bCs bB4 (r.append hd) hl (bV bB4=pF) DK bFl GP F.len h aI (wpAny_call bSZ (F.run X.A OP s H BI us bB4 bCs Q E hr I.b32 (hb s us aAy hl) r2 h) r hq) eWp (hx bH σ H s e s' I hq) aB (I.after hq) Aw hq
theorem bmv(F:bDC)(hr:bP8)(hg:LJ)(hm:aJA xW)(hk:PySem.W.keepIn X.K xW=aY)(hb:bDs)(hd:bCT)(hx:bDb)(ha:aEp)(hdb:autoParam (FQ) EE.autd._auto_1)(he:autoParam (Zb) EE.autr._auto_1)(hpl:autoParam (aKd) EE.autr._auto_1):aY9 (b33 sp dvs E t):=fAW hk (bh6 F hr hb hd hx I1 r q)
theorem a58{bH:dM}{σ:St}{H:Hp}{s:bC}{Q:VK}{us:eQ}{vs:aN}(M:cRn)(F:bDC)(hr:bB3)(hb:bDs)(hd:bCT)(hx:bDb)(I:dQ)(r:aD4)(h:dJZ aQR nZ dx cSc dvs bSV E):Uo Em QC us:=cN eN hq (h xC fJ dVd Mm eCI) I2 (Inv.made (C:=C) I) bD r2 IZ (yW xC::(vs++dvs)) eNI (.jR rfl (r.append hd)) hl (bV (cOj++ds)=pF) gT aJ e bFl aF GP F.len hq e aK1 aI (wpAny_call (bh4 (f:=f) aAy M.makes M.init dPR M.fn bSZ (F.run _ OP _ _ BI cOj eNI _ _ E (hr.make C us []) (I2.b32.make C us []) (hb _ cOj bX5 hl) r2 hq) r hq')) eWp (hx bH σ _ _ e s' I2 hq') [vT v H' I3 rv ev q3 (I2.after hq'),bB ev,dL rv Fh yW xC H' I3 q3] Aw hq'
theorem bmw(M:cRn)(F:bDC)(hr:bB3)(hg:LJ)(hm:aJA QC)(hb:bDs)(hd:bCT)(hx:bDb)(ha:aEp)(hdb:autoParam (FQ) EE.autd._auto_1)(he:autoParam (Zb) EE.autr._auto_1)(hpl:autoParam (aKd) EE.autr._auto_1):aY9 (bq7 C sp dvs E t):=fAW M.kp (a58 M F hr hb hd hx I1 r q)
theorem bh7(M:cRn)(F:bDC)(hr:bB3)(hg:LJ)(hm:aJA QC)(hb:bDs)(hd:bCT)(hx:bDb)(hdb:autoParam (FQ) EE.autd._auto_1):aV1 [] (bq7 C sp dvs E atb):=bL oR Q h dOH aB (PySem.W.callWith_K0 aAy M.kp (a58 (us:=[]) M F hr hb hd hx I eF h))
end
section
variable{X:Cx}{CX:CXT}{k:Nat}{f C:aA}{fd:EA}{ps ks:iQ}{sp:Sp}{E:XK}{x m:Str}{p pos CK aAA:Pos}{e o:bZ}{es:mD}{kws:bIW}{te ta:TE}{t tk:TA}{nm:uZ Str}
variable{g:eLI}{gV:cVR}
end
structure bd(N P:iQ)(sc:oX):aE where
 mK:dC8=Ui
 co:sc.isCoroutine=bI
 gen:sc.isGenerator=bI
 nd:aTN
 pre:N.take P.length=P
 par:∀x∈P,cTa bR2
 btn:∀y∈bX6,dU1
theorem bed{Qy:bOt}{x:Str}:eYc bindL:=fCB aV bindL oS eVW mF aP (by rfl)
theorem bee{Qy:bOt}{x:Str}:eYc bindC:=fCB aV bindC bOY eVW mF aP
theorem az6{Qy:bOt}{x:Str}{v:bU}:fAy aVB Qy bindL|[],_,_,_,_,h,_,_=>vN|uP,[],_,_,_,_,h,_=>vN|p::P,w::vs,0,m,nd,h1,h2,hk=>eXq bindL aV bindL aQ eTI bed iF hk|p::P,w::vs,eG,m,nd,h1,h2,hk=>eZ0 bindL aV bindL az6
theorem az7{Qy:bOt}{x:Str}{v:bU}:fAy (Qy x≠aO QH) bindC|[],_,_,_,_,h,_,_=>vN|uP,[],_,_,_,_,h,_=>vN|p::P,w::vs,0,m,nd,h1,h2,hk=>eXq bindC aV bindC aQ eTI bee eC hk|p::P,w::vs,eG,m,nd,h1,h2,hk=>eZ0 bindC aV bindC az7
noncomputable def start(N:iQ)(vs:aN):St:=vs.map uQ++dPV (bX7-uU) aS
noncomputable def a1_(CX:CXT)(P:aM)(w:aK)(K:aL)(mg:bF)(aW:aU)(N:iQ)(sW:Str)(gM:oX)(f:aA)(cd:bU)(A:cM)(lG:FN)(s:bC)(H:Hp)(E:XK):Cx where
 eJ:=P
 w:=w
 K:=K
 mg:=mg
 aW:=aW
 A:=dXD
 N:=N
 s_0:=s
 H_0:=H
 env:=aX7
 lG:=lG
 aFf:=aX7::lG
 ex:=[]
 calm:=aY
 fn:=eZ aY
 pn:=[]
 xe:=bG e s' YI LY P w dXD (leaving aX7 e) wO s'' bUy lG e s'' bG e' s'' bUy lG e' s'' s'
theorem a59{sc:oX}{n:Nat}{x:Str}(h:bR2):∃c,rT ((aTU n bX6 []).lookup) c:=iV aJ q (PySem.W.cellsFrom_some bX6 n [] aXt) Option.isSome_iff_exists.mp q
theorem bef:∀{CX:CXT}{P:aM}{w:aK}{K:aL}{mg:bF}{aW:aU}{N ps:iQ}{sW:Str}{gM:oX}{f:aA}{cd:bU}{A:cM}{lG:FN}{s s1:bC}{H:Hp}{E:XK}{us:eQ}{vs:aN}(S:eQ2)(hd:Bk)(e0:aSM A)(hl:uU=pF)(r:aD4)(x:InCallC s fJ eTh bindL eDh eTh bindC s1),Inv dVE [] bJz H s1:=vM (by intro CX P w K mg aW N ps sW gM f cd A lG s s1 H E us vs S hd e0 hl r x) _ aG hpl (pF≤bX7) VG Ya bX9 sZ mG nQ h1 tk rfl hk x.done aG noA (∀b:aA,b∉(dVE).ex) bG b z cEC z Ww Sg ⟨e0.mod,S.kind,rfl,rfl,lB,?_,?_,?_,eZ hd,dPT e0.frames,fF NJ,eQs,e0.bs,e0.bsz,fun b _ _=>noA b,eQs,e0.apy,e0.frf⟩ e0.bare (Un.kept hk) oF x.toInCall.ns fR y c h gJ (x.cell y c h) aMK e0.hok.fresh ?_ dZO (e0.hok.kept hk) ?_ iC y z c h1 h2 aB (name_of_addr x.apart (aTV h1) (aTV h2)) aKo aG hy cWa hy cWM dE aB (a59 hy) aB (aS9 rfl (S.btn _ dRP)) dA0 (by intro y c _ h) _ aB (dBY eQO) Ge i y v h1 h2 h3 bD hi (i<uU) bL cV OL h2 bQ hi (i<uU) jK aB hi aF (List.getElem?_append_right lX hi) h2 aF List.getElem?_replicate h2 oT pG h2 cF h2 ha bMe bL cV OL h2 dA dPS lX hi kB h2 DL e rW vs aF e h2 cF h2 a [aF e h2,cF h2,by rfl] dG u hu rv (r.get ha) bD hp gH ps y dB FU bX9 (List.getElem?_take_of_lt iP) h1 ndP ps.Nodup iV hM bX9 S.nd.sublist dRg aI jA u rv iA mC S.par y hp k k HQ sQ aT k (az6 ndP hp hu k) eP c e (a59 (n:=xC) k) aI KQ aPJ jA c e aJ q (x.cell y c e) aF (az7 ndP hp hu JT bW (dSB≠_) k jL) q aB q Bj lM y c h _ aB (e0.hok.fresh (dBY eQO)) aV OL bW (_=bX7) cE fA cK List.length_replicate mG
theorem bq8{CX:CXT}{P:aM}{w:aK}{K:aL}{mg:bF}{aW:aU}{k:Nat}{f:aA}{tF sW:Str}{CQ:Ik}{sV:aDJ}{gM:oX}{dV kV doc pm cdv ct oc:bU}{an od:yH}{osl:FR}{N ps:iQ}{sp:Sp}(lk:bRM fBQ)(hcd:cSu)(S:eQ2)(len:aSK)(OS:∀(A:cM)(lG:FN)(s:bC)(H:Hp)(vs:aN)(Q:VK)(E:XK),cJp aVM sW gM cdv (PSs cRy sV t)):cBW CX zE fBQ sp:=FI aI aT len fC5 e0 r hsp ?_ aJ hl GP len hsp bD KX aRP eAd e0.mod.kin.keeps lim dCM eAd e0.mod.nolimit.keeps sX hkind y dXC JB cC2 QH cC2 BO sN ((eDh).lookup y.1) bL (by rintro(⟨n,v⟩)hy) iA (S.par n dKI hy) q q Hz q aT q Dr PySem.W.cellsFrom_some gB q gZ (codeAny_call_function hr.depth cB KX lk rfl S.co S.gen rfl (PySem.W.codeRec_of KX hcd) GP hb ?_) (wpAny_newFunctionEnv_cells S.kind hkind kI env he s1 x ?_) bB he aI aT (lim.keeps x.toInCall.keep) (codeAny_func ?_) cS t ht hq (OS A lG s H vs Q E (hr.deeper _) hsp) dR I (Inv cRy [] bJz H s1) (bef S aTW e0 hl r x) bHz (ht [] s1 bJz H _ I hq) pX fl s' hs fR e s' hs hs aG fin aAs σ' St H' Hp v V u bU jW bNy cRy [] σ' CF UF v fBU (fun{σ' H' v u}J rv q=>(cQS yB J.os J.bare J.base J.hok rv q)) dPe [vT v σ' H' J rv q hs,aB (fin J rv q)] [jF σ' H' J q hs,aB (fin (v:=V.fu) (u:=Value.none) J rfl q)] fEO
end L2
namespace L2
open PySem PySem.Spec PyProof.Rows
section
variable{X:Cx}{x:Str}{p pos:Pos}{e:bZ}{es:mD}{t:TA}{id T:uR}{r:LH}
noncomputable def tCB(r:LH)(t:TA):TE:=aRO (r vs H1 Q)
theorem a5_(hc:cRb)(hg:LJ)(hm:aRy)(hv:cPY)(ha:aEp)(hn:autoParam (aIT) EE.autd._auto_1)(hdb:autoParam (FQ) EE.autd._auto_1)(he:autoParam (Zb) EE.autr._auto_1)(hpl:autoParam (aKd) EE.autr._auto_1):eGD:=eXZ PyProof.Rows.callWith_builtin1 cJA aVN us vs eSp
theorem beg(hc:zq X RW r)(hg:LJ)(hm:aRy)(hv:bKs RW)(ha:aEp)(hn:autoParam (aIT) EE.autd._auto_1)(hdb:autoParam (FQ) EE.autd._auto_1)(he:autoParam (Zb) EE.autr._auto_1)(hpl:autoParam (aKd) EE.autr._auto_1):eGD:=eXZ bXP aW9 aVN eY1 eSp
end
end L2
namespace HT
open PySem PyProof.Rows
noncomputable def lexLt:cA mZ mZ gE|[],[]=>bI|[],uP=>aY|uP,[]=>bI|aRb,bQ4=>fZ (x=y) (tE xs ys) cCt
section
variable{eJ:aM}{w:aK}{A:cM}{E:cU}{s:bC}
noncomputable def sIx(n d:Nat):FB→Nat|aS=>d|VT=>eKa
theorem a5'(n d:Nat):sIx n d aS=d:=rfl
theorem auk(n d k:Nat):sIx n d aO fM k=vA k n:=YL ((fZ (fM k<0) LT (fM k+GY) vA LT (k:Int) n)=vA k n) aQ eC iP aTX
end
end HT
namespace L2
open PySem PySem.Spec PyProof.Rows
noncomputable abbrev TO:=bSm cLi
noncomputable def PO(X:Cx)(e:aQI)(t:TO):aE:=bCD cLi ZA (evalPart e pR) bG u s' bUx o (IsPart u o)
noncomputable def bmx:TO:=aKn vD aS
inductive bh8(Q:cLi)(x:V)(H1:Hp):aE|mk i(_:aDV)(_:RV lI):aEj bh8
noncomputable def b34(t:TE):TO:=JD t x aEj bh8
section
variable{X:Cx}{e:bZ}{te:TE}{lo hi:aQI}{tl th:TO}{pos p2:Pos}
theorem qb:PO X aS bmx:=JT oR Q h dC9 NS bMX aS uH
theorem f8(h:Xb):PO X aO e (b34 te):=kK oR Q hw aH evalPart_some aI JF cT5 bFn u s1 x H1 I1 r1 q1 AJ i q q1 zZ t r1 aB jO lI H1 cH I1 aPQ q
noncomputable def SlR(X:Cx)(r:aSJ):aE:=∀(bH:dM)(s:bC)(σ:St)(H:Hp)(x:V)(v vl vu:bU)(lo hi:FB)(sl:aA)(Q:VK),aNd Uv qQ (s.heap.IsSliceOf sl vl vu uH) (IsPart vl lo) (IsPart vu hi) cXt r pL T id eJ1 (s.TypeIs v T) Uo (getItem v cI sl)
noncomputable def tSl(r:aSJ)(te:TE)(tl th:TO):TE:=JD te x MS tl l bJ4 th u (r x l u H3 Q)
theorem gq:∀{X:Cx}{e:bZ}{te:TE}{lo:aQI}{hi:aQI}{tl:TO}{th:TO}{pos:Pos}{p2:Pos}{r:aSJ}(hr:SlR X r)(he:Xb)(hl:PO X lo tl)(hu:PO X hi th),Ev aLU e eXn (tSl r te tl th):=by rw[by intro X e te lo hi tl th pos p2 r hr he hl hu,_,KE Q,_,aI (Subscript_ VA he),cHG,_,aI (wpAny_Slice aDf hl),bUV vl l pl,dJ JF aZJ hu,bFc vu s3 u H3 I3 pu q3,_,aH dC9,Ud,aG I4 yS H3 aNZ s3 dNY (I3.kept (t':=s3.toks) bTE),AM T id hT ht hg (hr bH dWJ σ H3 x v vl vu l u Cy Q I4 r1 (Heap.IsSliceOf.new ..) pl pu q3),bW YI aCz X.A (subscriptTail e eXn v cI Cy) bMn Cu dWJ,aB (tail_any (ops:=[cI Cy,v]) ht hT hg aZ7)]
noncomputable def agb(xs:aN)(lo hi:FB):aN:=bU1 xs.drop dF
theorem a6a(xs:aN)(lo hi:FB):tR bSR dF:=gT aV agb aQ sZ aE0 eE8 Nat.sub_le
end
end L2
namespace L2
open PySem PySem.Spec PyProof.Rows
noncomputable def ixN(n:Nat)(i:Int):oC:=fZ wD 0 Su QN bYa aS Su cQ1 LT (i+n) aS
noncomputable def atI{α:cJ}(xs:eK)(i:Int):uZ α:=cOP dYb cPh
theorem bmy:Xp n Nat i Int j Nat aHL (ixN n i) jU aHL cK7 n (j<n) cQ1 QN:=vG jG n i j h cV ixN h bQ h0 wD 0 wH aIg h0 bQ h1 QN eWx bYa dXF h1 iP h1 aO6 h0 bQ h1 cQ1 eWx LT (i+n) eAg h1 h1 iP
theorem bbn:Vk α cJ xs eK i Int v α cUI (∃j,eX aHL cK7 dF cR1 (j<dF) wD (-fM dF) (i<dF)):=aJF α xs i v cV atI h DL e dYb aF e h tT j [KS j e,nQ h1 h2 h3 h4 (bmy e),dL j nP h1 h h2 h3 h4]
theorem bf{α:cJ}{xs:eK}{j:Nat}{v:α}(h:cR1):atI xs fM j=aO v:=sR bD hj (j<dF) aR2 e aHL (ixN dF fM j) qS ixN Oc iP iP cG aV atI aH e h
theorem a6b{α:cJ}(xs:eK)(v:α):atI bQT (-1)=aO v:=fN bD hl (bV bQT=dF+1) aX e (ixN bV bQT (-1)=aO dF) cN aV ixN cE hl eC iB iF iP pB mG aV atI aH e bW kC bQT dF v cG
noncomputable def bmz(b:bZ):aE:=eZb
noncomputable def IxR(X:Cx)(r:R2):aE:=∀(EI Qz:bZ)(bH:dM)(s:bC)(σ:St)(H:Hp)(x y:V)(v u:bU)(Q:VK),VH dQ Uv BZ QU r (subscripted Qz bI v u=cHU [v,u] v u) Uo (subscriptTail EI Qz v u)
noncomputable def MtR(X:Cx)(id:uR)(r:FP):aE:=∀(bH:dM)(s:bC)(σ:St)(H:Hp)(x:V)(xs:aN)(v:bU)(us:eQ)(Q:VK),eQG
section
variable{X:Cx}{a b:bZ}{ta tb:TE}{pos:Pos}
theorem b_{r:R2}(hr:IxR X r)(ha:HV)(hb:Yw)(hs:bmz b):Ev aLU a b bST:=bOA Subscript_ dAv (hr a b bH s2 σ H2 x y v u Q I2 rx ry q qR hs)
inductive bq'(K:aL)(x:V)(y:V)(H:Hp)(Q:VK):aE|mk p xs i v(_:x=iW)(_:y=zF)(_:bC0)(_:cUI)(_:vD v):Up bq'
noncomputable def bto(K:aL):R2:=aRv bq'
inductive bra(K:aL)(x:V)(y:V)(H:Hp)(Q:VK):aE|mk p xs i v(_:x=iW)(_:y=zF)(_:bTR)(_:cUI)(_:vD v):Up bra
noncomputable def btp(K:aL):R2:=aRv bra
theorem bz:bRU bto X.K:=KW fDK eZ7 cF rx zZ t ry dLz fBT eXo fA2 bQ h0 wD 0 fP aG hj (bYa=j) iV aF dXF h5 h1 bVL h1 aB (item_listR FZ h0 iP eBQ fin hs) aG hj (LT (i+fM TX)=j) Mw aF eAg h4 h1 EH zO hl bVL h1 aB eAQ dDa dDb (wpAny_getItem_list_neg (Q:=eQD) FZ iP dVl iP eBQ kD fin)
theorem j6:bRU btp X.K:=qF fDK eZ7 cF rx zZ t ry dLA fBT eXo fA2 aB eAQ pl.typeIs slot_tuple_getitem.lookup (getItem_tuple (j:=j) (Q:=eQD) pl iP iP dB EH zO hl h1 lX ew kD fin)
theorem clp(v:Int)(n:Nat):eRl fZ (v<0) (v+GY) v=cZ eKa:=bK bQ h (v<0) HQ AZ aDR aDR Int.ofNat_toNat (Int.min_eq_left (Int.add_le_of_le_sub_right uE Int.sub_self jN Int.le_of_lt)) Int.max_comm FK h h zZ k (Int.eq_ofNat_of_zero_le (Int.not_lt.mp h)) aH aTX iA (Nat.le_total k n) q q dE eAw Nat.min_eq_left Int.min_eq_left (Int.max_eq_right (Int.natCast_nonneg k)) eAw Nat.min_eq_right Int.min_eq_right (Int.max_eq_right (Int.natCast_nonneg n))
theorem a1'(lo hi:FB)(n:Nat):dZ ((cZv).1=cZ cDt n) (vY cZv=cZ (HT.sIx n n hi)) ((cZv).2.2=1):=bA MT kM ?_ ?_ rfl eOS lo eOS hi
theorem ayu:∀(its:eQ)(lo hi:FB),slicePick uS lo hi aS=Jh bU1 its.drop Ra:=Gv its lo hi cWR (a1' lo hi TX) aV slicePick cE h1 h2 h3 aJf BB sliceRange_one pick_run zO
inductive brc(K:aL)(x:V)(lo:FB)(hi:FB)(H:Hp)(Q:VK):aE|mk a xs(_:rN)(_:DQ)(_:bRh bSR):bVa brc
noncomputable def b36(K:aL):aSJ:=cYx bVa brc
theorem i5:eF5 X.K:=qF (by intros bH s σ H x v vl vu lo hi sl Q I rx hs pl pu h) QX a xs hx q h cF rx Du r ht aLO hx aJ lP wN gZ yA yI pD dDb ht.isList.typeIs (wpAny_getItem_list_slice ht.isList hs pl pu uH aX ?_ dVl) EH ayu lP aI cVr (bFj (t':=s.toks) (o:=gW bSR) bTE lB ?_) dL US (a6a xs lo hi) hz uJ _ 0 bU1 r.drop dF GR
noncomputable def amh:aJd V|iE=>aY|Eh=>aY|ZX=>aY|Hs=>aY|_=>bI
noncomputable def eqV:eDe|iE,iE=>aY|pI a,Hh=>a==b|pI a,gR b=>(fZ a 1 0)==b|gR a,Hh=>a==(fZ b 1 0)|gR a,gR b=>a==b|EQ a,EQ b=>a==b|_,_=>bI
theorem btq{A:cM}{s:bC}{y x:V}{u v:bU}(ry:BZ)(rx:Uv)(fy:cTQ)(fx:cNO):cR9 u v cHm:=bA bID y [cF ry,cJJ YX SeqAt.EqAt.same aB (SeqAt.EqAt.none_bool b) aB (SeqAt.EqAt.none_int b t) aB (SeqAt.EqAt.none_str b t)] a [cF ry,cJJ aB (SeqAt.EqAt.bool_none a) aB (SeqAt.EqAt.bool_bool a b) aB (SeqAt.EqAt.bool_int a b t) aB (SeqAt.EqAt.bool_str a b t)] a aBC eVM SeqAt.EqAt.int_none SeqAt.EqAt.int_bool SeqAt.EqAt.int_int SeqAt.EqAt.int_str a eVM SeqAt.EqAt.str_none SeqAt.EqAt.str_bool SeqAt.EqAt.str_int SeqAt.EqAt.str_str aGz fy
noncomputable def eqU(x:V)(u:bU):gE:=match u with|uH=>eqV iE x|aJM=>eqV Hh x|cPU=>eqV zF x| .str z _=>eqV EQ z x|_=>bI
theorem bh_{x y:V}{u:bU}(r:BZ)(f:cTQ):eqU x u=cHm:=bA bID y aKH b aKH i aHE (by rfl) z (by rfl) aGz f
theorem aon{x:V}:ZN xs aN us eQ RH cRS (us.any cBa=eEf)|_,_,eF,_=>rfl|y::xs,u::us,Yp,f=>bK dA aTY Jc f jS Rb Rb eDp (aon t f.2)
theorem aku{A:cM}{s:bC}{x:V}{v:bU}(rx:Uv)(fx:cNO):aYh xs aN RH zQ cRS u us cR9 u v (eqU x u)|_,_,eF,_=>bG u hu bA cF hu|y::xs,u::us,Yp,f=>bG u' hu bL dA aTY Jc f aEe hu oS aH eDp aB (btq r rx f.1 fx) aB (aku rx fx t f.2 u' hu)
noncomputable def inV(x:V)(xs:aN):gE:=eEf
inductive b37(K:aL)(neg:gE)(x:V)(y:V)(H:Hp)(Q:VK):aE|mk p xs(_:y=iW)(_:(bC0∨bTR))(_:cNO)(_:cRS)(_:BR (if neg then ! eB3 else eB3)):bT2 b37 K neg
noncomputable def rIn(K:aL)(neg:gE):R2:=VD bT2 b37 K neg
theorem az8:Bu In (rIn X.K bI):=fCv SeqAt.in_listAt SeqAt.in_tupleAt
theorem a2a:Bu bFa (rIn X.K aY):=fCv SeqAt.notIn_listAt SeqAt.notIn_tupleAt
theorem aal:aVE VL pL p ys aHW iW (dWX∨bRy ys) cHK aCX ys:=kK aC1 QX p ys hq q h cYq cF rx aG fin LO its eQ cA dWe cKU Nb h' aU c' cA kQ b o' bIF o' MA dBb o' bUh fJ uS c' aPE HA NG (fun its r' hz h' c' kp e=>(cVr bYb I.laid kp lB dOW ys hz its r' e)) iA hq hq hq Ae dWT bB5 eUF FZ fCN xR dWU bB5 eUF pl fCN Tj
theorem i4:aVE To (∃p ys,xs=[iW]∧(aGj dWX cHK rE l bAo bRy ys vD iW)):=jX aC1 jF p ys rfl h h cYq cF rx aTI h hq q bA4 dWT bB5 aI (call_tuple_list FZ mR h' kp dLH) bD I1 aAY NG bXK I.kept kp I2 yS rE Rc bAo GM (h'.push EL Zi seq uS) bYb I1.laid aRh lB iR Uz _ _ _ bAo aT hz bR its r' qR IsTup.new aB aCN cI Rc I2 q aYZ dWU aB (call_tuple_same pl aGZ iW q)
noncomputable def tyV(K:aL)(T:uR)(x:V)(H:Hp):aE:=aLt x Hs (T=aSZ) ZX (T=bXX) iW Fn T yI (∃xs,bC0) Fn T Zi wF o Ay bDS o cOA dRj Fn T Qc ((bNZ MQ GN)∨bNZ MQ ES) (T="set"∧∃S n,MQ eEp) _ oJ
theorem bh'{bH:dM}{σ:St}{H:Hp}{s:bC}{T:uR}{x:V}{v:bU}(I:dQ)(r:Uv)(ty:tyV X.K T x H):s.TypeIs v T∧iJ a (v=jT) cTE dRq ob:=bA fFu z fFt aSZ typeIs_str z int i fFt bXX typeIs_int i cF r (by rcases ty with⟨rfl,xs,hq⟩|⟨rfl,o,hk,hc,hd⟩|⟨rfl,hk⟩|⟨rfl,S,n,hk⟩) Yf (by obtain(⟨its,_,pl,_⟩):=aH2 hq) aI aT dDa mR a e kU aK0 o n e c hd pl lH o e hd aI aT bR o (aAy p o hk) hc mR a e kU lH o (aAy _ o hk) hd bA5 aG z Xs GS p o bDQ bK aTI hk kvs hk fP eSX lH o e ex eSX lH o e ex cS o e ex z eRW cF e2 lH o e ex.2.1 eAS ex dLt eRW cF e2 lH o e ex.2.1 Aw ty
noncomputable def cbo(K:aL)(T:uR)(r:FP)(to:TE):TE:=eQP eG8
noncomputable def tBM(K:aL)(T:uR)(r:FP)(to:TE)(t:TA):TE:=eQP MS t xs cRw xs
variable{o e:bZ}{es:mD}{to:TE}{t:TA}{tF:Str}{CK zT:Pos}{T id:uR}{r:FP}
theorem bia:∀{X:Cx}{o:bZ}{to:TE}{tF:Str}{CK:Pos}{zT:Pos}{T:uR}{id:uR}{r:FP}(pa:dVJ)(XF:ePG)(hty:eRt)(hm:eL5)(ho:dSK)(aAB:autoParam (bDk tF) EE.autr._auto_1)(aAC:autoParam (bCY) EE.autr._auto_1),pJ aYj tF [] (cbo X.K T r to):=vM (by intro X o to tF CK zT T id r pa XF hty hm ho aAB aAC) _ KE Q dJ (wpAny_Call_method0_late aAB aAC aWz) eYo _ eZM aB jO T id yB pa XF hty h1 h2 (Calls.callWith_builtin rfl (PySem.evalArgs_none (hm bH s1 σ H1 x [] v [] Q I1 r1 eF q1)))
theorem jp:∀{X:Cx}{o:bZ}{e:bZ}{es:mD}{to:TE}{t:TA}{tF:Str}{CK:Pos}{zT:Pos}{T:uR}{id:uR}{r:FP}(pa:dVJ)(XF:ePG)(hty:eRt)(hm:eL5)(ho:dSK)(ha:aEp)(aAB:autoParam (bDk tF) EE.autr._auto_1)(aTZ:autoParam (cZ5 UU UU) EE.autr._auto_1)(aAC:autoParam (bCY) EE.autr._auto_1)(hs:autoParam (Zb) EE.autr._auto_1)(aT0:autoParam (bIy aXK es) EE.autr._auto_1),pJ aYj tF UU (tBM X.K T r to t):=Gf (by intro X o e es to t tF CK zT T id r pa XF hty hm ho ha aAB aTZ aAC hs aT0) _ KE Q dJ (wpAny_Call_method_late aAB aTZ aAC rfl aWz) eYo _ eZM aI jO T id yB pa XF hty h1 h2 ?_ aJ hA (ha zT bH s1 σ H1 _ I1 q1) yJ hs hA aI (Calls.callWith_builtin YL ((bI||(aXK es).any wL)=bI) aJf aH aT0 (Calls.evalArgs_plain ?_)) aB aW9 hA bUV us vs r2 cFw hm vs us Q r1 r2 q2
end
end L2
namespace L2
open PySem PySem.Spec PyProof.Rows
noncomputable def MtM(X:Cx)(id:uR)(r:FP):aE:=∀(bH:dM)(s:bC)(σ:St)(H:Hp)(x:V)(xs:aN)(v:bU)(us:eQ)(Q:VK),eQG
theorem Vals.a9_{x:V}{xs:aN}{us:eQ}(h:UR aRb):eQU:=eLG
theorem Vals.none_{us:eQ}(h:UR []):us=[]:=vC tT
theorem Vals.one:aYh x V UR [x] eFI:=cN iX x us h eYM sE (Vals.none_ h0) WF u0 r0
theorem Vals.two:∀{x y:V}{us:eQ},UR bPP→cIQ v [u,v] aUS v:=Ac vR x y us h eYM QX u1 us1 r1 h1 (Vals.a9_ h0) sE (Vals.none_ h1) jO u0 u1 uN r0 r1
theorem Vals.zero:JY us eQ UR [] (us=[])|_,eF=>rfl
theorem Vals.dropLast{xs:aN}{us:eQ}(h:RH):IZ dDc us.dropLast:=cU6 aB eF Mx t aB eF q t' RU r ih
theorem a9'{α:cJ}(l:eK):l.eraseIdx (iS-1)=l.dropLast:=aBI l (by rfl) a r bRf r b WD (List.cons a) ih
section
variable{X:Cx}{bH:dM}{σ:St}{H:Hp}{s:bC}{l b:aA}{xs ys zs:aN}
theorem Inv.bm2{its aTQ:eQ}{n:Nat}{f:qA→qA}{t':Nat}(I:dQ)(hH:Ia)(e:dTs)(hf:f uS=its'.toArray)(hv:IZ ys aTQ)(hz:cKU):yS aCX ys Kk eDI f t':=cN aJ q (PySem.IsL.update e f) aF hf q aI (I.write (x:=l) (e:=l) gG hH aKY xR kI b' u hb hu pZ (Heap.get?_update_other kO (Obj.mapSeq f) (bEm hb)) hu gJ q ?_) dL hz yA aTQ aT hv q
theorem Inv.cbp{its:eQ}{t':Nat}(I:dQ)(hv:dWe)(hz:cKU):yS EU fJ ys Kk (dCX EL yI seq uS) t':=bFj bMB lB aT hz uJ its 0 hv GR
theorem Inv.fresh(I:dQ):nZ fJ:=Mm
theorem Inv.a_a(I:dQ)(hH:Ia):NT∧eWk (dF=Ra) dTs:=QY bU4 VJ l hH z VX its n r wN e
theorem a6c{n:Nat}(h:bAv):dDf n=bI:=iV aV dDf aKJ iP
end
section
variable{X:Cx}
inductive a6d(x:V)(vs:aN)(H:Hp)(Q:VK):aE|mk l xs y(_:Nt)(_:IV y)(_:Ia)(_:dF<vO)(_:aHN aCX dRV):aHr a6d
noncomputable def bm3:FP:=aSd a6d
theorem dv:MtM X dDg bm3:=vM bUC eYW hz cF rx cXe bDz dPt F.slot_list_append F.entry_list_append F.args_list_append_2 (PySem.list_append l uS n u bRY) eO e (its++[u]) (r.append aRq ru) aQ fA bFq mG
inductive a6e(x:V)(vs:aN)(H:Hp)(Q:VK):aE|mk l b xs zs(_:Nt)(_:IV vF)(_:Ia)(_:eB7)(_:cSx)(_:dWR):aHr a6e
noncomputable def bm4:FP:=aSd a6e
theorem uw:MtM X dDh bm4:=FI bUC dAx cF rx cXe cF ru bDz fBc bD hsz eGb eD4 bib eSd eUf fAz (AutoSeq1.list_extend_list_list_0 l uS n b aAD n2 bib bRY iP) aH fA mG
inductive brd(x:V)(vs:aN)(H:Hp)(Q:VK):aE|mk l xs y(_:Nt)(_:bOn)(_:Ia)(_:kC xs (dF-1) y)(_:Q y aCX dDc):aHr brd
noncomputable def cbq:FP:=aSd brd
theorem bic:MtM X "list.pop" cbq:=qF bUC eYW hy cF rx aJ hus rv.zero bB hus bDz cS u hu ru (r.get hy) dR hy' kC uS (TX-1) u gT bW kC uS (Ra-1) u aFq bFs hl hu (call_meets F.slot_list_pop GI e F.entry_list_pop (F.args_list_pop_1 _) (MeetsSeq.list_pop_last l uS n u hy' bRY) eO e) HK yA y cH (I.bm2 (its':=its.dropLast) hH e ?_ r.dropLast ?_) ru q bW (its.toArray.eraseIdxIfInBounds (TX-1)=its.dropLast.toArray) cE zO List.eraseIdxIfInBounds_toArray a9' aH List.length_dropLast mG
inductive bre(x:V)(y:V)(H:Hp)(Q:VK):aE|mk l b xs zs(_:Nt)(_:Bq)(_:Ia)(_:eB7)(_:cSx)(_:bRh (xs++zs)):QU bre
noncomputable def b39:R2:=aD9 bre
theorem qo:OpR X (binaryOp .Add) b39:=qF aCd dAx cF rx cF ry bDz fBc aI (PySem.P.add_list e e2 ?_ eD4) aG ea (uS++aAD=Jh dL4) aX DS ea aCN aQD (I.cbp (t':=s.toks) dLL uE fA mG) q I.fresh
end
end L2
namespace L2
open PySem PySem.Spec PyProof.Rows
theorem Vals.bls:cPH bs aYz bXm Cw (us=bXm bVI):=cLE bs cY us h aF Jb h tT (by rfl) b [cY us h,aF rC h,bMS cF r aQ (ih t) rC]
theorem Vals.bm5{a:aA}{us:eQ}(r:UR [bH5]):us=[bOR]:=bA bIK r [cF t,aKH]
section
variable{X:Cx}
end
section
variable{X:Cx}
end
theorem a6g{eJ:aM}{w:aK}{A:cM}{E:cU}{s:bC}{l:aA}{iK:qA}{Q:cU}(hl:aEt)(h:∀s₂:bC,jW (s₂=GM aZr) (s₂.heap.IsListIter fJ l 0∧s₂.heap.IsList l iK) (l≠fJ) (Q HA s₂)):cOI BK:=tQ aG hlt (l<fJ) bK aAc e hl Gm wpAny_pyIter_list hl (h _ rfl aT aIW (hl.push _) dUR)
theorem ar6{eJ:aM}{w:aK}{A:cM}{bs:aYz}{its:eQ}(e:its=bXm bVI):TruthOf eJ w A vE v YU uS VW cHW:=fun i v s Q E hv hq=>jX aG hv' YU its lX hv dA e kB hv' cNP b hb hv' bD hg (bs.getD i bI=b) dR6 aQ aLB hb hq' (Q cHW s) hq aF hg hq' aB (aTP hq')
theorem any_range:eRT ((aGs Ji).any) bs.any:=fAf Rb OI
theorem all_range:eRT ((aGs Ji).all) bs.all:=fAf aTY bYe
section
variable{X:Cx}
inductive brj(K:aL)(vs:aN)(H:Hp)(Q:VK):aE|mk(a:aA)(bs:aYz)(_:aDS)(_:eEQ)(_:BR (bs.any id)):Tz brj
noncomputable def cbu(K:aL):LH:=aEy brj
inductive brl(K:aL)(vs:aN)(H:Hp)(Q:VK):aE|mk(a:aA)(bs:aYz)(_:aDS)(_:eEQ)(_:BR (bs.all id)):Tz brl
noncomputable def cbv(K:aL):LH:=aEy brl
theorem am_(hc:KP):cWm "any" cbu:=fDM call_any_walk any_range
theorem bie(hc:KP):cWm "all" cbv:=fDM call_all_walk all_range
end
mutual
inductive Dp(K:aL)(H:Hp):lR V bFt|fu:WT iE uH|bl(b:gE):WT Hh aJM|int(i:Int):WT zF zF|str(x:Str):WT KR KR|lst{a:aA}{xs:aN}{ds:aZ9}:cTs DQ xs WT jT aDI ds|tup{a:aA}{xs:aN}{ds:aZ9}:cTs SE xs WT jT aDH ds
inductive az'(K:aL)(H:Hp):lR aN aZ9|nil:az' K H [] []|jR{v:V}{vs:aN}{d:bFt}{ds:aZ9}:cTs WT v d vs (az' K H (v::vs) (d::ds))
end
section
variable{X:Cx}{bH:dM}{σ:St}{H:Hp}{s:bC}
mutual
theorem Dp.reads(I:dQ):TB d bFt v V u bU cA Tn Dp v d CF (∃as,Reads kO u d as)|uH,_,_,h,r=>bCy cF r Reads.none|aJM,_,_,h,r=>bCy cF r (Reads.bool b)|zF,_,_,h,r=>bCy aHE (Reads.int i t)|KR,_,_,h,r=>bCy aHE (Reads.str x t)|aDI ds,_,_,h,r=>fCh lst (by obtain(⟨its,rv,⟨o,n,ho,hc,_,hd⟩,_⟩):=aH2 hs) Reads.list|aDH ds,_,_,h,r=>fCh tup (by obtain(⟨its,rv,⟨o,ho,hc,n,hd⟩,_⟩):=aFm hs) Reads.tuple| .Pu _,_,_,h,_=>bA tT
theorem Dp.readsAll(I:dQ):TB ds aZ9 vs aN us eQ cA Tn az' vs ds aD4 (∃as,ReadsAll kO us ds as)|[],_,_,h,r=>bCy cF r ReadsAll.nil|d::ds,_,_,h,r=>bA aRl h h1 h2 cMm r r1 r2 cX as q1 (Dp.reads I d _ _ h1 r1) cX bs q2 (Dp.readsAll I ds _ _ h2 r2) aB gJ (ReadsAll.cons q1 q2)
end
end
section
variable{X:Cx}
inductive brm(K:aL)(x:V)(y:V)(H:Hp)(Q:VK):aE|mk d e(_:WT x d)(_:WT y e)(_:bOO d)(_:bOO e)(_:BR eBu):Up brm
noncomputable def cbw(K:aL):R2:=aRv brm
inductive brn(K:aL)(x:V)(y:V)(H:Hp)(Q:VK):aE|mk d e(_:WT x d)(_:WT y e)(_:bOO d)(_:bOO e)(_:bPq eBu):Up brn
noncomputable def cbx(K:aL):R2:=aRv brn
theorem bih(hu:bSz):cEH Eq cbw X.K:=fCu SeqAt.compareEq_shaped
theorem btr(hu:bSz):cEH bXT cbx X.K:=fCu SeqAt.compareNe_shaped
end
end L2
namespace L2
open PySem PySem.Spec PyProof.Rows
noncomputable abbrev bii(h:aU)(c:aA)(v:Mn):aE:=h.IsCell c v
noncomputable def cby(gM sc:oX):oX:=uT gM wM cWD scope.names.map fZ cFE k AC (n,BO) bBT
noncomputable def d9(aAE:AE):cA Wx AE AE|[],acc=>acc|bBT::r,acc=>fZ (k==AC) (d9 aAE r ((n,Ma cLU)::acc)) (d9 aAE r acc)
theorem a2b(env:Env)(f:cA (Str×bFm) AE (Sem (ForInStep AE)))(hf:∀n k c,f bBT c=fZ (k==AC) (do let a←cellOf env n;pure (.yield ((n,a)::c))) Th (.aAF c)):qG wM Wx acc AE (kJ y wM dTT→forIn wM acc f=pure (d9 dDk wM acc)):=aPP wM cY acc _ aH aAG (by rfl) p_ r [aN0 n k,cY acc h,aQ aFr hf,aJ ih bT acc (ih acc ZB aVU h y hy),aV d9,bQ hk aNe k bFu,Nn Oc hk hk cX c hc (h bBT XN cLA) aG e (cellOf env n=Ii c) Oq cellOf hc aH e aG e2 ((env.cells.lookup n).getD 0=c) DE hc aH e2 YX ih [FK hk hk,YX ih]]
theorem awp{gM:oX}{env:Env}(h:∀y∈BE,dTT):closureFor gM env=Th (d9 dDk BE []):=aN5 lO closureFor (a2b env _ eSD BE [] h)
theorem mem_lookup{α:cJ}:Vl l aUF α n Str c α cOf l MF c' l.lookup n c'|bIh::r,n,c,h=>uE bFv Uq hb (n==k) aB rK [bTz,oS kU eM hb jN mem_lookup]
theorem akv{aAE:AE}:aAs wM Wx acc AE n Str c aA (cOf cSo→JB cOf acc eJn (c=(cLU).getD 0)):=bVg vR _ _ _ h bOi m vR acc n c h cV d9 h pG h aD2 uW hk aG hk (k=AC) cLA ePJ oS bTz oS kU nF NP eAl bOi nF aT bQ8 h2 ePJ dE bOi nF aT bQ8 h2
theorem a6h{aAE:AE}:Vl wM Wx acc AE p dUX dTb (p∈cSo):=bVg iX _ _ h aB h m iX acc p h aV d9 oY eHA
theorem aey{aAE:AE}:Vl wM Wx acc AE n Str eJn ((n,Ma cLU)∈cSo)|(m,k)::r,acc,n,h=>qS d9 bTz fP kU aB (a6h XN) oY dE jN aey jN aey
theorem r8:∀{wM:Wx}{h:aU}{acc:AE}{x:Str}{c:aA},dY7→bMC acc∨(dZ eGy (SM≤c) (bii (dDl h wM) c aS)):=GO wM ED _ _ _ _ h bOi p_ r [aN0 n k,ED h acc x c hm,cV aTU hm,aV dDl,pG hm,Gi uW hk qX hk aG hk (k=BO) cLA zP eNk hm eZi fP VM hm e hm oS kU nF cH eAl lB GI (pushCells_keeps r _ _ _ GR) sQ hm aF Jg h2 nF cH bQ8 (Nat.le_of_succ_le h2) h3 [uW hk,jJ hk,eZi,Hz hm cH bQ8 h2 h3]]
theorem a0a:eWG p dUX dTb (p∈bMN n):=bVg vR _ _ _ h aB h m vR n acc p h aV aTU oY eHA
theorem aqh:eWG x Str eGy (∃c,bMC bMN n)|(m,k)::r,n,acc,x,h=>qS aTU bTz fP kU dL n (a0a XN) oY dE jN aqh jN aqh
theorem bei:∀{wM:Wx}{h:aU}{acc:AE}{x y:Str}{c:aA},qQ kJ p acc (p.2<SM) Dz x y c bMC acc cGM acc (x=y) dY7 cGM bMN SM (x=y):=bVg (by intros _ _ _ _ _ _ hi h1 h2) aB cTZ hi n (by intros h acc x y c hl hi h1 h2) (by unfold aTU at h1 h2) pG h1 SJ uW hk aF iF hk h2 (by rw[←eNk]at h1 h2) Fw (ih (h:=h.push _) aZp aBF x y c a b h1 h2) aH Jg aEe hp aDc YX Nat.lt_succ_self Nat.lt_succ_of_lt (hl p hp) oT iA (bEh a) e a iA (bEh b) e' b FJ kU cF e' (by rfl) kU Nj (hl _ b) oS cF e' Nj (hl _ a) aB Dq hi a b uW hk aF eC hk h2 aB (ih hl hi h1 h2)
theorem a6i{M:BC}{A:cM}{E:cU}{s:bC}{gM:oX}{bYf:aA}{bFw:AE}{sW:Str}{func:yH}{code:bU}{around:Env}{dDm:aA}{Q:UI Env}(h:Q eZf newEnv fJ bYf cBd xC bFw GM bSh):aIm eZf newFunctionEnv bYf bFw [] Q:=jX BB newFunctionEnv dDn aAj aNj wpAny_alloc gX (wpAny_layCells _ eSD BE bFw _ _ ?_) aH iR ((GM bTX:bC).heap.objs.size=xC) cJ6 aH aAG Gg aPd h
theorem akw{sc:oX}:Vl wM Wx x Str k bFm rT ((cWD names.map fZ cFE k bFu (n,bYg) bBT).lookup) k eY k' rT names.lookup k' (k=k'∨(k'=AC∧k=BO))|[],_,_,h=>vN|dTl::r,x,k,h=>bL aJ ih (@akw sc r x k) aG h' (aFp x ((nN cSJ (n,bYg) dTl)::(r.map _))=aO k) h Uq hx (x==n) [wP bFv hx,Hd hc cSJ,bA5 aF iF hc h' bUs cF h' ON Jc bYh hc WF k₀ fF NP hc.1.1 aF eC hc h' bUs cF h' aB sS xR] [wP bFv hx,Hd hc cSJ,wH aF iF hc h' bUs aB (ih h') aF eC hc h' bUs aB (ih h')]
structure a6j(N:iQ)(sc gM:oX)(own:aJD):aE where
 mK:bYi=Ui
 uniq:∀y∈BE,cHq
 ix:∀p∈own,eLX
 OE:∀y∈BE,y.2=AC→eK5
 own:∀y∈BE,y.2=QH∨y.2=BO→dNr∨dLf
noncomputable def wipe(σ:St):aR→St|[]=>σ|v::vs=>(Ki).set v aS
theorem ar7(σ:St):∀vs:aR,bV Ki=aTJ:=cGz vs v aV wipe aQ dDo ih
theorem a0b{σ:St}{i:Nat}{x:V}:JY vs aR gH Ki aHc (dUi∧i∉vs):=GO vs bY h dL h aX v vs [bY h,cV wipe h,bQ hi (v=i),wH bB hi bQ hv (v<bV Ki) fP aF aXo hv h tT aF (List.getElem?_eq_none lX hv) h tT aF (List.getElem?_set_ne hi) h cX h1 h2 (ih h) dL h1 QY wP aE8 Zx tO (hi aK1) h2]
noncomputable abbrev Cx.blk(X:Cx)(s:bC)(H:Hp)(gM:oX)(cenv:Env)(fp:bM):Cx:={X with s_0:=s,H_0:=H,env:=cenv,lG:=OP,ex:=fp,fn:=Uu (scope.names.lookup x) cBH,pn:=[],xe:=Uj}
section
variable{X:Cx}{bH:dM}{σ:St}{H:Hp}{s:bC}
theorem a6k:∀{X:Cx}{bH:dM}{σ:St}{H:Hp}{s:bC}{gM:oX}{own:aJD}{fp:bM}(I:dQ)(ok:bUk)(hN:YB)(hfp:∀b∈fp,aZh∧b<fJ),Inv cAS bH1 cPa fJ [] cIY H GM bSh:=FI XZ X bH σ H s gM own fp I ok hN hfp _ sX TN y BE aZg RM y hy e eP7 eMi Jj a6l bH1 cPa fJ cenv bD kp cQ9 bSh wC cMx aB0 hL (aT2=fJ) cPZ HJ hcl cenv.cells cPa cPZ hsc dDp (cby gM aLK) cPZ zP (Jg kO dG2) hcl zG cm dXr (aRK∧c<fJ) YF y c hm bK eRb xG cF hm cX c hc (TN _ h1 rfl) aH hc cX w z cB Qr hc Nf z.lt mem aIs y c aXT aGj aRK (c<fJ) (xC≤c) (bii bSh c aS) YF y c e bL aF hcl e (by rcases cNe r8 with hm|⟨_,h2,h3⟩) jK sQ (cm hm) Qh h2 h3 aF Jg h2 nF aT h2 h3 look aOj y aW6 eY c aXT aRK (fun{y}hl=>kK aG hy ((y,bFu)∈BE) (aTV hl) eNV (a0a (names:=scope.names) (n:=Bx bTX) eAU hy) zP hcl e' aI jA c' e' aF hcl e' (by rcases r8 (aTV e')with hm|⟨h1,_,_⟩) xG aB ((cm hm).1) Ch h1 bN eBg aF hl aP cF aP) okB ((cAS cenv).Ok) cN NO ⟨bE6,aPN cenv.scope.kind aH hsc aLP,aPN cenv.globals hM a6l bE9,aPN cenv.builtins hM a6l dCP,JT bW (fJ≤aT2) hL aBo,?_,?_,?_,I.ok.hd,bX2,xR,JX NR,aLL,cQ4,?_,?_,bX3,bX4⟩ [iC y z c e1 e2,aDm aXT e1 (cenv.cells.lookup z=aO c) e2,vQ hcl e1 e2,oE (bei aZp fBo a b ((cm a).1) ((cm b).1) dPU e1 (aTV e2)) Jg,aB (Nat.lt_succ_of_lt (cm (y:=p.1) (c:=p.2) hp).2)] aKo bW dYH aG key RA k cEd k eKp dYH kK lJ k hk hk' cV Env.kindOf hk aF hsc hk eV2 eV (k'=BO∨k'=AC) bK dDq r rfl rfl dE aB hk' nF rfl aP5 aP wH eP c hm (aqh (n:=Bx bTX) (acc:=Kv) dQs) eP c' e' (mem_lookup hm) dL c' gG hcl e' aFs c h1 (look e) _ dL c h1 cWM dE bCg hy xR bCg hy Tj Yf qW y c z e oQ z aNe dSB aO bYg z z bHU BO lX z e aXT e aF hcl e (by rcases cNe r8 with hm|⟨_,h2,_⟩) SC dDq (akv hm) hm h1 xG cF hm Ch h1 gQ q eBg aF z q cF q fH h2 aF Jg h2 aB (Nat.le_of_succ_le h2) bW pY aT2 aH hL aB (SW dUZ) SJ qW y c e z cT4 eLv PF fH h1 aB ((uI hfp).1.2.2.2.2.1 y c h1 z) [fH h1,aG h2 (xC≤b) DK z h1,Nj (dBZ dUZ (Nat.le_of_succ_le h2))] qW b o e hb zI aBX ((uI hfp).1) dE aB tJ I.ok.bhs e z eEE aN1 bXD z qB lJ b hb z VM dSA z z dE pH ((uI hfp).1.2.1) pH ((uI hfp).1.2.2.1) BH eTS okB jA aPI ?_ ?_ ?_ ?_ ?_ ar7 bW (Heap.Ns _ aT2 _) aH hL aB (Heap.Ns.keeps (Heap.Ns.new ..) wC cMx e) [Ge i y av e1 e2 e3,eP e2 hne (a0b e2),aSS hfr eQ7 cN bD key RA k UO cenv.scope.names.lookup k (k=QH∨eKp) eQ7 kK lM k hk hk' gQ hk0 hk aF hsc hk eV2 AR no (k'=QH∨k'=BO) bL bE hh iA cRP ok.own e hh e' e' JM dG p hp hpy (Qg e') aJ e3 (bFx p hp) eV (p.1=y) hpy aF aP e3 aB (hne (aTm bR p hp (aoj hN e3 e1))) aB (e' Oh e1) LL r rfl rfl rfl KO aKC hk' dE BJ xR no BJ Tj no dU dL e fF hk0 dL e gB hk0 e3 (Vis dDp y) e3 Iv e3 e3 e3 dE bCg e3 xR bCg e3 fF xR dU bCg e3 fF Tj m hn hl OQ,aSS cbz (Vis aLK y) ((cRP ok.free bYj rfl).elim yE fF aPJ yE fF fF k) w r q (hl i y av e1 e2 cbz),aI bR w r fF eO hfr.2,dG c h1 h2 (look bYj),dDr q k c' e' z,Bj fH k aG k cQ0 k oT oT iA cRP ok.free bYj rfl k' k' aF iR (X.env.scope.names.lookup y=_) k' k cF k AS c' e' z aF h2 e' cF e' lH c h1 dTU] SJ lJ y c e cT4 (by rcases mem e with⟨h1,_⟩|⟨_,z⟩) FJ fH h1 eP w z (Qr y c h1) dL w dTU fH z aB gJ z bW nZ aT2 aH hL cKg lB aD2 lJ y c e cT4 eLv PF fH h1 aB (aTL y c h1) [fH h1,cKg (Nat.le_of_succ_le h1)] dD p hp BJ iR (p∈dXN) hp aX
theorem bts{E:cU}{D:aA}{xs:aN}{y:V}{v:bU}{Q:cU}(I:dQ)(hD:aGC D)(hz:dF<vO)(r:aUS v)(h:cPb EU D dRV uH):bLD dTF [Vm,v]:=fN qM hz' its n ri e VJ D hD aJ hl ri.length gZ (append_at (hsz:=bRY) e pX h' sb ho') (h NG (I.write (t':=s.toks) uE hD (by trivial) xR BG u hb q pZ dRi q gJ ho' aT gG fA hz jO (its++[v]) mI eO (ri.append (.jR r eF)))) aH ho' cG
noncomputable def PTs(X:Cx)(ifs:mD)(t:TT):aE:=bCD Xw cGy eZz (do let ok←isTrue c X.env (eval c X.env);pure (ForInStep.yield ok))
noncomputable def bm6:TT:=aKn vD aY
theorem oy:PTs X [] bm6:=aZC (wpAny_tests_nil bR H I h)
theorem aam{c:bZ}{t:TT}(h:PT X c t):PTs X [c] t:=eFT wpAny_tests_one
end
theorem bej{α:cJ}{t:bPR}{Q Q':cK3}{M:BC}{A:cM}{E:cU}{s:bC}(h:UH M A t Q Uj)(hQ:ePP):eFe:=dIY h hQ
theorem a2d{eJ:aM}{w:aK}{A:cM}{R:bAy}{s:bC}{elt aFl TV:bZ}{ifs:mD}{gM:oX}{pos:Pos}{it acc:bU}{env:Env}(I:UI Nat)(IQ:kQ n s (I n s) UH LY eJ w A (bFg it) Nk s₁ xJ r aS (R dRd s₁) VT bBY (dCW aFl it v) wO s₁' bBY (assign aFl env v) wO s₂ bBY eZz (do let ok←isTrue c env (eval c env);pure (ForInStep.yield ok)) bG ok s₃ nN ok bBY bCM elt YW s₄ bBY dTF [acc,x] wO s₅ bUA (I m s₅) s₄ s₃ bUA (I m s₃) s₂ s₁' s₁ dHH)(n:Nat)(h:I n s):cWu (.compLoop cB2 aFl 0 it acc env):=jX aI (codeAny_loop rfl I pX n s hI n h) DC A ((compTurn cB2 aFl 0 it acc env).onRaise tL (do noteFrame x env;theTreesLotGoes x)) rG wpAny_noted aH compTurn_list cOo wpAny_standAt aCm (IQ n s hI) pX r s₁ h₁ h' h' aUN r NS h₁ v [gX aCm h₁ aAu s₁' h₁' ?_ h' h',gX aCm h₁' aAu s₂ h₂ cW8 h₂ pX ok s₃ h₃ h' h',bTI ok NS kD h₃ Gg cW8 h₃ fR x s₄ h₄ cW8 h₄ aAu s₅ h₅ aPd kD h₅]
section
variable{X:Cx}
noncomputable def tLc(wi:TI)(g:TG)(tt:TT)(te:TE)(vs:aR):TE:=eMT aZu
theorem bbr{bH:dM}{s:bC}{σ:St}{H:Hp}{Q:VK}{elt tg TV:bZ}{ifs:mD}{gM:oX}{own:aJD}{pos TQ:Pos}{wi:TI}{g:TG}{tt:TT}{te:TE}{use:uZ aH3 (Sem aLN)}{Qf:cU}(hc:KP)(hN:YB)(I:dQ)(hi:bTN)(ok:bUk)(hg:cXp)(ht:cXS)(he:cXR)(hs:bVf)(h:fBk Q)(hRR:∀D C s' m H',qQ aON UF Vm (s'.heap.Ns C m) Tq H' C (compPost aCz X.A Cu use Qf Vm C dRd s')):ZA (comprehension aR7 gM pR TQ dS7 bI Sw TV use) Qf:=by rw[sX TN y BE aZg bL iX y hy e eP7 eMi,aI (wpAny_comprehension_free (use:=use) rfl hs (awp TN) aLP bK iX y hy e aQ Fe ok.uniq e (j7 Sd hi fR xv s1 hx ePX hx)),by(obtain(⟨it,fp,tn,J,H2,e,I2,T,st2,f2,q⟩):=h2),bB e,aI (aLX (a6i ?_) aFU 0),Jj hD aFt D,aG hDn eBm (I2.hok.fresh (bEe hD)),by(obtain(⟨W,⟨m0,w0⟩,IQ⟩):=q D hDn),Jj hs3 (aNZ s2 (s2.heap.push EL yI seq eAR):bC) s3,bD I3 yS aXJ s3 cN hM hs3 aI (I2.laid (t':=s2.toks) aRh bNX hD aT mJ jO [] 0 eO eF) hM hD cRY h3 (bYk=s2.heap.push EL yI seq eAR) bA hM hs3,sX sz b fp (b<aFt) bL aC4 IP o e cW1 st2 Gm,sX f3 b fp (Tq aXJ b∧b<Cy) Ac aC4 aJ hlt uI sz aI aT Wm dUY iV aQ h3 Jg Nat.lt_succ_of_lt hlt jV iV hM hD SW hlt aUX f2,aG st3 (tn 0 bYk) eQo st2 uE h3 cMe e,ZZ I4 (a6k I3 ok hN f3) pg cZx hg pt cZx ht pe cZx he,bW (codeAny _ _ (.compStart aR7 0 NF Vm eEv) fBA dWK),sX nfp b fp Sv aXJ JX ((uI f3).1.1),by(generalize hce:eEv=ce at I4 pg pt pe⊢),aG cL (bYl=Cy) vC bB hce,by(generalize hH3:aXJ=H3 at I3 I4 pg pt pe w0 nfp f3),by(generalize hs4:(dWK:bC)=s4 at I4⊢),oQ st4 (tn 0 s4.heap) eQo st3 DK hs4 cMx aB0 a93 Vl σ' St H' Hp s' bC bNy aPC [] σ' dZq (aaj aPC [] H' b) (fun{σ' H' s'}I' hn b hb=>(yB uI hn aUX I'.ok.exf uI I'.ok.bht gB hb YM x c ((uI I'.ok.exf).2 x c e) dOa dXN)) loop aH5 aCz X.A (.compLoop aR7 0 NF Vm ce) fBA s4 cN aI (a2d cO1 eYJ n ?_ m0 Us 0 H3 I4 st4 nfp w0) (by rintro(n)(s5)(⟨i,H5,I5,st5,n5,w5⟩)) bE8 (IQ i n H5 w5) TU qq go Nx hNx zS bAb fCJ td T.done TU vI bej td eAO s6 I6 bB hr bD I7 yS H5 s6 (I3.b3f (ch:=fp) I6.os I6.base I6.hok I6.bare dOD ((uI f3).1)) nC (H5 Cy=aS) gT aG z (H5 bYl=aS) I6.free aF cL z z IP m hn I6.loc aG hn (s6.heap.Ns bYl m) hn aF cL hn aB (hRR D Cy s6 m H5 I7 qq hn (I3.aqd lB nC)) [fCJ ti T.item go,vI bej ti,fE5 s6 h6,vI bej h6,by rintro(_)(s7)(⟨x,H7,I7,r7,y7,st7,n7⟩),aJ I7' (I7.pinned (a93 I7 n7) cB T.obj st7),vI bej (pg _ s7 _ H7 x u _ I7' r7 (step x H7 y7)),by rintro(_)(s8)(⟨σ8,H8,I8,hw8,q8⟩),vI bej (pt _ s8 σ8 H8 _ I8 q8),bFb b s9 H9 I9 q9,aG fin ZN s' bC H' Hp bNy aPC ([]++awj fp dCZ) σ8 (Nx H') bUA eYJ m (fun{s' H'}I' nx=>cN cS m' hm w' (hNx H' nx) sX b4a b fp iJ o uF s7.heap.get? (uF s'.heap.get?∧aN6) cWW (let z:=dOO I'.pin;aT z.1 z.2.1) aG hl (bV cIY=σ8.length) aQB hw8 ar7 Fw bR m' hm Us eG H' ((I'.aok (pins:=[])).weak hl ?_) cGh st7 cWW ((eJX).1) ?_ w' iX j v e zP hw8 e aB aB5 a0b aC4 IP o e cW1 st7 aB ((eJX).2)),aLl b bI [by simp only[aAH,Rf]at q9⊢,aB (fin I9 q9)] aY [dDt aAj q9,vI bej (pe _ s9 σ8 H9 _ I9 q9),by rintro(z)(s10)(⟨yv,H10,I10,r10,acc,cb2,cb3,nx⟩),aB (bts (X:=aPC) I10 cb2 cb3 r10 bG s11 I11 (fin I11 nx))]],aB (codeAny_compStart_list loop (T.self X.A 0 _ _ _ st4 loop))]
theorem vg{elt tg TV:bZ}{ifs:mD}{gM:oX}{own:aJD}{pos:Pos}{wi:TI}{g:TG}{tt:TT}{te:TE}(hc:KP)(hN:YB)(hi:bTN)(ok:bUk)(hg:cXp)(ht:cXS)(he:cXR)(hs:bVf:=by rw[bVz]):pJ aR7 eZd:=Ac oR Q h aH eval_ListComp aI (bbr hc hN I hi ok hg ht he hs h fun D C s' m H' I' q hn f=>bR m hn mR h'' sb) bHI f Fh Vm H' (I'.turned (t':=s'.toks) aKb f0 f1 f3 f4 f5) q
theorem akx{i:Nat}{y:Str}{py:Pos}{elt tg TV:bZ}{ifs:mD}{gM:oX}{own:aJD}{pos spos:Pos}{wi:TI}{g:TG}{tt:TT}{te:TE}(hc:KP)(hN:YB)(hy:cNL)(hyl:cQ0)(hsw:cC7 aR7 aO bTq spos.line aY)(hi:bTN)(ok:bUk)(hg:cXp)(ht:cXS)(he:cXR)(hs:bVf:=by rw[bVz]):PS X (.Assign [bTq] aR7 spos) eDt eZd:=FI oR D h aH GP exec_Assign_Name_used hsw gX (wpAny_standAt (aLQ ?_)) DC X.A (do let _←comprehension (.ListComp elt [⟨tg,iter,ifs,0⟩] scope pos) scope X.env (firstIterPos [⟨tg,iter,ifs,0⟩] pos) (newList []) false (eval iter X.env) (some (assign (.Name y py) X.env))) aG h fBk aFT x (a53 i x σ H1 aFj) h gX (j7 (bbr (Qf:=wO s' eNP (.aEV)) hc hN I hi ok hg ht he hs h fun L C s' m H' I' q hn f=>?_) aAu s' hq aPd hq) ZG _ (assign bTq pR cI L) _ aI (wpAny_assign_Name (az2 (v:=yW L) I' hN hy gB hyl rfl (fun s2 I2⟨a,sb,ha⟩=>?_) fF hyl)) bHI f dR haC (C≠a) bK zI ha oS aH z aB f1 aB tO (f4 y a z aK1) bR m (hn.sameBut sb haC) mR h3 sb3 aB uJ _ H' (I2.turned (t':=s2.toks) aVW sb3.2 f0 f1 f3 f4 f5) q
theorem aoo{elt:bZ}{gs:iU Comprehension}{gM:oX}{pos py:Pos}{y:Str}{l:Nat}{env:Env}(hk:env.scope.kind=Ui)(hy:UO env.scope.names.lookup QH)(hl:aNe py.line bFe)(ha:(cWD scope.names.any (n==y&&(k==QH||k==BO)))=bI):dCV UN dDs elt gs gM aO bTq l env=pure aY:=SI bD ky UO env.kindOf QH hy hb (env.blockKind=Ui) aP2 Env.blockKind hk dCV Ix hb ky ha (show(Expr.ListComp elt gs gM pos).pos=pos from rfl) hl (by rfl)
end
noncomputable def b4b(N:iQ)(sc gM:oX)(own:aJD):gE:=eRJ&&dWy&&(own.all bT p lT eLX)&&(fCU eLo eLo)
theorem fh:∀{N:iQ}{sc gM:oX}{own:aJD}(h:b4b N sc gM own=aY),a6j N sc gM own:=by
 intros N sc scope own h
 unfold b4b at h
 simp-iota only[Bool.and_eq_true,List.all_eq_true,decide_eq_true_eq]at h
 rcases h with⟨⟨⟨h1,h2⟩,h3⟩,h4⟩
 refine ⟨?_,h2,h3,?_,?_⟩
 · revert h1
   cases scope.kind<;>intros q<;>first|rfl|cases q
 · intros y hy e
   have q:=h4 y hy
   rw[e]at q
   revert q
   cases sc.names.lookup y.1 with
   |none=>intros q;cases q
   |some k=>cases k<;>intros q<;>first|exact .inl rfl|exact .inr rfl|cases q
 · intros y hy e
   have q:=h4 y hy
   have q:(decide (y.1∈own.map (·.1))||decide (y.1∉N))=true:=by rcases e with e|e<;>(rw[e]at q;exact q)
   simp only[Bool.or_eq_true,decide_eq_true_eq]at q
   exact q
end L2
namespace L2
open PySem PySem.Spec PyProof.Rows
section
variable{X:Cx}
end
end L2
namespace L2
open PySem PySem.Spec PyProof.Rows
section
variable{κ:cJ} [cAH κ]
noncomputable def cy(kvs:wK)(k:κ):bJ:=NA cAR kvs.find?
noncomputable def putK(kvs:wK)(k:κ)(v:V):wK:=nN aIY (bYm bT kv cFe (LU,v)) dXV
theorem j8{p:cOz}{r:wK}{k:κ}(e:p.1=k):cy (p::r) k=aO p.2:=eHp
theorem i_{p:cOz}{r:wK}{k:κ}(e:¬p.1=k):cy (p::r) k=cy r k:=eHp
theorem qc(k:κ):∀kvs:wK,aIY=cJ2:=cNt kvs p r aH Rb aXR jB LQ aDO dQr Bool.true_or dDn cE aDP dQq dDu aB ih
theorem bij(k j:κ)(y:V):∀kvs:wK,cy cVT j=aQ1 cGX jI j k y x:=eD0 kvs p r aH rC bQ h (p.1=k) wH qX h vL p.1 j dE jS aQz j8 (p.1,y) aDO IK bMr e.symm.trans cE aQz i_ (p.1,y) aDP ih jJ h vL p.1 j dE jS (j8 (p:=p) e) aDO IK cEE e.trans cE (i_ (p:=p) e) aDP ih
theorem bek(k j:κ)(y:V):ZW kvs wK aKy eJW (kvs++[(k,y)]):=aPP kvs bY _ vL k j fP qX aK1 aB aQz j8 (k,y) jJ oO e z.symm aB aQz i_ (k,y) p r [bY hn,aH Qj,AR hk (p.1=k) lV bK aF (j8 z) hn cF hn,aF (i_ hk) hn,aJ ih (ih hn),vL p.1 j,dE cE aDO aDO eC UP hk e.trans cE aDP aDP ih]
theorem ab3(kvs:wK)(k j:κ)(y:V):eJW bBm:=qS Jk Hd a aIY Ae aQ iF a bij aF qc a vL j k fP cX x hx (Option.isSome_iff_exists.mp a) AZ Vn e hx IK tU jJ e bQd cGX x aQ IK WE jJ a aI (bek k j y kvs ?_) aF qc a Ej q JZ x [aF q a,aBH (a rfl)]
theorem wc(kvs:wK)(k:κ)(v:V):eHP:=qS Jk oY fP aH cK mG cE fA qZ aEZ mG
theorem ur{kvs:wK}{k:κ}(v:V)(h:aKy):Jk kvs k v=dXV:=qS Jk aQ qc h aB (Zn iB)
theorem ajy.abf{o:bJ}{u:Mn}(r:eKN):aT3=u.isSome:=eLH bQd u _ bNm (by rfl)
theorem ajy.getD{o:bJ}{u:Mn}{d:V}{d':bU}(r:eKN)(rd:RelV d d'):RelV dQI (u.getD d'):=eLH aPb u aB rd _ bNm aB r
theorem KV.val{kvs:wK}{vs:Pi}(r:VZ)(k:κ):ajy JZ (bFz vs k):=bK cV KV r cXD cUT fAV bOX aZl bFz aQ aDO b eZV bFz bOX qs aQ aDP b
theorem KV.any{kvs:wK}{vs:Pi}(r:VZ)(k:κ):aIY=dTi:=eKb jS Rb Rb ih h.1
theorem KV.repl{kvs:wK}{vs:Pi}(r:VZ)(k:κ){y:V}{u:bU}(ry:BZ):KV cVT (vs.map bT kv cFe (LU,u)):=bK XT KV r dW4 aQ rC rC aI cUb cUT aXR fP eIW dL h1 ry aQ WE eC bMK dL h1 h2
theorem KV.put{kvs:wK}{vs:Pi}(r:VZ)(k:κ){y:V}{u:bU}(ry:BZ):KV bBm (stored vs k u):=cN mW Jk stored aH (r.any k) Hd e dTi fP aQ Vn Vn eLQ aQ WE WE bL1 r kD ry
theorem KV.length{kvs:wK}{vs:Pi}(r:VZ):oK=uU:=cMD
end
theorem aop{P:aM}{w:aK}{k:Key}{u:bU}(r:eQm):(aWX).is k u=aY:=bA bEf k inl i [fEg bCf,aB (a50 P w i t)] inr x [fEg bR1,aB (a51 P w x t)]
theorem bel{P:aM}{w:aK}:cPH ks yU bFA kV (ItemsAre aWX ks us):=cLE ks cY _ r aF Jb r cF r aB eF k [cY _ r,aF rC r,aRl r h t RU (aop h) (ih t)]
noncomputable abbrev KT(H:Hp):lR jQ Pm:=eHK eT2
theorem KT.val{H:Hp}{kvs:jQ}{xs:Pm}(r:aY8)(k:yU):eOb aR4:=bA cXD IE h1 h2 h fAV cBL aZl aT4 aQ aDO b eZV aT4 cBL qs aQ aDP b
theorem KT.repl{H:Hp}{kvs:jQ}{xs:Pm}(r:aY8)(k:yU){y:V}{u:bU}(ry:BZ):KT H cVT (Zg (bFB k u)):=bA bKd aB eF [aQ rC rC,aI cUb,cS h1 h2 h3 h,aV bFB,aXR,fP eIW aB bSs ry aQ WE eC bMK aB cH h1 h2 h3]
theorem KT.put{H:Hp}{kvs:jQ}{xs:Pm}(r:aY8)(k:yU){b:aA}{y:V}{u:bU}(hb:aQ7)(ry:BZ):KT H bBm cI0 k:=fN eTJ aR4 dXP aH e bQ q sN aR4 fP Oc q q eLQ FK q q eJV
theorem KT.keeps{H H':Hp}{kvs:jQ}{xs:Pm}(r:aY8)(ht:kQ b ys JA bAo oA b bAo):KT H' kvs xs:=xS r cTA eBc
section
variable{P:aM}{w:aK}{H:Hp}{h:aU}{a:aA}
theorem bro{u:HO}(ok:RQ)(e:aNS u):bDj u:=e.ok ok
theorem aoq{kvs:sT}(ok:RQ)(e:bQx):cQp:=eHc GN
theorem brp{kvs:sT}(ok:RQ)(e:aD1):cQp:=aoq ok aQK
theorem agc{ks:yU}(ok:RQ)(e:BL dST):(aZv).is h ks a:=dB (by obtain(⟨_,its,r,o,h1,h2,n,h3⟩):=(bNJ dST (ok a _ e))) kF o uS n gY h1 h2 h3 lX (bel r)
theorem ar8:dAq a kvs jQ cOg eGJ:=QJ cY1 a kvs aLY z y xs r o es ep h1 h2 h3 h4 h5 eHc ES dJ cH z y bR xs r aQn o eTR bSw h5 aG all Pq l jQ m Pm zQ (KT H l m) x m ((aZv).is h x.1 VS) kX lM l m q bIo q [Zq x hx,aB cCF hx] p q ps qs hq [by delta p q ps qs hq t ih,_,SH,VM hx e hx,oS bB e aB (agc ok DK hq.1 hq.2.1) aB (ih x hx)] aB (all r x hx)
theorem a6n{kvs:jQ}(ok:RQ)(e:Yc):eGJ:=ar8 ok aQK
end
noncomputable def mw(H:Hp)(a:aA)(y:V)(r:bJ):aE:=(pL kvs k bQx aSh (r=JZ))∨∃kvs k b,jU cOg Bq aQ7 (r=JZ)
noncomputable def ags(H:Hp)(a:aA)(y v:V)(H':Hp):aE:=(QG kvs k aD1 aSh aD5 (H'=dSs))∨∃kvs k b,eX Yc Bq aQ7 aD5 (H'=cNx)
theorem mw.k{H:Hp}{a:aA}{kvs:sT}{k:Key}(e:aD1):bJv (kV k) JZ:=gB jO kvs k aGw aQK
theorem mw.t{H:Hp}{a b:aA}{kvs:jQ}{k:yU}(e:Yc)(eb:aQ7):bJv vF JZ:=fF kF kvs k b QZ aQK eb rfl
theorem ags.k{H:Hp}{a:aA}{kvs:sT}{k:Key}{v:V}(e:aD1)(hl:aD5):bSG H (kV k) dSs:=gB jO kvs k QZ e hl rfl
theorem ags.t{H:Hp}{a b:aA}{kvs:jQ}{k:yU}{v:V}(e:Yc)(eb:aQ7)(hl:aD5):bSG H vF cNx:=fF kF kvs k b nP e rfl eb hl rfl
section
variable{X:Cx}{bH:dM}{σ:St}{H:Hp}{s:bC}{a:aA}{y v:V}{u r:bU}{o:bJ}{A:cM}{E:cU}
theorem Inv.big(I:dQ):Zf<fJ:=tQ aG h (Ih<fJ) ((I.mod.glob.keeps aAv).lt) Nat.lt_trans iB h
theorem bem{Q:cU}(hu:SF)(I:dQ)(g:bJv y VT)(ry:BZ)(h:bNC aIA UQ v w'):aCb (getItem jT u):=cFK aA7 bB ey bLq cS w' hw rw' bN8 bOX vs eNn aB (wpAny_getItem_of aQk bFD hw (h w' _ PY rw')) [bB ey,bLm,cE9,cS w' hw rw' bN8 NA aR4 eNn,cS p hp hp2 (dCw hw),oE (wpAny_getItem_heap aXX aYi dd hp ?_) hp2,aB (h w' _ PY rw')]
theorem cb6{Q:cU}(hu:SF)(I:dQ)(g:bCG)(ry:BZ)(h:aPw aIA Kr aT3):eJE (.In):=fDF wpAny_in_of wpAny_in_heap
theorem bm7{Q:cU}(hu:SF)(I:dQ)(g:bCG)(ry:BZ)(h:aPw aIA Kr (! aT3)):eJE (.bFa):=fDF wpAny_notIn_of wpAny_notIn_heap
theorem aor{h':aU}{t':Nat}{ob:HO}(I:dQ)(mu:Mut (H a))(hs:cUD h')(he:bKu q a)(new:Uz aGB ob h' a ob):yS aGB ob aPf:=I.write (x:=a) (e:=a) mu xR eOc uI hs.2 he new
theorem btt{P:aM}{w:aK}{H':Hp}{h':aU}{kvs:sT}{vs:dSR}(z:cBJ)(hd:bIL)(rel:VZ)(dd:h'.DictOf aWX a vs):cYV H' GN:=(cH z hd bR vs rel dd)
theorem ben:∀{X:Cx}{bH:dM}{σ:St}{H:Hp}{s:bC}{a:aA}{y:V}{v:V}{u:bU}{r:bU}{A:cM}{E:cU}{H':Hp}{Q:aJr}(hu:SF)(I:dQ)(g:bSG H y H')(ry:BZ)(rv:UQ v r)(h:aPw aON ()),aCb (setItem jT u r):=wA (by intro X bH σ H s a y v u r A E H' Q hu I g ry rv h) (by rcases g with⟨kvs,k,e,ey,l,eH⟩|⟨kvs,k,b,e,ey,eb,l,eH⟩) bAb (by delta kvs k e ey l eH) _ LP ey eH bUB z vs ZM brp cY6 bAw aT5 dT0 aI (wpAny_setItem_pairs (hsz:=hz) aQk dd ?_) eU6 aG he bKu q a bTc q _ hq dd' bM2 aB (aor I bM5 hs he (btt hl hd (rel.put k rv) dd')) [by delta kvs k b e ey eb l eH,_,LP ey eH,bLm,bUB z xs ZM a6n,cY6 NT cNR dT0,aI (wpAny_setItem_heap (hsz:=hz) aXX aYi dd ?_),eU6,eWr,eZv dYS,jV (ii ec e lV aU2),aB ec]
end
section
variable{X:Cx}{bH:dM}{σ:St}{H:Hp}{s:bC}{a:aA}{kvs:sT}{k:Key}{u:bU}{A:cM}{E:cU}
theorem b4c{Q:cU}(I:dQ)(e:bQx)(h:kQ t s' aIA (Q YO oK s')):bKN aEO Bc:=cN bLq aI (call_len_dict hd dd eGS mG ?_) hM aT5 aB (h _ _ (I.tok _))
end
noncomputable def btu(i:bZ):aE:=∀ov iv,subscripted i bI ov iv=cHU [ov,iv] ov iv
theorem bbs{eJ:aM}{w:aK}{A:cM}{E:cU}{s:bC}{env:Env}{EI Qz:bZ}{pos:Pos}{T id:uR}{Q:cU}(hl:eJ1)(hs:btu Qz)(h:dZw bCM EI bBX bCM Qz vE s₂ (s₂.TypeIs o T∧bBX (getItem o i) Q s₂) s₁):FE bCM Kg aLU EI Qz:=vM aI (Subscript_ eQI o aZt h₁ pX i s₂ h₂) cX hT h₂ h₂ aV subscriptTail gX ?_ aH (getitemInPython_of_ne hT.not_modules) aXE hT hl aG fin bBX (subscripted Qz bI o i) Nk s₃ bBX (letTemporaryGo EI o r>>=eZ (Ii r)) Q s₃ s₂ DR (hs o i) wpAny_operating aZt h₂ fR r s₃ h₃ (wpAny_bind (wpAny_letTemporaryGo (Cv h₃))) aOf NS cJU fin Gg aGK fin Gg fin
theorem a6o{X:Cx}{bH:dM}{σ:St}{H:Hp}{s:bC}{a:aA}{y:V}{o:bJ}(I:dQ)(g:bCG):cSq:=bK (by rcases g with⟨kvs,k,e,_,_⟩|⟨kvs,k,b,e,_,_,_⟩) fP bFk vs dd ZM aoq aB Jl bFk xs dd ZM ar8 aB Jl
inductive bik(Q:VK)(x:V)(y:V)(H2:Hp):aE|mk a v(_:rN)(_:dVA)(_:RK v):ePx
noncomputable def b4d(td ty:TE):TE:=Yi aHV ePx
inductive brq(Q:VK)(y:V)(x:V)(H2:Hp):aE|mk a o(_:rN)(_:cRr)(_:RK pI aT3):bUb brq
noncomputable def cb7(ty td:TE):TE:=cW7 bUb brq
inductive a6p(Q:VK)(y:V)(x:V)(H2:Hp):aE|mk a o(_:rN)(_:cRr)(_:RK bOw aT3):bUb a6p
noncomputable def bm8(ty td:TE):TE:=cW7 bUb a6p
inductive bil(D:yO)(σ:cO)(v:V)(x:V)(y:V)(H3:Hp):aE|mk a H4(_:rN)(_:bSG H3 y H4)(_:Dy H4):fAc
noncomputable def brr(td ty tv:TE):TS:=eJI fAc
section
variable{X:Cx}{o i e EI:bZ}{pos TQ YD:Pos}{td ty tv:TE}
theorem re:∀{X:Cx}{o:bZ}{i:bZ}{pos:Pos}{td:TE}{ty:TE}(hu:Ny)(ho:Ni)(hi:aYd)(hs:btu i),Ev aLU o i (b4d td ty):=dPx yN X o i pos td ty hu ho hi hs eTq aCn u x H1 rx dJ aDf hi iv y ry v dL (a6o I2 g) (bem hu I2 g ry cYw v)
theorem awq:eKJ (.In) cb7:=fCF cb6 pI dDv
theorem zt:eKJ (.bFa) bm8:=fCF bm7 bOw dDv
theorem xo(hu:Ny)(ho:Ni)(hi:aYd)(hv:cQT)(hs:dZm):bUF cIW EI (brr td ty tv):=fN oR D h aR8 wpAny_Assign_Subscript hv aSk r v rv eVg (fun iv s3⟨y,H3,I3,ry,a,H4,ex,g,q3⟩=>?_) hs bB ex Vh aB (ben hu I3 g ry rv bG s4 I4 eJi q3)
end
theorem bip{P:aM}{w:aK}{H:Hp}(h:aU)(hb:Zf<SM):eXA QM:=(eRn (Heap.DictOf.new h))
theorem a6q{P:aM}{w:aK}{H:Hp}(h:aU)(hb:Zf<SM):eXA tP:=(eRn fAs)
noncomputable def btv:TE:=aKn bRi QM
noncomputable def btw:TE:=aKn bRi tP
section
variable{X:Cx}{pos:Pos}
theorem aky:cWq btv:=eYV QM (bip kO bYo)
theorem aan:cWq btw:=eYV tP dYU
end
noncomputable def a2e:cA bTd St aF0 dQM|[],_,H,Q=>vD []|(tk,tv)::r,σ,H,Q=>Jy tk x cNl (a2e r σ H2 bG ps H3 (Q eJc H3))
noncomputable abbrev VV:lR aAX V dSS:=eHK (UQ p.1 q.1∧dVe)
noncomputable def PPs(X:Cx)(pos:Pos)(iT:iU aQI)(values:mD)(trs:bTd):aE:=bIS Q dQM Ou a2e trs ZA (evalPairs (pairTrees iT values pR pos)) bG vs s' bUx ps (VV ps vs)
theorem bm9{X:Cx}{pos:Pos}:cTD [] [] []:=aCA Q h (pairTrees_nil_walk eG6)
theorem biq{X:Cx}{pos:Pos}{k v:bZ}{ks:iU aQI}{vs:mD}{tk tv:TE}{trs:bTd}(hk:eBO)(hv:dU8)(hr:cTD ks vs trs):cTD (aWn::ks) (v::vs) ((tk,tv)::trs):=aCA Q h (pairTrees_cons_walk (j7 Sd hk aSk u x rx bKc hv w2 y ry (j7 aZJ hr aAx ws s3 ps H3 I3 rel q3 VX eJc H3 I3 (.jR aT rx ry rel) q3)))
structure M1(X:Cx)(o:bZ)(m:Str)(CK:Pos)(e:bZ)(zT:Pos):aE where
 aW:bDk m
 few:cZ5 [e] ([e]:mD)
 line:bCY
 trees:aXK [e]=aBB Sn
structure M2(X:Cx)(o:bZ)(m:Str)(CK:Pos)(e f:bZ)(zT:Pos):aE where
 aW:bDk m
 few:cZ5 bBz (bBz:mD)
 line:bCY
 trees:aXK bBz=[(bI,Sn),(bI,Sw f)]
noncomputable def IsD(H:Hp)(a:aA):aE:=(bNZ bQx)∨bNZ cOg
theorem a_b{X:Cx}{bH:dM}{σ:St}{H:Hp}{s:bC}{a:aA}(I:dQ)(d:IsD H a):dZ cSq iJ b dXR vF cTE bIF ob bIL:=bK aTI d kvs e cMu eAV vs ZM aoq eOE cF q eSZ cVY eAV xs ZM ar8 eOE cF q eSZ cVY
section
variable{X:Cx}{bH:dM}{σ:St}{H:Hp}{s:bC}{a:aA}{y d:V}{u r:bU}{o:bJ}{A:cM}{E:cU}
theorem bty{Q:cU}(hu:SF)(I:dQ)(g:bCG)(ry:BZ)(h:bNC aIA eHE o.getD):cQa [jT,u]:=fAb oE bNB cLX (meets_dict_get bCW a aQk hd) eBC l cM5 oE bNB cLX eEw bTO hd eQ0 l
theorem btz{Q:cU}(hu:SF)(I:dQ)(g:bCG)(ry:BZ)(rd:RelV d r)(h:dXl dQI):cQa [jT,u,r]:=fAb dXo (meets_dict_get_default bCW a aQk hd r) eBC eA4 dXo (meetsH_dict_get_default bTO a b hd r) eQ0
end
inductive bbt(ty:TE)(σ:cO)(Q:VK)(x:V)(H1:Hp):aE|mk a(_:rN)(_:bCE)(_:aHV Xs cRr RK (o.getD iE)):bRo bbt
noncomputable def bt0(td ty:TE):TE:=Yi bRo bbt
inductive bbu(ty tx:TE)(σ:cO)(Q:VK)(x:V)(H1:Hp):aE|mk a(_:rN)(_:bCE)(_:cXn Xs (mw H3 a y o) (Q (o.getD z) H3)):aSA bbu
noncomputable def bt1(td ty tx:TE):TE:=Yi aSA bbu
section
variable{X:Cx}{o e f:bZ}{CK zT:Pos}{td ty tx:TE}
theorem bir(hu:Ny)(ho:Ni)(he:bPM)(m:eZN):cPV [e] (bt0 td ty):=fBP bUq aDf he bFh iv s2 y H2 I2 ry ov g q2 aB (bty hu I2 g ry cYw _)
theorem aos(hu:Ny)(ho:Ni)(he:bPM)(hf:eBP)(m:fAm bYp):cPV bBz (bt1 td ty tx):=fBP bUq bKc he iv y ry (bX0 JF aZJ hf) bFh fv s3 z H3 I3 rz ov g q3 aB (btz hu I3 g ry rz kI w' s4 I4 rw' VX _ H3 I4 rw' q3)
end
end L2
namespace L2
open PySem PySem.Spec PyProof.Rows
theorem akz:cKt aEP zW aEP:=wR
section
variable{X:Cx}{bH:dM}{σ:St}{H:Hp}{s:bC}{h':aU}
theorem Inv.bm_{t':Nat}{ch:bM}(I:dQ)(k:dZG)(hf:∀b∈ch,aZh):cLd:=bL aG nit bQz aYS eU0 aI fC6 eAM AW e e Je e e dYP SC cZL dXK bSx hf eKG zI hc cZo
theorem Inv.agt{t':Nat}{ch:bM}{T:aA}{ob:HO}(I:dQ)(k:dZG)(hf:∀b∈ch,aZh)(hT:fJ≤T)(new:Uz eBT h' T ob):yS eBT aPf:=cN bD hn aHA (bE7 hT) nit bQz aYS eU0 HK fC6 cYK ?_ dWd UM u ?_ dTY cOB aHb aN1 hT aB n jV MY hn aB e fP jV MY hn aB e aQ (aq MY hn) e cG fP cZL aB aXf o (k _ o bSx hf ho) r bQ hb (b=T) Ae bB hb aF ah e kU aB new aRe hb cIi u v cIR q eEY dZf zI hc cZo
theorem Inv.lock:∀{X:Cx}{bH:dM}{σ:St}{H:Hp}{s:bC}{d:aA}{u:HO}(I:dQ)(h:Fc u)(mu:bSX),∃od,yS bR0 s:=jX yN X bH σ H s d u I h mu gQ x (TM d u h) aG ex MF od bVO d od bA (by cases u with|lst xs=>rw[eAI,aB gJ e]|dK kvs=>rw[fEp]|dT kvs=>rw[fEp]|set S n=>rw[eLr,dL o e]|ins C dx fs=>rw[eAJ,aB gJ e]|ext φ=>rw[eAK,aB gJ e]|_=>rw[Aw mu]) eP od e ex aG new Uz bR0 kO d aNf bA Fw aT e (x.stay aEM b v q q ?_ ?_) dD b q eMo aB q lJ b xs q eMo aB q dL od (I.write (x:=d) (e:=d) (t':=s.toks) (h':=s.heap) gG h mu xR aEM b v q q aT od e new)
theorem Inv.a6r{d:aA}{u:HO}(I:dQ)(h:Fc u)(mu:bSX):eKh:=YM o' u' sR aJ q (dCO d o' u' e) aF h q cF q mu
theorem Inv.unlock{d:aA}{od:Obj}{u:HO}(I:dQ)(h:Fc aNf)(hn:eKh):yS rE d u s:=fN bD neH aF8 DI (∀o' u',o≠dMd) pY d sR ED b o e hne z dA z h e kU cB hne rfl neN cOR pY d bL iX b e z dA z h e kU Wv OD I.ok I.os aFi zM dCK dCN eXy I.base.there dWd UM x ?_ aXA ?_ OQ Qr ?_ cRg aZp bPe Qs jV (neN b bUe) aB (I.base.free b o e n hx) aJ q eCx jV bLs b aB q FJ aJ q dRF x jV gT bY z aF z e cB hn e aB q cX m q eCy dL m vH bLs b q fP jV (neN _ aAw) aB aAw jV (neN c cGS) aB (aTL x c e) fP cS e n r cEA aB cH e vH (neN _ n) n r bQ hb (b=d) bA4 dA hb ah e kU aH hb bDR x cUp eZg x.stay aRe hb eZg ((MR I.hok).stay)
end
inductive bis(t:TS)(D:yO)(σ:cO)(H:Hp):aE|mk d u(_:Fc u)(_:bSX)(_:∀od,t sC cWr aFj ML H' cFk (D.rt v cE4) cWr D.bk cWr D.ct σ bR0):eNF
noncomputable def b4e(t:TS):TS:=Lq eNF
inductive bbx(t:TE)(σ:cO)(H:Hp)(Q:VK):aE|mk d u(_:Fc u)(_:bSX)(_:∀od,t σ bR0 bG v H' cFk (Q v cE4)):Ou bbx t
noncomputable def bt2(t:TE):TE:=Ry Ou bbx t
section
variable{X:Cx}
theorem aum{st:cC}{t:TS}(h:cR4):PS X st (b4e t):=fN oR D hw eZl eK7 aI dOm eTN cZq cZM cWJ brk Zp cZM cWJ v Cd x σ' H' I2 r e q q aB kF x σ' _ bBc cFA e
theorem aun{e:bZ}{t:TE}(h:cNg):Uf e bt2 t:=jX oR Q hw eZl eK7 aI JF eTN (by rintro(v)(s1)(⟨x,H1,I2,r,e2,q⟩)) aB yA x bBc cFA e2
theorem awr{tg:bZ}{bH:dM}{σ:St}{H:Hp}{s:bC}{R:CD}{J:It}{tn:bRV}{tk:Nat}(I:dQ)(o:Obj)(T:eWF [fJ] fJ)(st:tn 0 (dCX o))(q:R J H):PIE X bH σ tg R HA Kk cA7 o tk:=cN aI Ua fJ [fJ] tn J H aCh (I.kept MG ob aB0) T st Wb q aCP fJ bB e aB (I.aqd lB Mm)
end
noncomputable def RgC(i j c:Int)(n:Nat):aE:=jU (c≠0) (c.natAbs<bXR) (Builtin.Range.small i j c=aY) eCi i j c
theorem RgC.neg{i j:Int}(ha:wD (-BY))(ha':i<BY)(hb:cQI)(hb':j<BY):RgC i j (-1) LT (i-j):=(gY iB iB (PySem.W.small_down ha ha' hb hb') (PySem.W.rangeSize_downNat i j))
noncomputable def Itv(K:aL)(a:aA)(n:Nat):It:=bHS vE H (QN∧dJ0 DQ eF6) x bIO iJ xs DQ eF6 LR i aDh
theorem biu{P:aM}{w:aK}{K:aL}{tg:bZ}(a it:aA)(n:Nat):aZH (Itv K a n) (cGp∧h.IsRevIter it a (GY-1-aVd))where
 mem:=aX
 obj:=eJ5 (by obtain(⟨_,o,e,c,d⟩):=st)
 sF:=aDw aT Cz Md ((st.2).at) e aPh o e
 OR:=bN2 HN DW qM hin xs x hq hx hg aKu aSC WJ bDR hit st LC (GY-1-JR) cZ (n-1-i) iP aF e1 hit eSL wpAny_pyNext_rev_item hit aXm e2 aDd (n-1-i) (GY-1-aIx) iP st' aQm NG aNr aKb bC1 o c d eWd aT hin st'
 pS:=kK HN DW WJ cX hin hit st bD hge aDh hg e1 (GY-1-JR= -1) iP aF e1 hit aB (wpAny_pyNext_rev_end NH hit aZx cE6)
 AY:=aZK (wpAny_pyIter_revIter Da h)
inductive brs(K:aL)(R:CD)(vs:aN)(H1:Hp):aE|mk(a:aA)(xs:aN)(_:pM)(_:aEv)(_:aCw (Itv K a dF)):aOp brs
noncomputable def ccb(K:aL)(ta:TA):TI:=bCa brs
section
variable{X:Cx}{tg:bZ}
theorem a6s{e:bZ}{ta:TA}{p pos:Pos}(hg:cNG)(hm:cM8)(ha:bQY)(hs:autoParam (bTB) EE.autr._auto_1):aOo aBy aEP [e] (ccb X.K ta):=cTF bC6 akz cZc e bB e [fEF,aRM,LC aDd TX (fM dF-1-aXs) cEo,gZ (call_reversed_list bYq (wpAny_pyIter_revIter (l:=a) (i:=aDd TX) aIW ?_)) cFz (biu a _ dF) eO mJ,hM e1,aB gJ aGw GR]
end
noncomputable def Its(x:Str):It:=bHS LR i (i<aFu) v bIO DD c bFE c (v=EQ cS9) LR i wD aFu
theorem a6t{P:aM}{w:aK}{K:aL}{tg:bZ}(it:aA)(x:Str)(t:Tok)(ty:uR)(hty:ty=dDx∨ty=dDy):aZH (Its x) (h.IsStrIter it ty x t i)where
 mem:=aX
 obj:=eMf eII lH o e eGT d
 sF:=aDw Zo o ho r st bR o aPh o ho r
 OR:=qF HN DW WJ bD W (Walks pC X.w X.A it [it] [it] aFu (SignAt x) vE h (h.IsStrIter it ty x t i)) Wo iA hty e e aH e aB (Walks.strAscii NH it x t) aH e aB (Walks.strWide NH it x t) hno dQ2 ty Wo iA hty e e aH e jL aH e jL fBR jF c u hcx rfl hv aQm aEd fAB bC1 oi cc dd aB sS (az3 (s:=aEd) e cc dd hno cDq EQ cS9 NP u kD MZ c hcx st')
 pS:=jX HN DW WJ aC9 hx rW bFE (Array.getElem?_eq_none hg) iA hty e e fP aF e st aB cYB wpAny_pyNext_ascii_end hx aF e st aB cYB wpAny_pyNext_wide_end hx
 AY:=bL (by intros A i s Q E st h) iA hty e e fP aF e st aB (wpAny_pyIter_striter_ascii st h) aF e st aB (wpAny_pyIter_striter_wide st h)
inductive brt(R:CD)(v:V)(H1:Hp):aE|mk x(_:v=KR)(_:aCw (Its x)):eMY
noncomputable def ccd(te:TE):TI:=aVj te v eMY
theorem bt3{X:Cx}{tg e:bZ}{te:TE}(he:Xb):aOo e (ccd te):=eMM bFh v s1 y H1 I1 r1 x ex q zZ t r1 (by cases ha:x.cps.all (·<128)) dE aB (wpAny_pyIter_wide ha eVk dDy Tj) aB (wpAny_pyIter_ascii ha eVk dDx xR)
section
variable{eJ:aM}{w:aK}{A:cM}{E:cU}{s:bC}
theorem a0c{d:aA}{o:Obj}{es:WR}{ep:Nat}{Q:cU}(hd:bBy)(ho:GS d o)(hc:bDQ)(aL0:aP4)(hQ:eVb bFF):cOI KL:=Ze dR hT eIQ bR o ho hc.1 (wpAny_pyIter_slot hT dDz aV8 dDz hT F.entry_dict_iter F.args_dict_iter_1) aV Builtin.«dict.__iter__» gX ?_ aV Builtin.Dict.dictSlotNone dTe hT DC _ (Ii (Ig d)) Ud dSP aV dDA jJ gG hd aFn aW3 ZD bFG ho aL0 ZD dDB ho aL0 gX (aLX (Cv sS yA bFF pD bL6 dDC)) aE4 aTR hQ
theorem ayv:∀{eJ:aM}{w:aK}{A:cM}{E:cU}{s:bC}{it d:aA}{i n ep:Nat}{od:Obj}{es:WR}{en:aTd}{Q:bAz}(hit:dWZ)(hod:bB8)(hdd:aKl)(hsz:OT=n)(hx:bP3)(hQ:eRX h'.IsKeyIter bYr),bTM:=Ze (by intro eJ w A E s it d i n ep od es en Q hit hod hdd hsz hx hQ) _ nQ o ho hc hd (id hit) eYs fD7 fEX [aH hown,cDr cAV,cDB cAV,dKw wpAny_dictEntries] fER fEq [by dsimp only,aH (if_neg (iR (¬(fM i<0)) iP)),aH aTX,aH (Array.getElem?_eq_getElem hlt'),by dsimp only,cII] Nr wpAny_isOneOf_keyiter OU eYr dR aqi aXi ((cFt).IsKeyIter) eG eX7 aHD aFv fEG wpAny_isOneOf_keyiter (es[i].key) fEr
theorem aot{it d:aA}{i n ep:Nat}{od:Obj}{es:WR}{Q:bAz}(hh:Bk)(hit:dWZ)(hod:bB8)(hdd:aKl)(hsz:OT=n)(hge:aDh)(hQ:cYO it):bTM:=Ze jF o ho hc hd (id hit) eYs fD7 fEX [aH hown,cDr cAV,cDB cAV,dKw wpAny_dictEntries] fER cJP aG cce wD OT gG hsz hge [by dsimp only,aH (if_neg (iR (¬(fM i<0)) iP)),aH aTX,aH (Array.getElem?_eq_none cce),by dsimp only,cII] eQW eSu fEZ cKa bQu cNM ?_ [by unfold raiseNew,oE aHD wpAny_handled dNI] fEz eNE
end
theorem biv{κ:cJ}{kvs:wK}{vs:Pi}(h:VZ):Vl i Nat k κ v V bCv DD u vs (k,u) CF:=aQE KV fCC vR i k v e vR i k v e [fE4,aI bR b.2 ?_ r.2,lO dDF,aB (congrArg uQ (Prod.ext oU r.1 rfl))]
theorem bo{α β:cJ}{G:tZ}{l₁:eK}{l₂:DM}(h:eMu):eR7 gH l₁ a l₂ yZ G:=bA fCC iX i a e iX i a' e [fE4,WF b r]
theorem a6u{k:Key}{u:bU}(h:cQU u):eQm:=Ax bDv (m9 h) dL t rfl dL t rfl
section
variable{X:Cx}{bH:dM}{σ:St}{H:Hp}{s:bC}{d:aA}{o:Obj}
theorem Inv.bt4:∀{X:Cx}{bH:dM}{σ:St}{H:Hp}{s:bC}{d:aA}{o:Obj}{kvs:sT}(I:dQ)(h:Fc bIi),eUb SN es WR ep Nat vs dSR (Bw=aVa∧AG OT oK VZ (s.heap.DictAt bCW d vs ep)):=FI eWq _ aLY hd z hs vs kv o' es ep ho hx hdt r cUp _ aF hd ho cF ho aI eMk kF es ep vs gY hdt ?_ kv Us o es hd hx hdt r aJ l1 bV r.2.1 aG l2 (oK=uU) Ff kv aF aFk l1 mG
theorem Inv.bt5:∀{X:Cx}{bH:dM}{σ:St}{H:Hp}{s:bC}{d:aA}{o:Obj}{kvs:jQ}(I:dQ)(h:Fc bPF),eUb AX es WR ep Nat AG Bw aVa (OT=oK) aDG i k yU v V (bCv→AX en aTd q aA dZ bP3 (bYr=tM) dUh):=WG eWq (by obtain⟨hd,z,hs,xs,pr,o',es,ep,ho,hx,hdt,he,_⟩:=cUp) _ aF hd ho cF ho bOV eMk jO es ep aRd hdt HJ l1 OT dF (size_of_entries he) l2 oK dF Ff pr mG qW i k v e (by obtain⟨b,hb,e1,e2,_⟩:=bo pr e) gQ q (entry_at he i) aF hb q aB Fh _ aPH q e2
end
noncomputable def Itk(d:aA)(o:Obj)(kvs:sT):It:=bM9 cQl (∃k v,bCv∧x=kV k) cQk
noncomputable def a_c(d:aA)(o:Obj)(kvs:jQ):It:=bM9 (Fc bPF∧i<oK) SN k yU v V q aA dZ bCv (x=tM) dUh (Fc bPF∧cEe)
theorem auo{o:Obj}{es es':WR}{ep ep':Nat}(h:aP4)(h':Bw= .Pu es' ep'):es'=es∧ep'=ep:=bL aF h h' cF h' Nf rfl
section
variable{P:aM}{w:aK}{K:aL}{tg:bZ}{d:aA}{o:Obj}{es:WR}{ep:Nat}
theorem beo{kvs:sT}(it:aA)(hod:aP4):fAu Itk where
 mem:=aX
 obj:=eMf eIJ lH oi e eGT dd
 sF:=eUI
 OR:=Ze HN DW cIx WJ eSt cIX eW5 cS u hu ru (biv kv hkv) aXm hl oK uU Ff kv st aI (wpAny_pyNext_dict_item st hm hu aBF key h' II st' sb) dXk bC1 oi c dd aI Gj key cJd dd (kV k) (a6u iR cQU key II) uJ k v hkv rfl ?_ bW (h'.IsKeyIter it d eG oK _) DS hl st'
 pS:=fB2 eSt
 AY:=aZK (wpAny_pyIter_keyiter st h)
theorem a_d{kvs:jQ}(it:aA)(hod:aP4):fAu a_c where
 mem:=aX
 obj:=dLK eIJ lH oi e dMG dd
 sF:=eUI
 OR:=Gf HN DW cIx WJ eSs cIX eW5 qM en q hen II hq (ent i k v hkv) aI (ayv st hgd hdt hsz hen dMY) dXk bC1 oi c dd WF bYr cJd dd tM II kF k v q EK hkv hq st'
 pS:=fB2 eSs
 AY:=aZK bL aI (wpAny_pyIter_slot bYt dDG aV8 dDG bYt F.entry_dict_keyiterator_iter F.args_dict_keyiterator_iter_1) DC _ (ret NF) NS sS yA bFF cH bYt dDC h
end
inductive biw(R:CD)(x:V)(H1:Hp):aE|mk d o(_:x=KL)(_:((eY kvs bSP bBI Itk)∨eY kvs (H1 d=aO bPF) bBI a_c)):aWZ biw
noncomputable def b4f(td:TE):TI:=bUa biw
section
variable{X:Cx}{tg e:bZ}{td:TE}{CK zT:Pos}
theorem ah'(he:pJ e td):aOo e (b4f td):=eMM dKg d o ex q eEi bW6 q kvs hd q wH dPz es ep I1.bt4 eZH beo aJf aH hsz dPr es ep I1.bt5 eZH a_d aJf aH hsz
end
noncomputable def Ite(K:aL)(a:aA):It:=cZW DQ aRV bSd aYT
theorem bep{P:aM}{w:aK}{K:aL}{Jm:mD}{kk:Nat}{YD:Pos}(a e it:aA):cZ7 aJP bQh dZ cYE it JR cSE (e≠it)where
 mem:=aX
 obj:=cFm cN eZo he eE0 zI e' fP aH z aB bTi he aH z lH o ho cVm hd
 sF:=aDw Zo bLU he hi hne st eVF
 OR:=KW HN DW eW6 cZB aKu aSC bD hel (e<fJ) aPG he hil cNq iV aAc q hit Heap.lt_size q gZ (wpAny_pyNext_enum_item he hit Qv (x:=u) cF8 hne IF h' ho aqi hT hsz hk ?_) cYA (FY+1) ho h'' eZA dUn u cIe hel cSP bQO bH4 x cSM [dUn,u] yS bQO Kk h'' (FY+1) dAo bQh aIG eSr dOU hne LC aIx cDV iP aH e1 aB he' aG hb' (b<fJ) bL eE0 zI e' fP aH z aB hel aH z aB hil ePY
 pS:=vM HN DW eW6 cYI aKu WJ aRM aB (wpAny_pyNext_enum_end NH he hit Qv bP1 aZx cW0)
 AY:=eU4 he
inductive biy(K:aL)(R:CD)(vs:aN)(H1:Hp):aE|mk a xs(_:pM)(_:aEv)(_:bC9 Ite):aOp biy
noncomputable def b4g(K:aL)(ta:TA):TI:=bCa biy
theorem xp{X:Cx}{e:bZ}{ta:TA}{p pos YD:Pos}{Jm:mD}{kk:Nat}(hg:cNF)(hm:cM7)(ha:bQY)(hs:autoParam (bTB) EE.autr._auto_1):eIC b4g:=cTF bC6 bYu cZc ex bB ex [fEF,aI (call_enumerate_list bYq oW h' he hit hsz hk eBJ),eKl cYb I2 bep Lv cS4 hit Nat.succ_ne_self _ Wb,bD e' cVt aMR hle (pT≤b) Wo zI e' aH z aY2 aH z aBo,cIr]
theorem ber:cKt Zj zW Zj:=wR
noncomputable def Itz(K:aL)(a b:aA):It:=bIz (∃(xs ys:aN)(x y:V),jU DQ bTK VI Xc) v (∃T x y,eX (v=aV9) aHA (H'=dXq) bSd iJ ys bTK Xc) (∃xs ys:aN,dZ DQ bTK (aYT∨wD wQ))
theorem biz{P:aM}{w:aK}{K:aL}{Jm:mD}{kk:Nat}{YD:Pos}{a b z TI TO i1 i2:aA}(D:ZipApart z TI TO i1 i2 a b):Turn P w K cB1 bC3 cZA z vE h eX (IsZip h z TI TO uH) (IsPair h TI cI i1 cI i2) (∃x y,IsPair h TO x y) dIX i1 (h.IsListIter i2 b i)where
 mem:=aX
 obj:=oW i h st c hc jX (by obtain(⟨hz,hTI,⟨x,y,hTO⟩,⟨o1,e1,_,d1⟩,⟨o2,e2,_,d2⟩⟩):=st) eZS lX hc eYC fP aH q aB bTi hz aH q aB bTi hTI fP aH q aB bTi hTO aH q lH o1 e1 cVm d1 kG aH q lH o2 e2 cVm d2
 sF:=aDw dB cZ3 x y nP aY3 z hz aY3 TI hTI jO x y aY3 TO hTO cU7 h1.at i1 cU7 h2.at i2
 OR:=Id HN DW cZ3 x0 y0 Qx xs ys x y hqx hqy hx hy hg aI2 p aH2 hqx dZa aSC cS u2 hu2 ru2 (rv2.get hy) Wh hzl (z<fJ) aPG hz (wpAny_pyNext_zip_item D hz hTI hTO h1 h2 Qv bYv (x:=u) (y:=u2) cF8 lX hu2 fun h' z' TO' h1' h2' hT hsz hk=>?_) sS (wpAny_letOwnedTupleGo_zip (s:=NG) z' pX h'' z'' sb) eZA u u2 cIe hzl cSP dXp x y bR FA [u,u2] cEa aOQ ru ru2 hT2 yS dXp GM h'' (I.agt (t':=s.toks) (ch:=cZA) eFQ pZ (sb.2 c aWL) fAg hf lB new) MT yA HA nP I1 rfl kF _ x y Fi Mm rfl cEU l hl hqx hx cEU l hl hqy hy aZf z'' ?_ jO u u2 ?_ dVb bOa bOj D.TIz (hk _ _ D.TIz D.TITO D.TIi1 D.TIi2 hTI) bOa bOj D.TOz TO' aDc aB (h1'.at bG o q pZ bOj D.i1z q) h2'.at bG o q pZ bOj D.i2z q qB aG hlt (c<fJ) fN eZS lX hcm eYC fP aH q aB hzl aH q aYx hTI SC aH q aYx hTO aH q aAc e1 h1 aYx e1 qB aH q aAc e2 h2 aYx e2 cOB hlt aB ((hf c hcm).1)
 pS:=qF HN DW cZ3 x0 y0 qM xs ys hqx hqy hend hg aI2 p aH2 hqx dZa bDp aG he (cLW=aS∨rW aAD=aS) bK iA hend q q Hz bP1 bP1 aB (wpAny_pyNext_zip_end NH D hz hTI hTO h1 h2 Qv bYv he bG h' hk kD (I.bm_ (t':=s.toks) (ch:=cZA) eFQ fAg hf))
 AY:=aZK (wpAny_pyIter_zip Cz h)
inductive brv(K:aL)(R:CD)(vs:aN)(H1:Hp):aE|mk a b xs ys(_:cGC)(_:aEv)(_:NC H1 b ys)(_:aCw bC3):aOp brv
noncomputable def cci(K:aL)(ta:TA):TI:=bCa brv
theorem a2f{X:Cx}{e e2:bZ}{ta:TA}{p pos YD:Pos}{Jm:mD}{kk:Nat}(hg:aGL Zj)(hm:aBt Zj)(ha:bIM cNT)(hs:autoParam (Sm cNT bIb dRz [e2]) EE.autr._auto_1)(hpl:autoParam (bIy aVv [e2]) EE.autr._auto_1):cIf aBy Zj cNT cci:=cTF cCx ber (bXP cCC hs hpl) Qx a b xs ys ex hqx hqy q q1 bB ex XM rr jR r' rr [dPH,cF r',aI2 p1 (I1.list hqx),YC YE rv2 p2 (I1.list hqy),bD la (a<pT) p1.lt lb (b<pT) p2.lt,aI (call_zip_2 p1.isList bYv fun h' hz hTI hTO h1 h2 hsz hk=>wpAny_pyIter_zip hz ?_),eKl cFu (pT+4) [pT+4,pT+2,pT+3,pT,aBM] I2 (biz (PySem.W.ktu_apart pT a b la lb)) nP hz hTI xY hTO h1 h2 dVb,bD e' (c=pT+4∨c=pT+2∨c=pT+3∨c=pT∨c=aBM) lX hcm hle (pT≤c) cN (by rcases e' with z|z|z|z|z) eMv aY2 eMv aBo kG aH z aY2,cIr]
end L2
section
namespace TL
open PySem PySem.Builtin PySem.Builtin.Str PySem.StrLaws
noncomputable abbrev tl(x:Str):aR:=bFH
theorem bt7(x:Str):bXU=gD tl x:=HB tl Str.length
noncomputable def pre(S l:aR):gE:=l.take bYw==S
noncomputable def par(S:aR):cA aR aR uZ (aR×aR)|_,[]=>aS|acc,Um=>eRd EX acc ((Um).drop bYw) (par S aIb acc r)
theorem ayw{y:Str}(hy:AH (tl y)):1≤aTS:=gT aG e2 (0<gD tl y) (List.length_pos_iff.mpr hy) aH (bt7 y) e2
end TL
end
namespace L2
open PySem PySem.Spec PyProof.Rows
section
variable{X:Cx}{o e:bZ}{to te:TE}
end
end L2
namespace L2
open PySem PySem.Spec PyProof.Rows
end L2
namespace Att
open PySem PySem.W PySem.Calls PyProof.Rows
section
variable{eJ:aM}{w:aK}{A:cM}{E:cU}{s:bC}{K:Frag}
end
end Att
namespace L2
open PySem PySem.Spec PyProof.Rows
end L2
namespace L2
open PySem PySem.Spec PyProof.Rows
end L2
namespace L2
open PySem PySem.Spec PyProof.Rows
noncomputable abbrev E0:XK:=aJg
theorem bb0{X:Cx}:Passes CX0 X E0:=dC0 h bDM
section
variable{P:aM}{w:aK}{K:aL}{mg:bF}{aW:aU}
theorem Fun.ok{x sW:Str}{st:cC}{f:aA}{fd:EA}{N ps:iQ}{k:Nat}{sp:Sp}(F:dZo)(S:bUw)(len:aSK)(OS:∀(cdv:bU)(A:cM)(lG:FN)(s:bC)(H:Hp)(vs:aN)(Q:VK)(E:XK),eRZ):bLc CX0 zE:=cN fDv aI (bq8 lk hcd S len fCq) cS t h q (OS cdv A lG s H vs Q E hr hsp) eMC
end
theorem qu{A:cM}{k:Nat}(hr:aDl):SF:=dKR Nat.add_le_add_left (iB:1≤64) _ bFI
theorem bes{n:Nat}(h:qP n):n<vO:=dBV h iB
section
variable{X:Cx}
theorem pv(i:Nat){x:Str}{pos:Pos}(hN:autoParam (aD0) EE.autr._auto_1)(hv:bQW:=by rw[aOf aGl Or.inl eA3 Or.inl eA3 Or.inr])(hd:autoParam (FQ) EE.autd._auto_1)(hcd:autoParam (dSn) EE.autd._auto_1):eNK:=btc hN hv hd hcd
theorem bet:eIl aD1:=fN aC1 eG4 cIj r cF ru aB (b4c I gB ha fR t s' I' aGx gR oK I' NP t)
end
theorem f9{A B:aE}(h:B):nN bI A B:=dB jJ aFn h
theorem f_{A B:aE}(h:A):nN aY A B:=dB qX rfl h
theorem g9{c A B:aE} [Decidable c](h1:c→A)(h2:¬c→B):fZ c A B:=Wo bQ h c qX h jN h1 jJ h jN h2
theorem ag.refl(H:Hp):rJ H:=AW h h
theorem ag.trans{H H1 H2:Hp}(a:aCv)(b:aRJ):aJE:=fR c o h (b c o (a c o h))
theorem ag.free{H H':Hp}(e:eW){l:aA}(h:aOC H' l):aOC H l:=bSc (H l) o aF (e l o q) h tT
theorem ag.seq{K:aL}{H H':Hp}{a:aA}{xs:aN}(e:eW)(h:DQ):NC H' a xs:=bL cZC eMj cLf
section
variable{κ:cJ} [cAH κ]
theorem bi0{kvs:wK}{k:κ}(h:aKy):¬k∈cMM:=fN bY m cRV p hp m aBk q aIY (List.any_eq_true.mpr bR p hp dQr) dA qc h q BJ q aX
theorem bm'{kvs:wK}{k:κ}{v:V}(h:bBD):k∈cMM:=Mw aG q (aIY=aY) bK aQ qc h bLY (by rfl) cS p hp e (List.any_eq_true.mp q) aTm bR p hp (aLF e)
end
theorem aws{α:cJ}{l:eK}(hN:bEq){i j:Nat}{x:α}(a:aRf)(b:bRv):i=j:=eXF
end L2
end
section
namespace L2
inductive aou(a0:bJ)(σ:cO):aE|mk(v1 v2:bJ)(_:cQr):dW7
theorem aou.out{a0:bJ}{σ:cO}:dW7→Fa v1 v2 cQr:=@aou.rec a0 σ eZ Fa v1 v2 cQr aEF
inductive aov(a0:bJ)(σ:cO):aE|mk(v1 v2 v3 v4:bJ)(_:cU9):dW8
theorem aov.out{a0:bJ}{σ:cO}:dW8→aEE v1 v2 v3 v4 cU9:=@aov.rec a0 σ eZ aEE v1 v2 v3 v4 cU9 bQA
inductive aia(a0 a1:bJ)(σ:cO):aE|mk(v2:bJ)(_:cQq):Ox aia
theorem aia.out{a0 a1:bJ}{σ:cO}:Ox aia→Om v2 cQq:=bCV aia.rec eZ Om v2 cQq bDr
inductive aow(a0 a1:bJ)(σ:cO):aE|mk(v2 v3:bJ)(_:cQA):Ox aow
theorem aow.out{a0 a1:bJ}{σ:cO}:bQ2 Ox aow v3 cQA:=bCV aow.rec cQM v3 cQA aEF
inductive ab4(a0 a1 a4:bJ)(σ:cO):aE|mk(v2 v3 v5:bJ)(_:cVK):eH0
theorem ab4.out{a0 a1 a4:bJ}{σ:cO}:eH0→aEB v2 v3 v5 cVK:=@ab4.rec a0 a1 a4 σ eZ aEB v2 v3 v5 cVK bSj
inductive agu(a0 a1 a4 a5:bJ)(σ:cO):aE|mk(v2 v3:bJ)(_:cZE):eTT
theorem agu.out{a0 a1 a4 a5:bJ}{σ:cO}:bQ2 eTT v3 cZE:=@agu.rec a0 a1 a4 a5 σ eZ Fa v2 v3 cZE aEF
inductive aox(a0 a1:bJ)(σ:cO):aE|mk(v2 v3 v4:bJ)(_:cQj):Ox aox
theorem aox.out{a0 a1:bJ}{σ:cO}:Ox aox→aEB v2 v3 v4 cQj:=bCV aox.rec eZ aEB v2 v3 v4 cQj bSj
inductive aoy(a0 a1 a2:bJ)(σ:cO):aE|mk(v3:bJ)(_:cQz):dUv
theorem aoy.out{a0 a1 a2:bJ}{σ:cO}:dUv→Om v3 cQz:=cUo aoy.rec eZ Om v3 cQz bDr
inductive ab5(a0 a1 a2 a4 a5:bJ)(σ:cO):aE|mk(v3 v6:bJ)(_:cXQ):eQv
theorem ab5.out{a0 a1 a2 a4 a5:bJ}{σ:cO}:eQv→Fa v3 v6 cXQ:=@ab5.rec a0 a1 a2 a4 a5 σ eZ Fa v3 v6 cXQ aEF
end L2
end
section
namespace WH
open PySem L2
section
variable{H H0:Hp}{a b:aA}{o x y:HO}
theorem jb(n:pY a)(h:bAK):bCH x:=dQD n
theorem ami(n:Yn)(h:bAK):bCH x:=dQD n.symm
theorem awt(f:bRH)(h:bAK):bCH x:=jb tO bUp h
theorem xr(s:aD6)(f:aOC H0 a)(h:MA H0 x):bCH x:=jb tO bUp rH h
theorem xt(f:bRH)(h:bAK)(e:tW):oJ:=bUp
theorem bb1(f:bRH)(h:bAK)(e:b=a):oJ:=bUp
theorem bna(h:BL x)(k:JA y)(e:tW)(n:x≠y):oJ:=dSu n ((e▸h.symm).trans) k
theorem bt8(h:BL x)(k:JA y)(n:x≠y):Yn:=tO (bna h k e n)
theorem am'(h:BL x)(k:JA y)(n:x≠y):bCH y:=ami (bt8 h k n) k
theorem aib{xs:bM}{p:aA}:BT H a cEY cJW qI xs a cJW qI (xs++[p]):=zB ah lN
theorem awu(h:sN (H b))(k:bRH)(e:tW):oJ:=bK (by rw[←e,k]at h) DT
end
end WH
end
section
namespace L2
open PySem PySem.Spec PyProof.Rows
section
variable{X:Cx}{a b e:bZ}{ta tb:TE}{pos p:Pos}{x:Str}
theorem ck{i:Int}(h:∃t,aJA aPQ)(hg:autoParam (LJ) EE.autr._auto_1)(hd:autoParam (FQ) EE.autd._auto_1):cPt zF:=dB cX t h h eOB NP t
theorem ar9{i:aA}(h:aJA cI i)(hg:autoParam (LJ) EE.autr._auto_1)(hd:autoParam (FQ) EE.autd._auto_1):cPt cI i:=eOB rfl
theorem bg{f:Str}(he:cNh)(hb:autoParam (cZd) EE.autr._auto_1):eKD:=awo he hb
theorem ak0{f:Str}(K:aL)(he:cNh)(hK:autoParam (aDq) EE.autr._auto_1)(hb:autoParam (cZd) EE.autr._auto_1):Ev aLT e f (bmu K ta f):=tQ bB hK awo he hb
theorem agv(K:aL)(hK:autoParam (aDq) EE.autr._auto_1):bRU bto K:=aQO bz
theorem alu(K:aL)(hK:autoParam (aDq) EE.autr._auto_1):bRU btp K:=aQO j6
theorem bi1(K:aL)(hK:autoParam (aDq) EE.autr._auto_1):eF5 K:=aQO i5
theorem aqj(K:aL)(hK:autoParam (aDq) EE.autr._auto_1):aPo aEO cY2 K:=aQO bv
noncomputable def tB1(r:LH)(ta:TE):TE:=OA (r [x] H1 Q)
theorem cz{id:uR}{r:LH}(hc:cRb)(hv:cPY)(hm:aRy)(ha:HV)(hg:autoParam (LJ) EE.autr._auto_1)(hn:autoParam (aIT) EE.autd._auto_1)(hdb:autoParam (FQ) EE.autd._auto_1)(he:autoParam (aEz) EE.autr._auto_1):eEL:=fB1 a5_
theorem aa7{T:uR}{r:LH}(hc:zq X RW r)(hv:bKs RW)(hm:aRy)(ha:HV)(hg:autoParam (LJ) EE.autr._auto_1)(hn:autoParam (aIT) EE.autd._auto_1)(hdb:autoParam (FQ) EE.autd._auto_1)(he:autoParam (aEz) EE.autr._auto_1):eEL:=fB1 beg
end
theorem ag.new{H H':Hp}{p:aA}{o:HO}(s:eW)(h:JV):rJ ZL p o:=MG u bA Ux
theorem ag.push{H:Hp}{p:aA}{o:HO}(h:JV):rJ rE p o:=(bPC).new h
section
variable{K:aL}{a:aA}{xs:aN}{g:TG}{te:TE}{vs:aR}{σ:St}{H1:Hp}{D:aA}{Qd:NB}
noncomputable def Made(R:bBf)(H:Hp)(n:Nat)(ys:aN):aE:=wQ=n∧kQ i y Xc aUY H
noncomputable def b9(D:aA)(H H':Hp):aE:=Vv D DI aHg
theorem ag.x{D:aA}{H H':Hp}(s:eW):aG6:=dTu
theorem b9.at{D:aA}{H:Hp}{o:HO}:bBM cPX:=BG u h e Av
end
section
variable{K:aL}{J:It}{g:TG}{tt:TT}{te:TE}{vs:aR}{σ:St}{H1:Hp}{D:aA}{Qd:NB}
noncomputable def ae3(R:aJR)(H:Hp)(n:Nat)(rs:Gh):aE:=aAI=n∧kQ i r cEZ (R i r H)
theorem ae3.mono{R:aJR}(OV:aED){H H':Hp}{n:Nat}{rs:Gh}(s:aG6)(h:eIo):bJ7 n:=eQa
theorem ae3.snoc{R:aJR}{H:Hp}{n:Nat}{rs:Gh}{y:bJ}(h:eIo)(r:eGd):ae3 R H mI dRW:=fB6 aAI
theorem a2g:∀{J:It}{g:TG}{tt:TT}{te:TE}{vs:aR}{σ:St}{H1:Hp}{D:aA}{Qd:NB}(n:Nat)(hn:bAv)(R:aJR)(OV:aED)(hD:aIO)(go:cYz)(TU:cVU)(yld:cXU)(hs:cXV (∃l,DB D l) eSe)(hd:bUP n),dZb:=kK (by intro J g tt te vs σ H1 D Qd n hn R OV hD go TU yld hs hd) dJ jA aPg m ZY m (n-i) cGp aHd eY rs cCZ bJ7 i aT n gY aX mJ pK hD aYs EK ah bK lM i y e eM e (by rintro i m H⟨rfl,hi,s,rs,hr,M⟩) _ cRJ Oj aI KQ (go i H hlt s) jA bT H' (aHd∧eY rs cCZ bJ7 eG) aXM q (n-eG) QZ aRF hlt q lJ x H' y eN s' (yld i H x H' hlt s y) hD' cB s' hr aJ key (hs i H x H' hlt s y gJ hD' Nk H4 Mi r aVR cAZ eRP aVL aVn aVL aWf eRP H4 aVn H4 aWf ?_) xG aB key qW r H4 s4 q aJ M4 ((M.mono OV (s'.trans s4).x).snoc q) aJ hD4 zC hD' cMH r KI y Ch y dJ gJ gY hD4 ?_ ((bAO (s.trans s')).new hD) bR (rs++[aVR]) bIV (M4.mono OV OW) bN (List.length_filterMap_le (f:=id) (l:=rs)) bN M.1 rF dH
theorem a2h(n:Nat)(hn:bAv)(R:aJR)(OV:aED)(hD:aIO)(go:cYz)(TU:cVU)(yld:cXU)(hs:cXV cGa eSe)(hd:bUP n):dZb:=a2g n hn R OV hD go TU yld (fun i H x H' hi s y hD'=>hs i H x H' hi s y tX) hd
theorem a2i(n:Nat)(hn:bAv)(R:bBf)(OV:aED)(hD:aIO)(go:cYz)(TU:cVU)(yld:cXU)(hs:cXV cGa eVj r dN2 (C r H4))(hd:eGL cU2 n):cFG (Qd H) eN2:=bA Ka (a2h (tt:=bm6) n hn fR i r H eY y aJk y aUY H Kw (by rintro(i)r H H' s⟨y,e,q⟩) y e dO3 q hD go TU yld (fun i H x H' hi s y hd' C hC=>?_) aBF H' rs s h M) aJ q (hs i H x H' hi s y hd' eCQ kI r H4 s4 q (hC aO r H4 s4 Gj r q)) aB q [aG e (∃ys:aN,rs=ys.map uQ) cN aI eO aWf sX aEU r rs (∃y,aJk y) sR cY r hr bBC i hi hr IP y e (M.2 i r hi) cKQ (by clear h M s) cGH rs r rs zZ y (aEU r aX) bO,zZ ys e,aG e2 ((ys.map uQ).filterMap id=ys) aX,aF e2 h,aI (hd H' ys s h aT aQB M.1 cK Mo i y),cS z e3 q (M.2 i aVR fD),aZ]
end
section
variable{K:aL}{a:aA}{xs:aN}{g:TG}{te:TE}{tt:TT}{vs:aR}{σ:St}{H1:Hp}{D:aA}{Qd:NB}
theorem xu(R:bBf)(OV:aED)(hD:aIO)(hl:aEv)(hz:NT)(hs:eQ5 eVj y cNj cTW)(hd:eGL cU2 dF):bVi WY eN2:=cZt a2i cZf x fDq
theorem aic(R:aJR)(OV:aED)(hD:aIO)(hl:aEv)(hz:NT)(hs:eQ5 cFo cF6 y cNj cTW cIZ)(hd:bUP dF):bVi WY aZu:=cZt a2h cZf x fDq
end
section
variable{K:aL}{a b:aA}{xs ys:aN}{g:TG}{tb:TS}{D:yO}{σ:St}{H:Hp}
theorem ana:∀{g:TG}{tb:TS}{D:yO}{σ:St}{H:Hp}{J:It}(n:Nat)(Pv:aDY)(h0:aJL)(go:aYk QN cEf)(TU:cBV n dJa)(hs:∀i σ H x H',jW QN aNa bI6 aUP x σ H' cCv)(hd:dT6),cBZ cAz 0 eZ4:=kK (by intro g tb D σ H J n Pv h0 go TU hs hd) dJ jA eKH cXf n fAp _ cRJ dU nF aT cCB go hlt bR aM0 cZi (n-eG) aRF fR x H' y (hs i σ H x H' hlt p y) bO
theorem wd(Pv:aDY)(h0:aJL)(hl:cRo)(hs:cZU aRV)(hd:bCp):aSQ aJP:=dZT
end
end L2
end
section
namespace WH
open PySem PySem.Spec PyProof.Rows L2
@[simp]theorem az(t:aR):bV AF=nJ:=fW vn
theorem jd(t u:aR):vn (t++u)=AF++vn u:=fW vn
theorem ak1{t:aR}{i:Nat}{c:Nat}(h:aPr):gH AF Mh aHJ:=HB vn h
theorem ar_{t:aR}{i:Nat}{x:V}(h:YS AF):DD c t c (x=SR aHJ):=aRC vn
theorem we{x:V}{xs:aN}{us:eQ}(h:UR aRb):eQU:=eLG
theorem awv{α:cJ}(l:eK)(k:Nat):aFe vA k iS=aFe k:=aX
theorem a6v{α:cJ}(l:eK)(k:Nat):l.drop vA k iS=l.drop k:=fC
theorem bt9(e b n:Nat):min (vA e n-min b n) (n-b)=vA (e-b) (n-b):=Ax iA (Nat.le_total n b) h h cE (Nat.sub_eq_zero_of_le h) dDI dDI cE (Nat.min_eq_left h) (Nat.min_eq_left (Nat.sub_le_sub_right cGe _)) Nat.sub_min_sub_right
theorem ad9(t:aR)(b e:Nat):aKg bOd aO cZ e aBb Sk (e-b):=kK aV agb jS bFJ bFJ a6v az aV vn aFq dDJ dCy pB (by rw[←eMs (vA e nJ-min b nJ),←eMs (e-b),aE0]) WD yE (List.take k (Cm b)) (bt9 e b nJ)
theorem agw(t:aR)(b:Nat):aKg bOd aS bKv b:=aO3 aV agb cE bFJ HT.a5' a6v aV vn hM dDJ bYy dB cG b0d
theorem aqk(t:aR)(e:Nat):aKg aS aO cZ e MH t.take e:=cN aV agb AZ bFJ HT.a5' Iq bXx awv aV vn aZ
noncomputable abbrev NL(H:Hp)(a:aA)(t:aR):aE:=aBe AF
theorem Paired.snoc{α β:cJ}{F:tZ}:aAs l eK m DM a α b β cA Ys Ov eDK|_,_,_,_,eF,h=>aRq h|_,_,_,_,Yp,h=>aBD r bYn t h
noncomputable def NLs(H:Hp)(ps:bM)(ts:fB):aE:=dYx aQ2
theorem NLs.mono{H H':Hp}(s:eW){ps:bM}{ts:fB}(h:cPC):cE0 ts:=ME h AW e rH e
theorem bw.ok{P:aM}{w:aK}{K:aL}{mg:bF}{aW:aU}{x:Str}{st:cC}{N ps:iQ}{k:Nat}{sp:Sp}(F:eL9)(S:bUw)(len:aSK)(OS:∀(f:aA)(cdv:bU)(A:cM)(lG:FN)(s:bC)(H:Hp)(vs:aN)(Q:VK)(E:XK),cJp aVM x aGr cdv cJq aWN CX0 P x aGr cdv):eMy zE:=dB qM f fd F hm hb F.ex SK f fd eVX hm F.kp hb
section
variable{X:Cx}{x:Str}{k:Nat}{ps:iQ}{sp:Sp}{e:bZ}{es:mD}{t:TA}{p pos:Pos}
theorem ar(D:Def pC X.w X.K aFg TF x k ps sp)(hr:bP8)(ha:aEp)(hg:autoParam (LJ) EE.autr._auto_1)(hdb:autoParam (FQ) EE.autd._auto_1)(he:autoParam (Zb) EE.autr._auto_1)(hpl:autoParam (aKd) EE.autr._auto_1):aY9 aRO (sp vs H1 Q E0):=ePR vT f fd F hm hk hb aTb (bmv F hr hg hm hk hb eF bb0 ha hdb he hpl bH s σ H Q I ?_) (sp (vs++[]) H1 Q E0) Gu
end
end WH
end
section
namespace WH
open PySem PySem.Spec PyProof.Rows L2
structure bb2(N:iQ)(sc gM:oX)(x:Str)(j:Nat):aE where
 mK:bYi=Ui
 co:dDK=bI
 gen:dDL=bI
 ix:cPq
 par:dS5
 uniq:∀y∈BE,cHq
 each:∀y∈BE,(y.1=x∧y.2=QH)∨Fn y.2 AC eK5 dZ (y.2≠QH) dU2 dU1
noncomputable abbrev aid(q:Str)(CQ:Ik)(sV:bZ)(gM:oX)(aAK:AE)(pm cv ctv:bU):Obj:=EL dC5 func dKn aAK
noncomputable def Cx.lam(X:Cx)(s:bC)(H:Hp)(q:Str)(gM:oX)(f:aA)(cv:bU)(aAK:AE)(A:cM):Cx:={X with A:=A.deeper cSY,s_0:=s,H_0:=H,env:=cSY,lG:=OP,aFf:=cSY::OP,ex:=[],fn:=aXp,calm:=aY,pn:=[],xe:=Uj}
section
variable{X:Cx}{bH:dM}{σ:cO}{H:Hp}{s:bC}{A:cM}{q x:Str}{CQ:Ik}{sV:bZ}{gM:oX}{pm cv ctv:bU}{f:aA}{j:Nat}{u:bU}{v:V}{Q:VK}{k:Nat}
theorem bb3(I:dQ)(ok:cWv)(hN:YB)(hr:bQ0)(hfr:dQi OP)(ho:GS f cBD pm cv)(hcd:s.heap.CodeRec cv q)(hb:dN5 Kv)(rv:CF){t:TE}(OS:PE cRB sV t)(h:t cCP VT H Q){E:cU}:bTp Em xW [u] bMn:=Id sX TN y BE aZg YM y hy cN dOX dLp dU aWc aYE aZ oQ cm dXr aRK YF y c hm Vc eRb dU bX hm lk aIs y c UO ((Kv).lookup) c aRK tO cNe cm has aOj y aW6 MF c ((Kv).lookup) y c (fun{y}e=>dB eNV eAU dQs cKQ) sX a_e y BE dU2 ZB bL Iv dIG z z dE bS bS bS rG wpAny_call oE (PySem.W.kla_callFunE Gx hr.dp cao ho rfl ok.co ok.gen rfl hcd ?_) hb Wp (wpAny_newFunctionEnv a_e ZB gT eM hy aH hy ok.par fR h1 hns hsb NR aLP) dU aB (I.nolimit.fresh _ hsb) aJ kp wC tJ hsb.extBut bCX aB0 bW (codeAny _ _ (.expr sV dKe Kv) _ _) bD okY ((cRB).Ok) cN aI ⟨bE6,aLP,rfl,rfl,lB,fBo e1 e2 (lk e1) (lk e2),dX8,QS y c bMz YL (¬bI=aY) jL,eZ aTW,dPT hfr,fF NJ,cMW,aLL,cQ4,BG o e hb cEC hb,cMW,bX3,bX4⟩ aG hy cWa hy cWM aDc ePI dRP has hy J (L2.Inv cRB [] cCP VT H Kk h1 (FY+1)) bA HK eTS okY rP hns bUE i y w Mo y c Mm YM y c eIw aTL dZO dDo bQ hij (i=j) Gi bB hij NN ey y x gT aG e1 cNL e1 aF bFx e1 aYu e1 aG hi (i<aTJ) gG Qs iO bFx aF (List.getElem?_set_self hi) e2 bX e2 lH u rv gB aOz ok.par [aF bMH hij e2,oQ e1 cNL e1 nx cM4 oO hij (aoj hN fD bFx) fr aW6 cN aG e3 (bHU QH∨cWa) e3 Iv e3 e3 e3 KO eFD e3 dE aZ sE z.1 aZ ePI dPU e3 dU aB e3,cX c hc (has fr),aJ hX (lk hc),cYg,aG vis (cEc BO∨cEc AC) bL eFD fr dE sE z.2 aB z.2 dU aZ,cS u' r' l' (hl i y w e1 e2 bL zI vis nF gB z nF aYE),aI bR u' r' KQ fF fr jA c hc,dDr l' l1 c2 l2 l3,An aG l1 cQ0 l1 aZ aF hX l2 bX l2 cS o z1 z2 l3 lH o aHo kp z2] jF w o z1 z2 eIw Qr aB uJ w o aHo kp z2 aI (PySem.W.kla_codeExpr bHz (OS [] _ _ H _ J h) pX w s' hs YN z.elim) qM v' H' J' rv' hq hs aB (I.after jO v' H' yB J'.os J'.bare J'.base J'.hok rv' hq)
end
end WH
end
section
namespace WH
open PySem PySem.Spec PyProof.Rows L2
noncomputable def ak2(c:aA)(q:Str):HO:= .ext wE dVo
noncomputable def ar'(P:aA)(q:Str)(pos:Pos)(c:aA)(H:Hp):aE:=oM P Sj cWK DG∧aIc bIN
noncomputable def TabOk(P:aA)(q:Str)(pos:Pos)(H:Hp):aE:=oM P aYW∨∃c,cDz pos H
noncomputable def a6w(P:aA)(H H':Hp):aE:=Vv P DI aHg
section
variable{X:Cx}{bH:dM}{σ:cO}{H:Hp}{s:bC}{q:Str}{CQ:Ik}{sV:bZ}{gM:oX}{P:aA}{pos:Pos}
theorem a2j{c:aA}{h h':aU}(x:dVo)(k:iJ o (bDP c=aO o) (dBb c=aO o)):h'.CodeRec DG q:=gT Cd c' o vs t e e1 r x HP AN c o vs t uN (k _ e1) r
theorem Inv.pinned{a:aA}{o:Obj}(I:LI)(h1:cPp)(h2:aCU)(h3:a≠IO)(h4:a∉YA)(h5:cRv):aCe ((a,o)::bH) H s:=cWz aCM bK vK hp hp jB eGO p hp aEe hp dE bS aB eGW hp
theorem Inv.ae5{p:dSq}(I:aCe (p::bH) H s):LI:=cWz Nk hr Ax vK hr hr eGO r hr aB (aTM r cEs dB9 hr)
theorem a6x:∀{X:Cx}{bH:dM}{σ:cO}{H:Hp}{s:bC}{q:Str}{CQ:Ik}{sV:bZ}{gM:oX}{P:aA}{pos:Pos}(I:LI)(T:cZu)(hT:dTG)(hq:cYG)(TN:∀y∈BE,aZg)(aAL:cW9){R:cU}{E:cU}{A:cM}(h:∀(f c:aA)(H':Hp)(s':bC)(pm ctv:bU),jW aCe cIm H' s' (a6w P H H') cDz pos H' (R xW s')),bTp Sw UN Lambda CQ sV gM R:=Gf (by intro X bH σ H s q CQ sV gM P pos I T hT hq TN aAL R E A h) _ dG c hc C T.code aLH bm ob b1 b2 b3 b4 b5 b6 b7 T.blt gQ hcl (awp (scope:=scope) (env:=X.env) TN) aJ hg (I.ok.mod.glob.keeps aAv) gO C' (C.keeps (h':=s.heap) aAv) gl MF o X.base.get? Ih o bTc o _ e I.ok.mod.glob Wl e eP og eg gl eN Hg ((cB aLL eg).2) Hb ((cB aLL b4).2) oE (PySem.W.kla_eval aAL ?_) hq Io hT hT c' hT hc' IU [fBX dVI aKf (PySem.W.kla_makeFunction (mg:=X.mg) hcl bE9 hg hc C' hP aKY rfl gP fBr ?_),yK c' ctv h' tk hx hge hlt hrec htb,_,zG ne aIs b o DI pY c' aI3 e z dB bN (I.hok.lt e) (bym hge z aP) neP (∀{b o},cA QQ xB pY P) (fun{b o}_ e z=>bA bPG) I1 Kt kP rE P Sj cWK bJG c' (ak2 c' q) dVj jX bD cP (c'≠P) oU (ne hT) kp Vv P QQ aO4 cJB UM n PV JJ hx n aG lt' aIs b o QQ pY c' aI3 e z cIa aHb aN1 (z▸hge) BH bTb [] Ef bUW eCM bUW aYt eCM ?_ ?_ ?_ ?_ ?_ ?_ ?_ (by intro b o _ e n) _ FM [by intro b o _ e,_,CC b P,kG bB z aB gJ PV htb,bS] FJ lM b xs e _ xD qW b o u e xD aD2 lJ b ps e aQe e CC b P jB Kf jV z aZ dD m hn YX ((hn.extBut hx<|bL bE z bN aAw bPG).push) qB lJ b o e CC b c' Nn bB z aF ah e HP Db c2 oc vs t e0 e1 r hrec _ bX e0 aB cH AN b oc vs t uN PV e1 r gJ PV e1 kI h1 h2 x k (a2j x k) [aRe z,bQ z2 (b=P),Ae bB z2 aF ah e HP cMe htb aRe z2 cEl ((MR I.hok).stay ?_ ?_ ?_) jG d u hd r fO dD d r xD lJ d xs r xD] fl eI1 eIA,aJ hs eBf hge hlt,Gp (h Rc c' _ _ _ ctv eOz ?_ hs (I.bta hs) UM n ?_ Wm ah) Xn (aq (aLh hlt)) iR (Rc≠P) lV cIa bOK I.hok.lt hT (z▸hs) cKg hs FM,FM] [AS c' hT hc',fBX (PySem.W.tabObj cWK bJG) dLb (PySem.W.kla_makeFunctionHit (cv:=bJG) (mg:=X.mg) hcl bE9 hg hc C' hP aKY HB codeAmong aTR fBr ?_),iC ctv h' tk hk hsz,oQ kp cQ9 cJB wC PV MR hk I1 Kt H dVj bTb [] Ef bUW cMv bUW aYt cMv cYK n Xg Wl cMv MG xs e UM u e aXA bKf fE bG m hn ((hn.keeps hk).push _) dLo fl eI1 eIA,aB (h Rc c' H _ _ ctv eOz (bE7 hsz) hsz (I.bta hsz) UM n e aT hT hc')]
end
end WH
end
section
namespace WS
open PySem
open Sem(wp)
variable{M:BC}
noncomputable def Stp(M:BC)(Γ:Ctx)(p:Pos)(t:cNn)(fs:cKl)(s:bC)(e:End)(s':bC):aE:=xJ fs bRQ eYl (Γ.over bRQ) t xJ F (.ret k _ _ _ c p _) bPB (k r) fs s1 (.gen g k _ c p) bPB (k (End.ret r).result) fs cGJ (.aT6) fs0 RN (splitAtGen bRQ) ePt (fs0++bRQ) (pre,(g,k,c,p),jM) bPB (k (.yielded v)) jM cGJ ((dIl End.susp (fs0++pre)).genState) [] (match t with| .Ii (.pS f)=>bSC e aBj (.ok f)| .Ii (.aLR c)=>bPB cMf [] s| .bFK x=>bSC e aBj (.SO x)| .Qw _ k=>Pg ()| .at q k=>bHk Γ q (k ()) [] s| .aT7 a _ k=>Xs cPp Pg o| .bFL a _ f k=>Tf () GM (s.heap.update a f)| .bFM a k=>bHv (k (bVO a)) s| .bFN _ k=>Pg ()| .bFO o k=>Tf fJ GM cA7 o| .aFx k=>Tf FY aIR| .ask k=>Pg ({program:=M.prog,CQ:=M.w.params})| .bFP src n k=>Tf (M.w.draws src (s.drawn.get src)%n) Rx drawn (s.drawn.bump src)| .os q _ k=>Tf ((eDL).2) Rx os ((eDL).1)| .bFQ own k=>Pg nN own Γ.own Γ.handled| .bFR g k=>eL8 Pg st.seen| .aFf k=>Pg ((bYz,p)::Γ.below)| .bFS k=>bHv (k 0) s| .bFT c k=>Tf s.gens.size Rx gens (s.gens.push (.aFx c))| .Qa c h g l k=>eYl (Γ.enter c h p) cMf bHv (k r) s1 fs ePt (fs++[.ret k h g l bYz p []])| .aAF v g l k=>s'=s∧e= .susp v g l k bYz p []| .resume g r _ k=>eL8 aLt st (.aFx c) xJ r (.send v) JB (v=uH∧eIB (Runs M (Γ.wake c p) p cMf [] dYF e1 s1)) (v≠uH) Pg (.justStarted) (.throw x) Tf (.raised x) dLd (.aT6) (.dDN k0 _ c0 p0 fs _) eIB (Runs M (Γ.wake c0 p) p0 (k0 r) fs dYF e1 s1) (.bFU) Pg (.bFU) (.aT6) Pg (.aT6)|_=>Ps)
theorem stp:∀{M:BC}{Γ:Ctx}{p:Pos}{t:cNn}{fs:cKl}{s s':bC}{e:End}(h:eNl),Stp M Γ p t fs s e s':=kX yK M Γ p t fs s s' e h (by induction h with|pS|bFK|aAF=>rw[Nf rfl]|aT7 a h|bFR a h=>rw[aB rP a h]|aLR _ h|bFL _ h|bFP _ h=>rw[aB h]|Qw h|bYA h|bFM h|bFN h|bFO h|aFx h|ask h|os h|bFQ h|aFf h|bFS h|bFT h=>rw[aB h]|Qa a b=>rw[aB xY bBZ]|dDO a=>rw[aB xY aGw a]|dDP g a _ b=>rw[aB rP g gB kD xY bBZ]|dDQ g a _ b=>rw[aB rP g xY bBZ]|dDR g v b=>rw[aB rP g KQ v b]|dDS g b=>rw[cQc]|dDT g b=>rw[cQc]|dDU g b=>rw[cQc]|segRet a b=>rw[aB xY bBZ]|segGen a b=>rw[aB xY bBZ]|dDV n a=>rw[aB xY aT a JT TD n Nf rfl]|dDW n a _ b=>rw[aB xY aT a gT TD aH n b])
theorem a2k{Γ:Ctx}{p:Pos}{t:cNn}{fs:cKl}{s s':bC}{e:End}(h:eNl):kQ e2 s2 (Runs M Γ p t fs s e2 s2) (e=e2∧s'=s2):=bA (by induction h with|pS|bFK=>rw[aB AW h aT oU ((aNv).1) oU ((aNv).2)]|aAF=>rw[aB AW h aT oU ((aNv).2) oU ((aNv).1)]|aLR _ _ ih|bFL _ _ ih|bFP _ _ ih|Qw _ ih|bYA _ ih|bFM _ ih|bFN _ ih|bFO _ ih|aFx _ ih|ask _ ih|os _ ih|bFQ _ ih|aFf _ ih|bFS _ ih|bFT _ ih=>rw[aB AW h (ih _ _ (stp h))]|aT7 g _ ih|bFR g _ ih|dDT g _ ih|dDU g _ ih|dDS g _ ih=>rw[dKC a (g.symm.trans a),aB cB ih b]|Qa _ _ i1 i2=>rw[fEk]|dDO _ i1=>rw[cFO,eBR]|dDP g _ _ _ i1 i2=>rw[cWC,by(obtain(⟨_,_,_,a,b⟩|b):=b),oS dG1 bM7 BJ rfl b.1]|dDR g v _ ih=>rw[cWC,by(obtain b|b:=b),dE BJ b.1 v aB cB ih b.2]|dDQ g _ _ _ i1 i2=>rw[cWC,dHI b,bM7]|segRet _ _ i1 i2|segGen _ _ i1 i2=>rw[fEk]|dDV n _ i1=>rw[fFv,eBR]|dDW n _ _ _ i1 i2=>rw[fFv,bM7])
theorem beu:∀{M:BC}{Γ:Ctx}{p:Pos}{g:Nat}{r:Resume}{s:bC}{res bt_:GenResult}{s1 s2:bC}(h:eVi res s1)(h2:eVi bt_ s2),res=bt_∧s1=s2:=wA XZ M Γ p g r s res bt_ s1 s2 h h2 (by unfold Wakes at h h2) vB hg (bDU[g]?) aZ gs [fH gs,vQ hg h h2,by(cases gs with|aFx c=>rw[fH c,bEf r send v [fH v,by(cases v with|aS=>rw[fFM]|_=>rw[bS])] throw x bS]|dDN k₀ l₀ c₀ p₀ fs cl=>rw[dAF k₀ l₀ c₀ p₀ fs cl,fFM]|bFU=>rw[bS]|aT6=>rw[bS])]
theorem bnb{α:cJ}{Γ:Ctx}{Q K:PN cD3}{F:cOO}(t:bPR):∀(p p':Pos)(s:bC),cA bDu t Q aJg bDu t K F (∃a q s',Q a q s'∧K a q s'):=bA (by induction t with|Ii a=>rw[aB (fun p _ s h1 h2=>(kF a p s aT h1 h2))]|bFK v=>rw[aZ]|unsupported|finish|aAF|fork|await|register=>rw[aZ]|Qw _ k ih|bYA _ k ih|bFO _ k ih|bFM _ k ih|bFN _ k ih|aFx k ih|ask k ih|os _ _ k ih|bFQ _ k ih|bFT _ k ih|aFf k ih|bFS k ih=>rw[fAE h1 h2]|aT7 a _ k ih=>rw[fFT]|bFR a k ih=>rw[fFT]|bFL a _ f k ih|bFP _ _ k ih=>rw[fAE h1.2 h2.2]|Qa c h g l k ih=>rw[fFp dNX,cF e1,bB e2,cJn]|resume g r l k ih=>rw[fFp (beu a1 a2),LP e1 e2,cJn])
end WS
end
section
namespace WS
open PySem PyProof.Rows
open Sem(wp)
structure Gs where
 I:cJ
 ne:rS I
 aAM:I→TY
 sur:I→TY
 kd:Rg
noncomputable instance:rS Gs:=⟨qY aLN ⟨()⟩ eZ bVH eZ bVH Dc⟩
noncomputable instance(c:Gs):rS c.I:=c.ne
class Rl(c:Gs)(β:cJ)where
 rel:aUL β
noncomputable instance(priority:=10)b4l(c:Gs)(β:cJ):Hy:=aC6 tW
noncomputable instance ch5(c:Gs):Rl c (Array TY):=aC6 (∃P:aJv,a=aYr Rh∧b=aL2 yP)
noncomputable instance(priority:=2000)ch6(c:Gs):Rl c TY:=aC6 eY i (a=bAs) (b=cKR)
noncomputable instance ccm(c:Gs)(β γ:cJ) [Hy] [bRa]:Rl c bQf:=aC6 eSI
noncomputable instance ch7(c:Gs)(β:cJ) [Hy]:Rl c aJl:=aC6 eJF ePz
noncomputable instance ccn(c:Gs)(β:cJ) [Hy]:Rl c (ForInStep β):=aC6 eK6 eIF
class RlE(c:Gs)(β:cJ) [Hy]:aE where
 iff:bS3 β (CZ a b↔tW)
noncomputable instance(priority:=10)ch8(c:Gs)(β:cJ):@RlE c β dSl:=@RlE.mk c β dSl aE2 Iff.rfl
noncomputable instance b7x(c:Gs)(β γ:cJ) [Hy] [bRa] [aJY] [RlE c γ]:RlE c bQf:=aC6 Vc bW (eSI↔_) aQ aT8 aT8
noncomputable instance cco(c:Gs)(β:cJ) [Hy] [aJY]:RlE c aJl:=eOu eJF ePz (by rintro(⟨rfl,rfl⟩|⟨x,y,rfl,rfl,h⟩)) bOY aF aT8 h aH h aPb a cG x eYH
noncomputable instance b7y(c:Gs)(β:cJ) [Hy] [aJY]:RlE c (ForInStep β):=eOu eK6 eIF (by rintro(⟨x,y,rfl,rfl,h⟩|⟨x,y,rfl,rfl,h⟩)) fP aF aT8 h aH h aF aT8 h aH h bEf a pS x sQ bMI x x rfl ((aIi).mpr) rfl aAF x eYH
noncomputable def RS(c:Gs)(t t':LV):aE:=eU8 aJv (t=aQp aL3 aYr Rh∧t'=aQp Dc aYr yP)
noncomputable instance(priority:=2000)cno(c:Gs):Rl c LV:=⟨RS c⟩
section
variable(c:Gs)(M:BC)(Γ:Ctx)(s:bC)
noncomputable def Sim{β:cJ} [Hy](m m':Ob):aE:=∀(st st':LV)(p p':Pos)(K K':β×LV→cD3)(E E':cOO),jW (RS c st st') (∀b b' t t' q q',jW Ec cWj (K' (b',t') q' s) (K (b,t) q s)) (wp M Γ (m'.run st') K' E' p' s) bDu (m.run st) K E
end
section
variable{c:Gs}{M:BC}{Γ:Ctx}{s:bC}{β γ:cJ} [Hy] [bRa]
theorem ak3{b b':β}(h:Ec):bPc pure Th b':=cN aXl yJ dDX w yJ aT9 w AQ
theorem eu{m m':aBA γ}{f f':dUU}(h:dYd)(hf:bIm bPc f (f' b')):eJg:=cH8 dDY yJ bFV w (h st st' p p' _ _ _ _ r (fun b b' t t' q q' hb rt hk=>hf b b' hb t t' q q' K K' E E' rt k hk) w)
theorem aoz:qU (get:aBA LV) get:=cH8 StateT.run_get yJ aT9 w cIK r r
theorem bnc{t t':LV}(h:cWj):bR5 (set t) (set t'):=dZi StateT.run_set h
theorem ad_{f f':LV→LV}(h:kQ t t' cWj (RS c (f t) (f' t'))):bR5 (modify f) (modify f'):=dZi StateT.run_modify cB h r
theorem a6y{x:uR}:qU (cUP:aBA aLN) cUP:=Ac aXl aG e (∀st:LV,(cUP:aBA aLN).run st=(Qw x>>=JP a Ii (a,st))) bT st dRh yJ e w yJ bFV w cIK rfl r
theorem bb4{x:uR}{m:Ob}:qU m (liftM (unsupported x:Sem β)):=Fu aXl
theorem ao0{φ:aE} [dZ1]{a b a' b':Ob}(h1:φ→qU a a')(h2:¬φ→qU b b'):eTK:=tX
theorem wf:∀{c:Gs}{M:BC}{Γ:Ctx}{s:bC}{a a':KD}{i:Nat}(h:bCB),qU (elem' a i) (elem' a' i):=vG BD c M Γ s a a' i h dG P rfl rfl h jS dDZ dDZ bYB bYB aPb rW P aB bb4 j aB (ak3 aIL j)
theorem bb5{a e:Nat}{b b':β}{f f':cZI}(h:Ec)(hf:eT7 eCv (f' x b')):eKn:=bL aQ dD0 dD0 aLC HG List.range' l (by induction l generalizing b b' with|nil=>rw[aQ aAG aAG,jN ak3]|jR x l ih=>rw[aQ aFr aFr,aI (eu (hf x b b' h) pX r r' hr),by(rcases hr with⟨y,y',rfl,rfl,hy⟩|⟨y,y',rfl,rfl,hy⟩),aDU ak3 hy,AQ])
theorem abg[aJY]{b:β}:bPc pure (Ii b):=ak3 ((aIi).mpr rfl)
theorem aql[RlE c γ]{m m':aBA γ}{f f':dUU}(h:dYd)(hf:∀b,bPc f (f' b)):eJg:=eu h MG b' iV dRL hf b
theorem b4m[aJY]{a e:Nat}{b:β}{f f':cZI}(hf:∀x b,eCv (f' x b)):qU bLx b f bLx b f':=bb5 ((aIi).mpr rfl) kI x b b' h bK aME ((aIi).mp h) AQ
end
end WS
end
section
namespace WS
open PySem PyProof.Rows
open Sem(wp)
structure atc(c:Gs)(M:BC)(Γ:Ctx)(s:bC)(i j:c.I)(v:gE):aE where
 aAM:TB K cA gE Pos YV bC E cOO p Pos ((∀q,K v q s)→bDu bNs aL3 bAs Rh K E)
 sur:∀p,bDu bNs Dc cKR yP (fun b _ s'=>bSC b v) aJg
section
variable{c:Gs}{M:BC}{Γ:Ctx}{s:bC}{β γ:cJ} [Hy] [bRa]
theorem bnd(hL:Wd)(i j:c.I){f f':eHe→Ob}(hf:∀v,qU (f (.ok v)) (f' (.ok v))):qU (dXE aL3 bAs Rh>>=f) (dXE Dc cKR yP>>=f'):=vM cX v L (hL i j) aXl aG e qG m (Sem (Except bU gE)) st LV ((liftM m:aBA eHe).run st=(m>>=JP a Ii (a,st))) bG m st dRh (by rw[dDY,e]at w⊢) (by rw[bFV,bFV,Sem.wp_attempt]at w⊢) (by obtain(⟨a,q,s',⟨rfl,rfl⟩,ha⟩):=bnb _ p' p' s (L.sur p') w) aF aT9 ha aB Dr L.real bT q' gG aT9 (hf a _ _ _ _ _ _ _ _ r k ha)
theorem a_f(hL:Wd){x x' y y':TY}(hx:CZ x x')(hy:Rl.rel c y y'):qU (lt' x y) (lt' x' y'):=jX AJ i rfl hx AJ j rfl hy aQ lt'_eq lt'_eq eJB aDv P g r aB (bnd hL i j JP v ak3 fF jO v v bMt)
theorem a6z(hL:Wd)(i j:Nat):cT2 ltAt':=fN aH ltAt'_eq eJB aDv P g r gZ eMt eHJ eMt pX y y' hy aB (a_f hL hx hy)
theorem bi2{α β:cJ}(f:aJC)(xs:Jv α)(i j:Nat):(Zg f).swapIfInBounds i j=iM (xs.swapIfInBounds i j) f:=bL aQ dD1 dD1 bQ hi (i<dD2) oS bQ hj (j<dD2) oS eO5 (dif_pos hj) dif_pos BB Array.swap_def Array.map_set dD3 eO5 (dif_neg hj) dif_neg aQ (dif_neg hi) (dif_neg dLE)
theorem alv{α β:cJ}(f:aJC)(u v:Nw):eP5 aR (dB4 eT5 (Zg f)) eT5:=GO l bY _ MK k l [bY xs,by rw(occs:=aGe) [aEW,aEW,bi2,ih]]
theorem bb6(i j:Nat):cT2 reverseSlice':=eWl reverseSlice'_eq (mirror P i j ((j-i)/2))
theorem a60(i j:Nat):cT2 moveDown':=eWl moveDown'_eq (bubble P i (i-j))
section
variable{P:aUL β}
theorem yn[aJY](h:∀b,P b b):aEC:=cP0 dRL b
theorem yu{P:lR bQf bQf}(h:bIm kQ d d' eCp (P (b,d) (b',d'))):aEC:=fun⟨b1,b2⟩⟨b1',b2'⟩e=>h b1 b1' e.1 b2 b2' e.2
theorem a2l{P:lR aJl aJl}(h0:P aS aS)(h1:bIm (P aO b aO b')):aEC:=MG b' bL bEJ e rfl rfl x y rfl rfl h dU aB h0 AQ
theorem bi3{P:eBk}(h:∀X:aJv,P aEk (X.map yP)):aEC:=cP0 AJ X rfl e X
theorem ak4{P:lR TY TY}(h:∀i:c.I,P bAs (yP i)):aEC:=cP0 AJ i rfl e i
end
theorem ccp(k:Rg)(a:KD)(p:aCG)(g:Nat)(f:Mn):bUY gallopOf g:=rfl
theorem bt'(k:Rg)(a:KD)(p:aCG)(g:Nat)(f:Mn):bUY bFX a:=rfl
theorem ccq(k:Rg)(a:KD)(p:aCG)(g:Nat)(f:Mn):bUY pendingOf p:=rfl
theorem b4n(k:Rg)(a:KD)(p:aCG)(g:Nat)(f:Mn):bUY failedOf f:=rfl
theorem bi4{P:lR LV LV}(h:cXE X aJv (P aQp aL3 aEk aQp Dc aRH)):aEC:=MG b' bK aDv X g e AQ
theorem aao{φ:aE} [dZ1]{a b a' b':Ob}(h1:qU a a')(h2:qU b b'):eTK:=ao0 eZ h1 eZ h2
local macro_rules (kind := Lean.Parser.Tactic.showTerm) | s => return Z.tp 36 #[s[1][0][0][0]]
theorem bev:dAz lo nrem Nat eKQ eKQ:=eWn xN c M Γ s hL lo nrem countRun'_eq
theorem bnf:∀{c:Gs}{M:BC}{Γ:Ctx}{s:bC}(hL:Wd)(lo n ok:Nat),qU eQb eQb:=eWn BD c M Γ s hL lo n ok binarySort'_eq
theorem a_g(hL:Wd)(iG:gE)(k:c.I)(X:aJv)(aW i:Nat):qU eSE dQ9 aEk eSE dRa aRH:=qS beyond' aI (eu (wf aIL X) eHJ) aIp iG aB (a_f hL hx aIL k) aB (aql (a_f hL aIL k hx) bT o abg)
theorem abh:∀{c:Gs}{M:BC}{Γ:Ctx}{s:bC}(hL:Wd)(iG:gE)(k:c.I)(X:cLl)(aW n hint:Nat),qU eWO dQ9 aEk eWO dRa aRH:=cH5 (by intro c M Γ s hL iG k X aW n hint) aQ dD4 dD4 aB (a_g hL _ _ _ _ _)
theorem mk_eq[aJY]{b:β}:CZ b b:=(aIi).mpr rfl
theorem b7z{b b':β}{d d':γ}(h:Ec)(g:eCp):CZ (b,d) (b',d'):=aT h g
theorem b70{b b':β}(h:Ec):CZ aO b aO b':=dX2
theorem b71:CZ (aS:aJl) aS:=gB NJ
theorem b72{b b':β}(h:Ec):bB6 (ForInStep.done b) ForInStep.done b':=gB xY aIh h
theorem b4o{b b':β}(h:Ec):bB6 (ForInStep.yield b) ForInStep.yield b':=dX2
theorem ak5{X:aJv}:bB6 aEk X.map yP:=aIL X
theorem aqm{i:c.I}:bB6 bAs yP i:=aIL i
theorem bb7{a a':KD}{k k':TY}(h:bCB)(g:eCq):bB6 (a.push k) a'.push k':=eB6 AJ i rfl g (X.push i)
theorem mk_one{k k':TY}(g:eCq):CZ (#[k]) (#[k']):=cUk AJ i rfl g (#[i])
theorem ccr{a a' b b':KD}(h:bCB)(g:Ec):CZ Ib (a'++b'):=eB6 AJ Y rfl g (X++Y)
theorem ccs{a a':KD}{i j:Nat}(h:bCB):CZ (a.extract i j) (a'.extract i j):=cUk AJ X rfl h (X.extract i j)
theorem cct{a a':KD}(h:bCB):CZ a.reverse a'.reverse:=cUk AJ X rfl h X.reverse
theorem bi5(g:Nat):qU dRO dRO:=sR aH setMinGallop'_eq bNh aDv P g' r kF P pd g NJ
theorem b73{P:eBk}(h:aEC):aEC:=h
theorem bb8{F F':Rv Ob}{n:Nat}{x x':Ob}(h:∀n,qU (F n) (F' n))(e:x=F (n-1))(e':x'=F' (n-1)):qU fZ (n>1) x (F n) fZ (n>1) x' (F' n):=tQ LP e e' ao0 eZ (h _) eZ (h _)
noncomputable def RF(c:Gs)(d d':eTu):aE:=dNT (∀i j,eTE)
theorem ch9{d d':eTu}(h:RF c d d'){o o':KD}{i j:Nat}(ho:cE1):eTE:=h _ _ ho _ _
local macro_rules (kind := Lean.Parser.Tactic.traceState) | s => return Z.tp 37 #[s]
noncomputable def ap2{α β γ:cJ}(f:cA α β γ)(a:α)(b:β):γ:=yZ f
theorem agx{a e:Nat}{b b':β}{f f':cZI}(h:Ec)(hf:eT7 qU (ap2 f x b) (ap2 f' x b')):eKn:=bb5 h hf
theorem au2(o o':KD)(n:Nat){J J':cA KD Nat Ob}{k:Nat}{x x':Ob}(ho:cE1)(h:eKy)(kk:eKy→Sim c M Γ s x x'):qU fZ (k>0) x (J o n) fZ (k>0) x' dMJ:=aao (kk h) lW h ho _
local macro_rules (kind := Lean.Parser.Tactic.failIfSuccess) | s => return Z.tp 38 #[s[1][0][0][0]]
theorem bua:dAz X Y cLl dVV aEk Rh dVV aRH yP:=fDk dD5 (by extract_lets-lift+onlyGivenNames aL4 pS au3 z0 z1 aAN ao1) au3 ao1 (by clear_value aL4 pS au3 z0 z1 aAN ao1) (by delta aL4 pS au3 z0 z1 aAN ao1) [bLQ x1,cJN q q' hq,eSv ia ib,cFP mg ac,fFV,dD6,fFd ia aLC (ib+1) ib2 eTw fAJ dD6 ib2 fEY,fAX]
theorem bub:dAz X Y cLl dVW aEk Rh dVW aRH yP:=fDk dD7 (by extract_lets-lift+onlyGivenNames aL4 pS ao2 z0 z1 z2 aAN alw) ao2 alw (by clear_value aL4 pS ao2 z0 z1 z2 aAN alw) (by delta aL4 pS ao2 z0 z1 z2 aAN alw) [bLQ x1,cJN q q' hq,cFP na nb,eSv mg ac,fFV,TD,aLC (na-k) kk,fFd na eTw fAJ aLC (nb-1) nb2 [TD,aLC (nb2-k2) kk2] nb2 fAX,fEY]
theorem bng{α β:cJ}(f:aJC)(k:Nat):eP5 Ds α ((aB7 (f x.1,x.2)).foldl aZF (Zg f)) aZF:=bBN l bY _ x bY xs (by rw[rC,aEW,aEW,←ih]) aZ
theorem bb9(X:aJv)(k:Nat):bR5 eYg aEk eYg aRH:=sR bNh aDv P g r aG e (∀f:dUV,(dRT).toList.zipIdx.foldl aZF (aL2 f)=iM (X.toList.zipIdx.foldl aZF P) f) bT f cN hM (bng f k) pB aQ aFz List.zipIdx_map (by rfl) kF _ pd g aT bAh cDE aL3 e Rh bAh cDE Dc e yP
theorem buc(hL:Wd)(i:Nat):qU dQu dQu:=fN aH mergeAt'_eq cX0 [by simp-iota only[ccp,bt',ccq,b4n],by dsimp only] [by(generalize pd[i]?=u),by(generalize pd[i+1]?=v),by(cases u),[aB bb4],by rename_i u,by(cases u),by rename_i sa u,by(cases u),by rename_i na pw,by(cases v),by rotate_left] bDL [by rename_i v,by(cases v),by rename_i sb v,by(cases v),by rename_i nb pw2] gZ (eu (bnc bAp X g NJ) (yn Xo)) (eu aXb (ak4 yE ?_)) eNJ dRS o aB abg k1 TD gZ (ao0 eZ abg Xo) (eu aXb (ak4 aH4 k2)) eNJ cMH o aB abg k3 TD aI (ao0 eZ abg Xo) aG e (∀(f:dUV)(u v:Nat),(dRT).extract u v=iM (X.extract u v) f) fR f u v aX lO e Bi (ao0 Xo Xo) aI (eu bMu bua (bi3 aH4 Z)) aI (eu eCK (yn Xo)) cX0 aB abg gZ (eu bMu bub (bi3 aH4 Z)) (eu eCK (yn Xo)) cX0 aB abg aB bb4
theorem a61(F:aCG→aCG):bR5 eQC eQC:=gT bNh aDv P g r bAp P g NJ
theorem bi6:∀{c:Gs}{M:BC}{Γ:Ctx}{s:bC}(hL:Wd),qU bYE bYE:=cH5 XO c M Γ s hL aH sortRuns'_eq cKb qN (by first|rw[aB bMu bev]|rw[aB (bnf hL _ _ _)]|rw[aB (buc hL _)]|rw[aB (a61 bT p (p.push _))]|rw[aB (a61 bT p (p.modify (p.size-1) _))])
end
end WS
end
section
namespace WS
open PySem PyProof.Rows
open Sem(wp)
theorem int_lt{eJ:aM}{w:aK}{s:bC}:G.LtAt eJ w s aL5 Dc:=JT (by intros A E x y a b Q ha hb h) bYF eAW x i t eAW y j u [cF ha,cF hb,jN oneLt_int] cF hb cF ha
noncomputable def ac5{n:Nat}(rk:aQb)(l:cKm):aE:=l.Perm (dD8 n)∧l.Pairwise Lu JB (aCC<rk j) (rk i=rk j) (i<j)
section
variable{eJ:aM}{w:aK}{A:cM}{E:cU}{s:bC}
theorem bnh{n:Nat}(h2:2≤n)(aAM:aVr→TY)(kd:Rg)(rk:aQb)(hlt:∀i j,cWy bNs kd (aAM i) aAM eIp){Q:lR aLN LV}(h:cXE P (Array (Fin n)) (ac5 rk aFA→Q () aQp kd aYr aAM)):wpS aVH A E s bYE Q cBs kd dIu aAM (#[]) 7:=qF iX Γ p hΓ (by let c:Gs:=qY aVr ⟨aT 0 aHb Nat.two_pos h2⟩ aAM VW (Sh aCC,Sh fM EJ) kd) bD hL dGj aVH Lu kM cHz kI K E p hk eYk fD Je z z.elim (hlt i j Γ p hΓ) bT p eYk z bBo ((DR bYF oneLt_int NJ:cWy (keyLt' Dc Sh aCC Sh (rk j)) bSC b cHz) Γ p hΓ) a0 (KeysOf aL5 ((aHP).toArray.map yP)) cN cY p hp aF aFz hp IE i rfl (Qg hp) dL aCC rfl HJ lf (bX8 (α:=c.I) aHP) n dD9 sz ((cRE).size) n fW lf yG L (G.wpS_sortRunsSt (prog:=prog) (w:=w) (A:=A) (E:=E) (s:=s) (kd:=oneType') (st:=cBs Dc cRE (#[]) 7) (a₀:=cRE) (Q:=wO t dZ ((dQ3).Perm ((aHP).toArray.map yP)) (SortedToK aL5 (bFX t) n) (Stable aL5 dQ3 ((aHP).toArray.map yP))) int_lt a0 kM (Array.Perm.refl _) rfl rfl rfl (Stable.refl _) gC bzy h2 sz oW t p1 p2 p3 p4 cH p1 aUC (by simp[lf]at*) p4) (bi6 (c:=c) hL _ _ p p _ _ _ _ kF Jh aHP (#[]) 7 NJ (fun b b' t t' q q' _ rt k=>?_) (L Γ p hΓ)) aDv P g rt (by obtain(⟨_,p1,p2,p3⟩):=k) (by simp only[bt']at p1 p2 p3) bPN kD (h P pd g NR) aJ q (Array.perm_iff_toList_perm.mp p1) dA aFz aFz q aI (List.perm_iff_count.mpr bT a ?_) aG e (∀l:cKm,l.count a=nM ((aA8 yP).countP) xJ x.2 cPU (i==fM a.val) _ bI) aHx Vc aQ List.countP_map List.count_eq_countP pB aQ e e YX q.countP_eq bD srt (P.toList.Pairwise Lu (aCC≤rk j)) kK aH bEX eUT bD hz (P.size=n) xX p1.size_eq aE4 lf aP hj' (j<n) bK hM hz XU hj gO q eIj p2 hj' kk ZK k hk (k<P.toList.length) (KK aL5 (aL2 yP) k=rk (aFA[k])) cED mY KK bO dA (kk i hi) (kk j hj) q aG q' aPO (rk (aFA[j])<rk (aFA[i])) q aB (Int.not_lt.mp (of_decide_eq_false q')) row (∀v:Int,P.toList.filter cNv=(aHP).filter cNv) bT v kK aJ q (p3 v) cV rowOf q Jn aFz aFz Qo Qo q pO (sameKey aL5 v∘yP) cNv Ac aE9 i bW ((! mQ aCC v&&! mQ v aCC)=dJF) aH IR cG om7 aF e q aG inj cTe cKm (l.map yP=m.map yP→l=m) (fun{l}=>bP0 l aZ a cY m z Mx m eM z b m bO) aB (inj q) yJ dCc srt iX a b hs iA (Int.lt_or_eq_of_le (srt hs)) h1 h1 HQ qK aI fF eO h1 aJ f (hs.filter VW lT (rk i=rk a)) Jn bP7 (dCb fW h1) List.filter_nil row f aJ fl (List.pairwise_lt_finRange n) aB (List.pairwise_iff_forall_sublist.mp (fl.sublist bW4) f)
end
end WS
end
section
namespace WH
open PySem PySem.Spec PyProof.Rows L2
section
variable{eJ:aM}{w:aK}{A:cM}{E:cU}{s:bC}
theorem bi7{R:bAy}(hh:Bk){r S:aA}{n:Nat}{t u v:Tok}(hr:fB0)(hn:cGO)(hS:GS S cO7 0)(h:Ce h' aU tk Nat acc qA c Nat jW cSm S bUh S acc c (ItemsOf vE v (∃t,v=YO (0+i*1)) acc n) Eo aC7 aEd):cWu eFi aC7:=sR bD sz eCi 0 GY 1 qS dCY bQ q (0<n) dE bS aZ sm (Builtin.Range.small 0 GY 1=aY) Lx aV Builtin.Range.small lO sz mF Builtin.Range.rangeFitsLong b91 hn vI codeAny_builtin F.entry_list_iadd aH aWx dEa (wpAny_extend_range (n:=n) hh hr sm sz dO b92 hn S aC7 0 hS h)
theorem a62(hh:Bk){r:aA}{n:Nat}{t u v:Tok}(hr:fB0)(hn:cGO){Q:UI eQ}(h:TB h' aU tk Nat vs eQ jW dVp (uU=n) aPl v bU bMe (∃t,v=Value.int JR t) (Q vs aEd)):FE (collect BM):=KW aV collect oE YQ wpAny_runValue cD4 F.entry_proto_collect aWx F.plain_proto_collect DC GA (dS7>>=JP l aLR eFi l) aNj aLX Wp aT bIt dEa (bi7 hh PV hr hn GR dAc hk) aBR A (aT7 fJ) Nr wpAny_load hS Wp (h h' tk _ wC tJ hk bCX aB0 lX bFY Mo i v) cX t q dIL rX bS
end
section
variable{X:Cx}{bH:dM}{σ:cO}{H:Hp}{s:bC}{A:cM}{E:cU}{a:aA}{vs:eQ}{f:bU}
theorem bew{xs:aN}{us:eQ}{x:V}{u:bU}(h:RH)(r:Ah):IZ aP3 (us++[u]):=h.append (.jR r eF)
theorem a63(us vs:eQ)(h:By=uU):us.toArray.zip aET=dNW ((dZ2).toArray.map):=bA aIH (Array.ext ?_ ?_) (by rw[Array.size_zip,bFW,zO,zO,zO,dD9,h,bW0]) iX i h1 h2 LQ Array.getElem_zip dD3 List.getElem_toArray List.getElem_finRange (by rfl)
structure a64(eJ:aM)(w:aK)(A:cM)(s:bC)(n:Nat)(us:eQ)(hl:By=n)(rk:aQb)(kd:Rg):aE where
 mK:2≤n→qG Q UI Rg E cU (Q kd s→FE (keyKind' dEb))
 lt:∀i j:aVr,cWy (keyLt' kd (us[EJ]' fD) (us[aFb]' fD)) eIp
theorem a65:∀{n:Nat}(rk:aQb)(h:n<2),WS.ac5 rk (dD8 n):=vG lM n rk h aI eO (List.Perm.refl _) aH bEX KZ
theorem a_h:∀{X:Cx}{bH:dM}{σ:cO}{H:Hp}{s:bC}{A:cM}{E:cU}{a:aA}{vs:eQ}{f:bU}(I:LI)(fp:cBY a){n0:Nat}(ho:dRq aBE aET n0)(hz:uU≤IG)(J:aML aN)(h0:J 0 [] H)(IQ:dAk v bU ks aN qQ bMe (J i ks H1) kJ p bH (p∈v_) bSf dO7 A Em f [v] bG k H2 (J eG bQE H2))(R:MD dXQ)(fin:∀(ks:aN)(H1:Hp)(s1:bC)(v_:dM)(us:eQ)(hl:By=uU),jW (J uU ks H1) bSf bTn AX kd Rg rk aVP (Fin uU) (eX8 A s1 uU∧iJ P bMT P aCw P)){W:dQE}(h:Ce P dXQ H1 Hp s1 bC c0 Nat qQ aCw P dYp aXN a yY s1.heap.get? aBE Jh Dt aL2 aHt c0 (W (.pS aBj uH) s1)),bTp (ksk_tree a f bI) W:=by rw[by intro X bH σ H s A E a vs f I fp n0 ho hz J h0 IQ R fin W h,_,aG hsl bAw DR aFo bp9 hz,eZj (id fp),RJ ha Heap.lt_size ho,aV ksk_tree,cO9 ho,bDf ho fE mJ,cEP e1 ho1 cCw a aZe ho cJ7,_,dTQ ho1,eN sb aYa kO a aGQ I1 (I.turned (t':=s.toks) aKb f1 f2 f4 f5 f6),gX (wpAny_newTuple ?_ fE),eTo,cLz,Jj hkS Bx dH8 kS,bD I2 Kt H GM bRn bXK I1.kept eCz hks (Bx cCw≤kS) iV FU hkS Jg Nat.le_succ _,aJ fk (I1.aqd (H':=H) hks dHJ hks),Ie nka (kS≠a) bL bE z dA z Heap.size_update hks aB (bz4 ha hks) ga eCu bRn cEB ho1 gk aJj bRn kS cOW bK hM hkS cRY bRn h2 I2 ga gk,aG back (∀{H1:Hp}{s1:bC}{o1 o2:Obj},cDl bO8 kS o1 a o2→aXN kS∧aXN a) (fun{H1 s1 o1 o2}J1=>bR aT vY Mp J1.pin kS o1 fk.2 vY Mp J1.pin a o2 fp.2),aV ksk_rest,aNj wpAny_rule,rD aH List.forIn_toArray tI bN5 lO List.toList_toArray,gX (ksk_fold vE s' YG H' Hp us eQ ks aN e Nat jU aCe bO8 kS cWY a aZe H' s' bTn (By=i) (J i ks H') vs 0 _ AN H [] [] 0 gY (? OL) eF rfl h0 ? zS ? pS),aWP OL aB (Inv.pinned aV0 I2 ga f1 f2 f3 UK gk fk.1 fk.2.1 vY fk.2 ML z UK),dPI zS (by rintro j x s' hx⟨H',us,ks,e,J1,rv,hl,hJ⟩) gQ hj iO hx (by rw[Jd]at hl hJ⊢) dRQ aCm (IQ j x ks _ H' s' hx hJ aCM cRd hp J1) pX v s'' he hF bYG AM k H2 J2 rk hJ2 he eN nk dVO kS cWY na dVO a aZe eMS J2 dAU s1 s''.heap kS bYH Sz s''.heap.update kS bYH eL1 us.toArray.push v nk bDf nk tX tX aJ J3 ((Inv.ae5 (Inv.ae5 J2)).turned (t':=s''.toks) aVW s1.2 bk.1 bk.2.1 dSb dSM dSH) Wp kD AN H2 (us++[v]) bQE c2 gY aSx aSx J3 eMO ba.1 ba.2 rX bk.1 bk.2 (bew rv rk) fW hl hJ2,aFy pS [by rintro s'⟨H',us,ks,e,J1,rv,hl,hJ⟩,_,vQ Jd hl hJ,eN nk dVN kS cWY na dVN a aZe,eMS J1,nQ kd rk KT hR (fin ks H' s' _ us hl hJ J1 rv),cO9 nk,aG tail cXE P dYt (bMT aFA→bHK A (ksk_tail a bI e1 cI kS eJT) W E s') Zd qW P pd g hP aG hPl (P.size=uU) Tl aUa hP.1 aV ksk_tail aZ5 TD gO s1 aYa XG kS aGQ na1 eCu cUK eMO bDf nk fD mJ cNQ dTQ na1 aJ J2 ((Inv.ae5 (Inv.ae5 J1)).turned (t':=s'.toks) aVW s1.2 bk.1 bk.2.1 dSb dSM dSH) Ix WS.bt' WS.b4n aAH Rf Array.map_map aG ep (aL2 cJa=Jh (P.toList.map bII uU aHt)) vC FU List.map_toArray Array.toArray_toList bDf na1 mJ tX Ip c2 hc2 MF c2 ((Sz ((cUK).update) a eAy).get?) a eL1 aL2 cJa gJ (get?_update_seq na1 _) aJb s2 aYa cUK a eAy J3 (J2.turned (t':=s'.toks) aVW s2.2 ba.1 ba.2.1 Ea ba.2 aBX ba.2 aVh ba.2) BB bne_self_eq_false aAH Rf NS (h aFA H' _ c2 (hR _ hP) J3 ba tX),aV ksk_end,aZ5 TD,aQ eC CV (¬(bI=aY)) jL (a63 us vs hl),bQ h2 (vs.toArray.size<2),Gi Oc h2 h2 aF zO h2 oE aHD Cv dDX aW3 aZ5 TD aB (tail Jh dZ2 #[] 7 (a65 rk h2)) [FK h2 h2,aF zO h2,gX (KT.kind dXW _ _ ?_),gX aCm (WS.bnh (Q:=wO st eU8 dYt (bMT aFA∧st=eJT)) dXW VW (cB3,aHt) kd rk KT.lt kI P pd g hP kF P pd g NP hP) ?_ e e,bO]]]
end
end WH
end
section
namespace WH
open PySem PySem.Spec PyProof.Rows L2
section
variable{X:Cx}{bH:dM}{σ:cO}{H:Hp}{s:bC}
theorem Inv.adopt:∀{X:Cx}{bH:dM}{σ:cO}{H:Hp}{s:bC}{a:aA}{o:HO}(I:LI)(fp:cBY a)(new:Uz aJZ kO a o),Kt aJZ s:=vM yN X bH σ H s a o I fp new _ eZj fp _ aG ne aIs b u aWS pY a (fun{b u}e z=>bA aUW WH.bb1) HK (I.step (h':=s.heap) (g':=s.gens) (d':=s.drawn) (t':=s.toks) (ch:=xZ) ?_ eLw e eLw aYt e ?_ Xg Wl e ?_ ?_ dTY bG m hn hn ?_ aFi) aSb dH iC b o hb e n Kf FJ lM b xs e _ cUj qW b o u e cUj jK cUj lJ b u e CC b a aY7 aRe z ((I.hok b u e).stay Je r r dUI Zq d r<|dUI lM d xs r)
end
section
variable{X:Cx}{a sV:bZ}{ta:TA}{tb:TE}{p p2 pos Ri aie aAA:Pos}{CQ:Ik}{gM:oX}{x q:Str}{j k:Nat}{P:aA}
inductive brx(Q:VK)(vs:aN)(H1:Hp):aE|mk(n:Nat)(_:IV gR GY)(_:JK r Kz r BM KB r cIy):eFv
noncomputable def bud(ta:TA):TE:=JD ta vs eFv
theorem bue:∀{X:Cx}{a:bZ}{ta:TA}{p:Pos}{pos:Pos}(hm:bPI)(ha:cOZ)(hg:autoParam (bP9) EE.autr._auto_1)(hs:autoParam (aEz) EE.autr._auto_1),Uf aBy Pw xZ bud ta:=vM yK X a ta p pos hm ha hg hs _ KE R _ bC6 bXO dG n e q q1 bB e dUH bX rr aHE rG call_range_1 aB aCN bJH (I1.laid (o:=cIy) dLk lB aUM GR) q aYZ
noncomputable def au4(X:Cx)(σ:cO)(H:Hp)(n:Nat)(ks:aN)(rk:aQb):aE:=Ce bH dM s bC us eQ hl (By=n) cA LI bTn (∃kd,eX8 dEd s n)
noncomputable def bni(X:Cx)(ta:TA)(P:aA)(q:Str)(aie:Pos)(j:Nat)(tb:TE):TE:=Ry (bud ta σ H aFT v fCX)
theorem bi8{α:cJ}{f:PN V}{g:PN bU}:aJi l eK bQp (RelV (f x) (g x)) (Vals aA8 f (Zr g)):=eX5 x (h x aX) cXv
theorem a0e:∀{X:Cx}{a:bZ}{sV:bZ}{ta:TA}{tb:TE}{p:Pos}{p2:Pos}{pos:Pos}{Ri:Pos}{aie:Pos}{aAA:Pos}{CQ:Ik}{gM:oX}{x:Str}{q:Str}{j:Nat}{k:Nat}{P:aA}(hr:eEF)(hN:YB)(hm1:bPI)(hm2:aBt aKO)(T:cZu)(hq:cYG)(ok:cWv)(ha:cOZ)(hb:fBG)(OS:fDr)(aAL:autoParam (cW9) EE.autr._auto_1)(hg1:autoParam (bP9) EE.autr._auto_1)(hg2:autoParam (aGL aKO) EE.autr._auto_1)(hs:autoParam (aEz) EE.autr._auto_1),fAT aKO dXu (bni X ta P q aie j tb):=eYf (by intro X a sV ta tb p p2 pos Ri aie aAA CQ gM x q j k P hr hN hm1 hm2 T hq ok ha hb OS aAL hg1 hg2 hs) dEe aG ha' (PA X dXu cH2 bud ta) CU (bue hm1 ha hg1 hs) (callWith_kw JF eWD fCX) [fFW ra n hra hn,AM J j0 jc jt jf eUl,aG hP2 (ra≠P) kX pQ z oT oT aL7 hT hT c' dA z hT hra bX hra,aJ ccv lW sp hP2 hra,by(obtain⟨t,u,v,hR⟩:∃t u v,s2.heap.get? ra=aO EL Pw Zh dG3 0 GY:=bYI ra _ ccv),dJ (call_function_entry_kw kind_sorted plain_sorted entry_sorted qR ksk_s1 ?_),aV Builtin.«sorted»,aI aYv (checkCount aKO 1 1 _) bMo,gX (a62 (A:=X.A.in1) aTW hR hn ?_),Ge h' tk vs hk hvl hvs,aG hsl bAw iV aQ hvl aFo bp9 hn,gX (wpAny_newList ?_ hsl),bDI I3 (I2.kept (h':=h') (t':=tk) hk) I4 (I3.kept (h':=eNN) (t':=tk) aRh) fp (I3.aqd (H':=H3) lB aMK I3.hok.fresh),dR hD aJj eNN Rc aBE aET 0 GR dRl (wpAny_call_entry_kw slot_list_sort GI hD entry_list_sort ?_ qR ksk_l1),bW YI aCz dEd (Builtin.«list.sort» aT [cI Rc] dMQ) _ _ _,aH ksk_t1,bB hvl,bPN (a_h I4 fp hD hn J j0 ?_ bG L H4 (dEf=uU∧JK r dLm BM Kn r cGQ) ?_ ?_) yN i v ks v_ H4 s4 hv hJ hsub I5 _ eP t rfl (hvs i v hv) CA hi iO hv pf (I5.pin _ cNC hsub bN6) hcd (s4.heap.CodeRec DG q) eSy (jc i ks H4 hJ) aJ rm ((aMK ((cEg dC7).in1.mono)).in1) fC1 vX NP t (jt i ks H4 hi hJ) yK ks H4 s4 v_ us hl hJ I5 rv _ dG rk hk2 hq2 (jf ks H4 hJ) eP kd KT (hk2 v_ s4 us hl I5 rv) aB uJ kd rk KT bG L hL aT xX aUa hL.1 GX (hq2 L hL),Oj BD L H4 s4 c0 hQ I5 fp5 hD5 dJ sS cFQ oF rfl aJ I6 (dEc I5) aG fp6 Tq H4 Rc SK fp5.1 fp5.2.1 vY fp5.2 Ea fp5.2 aBX fp5.2 aCM (fp5.2.2.2.2.2 p Am) cL3 aCN cI Rc (Inv.adopt I6 fp6 (o:=gW cGQ) Wm uJ Dt L.map aHt c0 ?_ hD5) hQ.2 fp5.1 bS vI bi8 L aUb i _ eP t e (hvs EJ aHt (FW i.isLt)) dL t e]
end
end WH
end
section
namespace WH
open PySem PySem.Spec PyProof.Rows L2
theorem amj:Xx aGH xK aj1:=dW
inductive m7(vs:aN)(H:Hp)(Q:VK)(XE:XK):aE|mk a t(_:pM)(_:mH)(_:BN)(_:aGW aAO):BQ m7
section
variable{P:aM}{w:aK}{K:aL}{mg:bF}{aW:aU}
theorem a2m(F:eDR)(T:WB)(B:fQ):cVZ:=bDx amj aSa a t [fEj,aJ nd amj.nd,gZ oF IX eUR KC 0 xK aMw 1 aKv cYD fU (ck T.bcz) WI a ha,cY D hD,bPN (xu (xs:=AF) Ci i y DD c t c (y=pI cYt) (fun i y H1 H2 _ r=>r) hD He bK cG cLm hz ?_ ?_) (by intros i x H' hx s1 _ C hC) cS c hc rfl (ar_ hx) gZ kD aGf _ _ rfl rfl _ rfl lZ Wn bY h dR h1 (1≤c) Gx aG4 bhc bM3 _ rfl Mf jA c hc aQ bPj aLm aI (aLi Cw (dEh ?_)) aV dEg aB b16 bY h wT eR4 pO ys iM (t.map bT c cYt) Cw cN rG IM bY i aP0 cYa h1 dA M.1 az h1 c hc aI aDn _ vJ hy e aG e2 ((List.map aB4 cYt t).all id=aAO t) aP2 aAO bYe bS]
theorem a67:Xx JI apz:=aDW
inductive qp(vs:aN)(H:Hp)(Q:VK)(XE:XK):aE|mk a t(_:pM)(_:mH)(_:BN)(_:aGW Rj):BQ qp
theorem a_i(F:eDV)(T:WB)(B:fQ)(lm:cVZ):xU bWp 2 JI qp:=bDx a67 aSa a t [fEj,cVq T.a03 Bm lm,bP2 bCq bY h dR h1 bOU aIX b2u aOc a t ha hz cY H' s1 eCC Rj bK eAD aQ bPj bYJ bS bY h bD h1 (¬bOU) eKC b20 e dHP bK eAD aQ cMp bFr wT]
theorem a68:Xx JI ap0:=aDW
noncomputable def textOk(t:aR):gE:=dMK
inductive zk(vs:aN)(H:Hp)(Q:VK)(XE:XK):aE|mk a t(_:pM)(_:mH)(_:BN)(_:aGW aFC):BQ zk
theorem a_j(F:eDU)(T:WB)(B:fQ)(lm:cVZ):xU bWo 2 JI zk:=bA Wv aYo a68 aSa a t (by rfl) dPm cVq T.a04 Bm lm bKn bJB aNM eFX aG h1 cD7 aIX b2v aI CG _ rfl a t rfl ha hz mR H' s1 eCC aFC aJw aFC bPj bYJ bS bD h1 (¬cD7) eKC b21 e (aFC t=bI) aJw aFC cMp bFr xD
theorem ao3:DX [uV,aFD] uV amt:=dW
inductive lp(vs:aN)(H:Hp)(Q:VK)(XE:XK):aE|mk x(_:IV KR)(_:cF9)(_:dLw):BQ lp
theorem a69(F:eGg)(B:fQ):aZB:=bA Ww aYo ao3 IP x rfl h (by rfl) jF x rfl hz k h aJ nd ao3.nd gZ oF IX aB1 (bt3 (pv 0)) aFD 1 aMw 1 aKv (cz bh3 boot_ord B.ord fU) bM3 rfl x mR D hD Ka (a2i aFu Er hz Ci i y DD c bFE c (y=V.int aHJ) aDr hD (fun i H hi _=>hi) LR H lB cZf v ?_ ?_) (by rintro(i)H' v H2 hi s1⟨rfl,c,hc,rfl⟩_ C hC) Nf aMD _ rfl Mf MZ c hc [eR4,aI (k H' D s1 hD (hy.trans bAh dHi IM VW ?_)),aV vn,pO rW bFH rW bFE bFs,aQ kB e,cYa h1 aF M.1 h1 c hc]
theorem amk:mP [CM,bWO,"pieces",dEi,jZ,aFD] cEr aj2:=dW
inductive qd(vs:aN)(H:Hp)(Q:VK)(XE:XK):aE|mk a t sep(_:aBQ fT sep)(_:mH)(_:BN)(_:cY9):BQ qd
theorem qd.out{vs:aN}{H:Hp}{Q:VK}{XE:XK}:KF qd bSi sep BN cY9:=RB qd.rec bSi sep BN cY9 aKE
theorem a2n:bVr P ePp B fQ cXc:=dY8 bVc P B amk sep cXA sep hz aJb nd amk.nd hu bFI aI oN Hn aUz 2 aKv NM aUz 3 aKv aw aJ6 rR aMw 4 aKv aMw 5 aKv Ke ET qt 5 fU FL Hx jC bKJ aHe 3 4 aUz 3 aKv aWF oG Hx jC aXQ aHe 3 UZ 2 dP eO mJ l hl dR s0 rJ cOc pK hl bQe AF VU s0 Fg aZm wd AF Xa Ga (∃(b:Nat)(ps:bM)(ts:fB)(v4 v5:bJ),Et aGE rY KA sep iL l bKl wD b eW aXC l dYx (cRK∧bJb t) wD pF bSq t (ts++aSi aIo ER)) aT mJ Ua 0 [] [] aS aS bA8 lB s0 ah eF lB fW (azu _ (av5 sep t)) eM3 s1 ZU (by rintro i x σ H' U hx⟨hi,b,ps,ts,v4,v5,rfl,hb,s1,h1,h2,h3,h4⟩hU) ePi aJ hlt iO hc dR s2 Ti bSF pK hU NX eHx eYX bE h NN hcs c sep aI0 aG4 ba5 aG a6_ (t.drop i=bPg) eKc dP ⟨_,rfl,bHg aXz h1,_,rfl,_,rfl,_,rfl,_,rfl,_,rfl,a,AF,rfl,cPl,?_⟩ p hp MP s3 H' sG bSF p (agb AF bOd aO JR) uG aAP hp hpl cRK eJd cMa aI eQR bRS h3 hi hz MT ⟨_,rfl,_,_,rfl,rfl,hlt,eG,aBP p,ts++[aIo],_,_,rfl,lB,eCA,?_,?_,?_,?_⟩ aB aUd aPU aZV ME h2 (fun q u⟨n1,n2⟩=>eO n1) eO hpl aDs HM _ l _ p cE (aq hpl) ah ad9 fP cG aB (bqb h3) cE h4 a6_ bdh mF (azu _ (av5 c cCc)) bE h bD hcs cMt dL8 h a6_ (t.drop i=bPg) eKc aI aT hlt Ua b ps ts _ _ bA8 aQS hb HD cMa (bE5 h2<|QY eS0 n1 mU n2) aQS h3 ?_ cE h4 a6_ (a5d _ hcs) aLy pO (eG-b) (PX+1) eBB aQ e bE1 [by rintro σ H'⟨_,b,ps,ts,v4,v5,rfl,hb,s1,h1,h2,h3,h4⟩,_,aLv az,dP Lm rL h1 _ rfl _ rfl _ rfl a AF rfl bAm ?_ p hp,MP s3 H' aG2 p (agb AF bOd aS) pK hp hpl cRK eJd h1,gZ eQR US h3 hz wX (k _ l aBP p eCA hl bAM ?_),cE h4 aTx bdi,dAM cK6 cK4 h2 eS0 aDs HM _ l _ p cE (aq hpl) ah agw (by congr 3) aB oU dSv]
end
end WH
end
section
namespace L2
open PySem PySem.Spec PyProof.Rows
section
variable{P:aM}{w:aK}{A:cM}{E:cU}{s:bC}{d:aA}{xs:Pm}
theorem a_k(hd:bBy):MeetsIn P w (Builtin.«dict.__len__» BI [KL]) bLi aG3 bT5 aZv Eo LZ dF FY aIR:=MeetsIn.of_wp<|qF vR A R s q (by obtain(⟨xs,⟨ob,ents,ep,h1,_,h3,h4,_⟩,r⟩):=q) aJ hsz (size_of_entries h4) DC _ (do let n←dictSize d;let m←Builtin.Dict.pendingCount d;retInt (n+m)) aV dictSize aWU (bFG h1 h3 (Cv ?_)) Nr wpAny_pendingCount_other hd dQS bS
theorem a6':∀{P:aM}{w:aK}{A:cM}{E:cU}{s:bC}{d:aA}{xs:Pm}{Q:cU}(hd:bBy)(hm:bT5 aZv)(hfit:fM dF<Fx)(h:∀t tk,Q YO dF aM4 tk),aPW Em (.OF aEO) [KL]:=KW XZ P w A E s d xs Q hd hm hfit h dJ (Calls.call_function_entry kind_len plain_len entry_len (args_len1 _) ?_) aV Builtin.«len» gZ aYv (oneArg aEO _) bMo aYv (callSpecial? KL (Str.ofString bYL)) dGK bYL bYM dEj (call_meetsIn dEj bYM F.entry_dict_len (F.args_dict_len_1 _) (a_k hd) jA xs hm) cRh aFv cNQ bD n0 (¬cFW<0) cL2 n1 (¬eAC) dO b1l hfit ZG _ fZ (cFW<0) _ fZ eAC _ _ _ FK n0 n1 Gg bAa wpAny_mkInt sS qR h
end
section
variable{X:Cx}
theorem bex:eIl Yc:=vM aC1 eG4 cIj r bX ru bH2 hd ys (a6n TM ha) aI (a6' hd dd eGS pH b2p mR t tk) hM aT5 aB aGx gR oK PY NP t
end
end L2
end
section
namespace WH
open PySem PySem.Spec PyProof.Rows L2
noncomputable def tk(t:aR):yU:=eQY DP c
theorem a0f(t:aR):Ft (tk t) kV AF:=eEJ tk
theorem bi9{a b:aR}(h:tk a=tk b):tW:=eBo tk
noncomputable def KeysAre(kvs:jQ)(ts:fB):aE:=cTJ ts.map tk
theorem KeysAre.has:∀{kvs:jQ}{ts:fB}(h:eDf)(t:aR),CJ aEc t=ts.any JO u u t:=qF qW kvs ts h t hM qc pO (kvs.any bT kv lT (LU=tk t)) ((cMM).any yE lT (k=tk t)) DE OI cE e h OI pB aE9 u bW aJV (tk u=tk t) u t WP u t jB bS DO UP q bi9 mF q
theorem KeysAre.put{kvs:jQ}{ts:fB}(h:eDf)(t:aR)(v:V)(hn:ts.any JO u u t=bI):bF2 aGD tk t v (ts++[t]):=SI aC9 q aEc t VG (h.has t) hn RG aEc t y aZ bF2 jS (ur v q) lN h lN (by rfl)
theorem ae6:DX [uV,aFE,dEi,jZ,"form"] uV acb:=dW
noncomputable def aap(t:aR):V:=eSb
inductive j_(vs:aN)(H:Hp)(Q:VK)(XE:XK):aE|mk a t(_:pM)(_:mH)(_:BN)(_:cTK):BQ j_
theorem j_.out{vs:aN}{H:Hp}{Q:VK}{XE:XK}:KF j_ aNT cTK:=RB j_.rec aNT cTK aXj
structure LF(t:aR)(i b:Nat)(kvs:jQ):aE where
 hb:wD b
 hi:Ga
 h4:PX≤4
 st:∃(r v f:Nat)(l:Nm),dZ eKj aZX iS (aOv=bF3 i r v f aIo l ER)
theorem ao4{t:aR}{i c:Nat}(hc:aPr):Cm i=bPg:=bL aJ hlt iO hc dHK hlt aZ
theorem bey{t:aR}{b i c:Nat}(hb:wD b)(hc:aPr):(Sk).take (eG-b)=aIb aIo:=bL pO (eG-b) (PX+1) eBB cE e bE1 List.getElem?_drop bS
theorem a7a:∀{t:aR}{b i:Nat}(hb:wD b)(hi:Ga),gD ((Sk).take) PX=PX:=kX XO t b i hb hi bO
theorem LF.char:∀{t:aR}{i b c:Nat}{kvs:jQ}(L:bUI i)(hc:aPr)(hn:¬bT0),(eOm→aap t=vX)∧(¬eOm→bUI eG):=WG BD t i b c kvs L hc hn fBF _ eN hlt iO hc hp (a7a aL9 L.hi) uB bPk bF3 eC hn e aQ6 NR bE h aF bEc e fP aV aap aH e iA h h h dE jN byg nF aDM hp aV dEk jN bzu bE h eN h4 L.h4 hb aL9 aF Zn e jB aB LK aQS hb hlt gC cad h h4 r v f l hk hl gG (bey aL9 hc) e cTk jK aB (bza h z) aF hp z cV dEk z aB (b_z h h4 z)
noncomputable def bry(t:aR)(i:Nat):aE:=(DD c t c bT0)∨i=nJ
theorem LF.sep:∀{t:aR}{i b:Nat}{kvs:jQ}(L:bUI i)(hs:dRM),(i=b→aap t=vX)∧(i≠b→(eAn→aap t=aBd)∧(cUX→eNU nJ (LF t eG eG eQ1))):=qF sY t i b kvs L hs _ fBF _ eN hp (a7a aL9 L.hi) hb aL9 bD a7b (oK=iS) Tl Ya hk hne ((Sk).take PX=[]↔i=b) iV FU List.length_eq_zero_iff hp by0 hb oQ hany (CJ cC3=bEB JO g XR aIo) zB hk.has OI hend (∀(r v f:Nat),Si33.ended i l cOL=fZ eAn (.SO b) (.ok UW cOL)) kK lJ r v f aV Si33.ended LC (i-gD ((Sk).take) PX) b uE hp rF lO e1 aQ hany a7b bQ q ((bJ2 l.any aIo)=aY) jB bS bQ q2 (iS=400) jB Oc fF iV aV dEl b0y q2 fF q2 aQ Zn Zn jB bS cTk jB pH q cV dEl z aB (b0j hl q2 z) nxt LO g aEH cA (XR=(Sk).take PX) cUX (KeysAre eQ1 ((UW g).map aLe)∧tR UW g 400) kX lM g hg hno Fg NR aH lN bW (bF2 _ (aA8 aLe++[XR])) aH hg aI cB hk.put ?_ aZ bO (by rcases hs with⟨c,hc,hcs⟩|hi) cMu Qi c hc hcs gQ hlt iO hc uB bPk bF3 iF hcs e fB7 Oj bE hf dOl eC hf eP n1 n2 (nxt cOL rfl hf) aI fF sC lB hlt lC b1j ?_ bO aG hd (t.drop i=[]) (List.drop_of_length_le dO bg_ hi) dA hd bF3 e fB7 bE hf bO
section
variable{P:aM}{w:aK}{K:aL}{mg:bF}{aW:aU}
theorem b4p{H':Hp}{F:aE}{B:NB}{G:aE}(f:eT9→G)(g:eT9):G:=f g
theorem aqn:cZk eGe MV bWs aVQ j_:=aWK Po F T B ae6 [bVy hz k,HF ae6.nd,dP ZQ MC 1 aan Hq 2 aw ZH eDF aWF Ng DU (cr cUM cOt Ng (bh a2a bRA aEb bKt (ck T.bph) (ck T.bpg) aZ7) (am Sf Xh bRu bRA bYO bRu eET gK T.ant UZ 3) Hn Sf cOs jC UZ 3 Hl We eGB cQ2 Xh (abd bQN oG 1) bRu bHf bex fU T.a89 dYR Hm bQX) gf d hd,dR s0 rJ rE d tP pK hd aBr _ _ rfl Rz VU s0 _ _ rfl rfl _ rfl lC bqi DR az b2t hz ?_,cL3 cYL 0 (bV AF+1:Int) Xa eW eNU aVl (∃(b:Nat)(v3 v4:bJ)(kvs:jQ),dZ aGu rY iL d bKl v3 aO2 d bUI i) ?_ dL s0 fF AN 0 aS aS [] uN ah LK lB mJ mJ 0 0 0 [] rfl mJ rfl (by rintro i σ H' hi⟨s1,h⟩) _ aG hi' Ga bK aF az hi rF (by rcases h with⟨e,_⟩|⟨b,v3,v4,kvs,rfl,hd',L⟩) aPL aBH (b0l hi' e) aG e0 (GV+JR=JR) lC bqh aH e0 kW (b4p (H':=H') (F:=dRM)) bY De Vj cUz _ rfl oP ZU _ _ rfl _ rfl eFX [eRa,cY5,aI aOd a _ _ _ rfl bAm bNo Ba,cY p hp,bSI ZL p vV [gR 32,gR 47,gR 44] hp,aIC fCa bY hn AR hns bT0 cN bY z aLr hn LQ inV (show∀a b:Int,eqV (V.int a) (V.int b)=(a==b) from fun _ _=>rfl) Rb dEm oT aKC z cG cX c1 c2 (L.char hc hns) Bi fDj cPl bY h10 aG e10 (c=10) aI0 bNY h10 b1n GZ xD bY h10 aG e10 RX iV aCS h10 aXF Bi aOg rfl rfl rfl lZ bY h4 aG e4 (PX=4) aI0 bNY h4 bzh GZ xD bY h4 aG e4 (PX≠4) Lx bY z bN aL9 aG e5 (JR-aVT=4) bA pH bzv h4 dQV aLi SR e5 dL HD fF AN b _ _ kvs Lv rfl mU hd' c2 gC byj e10 e4 bY hn aG hns bT0 jX aLr hn LQ inV (show∀a b:Int,eqV (V.int a) (V.int b)=(a==b) from fun _ _=>rfl) Rb dEm cG bY z bQ q1 (c=32) dE aB (b2f q1) pH b10 mN (upd H' p (HO.tup [Mh 32,Mh 47,Mh 44])) H2 aB (main H2 s2 gB aDL hc hns)] [aG hle (i=nJ) bT9 Tw h bAB pH bp3 hi',aB (main H' aBp fF hle)] qB iX H2 s2 hs cX c1 c2 (L.sep hs) zX eYX bY h0 aG e0 (i=b) aI0 cGE ba5 GZ xD [bY h0,aG e0 (i≠b) iV aCS h0 aXF,cX c3 c4 (c2 e0),aI bH8 _ rfl _ rfl _ a _ rfl cPl,cY p hp,aH ad9,dR s3 aCD cIb pK hp cT6 p,cY q hq,aG s4 aCD eF4 dQ1 hq,KM s5 HD s4,gO hd2 zC mU hd' hq2 iY cIb q vV cCo q aI4 cBw bCU,mN eF4 H3,aIG Sg _ _ rfl d _ rfl (mw.t hd2 hq2) _ rfl lZ bY h1 GZ aZ bY h1 bL5 LK _ rfl d kvs rfl hd2 rfl _ rfl lZ bY h2 aG e2 (oK=400) aI0 dR7 b1p GZ aZ bY h2 bD e2 (oK≠400) iV bY z h2 (Iw DE z) hno cUX Ax cTk pH h1 pH e2 Wh hkl aD5 cN (by obtain(⟨_,_,_,l,hk,hl,_⟩):=L.st) bN Ya hk eM aP Nz aZX oK b03 hl aP Wf d (ags.t hd2 hq2 hkl) bM8 rfl (s5.new hd) LC (JR+1) aIx lC b1e (by rcases c4 hno with⟨ht,x⟩|L2) dE bS nF AN eG _ _ _ cH dUq ah L2],wY bF1 σ H' s1 h _ (by rcases h with⟨_,x,hx⟩|⟨b,v3,v4,kvs,rfl,hd',L⟩) SJ aG e (aap t=iE) Oq aap hx Mz q H' aF e q aB q bN L.hi aF az aP aBH (b2x aP)]
end
end WH
end
section
namespace WH
open PySem PySem.Spec PyProof.Rows L2
structure MkD(P:aM)(w:aK)(K:aL)(mg:bF)(aW:aU)(x:Str)(C:aA)(k:Nat)(ps:iQ)(sp:Sp):aE where
 ex:eKB dXh
theorem abw.ok{P:aM}{w:aK}{K:aL}{mg:bF}{aW:aU}{x sW:Str}{C:aA}{st:cC}{N ps:iQ}{k:Nat}{sp:Sp}(F:eUQ)(S:bUw)(len:aSK)(OS:∀(f:aA)(cdv:bU)(A:cM)(lG:FN)(s:bC)(H:Hp)(vs:aN)(Q:VK)(E:XK),eRZ):aMI P x C zE ps sp:=dB cYv F.ex SK f fd M eVX hm hb
section
variable{X:Cx}{x:Str}{C:aA}{k:Nat}{ps:iQ}{sp:Sp}{e:bZ}{es:mD}{t:TA}{p pos:Pos}
noncomputable def bug(C:aA)(sp:Sp)(t:TA):TE:=aRO cZY (yT::vs) E0
theorem ad'(D:fCM)(hr:bB3)(ha:aEp)(hg:autoParam (LJ) EE.autr._auto_1)(hdb:autoParam (FQ) EE.autd._auto_1)(he:autoParam (Zb) EE.autr._auto_1)(hpl:autoParam (aKd) EE.autr._auto_1):aY9 (bug C sp t):=ePR cYv aTb (bmw M F hr hg hm hb eF bb0 ha hdb he hpl bH s σ H Q I ?_) cZY cSc [] E0 aE4 bug h
theorem abi(D:fCM)(hr:bB3)(hg:autoParam (LJ) EE.autr._auto_1)(hdb:autoParam (FQ) EE.autd._auto_1):aV1 [] (bug C sp atb):=gT cYv aTb oR Q h (bh7 M F hr hg hm hb eF bb0 hdb bH s σ H Q I h)
end
theorem _root_.L2.b9.keep{D b:aA}{H H':Hp}{o u:HO}(s:aG6)(hd:oM D o)(h:aWS)(ne:u≠o):oA b u:=s b u (ii h hd ne) h
theorem _root_.L2.b9.trans{D:aA}{H H1 H2:Hp}(a:bBM H1)(b:cPr D):bBM H2:=kI c o h e (b c o h (a c o h e))
theorem _root_.L2.b9.same{D:aA}{H H1 H2:Hp}(a:bBM H1)(b:aRJ):bBM H2:=kI c o h e (b c o (a c o h e))
theorem _root_.L2.ag.ccw{D:aA}{H H1 H2:Hp}(n:nZ D)(a:aCv)(b:cPr D):aJE:=YM c o (b c o MY n (a c o e))
theorem _root_.L2.ag.ins{H:Hp}{x dx C:aA}(nx:aQR)(nd:nZ dx):rJ bSV:=((bPC).new nd).new nx
end WH
end
section
namespace WH
open PySem PySem.Spec PyProof.Rows L2
noncomputable def al'(c f p b:V):yF:=[uO bDW c,uO bDX f,uO dBe p,uO aKP b]
noncomputable def aep(H:Hp)(kvs:jQ)(l:Nm):aE:=sJ (fun(kv:bPS)(g:aEH)=>LU=tk XR∧eY q (kv.2=tM) cXF) kvs l
theorem aep.mono{H H':Hp}{kvs:jQ}{l:Nm}(s:eW)(h:aSg):cEF l:=bE5 h<|QY (by rintro(_)_⟨a,q,b,c⟩) a bR q b rH c
theorem aep.x{H H':Hp}{D:aA}{kvs kws:jQ}{l:Nm}(s:aG6)(hd:oM D uD kws)(h:aSg):cEF l:=ME h (fun _ _⟨a,q,b,c⟩=>aT a bR q b (s.keep hd c aMv bY h bEE h))
theorem aep.keys{H:Hp}{kvs:jQ}{l:Nm}(h:aSg):eKj:=mY bF2 aNx h r t bS
structure a_l(kvs:sT)(ps:aR):aE where
 of:∀kv∈kvs,∃c:Nat,LU=DP c∧c∈ps
 all:∀c∈ps,sN eDu
structure qv(C:aA)(H:Hp)(x:aA)(L:fY):aE where
 ex:∃dx f p kvs kvp,zA VO Jz (al' fT aLg xW iW gR nN aLj 1 0) oM f ES MQ cCL (aep H kvs aAg) (a_l kvp L.passed) MO bYS
 ok:bRO
theorem qv.mono:∀{C:aA}{H H':Hp}{x:aA}{L:fY}(s:eW)(h:aXO),qv C H' x L:=KH xN C H H' x L s h fBi p aMa dL cYp f p Gq Vt cLM (h4.mono s) h5 h6 h.ok
theorem aqo:bTm adf:=aDW
inductive i6(C:aA)(vs:aN)(H:Hp)(Q:VK)(XE:XK):aE|mk p dx(_:aNK)(_:Ly)(_:cZN):QL i6
section
variable{P:aM}{w:aK}{K:aL}{mg:bF}{aW:aU}
theorem ate{C:aA}(F:RP aS4 dBL C adf EZ)(T:aEx C):eIg:=bK6 aYo aqo aSa p dx [eUA,gZ oF (ai RI aw ZI RI aan RI aky RI aw) fBO hp,cY d1 hd1,dR n1 (d1≠p) bAW dYJ,cY d2 hd2,cJr bAW,gZ bRj 2 aG0 C ah Sq 3,bD f1 nZ d1 dB aF aJB hd1 hd1 f2 cF0 dB uB aPR cGd aPR hd2 hd2,MT dAj bPu f1 f2 xD FM,FM]
end
end WH
end
section
namespace WH
open PySem PySem.Spec PyProof.Rows L2
theorem take_snoc{α:cJ}{l:eK}{i:Nat}{x:α}(h:aRf):cTr eG aDb:=zB bE1 h
theorem bnk(r v f:Nat)(g:fB)(x:aR):cYP bPW (Ak f g++[aGO x (f+Cp)]):=aRw fG
theorem bnl(r v:Nat)(l:fB)(x:aR):fV r v aRt=fV r v l++fG r (v+iS) 0 dWo:=aRw fV
theorem bnm(r:Nat)(l:fB)(x:aR):fL r aRt=fL r l++fV (r+iS) 0 dWp:=aRw fL
theorem NLs.at{H:Hp}{ps:bM}{ts:fB}(h:cPC):Li i Nat x V YS tN pL p t (x=iW) gH ts t aQ2:=aQE NLs PQ h Yv r t rM
theorem NLs.length{H:Hp}{ps:bM}{ts:fB}(h:cPC):pF=dEo:=dQy
theorem aep.put:∀{H:Hp}{D:aA}{kvs:jQ}{l:Nm}{g:aEH}{q:aA}(h:aSg)(hd:oM D ES)(hq:cXF)(nd:mV iM UW g aLe),aep rE D uD eH5 eH5 UW g:=QJ yN H D kvs l g q h hd hq nd aC9 hn aEc XR xX (h.keys.has XR) RG aEc XR y bO aH aJn hn dR q1 (H q≠aS) aDM hq pQ z aZN aZV (aep.x (D:=D) OW hd h) kD jA q rfl bRL
theorem split_len:eJr FS tR Nh aVl u Nh (Rn≤nJ):=Go sep t PQ t mF Cj c t [AS c t ih,dG h r e (xi (sep:=sep) (t:=t)),aF e ih,WP c sep,Bj bB q aQ abc e dH aQ (vq q) e dP eO bK (by simp[IJ]at ih⊢) rF u hu ON IJ aE8 hu dH]
theorem agy:eYh i α aRf (l=aDb++x::dRC∧bV aDb=i):=jX iC α l i x h eN hlt aR2 e ((bXo h).2) aI aT ?_ tX aJ q eBL dA (bF0 hlt) e q AQ
theorem buh(r v f:Nat)(a b:fB):cYP Ib (Ak f a++Ak (f+BA) b):=aRw fG
theorem bui(r v:Nat)(a b:fB):fV r v Ib=fV r v a++fV r (v+BA) b:=aRw fV
theorem buj(r:Nat)(a b:fB):fL r Ib=fL r a++fL (r+BA) b:=aRw fL
theorem ccx:∀{ls gs fs:fB}{r v n:Nat}{lt gr fo:aR}(h1:kC ls r lt)(e1:gs=dIR)(h2:kC gs v gr)(e2:fs=cEM)(h3:kC fs n fo),∃jM,fL 0 ls=(dUJ++eQM++dTI)++[dWz]++jM:=qF (by intro ls gs fs r v n lt gr fo h1 e1 h2 e2 h3) _ eP a1 b1 (agy h1) eP a2 b2 (agy h2) eP a3 b3 (agy h3) bD q1 (fL 0 ls=eUN dUJ (fV r 0 gs)) bK bF6 a1 AZ buj b1 Jd a1g e1 q2 (fV r 0 gs=eQM++(dTH++eQN)) bK bF6 a2 AZ bui b2 Jd auf e2 aG q3 (dTH=dTI++(dWz::Ak mI dT9)) bK bF6 a3 jS buh b3 Jd aue cE q1 q2 q3 dL eUN Ak mI dT9 eQN aX
theorem bez:Vk kvs sT k Key v V kv (Key×V) (kv∈aNR) (LU=k∨LU∈bYm wL):=aJF kvs k v kv cV Jk h bO
theorem bi_:Zw kvs sT k Key v V eHP:=RM kvs k v aV Jk aQQ
theorem a_l.put:∀{kvs:sT}{ps:aR}(h:eDg)(c:Nat)(v:V),a_l aGD aSW aHJ v aBP c:=bK iC kvs ps h c v aQ6 NR dD kv hkv iA (bez hkv) e e jK bO dG q hq e2 (Qg e) dG d e3 hd (h.of q hq) bO dD d hd aH ab3 oY HQ (by rfl) uW ne ON bEu dEq hd iA hd hd rfl dU aB (h.all d hd) qK
theorem agz:mP [aKP,uV,aS3,vP,aFD,aS2,bF7,"letter","variant",dEr,xK,"form"] cWc adg:=dW
inductive o7(C:aA)(vs:aN)(H:Hp)(Q:VK)(XE:XK):aE|mk(b:Nat)(a:aA)(t:aR)(c:aA)(ps:aR)(m:Nm)(n:Nat)(_:vs=[aBd,jT,DG])(_:bK5)(_:mH)(_:dL7)(_:BN)(_:MO pF)(_:bNc aOv)(_:dOy):QL o7
theorem o7.out{C:aA}{vs:aN}{H:Hp}{Q:VK}{XE:XK}:WK o7 fDG:=Gc o7.rec fDG fDL
section
variable{P:aM}{w:aK}{K:aL}{mg:bF}{aW:aU}
theorem atg:∀{P:aM}{w:aK}{K:aL}{mg:bF}{aW:aU}{C:aA}(F:eXH)(T:WB)(B:fQ)(TC:aEx C)(o8:eIg)(ng:cXc),xU bWD 3 cWc (o7 C):=bCS aIq P C F T B TC o8 ng agz b a t c ps m n [pW E,by(obtain⟨b,a,t,c,ps,m,n,rfl,hb,ha,hc,hz,hz2,hl,k⟩:=h),HF agz.nd,dG em en fok (a9q hl),aI oN AA 3 cPI (im gK rR rfl) Hn ZH KC 2 aDX aP8 eHg oG Ws CY ng fU bKt (im gK MI rZ rfl) aJ6 rZ Nu GJ 7 aJ6 bO6 ng Gk T.bph GJ 8 GJ 9 aJ6 bO6 ng bAf T.bpg GJ 10 GJ 11 aVy eHg We (pv 11) aEb HI bAg (pv 10) UZ 3,eWH,fEW fd pd nf np nfp hx hf hp nx mf (fd≠x) aC0 mp (pd≠x),uL nf0 ((ag.ins (C:=C) nx ndx).free) nf np0 ((ag.ins (C:=C) nx ndx).free) np,aI aOd x C dx _ hx OY SB aXH,aMO e2 (ah_ aKP aBd dGh VN VN) aV3 VN,aH e2,dR ux rJ KB x dTP (s01.new nx) Ld c aDa ux hc,bL2 (jo (K:=K) (a:=c) (xs:=vn ps) Xa (i≤pF) AX v4 bJ kvp sT Et (σ=[bKl,rY,wZ,sO,v4,aS,aS,aS,aS,aS,aS,aS]) eW oA x dTP oA fd tP oA pd cCL cBO a_l kvp wD bYS aT mJ jO aS [] bA8 ux ah Av Av bQQ lB QE cTl i s3 kE hc ?_ ?_) (by rintro i y σ H' hy⟨hi,v4,kvp,rfl,s3,h1,h2,h3,h4,h5⟩) EO d hd ar_ hy aJ hlt iO hd gZ ⟨_,rfl,x,C,dx,_,_,rfl,h1,OY,SB,rfl,_,rfl,pd,_,rfl,aQA DP d h3 aSm bRS h5 hi hz2,?_⟩ aT hlt xY bA8 (s3.new np0) bBl Av ah ?_ US bi_ dO bqa h5 aH (take_snoc hd) aB (h4.put d _) [by rintro σ H3⟨_,v4,kvp,rfl,s3,h1,h2,h3,h4,h5⟩,_,vQ az h4 h5,aF OM h4,aI aIN a t 32 kE ha hz,xN H4 p ps1 s4 n4 h6 hps,dJ ⟨_,rfl,_,_,rfl,oP h6,_,rfl,x,C,dx,_,rfl,zC h1,OY,SB,aXH,?_⟩,aG e3 (ah_ bDW gR UE bV cKM aV3 VN=aV3 aM6) vC aMb cK bYT en,aH e3,aJ hx4 zC h1,oQ s5 (b9 x H4 cSb) OW g1 iY H4 x bK0 x bK0 ah s05 rJ cSb ((dEn s4).new nx),mN cSb H5,eN g2 bTD zC h2 g3 bTD zC h3,gO g4 bTD h6 g5 (NLs H5 ps1 Ai) ME hps AW e bTD e,by clear s5 hx4 h6 hps s4 h1 h2 h3 n4 s3,aI Oe p gN g4,gO nfd mf b4s bNk aHT fd H5 oA x bK0 bT sx aRI g2 g1,NO (wd (K:=K) (a:=p) (xs:=cKM) JC r (∃(v6 v7 v8 v9 v10 v11:bJ)(kvs:jQ),dAm v6 v7 v8 v9 H5 bSg) (_root_.EE.ajx aS aS aS aS aS aS [] aDT Xg e g2 eF) eM3 sx aRI g2 g4 ?_ ?_) [by rintro r y σ H6 U hy⟨v6,v7,v8,v9,v10,v11,kvs,rfl,sx,hfd,hF⟩hU,dA5 pa lt hlt hpa (g5.at hy) NX su H6 aNn H6 fT r cI pa hU,bOP lP mC ((eCj).2) lt hlt hz,aI aIN pa lt 47 cB su aRI g2 hpa lP,xN H7 l2 ps2 s7 n7 h7 b4t,dJ Ee l2 _ gN h7,aJ sx7 ((sx.same su).same s7),Gd buk KG cB su hfd hF7 ((hF.mono su).mono) s7,by clear s7 n7 su hU sx hfd hF,NO (wd (K:=K) (a:=l2) (xs:=ps2.map qI) JC v (∃(v8 v9 v10 v11:bJ)(kvs:jQ),dAm KA r iL pa v8 v9 H7 (bSg++cZK)) Ua v8 v9 v10 v11 kvs aDT Xg e buk aIu fV hF7 QE (by rintro i σ H' _⟨_,_,_,_,_,_,sx,_⟩) aRI buk h7 ?_ ?_) [by rintro v y σ H8 U2 hy2⟨w8,w9,w10,w11,bul,rfl,sx2,a7e,hF2⟩hU2,dA5 pb gr hgr hpb (b4t.at hy2) bPJ su2 H8 bJX H8 U2 v pb hU2,bOP hlen2 mC ((split_len 47 lt).2) gr hgr lP,aI aIN pb gr 44 cB su2 (sx2.keep buk hpb Dv) hlen2,xN H9 l3 ps3 s9 n9 h9 b4w,dJ Ee l3 _ gN h9,aJ sx9 ((sx2.same su2).same s9),Gd bum aQF cB su2 a7e hF9 ((hF2.mono su2).mono) s9,by clear s9 n9 su2 hU2 sx2 a7e hF2,NO (wd (K:=K) (a:=l3) (xs:=ps3.map qI) JC j (∃(v10 v11:bJ)(kvs:jQ),dAm KA r iL pa KA v iL pb H9 (bSg++cZK++cOY)) kF w10 w11 bul aDT Xg e bum aIu fG hF9 QE cTl i sx aRI bum h9 ?_ ?_) [by rintro j y σ H10 U3 hy3⟨u10,u11,bnp,rfl,sx3,buo,hF3⟩hU3,dA5 pc fo hfo hpc (b4w.at hy3) bHx U3 su3 H10 bUl hU3,aSr CG _ rfl _ rfl _ rfl Ba ?_,MP sq H10 kP bUl q bUK uG su3.trans hq hqq iY bUl q bUK q bUK ah,mN kP bUl q bUK H11,bDF cc1 (sq _ _ (b4s pZ (sx7.trans sx9) sx3)) ⟨_,rfl,x,C,dx,_,_,rfl,cc1,OY,SB,rfl,_,rfl,pc,_,rfl,aNu sM sq (sx3.keep bum hpc Dv)⟩ q2 hq2,MP s12 H10 kP H11 q2 bPm uG sq.trans hq2 cc2 iY H11 q2 bPm q2 aI4 (tk fo) bCU,aJ cc3 cB oB bPm hq2 hqq,mN kP H11 q2 bPm H12,bDH cc4 hF3.mono s12 br0 aHn buo,eP jM er (ccx hlt rfl hgr rfl hfo),zP em er,bD cc5 mV iM ((bSg++cZK++cOY)++[(dWA:aEH)]) aLe gT aJ q fok.nd uB er lN SY q q.1 hkl (dEs<vO) fN kZ q1 hF3 eN q2 Ya er q3 fok.len aF q2 q3 (by simp only[fA]at q1 q3) Nz aZX dEs b_h q1 q3,gZ Ee fd _ (ags.t br0 cc2 hkl) aUM bP4 pZ (sx3.same s12) OW ah,aG e5 (Ak 0 aBq cEM jP=cOY++[dWA]) bA jS (take_snoc hfo) bnk cMU hfo Jd,EH e5 EG,aB (aep.put cc4 br0 cc3 cc5)] (by rintro σ H10⟨u10,u11,bnp,rfl,sx3,buo,hF3⟩) dJ (bXN _ _ _ _ bnp bP4 (sx9.trans sx3) buo) aCy b4w.length hF3 (by rw[take_snoc hgr,bnl,cMU hgr,Jd,←EG]) aB hF3] aLZ σ H8 w8 w9 w10 w11 bul rfl sx2 a7e hF2 dJ cDb bul bP4 (sx7.trans sx2) a7e aCy b4t.length hF2 jS (take_snoc hlt) bnm cMU hlt Jd aB hF2] (by rintro σ H6⟨v6,v7,v8,v9,v10,v11,kvs,rfl,sx,hfd,hF⟩) _ (by rw[cK,g5.length,OM,←em]at hF) aI wX (k H6 x (ag.ccw nf0 s05 sx) nx aT cYp fd pd ?_ hfd aRI g2 g3 hF h4 US h5 hz2 fok) bO]]
end
end WH
end
section
namespace WH
open PySem PySem.Spec PyProof.Rows L2
theorem aep.has{H:Hp}{kvs:jQ}{l:Nm}(h:aSg)(t:aR):CJ aEc t=bEB JO g XR t:=zB h.keys.has OI
theorem aww:DX [vP,aFD] vP ava:=dW
inductive abj(C:aA)(vs:aN)(H:Hp)(Q:VK)(XE:XK):aE|mk x L(_:JW)(_:aXO)(_:aMJ cIn):QL abj
theorem abj.out{C:aA}{vs:aN}{H:Hp}{Q:VK}{XE:XK}:WK abj eUy:=Gc abj.rec eUy aYn
section
variable{P:aM}{w:aK}{K:aL}{mg:bF}{aW:aU}
theorem be0:∀{P:aM}{w:aK}{K:aL}{mg:bF}{aW:aU}{C:aA}(F:eMG)(B:fQ)(TC:aEx C),MV bWx [vP] (abj C):=Ts eSo B TC aww x L [dAI x L hL,fD5 aww.nd,dJ oF IX (cz (am_ rfl) dEt B.any (aun aB1 (ah' (awo rR rfl)) aFD 1 aJy (btd (awq hu (io CU fU) aCI rR)))),QW qY pd _ hp aKY ?_ od,aG sL (b9 pd H eBU) OW,CA hx1 eEk hx hf1 eEk hf hp1 En pd cGj pd cGj ah,mN eBU HL,HE aNB x C dx hx1 OY SB pd od gB jA kvp hp1,cJQ (a2i bYS Er hn Ci i y AX c Nat v V (gH kvp (DP c,v)∧y=pI aNk L.forms.any [c]) aDr hD cFr s1 cLr hi aXM s1 cLr lB dUe ?_ ?_) (by rintro i H' v H2 hi s1⟨rfl,kk,v2,hk,rfl⟩_ C2 hC) _ aFs c e mC hP.of _ hk _ Qk e bB e aSr kD cNb dR s2 aCD FG q vV aF5 c pK hq ⟨_,rfl,x,C,dx,_,_,rfl,mU kY hx1,OY,SB,rfl,fd,_,rfl,Ab (tk [c]) mU kY hf1 aO8,ZC s2 jO c v2 eO hk⟩ aH hF.has iC H' ys s1 hy M aG hD2 (D≠pd) cBq pQ e bL5 aT cLr aDn eYT ?_ aQ (aq hD2) hy bNM aP0 bKb ys h1 aF M.1 h1 y [fH y,nQ c v hc rfl bKA q,aZ] aG e ((eYT).any id=cIn) bL jS OI IR Cg Cg HY bOL dP5 kv hkv cS c ec hc (hP.of kv hkv) bO dP5 c hc aJ q (hP.all c hc) zP qc q eV5 aI jA kv hkv aZ aH e aI (k _ ?_) iX b o hb bQ hbp (b=pd) aY7 jV hbp kY tJ sL hbp hb]
end
end WH
end
section
namespace L2
open PySem PySem.Spec PyProof.Rows
section
variable{X:Cx}{a b:bZ}{ta tb:TE}{pos p:Pos}{x:Str}
noncomputable def tB2(r:LH)(ta tb:TE):TE:=OA bKF (r bPP H2 Q)
theorem asa{id:uR}{r:LH}(hc:cRb)(hv:cPY)(hm:aRy)(ha:HV)(hb:Yw)(hg:autoParam (LJ) EE.autr._auto_1)(hn:autoParam (aIT) EE.autd._auto_1)(hdb:autoParam (FQ) EE.autd._auto_1)(he:autoParam (Sm Gz ((bI,bH0)::dRz ND)) EE.autr._auto_1)(he2:autoParam (eD7) EE.autr._auto_1)(hpl:autoParam (bIy aVv ND) EE.autr._auto_1):aV1 Gz (tB2 r ta tb):=a5_ hc hg hm hv (aa ha (aa hb ak he2) he) hn hdb he hpl
end
end L2
namespace WH
open PySem PySem.Spec PyProof.Rows L2
theorem aep.get:∀{H:Hp}{kvs:jQ}{l:Nm}(h:aSg){s:aR}{g:aEH}(e:av8 l s=aO g),eY q (aEc s=aO tM) cXF:=vG xN H kvs l h s g e cV av8 e cV aep h bIo h HP kv f kvs l r [by delta kv f kvs l r t ih,_,nQ e1 q e2 e3 r,aF aLz e,Xk cy aLz,bQ hs (XS=s),xG aZ aG b1 ((XS==s)=bI) cLB aF b1 e DO Mw aH e1 pQ z hs (bi9 z) GG ih]
theorem a_l.has{kvs:sT}{ps:aR}(h:eDg)(c:Nat):CJ eDu=ps.contains c:=bK AT hc c ps PF aH (h.all c hc) Gu [aG e (ps.contains c=bI) lX hc,EH e qc,aH dEu,bY q,eV5,cS d e3 hd (h.of kv hkv),bO]
noncomputable def ayy(r v f:V):yF:=[uO Zk r,uO bVR v,uO bDX f]
theorem aqp:bTm adh:=aDW
inductive me(C:aA)(vs:aN)(H:Hp)(Q:VK)(XE:XK):aE|mk p dx(_:aNK)(_:Ly)(_:dAa):QL me
theorem me.out{C:aA}{vs:aN}{H:Hp}{Q:VK}{XE:XK}:WK me bK4 dAa:=cSh me.rec dAa
theorem ai4:mP [vP,EB,jZ,dEv] bTZ afw:=dW
inductive on(C:aA)(vs:aN)(H:Hp)(Q:VK)(XE:XK):aE|mk x L a t i(_:dLu)(_:aXO)(_:mH)(_:Ga)(_:Dw aDp):QL on
theorem on.out{C:aA}{vs:aN}{H:Hp}{Q:VK}{XE:XK}:WK on eZe:=Gc on.rec eZe bVj
theorem ayz:mP bCe bCe aj3:=dW
inductive tq(C:aA)(vs:aN)(H:Hp)(Q:VK)(XE:XK):aE|mk x dx r v f p rs ws fs a b c(_:aMz iW)(_:VO aYK)(_:cHZ)(_:cHX)(_:cHY)(_:cCU)(_:cCV)(_:cDf)(_:MQ bNH)(_:cCa)(_:dKO)(_:bL9)(_:dPA):QL tq
theorem tq.out{C:aA}{vs:aN}{H:Hp}{Q:VK}{XE:XK}:WK tq fDC:=Gc tq.rec fDC (fun a0 a1 a2 a3 a4 a5 a6 a7 a8 a9 w_ a11 a12 a13 a14 a15 a16 a17 a18 a19 a20 a21 a22 a23 a24=>(dXB jO w_ a11 Nl a12 a13 a14 a15 a16 a17 a18 a19 a20 gY a21 a22 a23 a24))
section
variable{P:aM}{w:aK}{K:aL}{mg:bF}{aW:aU}
theorem ath:bDA C RP aKU dBP C adh EZ T bJ1 C aOw aKU EZ me:=Ts Po C F T aqp p dx [dAI p dx hp,dJ oF cUn aOy,eER,yG n1 oU (ay hp f1) fBO bBl,fFF eVY bRj 1,dP eO mJ d3 f3,zG n3 (d3≠p) aC0 n23 (d2≠d3) aC0 n13 (d1≠d3) aC0 f3' nZ d3 dB Jn (aq n3) (aq n23.symm) (aq n3) (aq n13.symm) f3 f3,aI bJk n3.symm 2,aEg (k _ d1 d2 d3 ?_ f1 f2' f3' n12 n13 n23 aO8 ?_ ?_ ?_) jG b o hb e xD (by rw[aJB,aq n13,aJB,aq n12,aJB,ah]),dU FM,FM]
theorem awx:∀{P:aM}{w:aK}{K:aL}{mg:bF}{aW:aU}{C:aA}(F:eVA)(T:WB)(B:fQ)(TC:aEx C),MV bD1 bTZ (on C):=UL aI9 P C F T B TC ai4 Ro x L a t i rfl h [aPF x L a t i rfl hL ha hi k,fD5 ai4.nd,dJ oF aCk 3 (asa (bd_ rfl) dEw B.min (ck T.ant) eET cLQ) (wa Rk (PW.pt (aks ET zr 3 aw (aev (abd eTa eEM aHe 2 jC 3)))) (am bLG 3 aw btf)) 3,aI PP _ _ rfl aNM _ rfl _ _ rfl rfl _ _ rfl ?_,aG e0 ((fZ (eLl<4) eLl 4)=cZ cAN) bAB oT oY qN rD aB (b05 hi fE) aB (b09 fE),aH e0,aI jA NV ZY σ [sO,rY,Ex,KA m] eW (m≤aM7) (aDp=cAT vt m) gJ aDT aBp lC b06 rfl,by rintro m σ H'⟨rfl,s1,hm,hfl⟩,_,dQm cJF cJO hm0 (0<m) dYv h0 ba7 dP ⟨_,rfl,_,rfl,_,rfl,_,rfl,_,rfl,_,_,rfl,rfl,_,rfl,a,_,rfl,bAm,?_⟩ p hp2 LC (JR+cZ m) cZ (i+m) lC bg4 eHk bSI bR7 hp2 aSr cT6 p MP s3 H' kP bR7 q cKJ uG aAP hq hk iY bR7 q cKJ q aI4 (tk ((ER).take m)) bCU mN kP bR7 q cKJ H2 aHz s4 s3 aJo ⟨_,rfl,x,C,dx,_,_,rfl,zC hx,OY,SB,rfl,fd,_,rfl,mw.t zC hf hk,_,rfl,lZ⟩ bE h1 aG hno (eFV=bI) bK dTa XU h1 aI rP fR σ' H'' q bR (m-1) dO b13 hm0 q eEK aG e2 (aDd m=cZ (m-1)) dO b11 hm0 oE gY fD s4 dO byk hm ?_ hfl bNi j m jP (m-1) dO b1f e2 _ aQ vt eC fD (by rfl) [bE h1,dR hyes (eFV=aY) bK dTa XU h1 bKq,aJ q (k H2 s4),aF hfl q,bNi j m jP (m-1) dO bp2 hm0,_,dA vt iF hyes q,aB q] [bE h0,NN hm0 m 0 eNv m h0,GZ,Mz q H',aF hfl q,aB q]]
theorem a2o:bDA C eTV TC bJ1 C MV bDY bCe (tq C):=eCa Po C F TC ayz (by obtain⟨x,dx,r,v,f,p,rs,ws,fs,a,b,c,rfl,_⟩:=h) (by obtain⟨x,dx,r,v,f,p,rs,ws,fs,a,b,c,rfl,hx,hrr,hv,hff,nrv,nrf,nvf,hp,z1,z2,z3,k⟩:=h) dJ oF PH Hx jY aD8 Hx jY aD8 RY jY aD8 dR sz ZW n Nat qP n (n<vO) bG n h (bes h) ⟨_,rfl,x,C,dx,_,_,rfl,hx,OY,SB,rfl,rL hrr,_,rfl,p,_,_,_,rfl,rfl,wU hp,nR,r,_,_,rfl,rfl,hrr,fC,?_⟩ [bD x1 YY H r bLp x aYK bPf hx hrr p1 YY H r bLp p bNH bPf hp hrr,dR v1 BT H r bLp v (vn ws) vH nrv.symm hv ⟨_,rfl,x,C,dx,_,_,rfl,x1,OY,SB,rfl,rL v1,_,rfl,p,_,_,_,rfl,rfl,wU p1,LD,v,_,_,rfl,rfl,v1,fC,?_⟩] [bD x2 YY cP5 v cWi x aYK bPf x1 v1 p2 YY cP5 v cWi p bNH bPf p1 v1,dR f2 BT cP5 v cWi f (vn fs) Mc (aq nvf.symm) (aq nrf.symm) hff ⟨_,rfl,x,C,dx,_,_,rfl,x2,OY,SB,rfl,rL f2,_,rfl,p,_,_,_,rfl,rfl,wU p2,bAI,f,_,_,rfl,rfl,f2,fC,?_⟩] aJ q k uB jd jd jd q aB q
end
end WH
end
section
namespace WH
open PySem PySem.Spec PyProof.Rows L2
theorem ao5:mP [vP,EB,XI,jZ,dEv] aOa amu:=dW
structure bjb(C:aA)(H0 H:Hp)(y:aA)(rs ws fs:aR):aE where
 ex:∃dx r v f,Et oM y aYK cHZ cHX cHY (H0 r=aS) (H0 v=aS) (H0 f=aS)
inductive qe(CL CW:aA)(vs:aN)(H:Hp)(Q:VK)(XE:XK):aE|mk x L a t(_:QP)(_:aOn)(_:mH)(_:Ut)(_:QD dAn):bUD qe CL CW
theorem qe.out{CL CW:aA}{vs:aN}{H:Hp}{Q:VK}{XE:XK}:bUD qe CL CW→bU9 QD dAn:=@qe.rec CL CW vs H Q XE eZ bU9 aNq eW Td (dAn→UF qO) bVo
theorem ak6{L:fY}(h:bRO):ZK n t aR (Rw n→tR bBp nJ)|0,t,hn=>bL pO t [] dT8 bqm hn aH e aBo|mI,[],hn=>lB|mI,BS,hn=>bK iA (Nat.eq_zero_or_pos bDa) e e Bj aH (an9 h e) bN (ak6 h n t rX) bO IE f e2 (an8 h e) aH e2 bN (ak6 h n ((BS).drop (vt aAg BS cBN)) rX) GX
section
variable{P:aM}{w:aK}{K:aL}{mg:bF}{aW:aU}
theorem a7f:∀{P:aM}{w:aK}{K:aL}{mg:bF}{aW:aU}{CL CW:aA}(F:eIy)(B:fQ)(TC:aEx CL)(alx:aMI P aKU CW 1 EZ (me CW))(abp:MV bD1 bTZ (on CL))(ab6:MV bDY bCe (tq CW)),eN6:=Ap aHw P CL CW F B TC alx abp ab6 ao5 x L a t [fBh,HF ao5.nd,aI oN (ai Hm aYl alx aCk 3 aw (wa Rk cOt cLQ FL Hl Ez abp rR fU gK (cr ET zr 4 aw FL (cq CY ab6 jC (re hu jY eEM aHe 3 gK 4 Rr)) cRt oG FL bMg eTa dYz aUR CY ab6 jC aEb (h_ vf jY dYz) aw aw cRt aw)) 2),QR y dy ny ndy nyd Ee y dy ah,by intro H1 r v f s1 nr nv nf nrv nrf nvf hy hr1 hv1 hf1,dJ QT,cJy kP rE dy bA7 y cEp CW ny ndy,bDJ nr0 sI.free nr nv0 aUe nv nf0 aUe nf,aI jA NV SN i Nat v4 bJ ks Yb MX (m=aM7) aGu sO rY Vd Ex Ga eW Ta UG CW dy cA4 cNy r wL cNy v dCl cNy f dCm (q_ L t=ks++q_ L (Cm i)) cLv 0 aS [] (_root_.EE.ba0 rfl rfl mJ s01 hy hr1 hv1 hf1 rfl),by rintro m σ H'⟨i,v4,ks,rfl,rfl,hi,s2,hy2,hr2,hv2,hf2,hk⟩,_,NO dAt Rz VU s2 lZ [cJO hlt aWs bIl cGE azp,cY5,RJ hd ao4 hc,bD a7b MO TZ bL aJ q1 (ak6 hL.ok nJ t lB) dA hk fA q1 aB (byv hz q1) hdl (eLL=aM7) DR aE0 b0q hlt,aI oF bF9,dP PP _ rfl _ rfl x L a t i rfl (dEx s2) cMb hi ?_ H3 s3,aJ s03 (aAP s3),dPy ((dZ3).ex),_,aG hfl (aDp=vt aAg bPg aF6 eLL) vJ hd hdl,NO cJF [bE h1,aSS hpos (0<aDp) Gx cMq ba7 g hg1 hg2 eAX an8 fC,by rw[←hfl,←hd]at hg1 hg2,aJ hle cAT ba' cAN,mN aDp n,dG q hq1 hq2 (hF.get hg1),bLk ⟨_,rfl,_,rfl,x,CL,dx,_,_,rfl,hx,OY,SB,rfl,_,rfl,_,rfl,_,rfl,_,rfl,_,rfl,_,_,rfl,rfl,_,rfl,a,_,rfl,bPQ,?_⟩,LC (JR+cZ n) cZ (i+n) lC bg4,eHk,aG s4 (ag H3 bSD) pK hp1,dP cT6 p1 p2 hp2,MP s5 H3 kP bSD p2 cKI uG s4.trans hp2 hk5 iY bSD p2 cKI p2 aI4 (tk ((ER).take n)) bCU,mN kP bSD p2 cKI H5,aJ s35 (dEn s5),aJ dg (mw.t wJ hf hk5),aF hq1 dg,aI ⟨fd,_,rfl,dg,y,dy,r,v,f,q,_,_,_,bYP,bYQ,bYR,rfl,bIH,Le hr2,Le hv2,Le hf2,nrv,nrf,nvf,wJ hq2,aSv,aSv,aSv,?_⟩,eZ2 ⟨_,rfl,_,rfl,_,_,rfl,rfl,nJ-(i+n),gC b_o hdl hpos,i+n,_,ks++[(bYP,bYQ,bYR)],rfl,dUq,gC cah hlt hle,?_,?_,?_,?_,?_,?_⟩ qK,dE wT wT,jB wT cE hk hg2 dEy cG] bE h1 aG hzero (aDp=0) eNv aDp h1 aJ hkn eAX an9 gC b0z hfl hzero zP hd hkn dSr ⟨_,rfl,_,rfl,a,_,_,_,rfl,rfl,bPQ,bNo,_,rfl,x,CL,dx,_,_,rfl,hx,OY,SB,rfl,pd,_,rfl,aOY DP c hp,_,rfl,lZ⟩ bE h2 aG hpn (L.passed.contains c=bI) bK dTm XU h2 bLk ⟨_,rfl,_,rfl,x,CL,dx,_,_,rfl,hx,OY,SB,rfl,_,rfl,_,rfl,a,_,_,_,rfl,rfl,bPQ,bNo,_,_,rfl,rfl,Ba,?_⟩ oQ e1 (dNE=cZ (aLg+c)) lC bg4 s4 (ag H3 kP H3 p1 eQk) pK hp1 hp4 iY H3 p1 eQk p1 aGp (aLg+c) fT 0 0 zB ah e1 aJ s35 (s3.trans s4) aI ⟨y,dy,r,v,f,p1,_,_,_,_,_,_,rfl,bIH,Le hr2,Le hv2,Le hf2,nrv,nrf,nvf,hp4,aSv,aSv,aSv,?_⟩ eZ2 ⟨_,rfl,_,_,rfl,rfl,cOm,aRF,eG,_,ks++[eIT],rfl,rfl,aGT ba6,?_,?_,?_,?_,?_,?_⟩ aB bIH dE wT wT dU wT aZ dR hpn (L.passed.contains c=aY) bK dTm XU h2 ⟨_,rfl,_,_,rfl,rfl,cOm,aRF,eG,_,ks,rfl,rfl,aGT ba6,s03,kE hy2,kE hr2,kE hv2,kE hf2,?_⟩ aZ] bE h0 NN he i nJ bT9 Tw h0 fC hi uB aTx a5h Ij hk HK wX (k H' y s2 ny OD dy r v f hy2 ?_ ?_ ?_ nr0 nv0 nf0) aQ bdo hk aB hr2 aQ a1j hk aB hv2 kG aQ bdp hk aB hf2]
end
end WH
end
section
namespace L2
open PySem PySem.Spec PyProof.Rows
open PySem.SeqAt
open PySem.AutoSeq1(wpAny_loadPart')
open PySem.MeetsSeq PySem.MeetsSeq2 PySem.MeetsSeq3
noncomputable def mx(A:cM)(s:bC)(op:Qu)(x y:bU)(b:gE):aE:=Ce eJ aM w aK E cU Q cU (Q aJM s→FE (richCompare op x y))
theorem mx.b44(A:cM)(s:bC)(a:Int)(t:Tok)(c:Int)(u:Tok):aBz A Lt YO a cGG mQ a c:=ePB PyProof.Rows.lt_int (.Lt)
theorem mx.b45(A:cM)(s:bC)(a:Int)(t:Tok)(c:Int)(u:Tok):aBz A Gt YO a cGG mQ c a:=ePB PyProof.Rows.gt_int (.Gt)
noncomputable def gy(e c:WU)(z:gE)(n:Nat):aGI Nat gE|_,0=>z|i,zE=>aH6 e i (gy e c z n eG k) (c i)
theorem bnt(l b:aA)(iK pU:qA)(n n2:Nat)(dd dd2:yH)(sl sl2:FR)(e c:WU)(k:Nat):eXM bKy aRQ xQ IS:=bA fDU fBb aI7 bDn [fBb,aI7,bDn,fFs,cX he1 he2 cId hlt,fFw]
theorem a0h(l b:aA)(iK pU:qA)(n n2:Nat)(dd dd2:yH)(sl sl2:FR)(e c:WU):bNz Builtin.«list.__lt__» cJt aRQ bNr:=jX cZ0 aI7 bDn aJ f3 bYW aHv cIO (bnt l b iK pU n n2 dd dd2 sl sl2 e c _ 0 rfl eJ w A R _ cJi)
theorem mx.buq{A:cM}{s:bC}{l b:aA}{iK pU:qA}{e c:WU}(hl:aEt)(hb:bSu)(hu:SD)(he:aRQ):eQE:=bVu (.Lt) bYX dEA F.args_list_lt_2 a0h
theorem a_p(l b:aA)(iK pU:qA)(n n2:Nat)(dd dd2:yH)(sl sl2:FR)(e c:WU):eP9 Builtin.«tuple.__lt__» aRQ bNr:=fAN bDn aJ f2 bYY eW7 xQ IS fDX aF eC aEi hR fDI eOF
theorem mx.b46{A:cM}{s:bC}{l b:aA}{iK pU:qA}{e c:WU}(hl:cWo)(hb:cXr)(hu:SD)(he:aRQ):eQE:=bVu (.Lt) PySem.F.slot_tuple_lt PySem.F.entry_tuple_lt PySem.F.args_tuple_lt_2 a_p
theorem bnv:∀(l b:aA)(iK pU:qA)(n n2:Nat)(dd dd2:yH)(sl sl2:FR)(e c:WU)(k:Nat),eXM (rawInt 4) bBQ IS xQ:=kX (by intro l b iK pU n n2 dd dd2 sl sl2 e c k) fDU fBw cZ1 cZl [pE k ih,fBw,cZ1,cZl,fFs,eP he1 he2 cId hlt,fFw]
theorem be4:∀(l b:aA)(iK pU:qA)(n n2:Nat)(dd dd2:yH)(sl sl2:FR)(e c:WU),bNz Builtin.«list.__gt__» cJt bBQ cIo:=qF XZ l b iK pU n n2 dd dd2 sl sl2 e c _ sY eJ w A R s h _ cZ1 cZl aJ f3 bYW aHv cIO (bnv l b iK pU n n2 dd dd2 sl sl2 e c _ 0 rfl eJ w A R _ cJi)
theorem mx.bus{A:cM}{s:bC}{l b:aA}{iK pU:qA}{e c:WU}(hl:aEt)(hb:bSu)(hu:SD)(he:bBQ):eQF:=bVu (.Gt) F.slot_list_gt F.entry_list_gt F.args_list_gt_2 be4
theorem a_q(l b:aA)(iK pU:qA)(n n2:Nat)(dd dd2:yH)(sl sl2:FR)(e c:WU):eP9 Builtin.«tuple.__gt__» bBQ cIo:=aZ1 vM cZ0 aI7 bDn aJ f2 bYY eW7 IS xQ fDX aF eC pP hR fDI eOF
theorem mx.b47{A:cM}{s:bC}{l b:aA}{iK pU:qA}{e c:WU}(hl:cWo)(hb:cXr)(hu:SD)(he:bBQ):eQF:=bVu (.Gt) PySem.F.slot_tuple_gt PySem.F.entry_tuple_gt PySem.F.args_tuple_gt_2 a_q
end L2
end
section
namespace WH
open PySem PySem.Spec PyProof.Rows L2
open PySem.SeqAt
noncomputable def anb{α:cJ} [Pk](lt:Za):cA eK eK gE|_,[]=>bI|[],uP=>aY|Xy,Bt=>jI a b (anb lt r s) cMj
theorem aif:bS3 aR (anb bMY a b=cMi)|_,[]=>vC mW anb tE|[],uP=>rfl|Xy,Bt=>eHq tE aif
theorem ak7:bS3 fB (anb tE a b=yZ ij)|_,[]=>vC mW anb ij|[],uP=>rfl|Xy,Bt=>eHq ij ak7
noncomputable def eqJ{α:cJ} [Pk](xs ys:eK)(j:Nat):gE:=tK cPh (ys[j]?)
noncomputable def ltJ{α:cJ}(lt:Za)(xs ys:eK)(j:Nat):gE:=match cPh,ys[j]? with|aO a,aO b=>cMj|_,_=>bI
theorem a_r{α:cJ} [Pk](lt:Za)(xs ys:eK):bN7 k i cA (i≤cTI) (cTI-i=k) eWQ i k (anb lt (xs.drop i) (ys.drop i)):=Dl k aCc k [iX i hi h,aV gy,bQ q wD wQ,Bj aH (List.drop_of_length_le (l:=ys) q) eV (anb lt (xs.drop i) []=bI) mY anb (by rfl) bO aG q2 aYT gC byr h q aQ (List.drop_of_length_le q2) (bF0 dO b1b q) aV anb bO] k [iX i hi h,bD h1 (i<dF) bA jN bs5 h2 (i<wQ) bA jN bs6,aV gy,aQ (bF0 h1) (bF0 h2),aV anb,uL e1 FW h1 e2 FW h2,WP cAX (ys[i]),jK cE iF GU eqJ iF q (ih eG bA jN b_4 bA jN bs4) FK GU eqJ q aV ltJ aR3]
theorem ag1{α:cJ} [Pk](lt:Za)(xs ys:eK):eWQ 0 cTI (anb lt xs ys):=a_r lt xs ys _ 0 mJ rfl
structure ao6{α:cJ} [Pk](lt:Za)(A:cM)(s:bC)(x y:bU)(a b:α):aE where
 eq:EqAt A s x y aKa
 before:aBz A Lt x y cMj
 behind:aBz A Gt x y (lt b a)
theorem abq(A:cM)(s:bC)(a b:Nat)(t u:Tok):aDo bMY dQ5 dSW a b:=bL aI aZj wH aG e aJV tW fM a fM b Ax WP a b bS bO aH e aB (EqAt.int_int _ t _ u) aG e NE (a<b) mQ fM a fM b aJc lC bp1 aH e aB (mx.b44 A s _ t _ u) qB aG e NE (b<a) mQ fM b fM a aJc lC bp1 aH e aB (mx.b45 A s _ t _ u)
noncomputable def a0i{α:cJ} [Pk](lt:Za)(A:cM)(s:bC)(iK pU:qA)(xs ys:eK):aE:=AG xQ dF (IS=wQ) (∀j(h1:j<xQ)(h2:j<IS)(a b:α),cA AD xs a AD ys b aDo lt aUT aUU a b)
section
variable{α:cJ} [Pk]{lt:Za}{A:cM}{s:bC}{iK pU:qA}{xs ys:eK}
theorem a0i.pairs(S:a0i lt A s iK pU xs ys):dGi dZ (EqAt A s aUT aUU (eqJ xs ys j)) eSx Lt xs ys eSx Gt ys xs:=FI iX j h1 h2 cS e1 e2 f S Sc b48 a1 cR1 PR xs j bpq h1 e1 Sc b49 a2 AD ys v PR ys j bpq h2 e2 aJ O (f j h1 h2 _ _ a1 a2) mW eqJ ltJ aQ a1 a2 aI cH ?_ eZ bGa eZ dEC aG e NE (aO b48=aO b49) tK b48 b49 dSw aH e aB O.eq
theorem a2q(h:dF=wQ):(aGs dF).all dNh=dMe:=bK WP xs ys bMh bB q aQ aXF aLn cY j _ aV eqJ cG aQ (aKJ q) dEu bY z aF aLn z kW q eLc bQ hj (j<dF) aDU aLF (z j pP) aZ
theorem a7g(j:Nat):dOx (eqJ ys xs j):=bQm dB0 dB0
theorem bjc{l b:aA}(hl:aEt)(hb:bSu)(hu:SD)(S:eYm)(hsame:eJk):eZU:=cN bS7 cWO eY4 SC eSK dRE eCR bQ hsz (xQ=IS) eYK (RcAt.lists hl hb hsz hu cPd) e1 aBU cae e1 e2 hsz (RcAt.lists_lengths hl hb pP hu) bMv fD mx.buq qB eX0 mx.bus eZp aB q
theorem au5{l b:aA}(hl:cWo)(hb:cXr)(hu:SD)(S:eYm)(hsame:eJk):eZU:=fN bS7 cWO bD tl (dED l iK) fB3 hl tb (dED b pU) fB3 hb eY4 An eSK dRE eCR aJ q (RcAt.tuples tl tb hu cPd) bQ hsz (dF=wQ) fP fBN aBG (by rw[e1,e2,hsz,bW0,←hsz,a2q hsz]) aZ fBN bL cE Wi cPm hsz e1 e2 eV Se dF wQ lX hsz aQ aP bFr aZ mx.b46 qB eX0 mx.b47 eZp aB q
end
noncomputable def aa8(H:Hp)(a:aA)(rs:fB):aE:=eY ps BL vV tN aYb rs
theorem aa8.mono{H H':Hp}(s:eW){a:aA}{rs:fB}(h:cNs rs):aa8 H' a rs:=Mr ps Gq (h2.mono s)
theorem bjd{a b:aR}(h:vn a=vn b):tW:=eBo vn
theorem NLs.inj:∀{H:Hp},∀{ps:bM}{r s:fB},cA aYb r aYb s (r=s):=bL bE H bE ps Ju ps [jG r s h1 h2,bX h1,bX h2,by rfl] p ps [AS p ps ih,qW r s h1 h2,Oy h1 a1 t1 pE a1 t1 cMm h2 a2 t2 pE a2 t2 aJ e (HO.lst.inj cKr a1.symm.trans a2) aQ (bjd e) (ih t1 t2)]
theorem bnw{a b:bM}(h:a.map qI=b.map qI):tW:=cHJ (V.ref.inj e)
section
variable{X:Cx}{bH:dM}{σ:cO}{H:Hp}{s:bC}{A:cM}
theorem but(I:dQ){p q:aA}{t u:aR}(hp:aQ2)(hq:cOq)(hu:SD):aDo tE iW tM t u:=kK aI2 pl bNf hp eG7 bTJ aif aH e bDp cWf bAj (bjc FZ bGb hu cH cG7 cG8 (fun j h1 h2 a b ha hb=>?_) Nq) cZQ cZR cTM cTN dAd aR3 cZH [bB z,aB (bjd dSu HO.lst.inj hp.symm.trans hq)]
theorem a2r:∀{X:Cx}{bH:dM}{σ:cO}{H:Hp}{s:bC}{A:cM}(I:dQ){p q:aA}{r u:fB}(hp:aa8 H p r)(hq:aa8 H q u)(hu:SF),aDo ij iW tM r u:=Id bVs r u _ dG ps hp1 hp2 hp dG qs hq1 hq2 hq bUM hp1 _ bUN hq1 RJ e aK6 dH7 ak7 aH e bDp dA cK bYZ l1 dA cK bY0 l2 NO (au5 pl pl2 bRW pD cG7 cG8 ?_) [aKG j h1 h2 a b ha hb,zG hj1 (j<Ra) bL8 hj2 (j<its2.length) lX h2 m1 AD tN yW (ps[j]'(aID bYZ xf l1 hj1)) Wz Al aID bYZ xf l1 hj1 m2 AD aId yW (qs[j]'(aID bY0 xf l2 hj2)) Wz Al aID bY0 xf l2 hj2,dG v hv rv' (rv.get m1),dG w hw rw' (rv2.get m2),bX rv',bX rw',aDm aBa (uS[j]) (ps[j]' tX) dIN aBa (aAD[j]) (qs[j]' tX) dIO,aR3,AM x1 t1 ex1 et1 n1 (hp2.at m1),AM x2 t2 ex2 et2 n2 (hq2.at m2),bX ex1,bX ex2,aF ha et1,aF hb et2,bX et1,bX et2,aB (but I n1 n2 hu)] bE z bB z aJ e5 (HO.tup.inj cKr hp1.symm.trans hq1) aF (bnw e5) hp2 aB (NLs.inj hp2 hq2)
end
section
variable{X:Cx}
inductive br1(x:V)(y:V)(H:Hp)(Q:VK):aE|mk a b r u(_:rN)(_:Bq)(_:cNs r)(_:eFj)(_:BR (ij r u)):QU br1
noncomputable def cc':R2:=aD9 br1
inductive br2(x:V)(y:V)(H:Hp)(Q:VK):aE|mk a b r u(_:rN)(_:Bq)(_:cNs r)(_:eFj)(_:BR (ij u r)):QU br2
noncomputable def cda:R2:=aD9 br2
theorem bje(hu:Ny):Bu Lt cc':=eXT ((eVP).before)
theorem buu(hu:Ny):Bu Gt cda:=eXT ((eVP).behind)
end
end WH
end
section
namespace L2
open PySem PySem.Spec PyProof.Rows
section
variable{P:aM}{w:aK}{A:cM}{E:cU}{s:bC}
theorem be5:bMF zW aFF bYL aS:=eQh
theorem bjf:bMF zW aFF dEE aWo bY1:=eQh
theorem bjg:∀{P:aM}{w:aK}{A:cM}{E:cU}{s:bC}{it l:aA}{i:Int}{Q:aQX}(hit:dMq i)(h:Q bI s),aPW (Builtin.List.listLengthHint NF):=Ze aMy P w A E s it l i Q hit h aV Builtin.List.listLengthHint aXE OU be5 aXE OU bjf aG e0 (splitId bY1=aO (aFF,dEE)) wR FX hid (bY1:uR) id0 TD aH e0 bB hid TD dI8 aFF OU uE isSubtype_type bFZ aI eCg iB bY2 dJ (wpAny_ite_split Xo Ur (aS9 wR q)) aB (wpAny_ite_split dMI fE eZ (Cv h))
theorem a_s:∀{P:aM}{w:aK}{A:cM}{s:bC}{R:bAy}{it l:aA}{iK:qA}(hh:Bk)(hit:dZy)(hl:aEt)(hne:l≠it)(hsz:cKV)(S:aA)(hSl:S≠l)(res:bU)(c0:Nat)(hS:GS S cO7 c0)(hR:eSH jW ZV pY S cA pY it QQ aHC bUh S Dd c' eWL Eo res aEd),UH LY P w GA (Builtin.List.listExtendWith aC7 NF res) bG fin s' xJ fin (.pS f) (R (.ok f) s') (.aLR c') (c'.quiet=aY∧aH5 cNN A c' R s') bG e s' dGY:=by rw[by intro P w A s R it l iK hh hit hl hne hsz S hSl res c0 hS hR,_,aG hSi (S≠it) cN bE e SU o ho hc hd hit _ bO,aV Builtin.List.listExtendWith,gX (wpAny_typeOf (T:=aFF) OU ?_),bD h1 (Builtin.List.listSameRef aC7 NF=bI) HB Builtin.List.listSameRef hSi h2 Se aYq aFF aYq yI wR,aG h3 ((aYq aFF==aYq Zi)=bI) wR,by simp only[h1,h2,h3,dEF,aAH,Rf],Nr wpAny_pyIter_revIter hit,gZ YQ aFv (bjg hit ?_) eCg wR,bY2,gQ W ((Walks.listRev (prog:=P) (w:=w) (A:=A.in1) hh it l hne iK).toS),Wp aT bIt F.plain_extend_loop (codeAny_extend_loopS W hsz S fD res xQ 0 s #[] c0 rfl mJ cH mJ pP hl hS (ItemsOf.nil _) ?_),Ge s' Dd c' hm hS' aL6,aH (Moved.eq_with hm),aI (hR XG s'.toks Dd c' oW b o hb hb2 e JJ hm.heap aH4 CT hS' aL6),aZ]
theorem bjh{l:aA}{iK:qA}{Q:cU}(hh:Bk)(hl:aEt)(hsz:cKV){it:aA}(hit:dZy)(hne:l≠it)(hQ:eSH jW cSm it bUh fJ Dd c' eWL (Q HA aEd)):aPW Em VL [NF]:=Id bD hlt (l<fJ) bL3 IP o ho hl ho buv cNq iV IP o ho hit Heap.lt_size ho aI (callType_codes (Q₁:=bG obj s1 (obj=HA∧s1=GM cIq)) F.called_list (F.typeCall_list_1 _) F.entry_list_init (code_list_new _ NJ) ?_) iX obj s1 h1 zZ rfl h1 dR hS aJj cIq fJ EL yI seq (#[]) GR pD GI hS qR F.args_list_init_2 ZG _ (do let old←Builtin.List.listItems (.ref s.heap.objs.size);Builtin.List.listUpdate (.ref s.heap.objs.size) (fun _=>#[]);letGo old.toList.reverse;Builtin.List.listExtendWith (.ref s.heap.objs.size) (.ref it) .none) _ cO9 hS bDf hS mJ mJ cNQ cEP c1 hS2 eEu fJ cO7 c1 hS cJ7 dR sF cQ9 eEu JT iX b o e GP Heap.get?_update_ne bCX cMe e (a_s (A:=A.in1) hh eFt hit.at it eFt hl.at l hne hsz fJ (aLh hlt) uH c1 hS2 ?_) (by intros h' tk Dd c' hk hS' aL6) Nf (hQ h' tk Dd c' aMF (hk b o bCX hb MR sF) hS' aL6)
end
end L2
end
section
namespace L2
open PySem PySem.Spec PyProof.Rows
theorem Vals.bji{xs:aN}{us:eQ}(hl:dF=By)(h:aDG i x V u bU cA VI gH us u Ah):RH:=eS7 xs us Mx us aB eF _ _ eM hl Mx us eM hl u us aB aBD (h 0 x u rfl rfl) ih rX oW i y v e1 e2 (h eG y v fE fE)
section
variable{X:Cx}{a:bZ}{ta:TE}{p p2 pos Ri:Pos}
noncomputable def b4'(K:aL)(ta:TE):TE:=OA eXp NC H1 l xs
theorem awz(hm:cM6)(hm2:cM8)(hc:KP)(ha:HV)(hg:autoParam (cNE) EE.autr._auto_1)(hg2:autoParam (cNG) EE.autr._auto_1)(hs:autoParam (aEz) EE.autr._auto_1)(hs2:autoParam (eWb) EE.autr._auto_1):eEq (b4' X.K ta):=qF oR Q h dZQ eZC cMo aBB dOn dQR aI (Call_ (zj I hg2 hm2 akz dHj ?_)) aI JF dNz (aa ha ak hs) Ri [x] eXp (bi X.K H1 l xs) h eY1 (by match vs,q1,r1 with|[],q1,_=>rw[bUj]|_::uP,q1,_=>rw[bUj]|[x],q1,r1=>rw[QX l xs hq k q1,fEM,aNo pl I1.list,aRM,vI call_reversed_list FZ,aYI,bD hit ((cYi).IsRevIter pT l (fM TX-1)) aIW hne (l≠pT) iV IP o ho FZ SW aPG ho,dR I2 cIz cYi aYw bTE (bjh (s:=aNZ s1 cYi) NH Md pl.isList.at e aB0 fC hit hne dAc kp),dQK aCN aQD (I2.agt (t':=tk) (h':=h') (ch:=[pT]) (ob:=gW bFo) aNz kp rX ?_ lB ?_) k I2.fresh aC4 aCP pT bB e bJK lB I1.fresh aI aT pP uJ dEG c' ?_ hS dA1 dF gT aJ q1 bFY HJ q2 dEH acc'.size aFk q3 TX Ra zO (b_s hl q1 q2 q3) eUS cVO gO q cSn hi (i<dF) dRp iO e1 aK9 aF (List.getElem?_reverse hi) e1 cS u2 hu2 ru2 (rv.get e1) aZ])
end
end L2
end
section
namespace WH
open PySem PySem.Spec PyProof.Rows L2
theorem ai5:mP [vP,EB,XI,bVR] aOa afx:=dW
noncomputable def aw0(H H':Hp)(y a:aA)(rs:fB):aE:=eY ps Ta vV tN FS cE0 rs p ps (JV∨p=a)
theorem aw0.row{H H':Hp}{y a:aA}{rs:fB}(h:dJ4 rs):UT aa8 rs:=Kw YC ps h1 h2 h ps h1 h2
inductive jq(CL:aA)(vs:aN)(H:Hp)(Q:VK)(XE:XK):aE|mk x L a t(_:QP)(_:aOn)(_:mH)(_:Ut)(_:cUc):Si jq CL
theorem jq.out{CL:aA}{vs:aN}{H:Hp}{Q:VK}{XE:XK}:Si jq CL→bU9 cUc:=aVb jq.rec CL bU9 cUc bVo
theorem ae7:mP [vP,Cb,XJ,"first_row","second_row"] cVi acd:=dW
inductive n_(CL:aA)(vs:aN)(H:Hp)(Q:VK)(XE:XK):aE|mk x L a t b u(_:dLv)(_:aOn)(_:mH)(_:aXY)(_:Ut)(_:aXD)(_:dMP):Si n_ CL
theorem n_.out{CL:aA}{vs:aN}{H:Hp}{Q:VK}{XE:XK}:Si n_ CL→fBx:=aVb n_.rec CL fBx fB4
theorem aw1(t:aR):aAh AF=vn t.reverse:=mY vn aZ
section
variable{P:aM}{w:aK}{K:aL}{mg:bF}{aW:aU}
theorem aw2:∀{P:aM}{w:aK}{K:aL}{mg:bF}{aW:aU}{CL CW:aA}(F:eIx)(B:fQ)(TC:aEx CL)(TW:bJ1 CW)(ir:eN6),eOL:=Ap aIq P CL CW F B TC TW ir ai5 x L a t [fBh,gQ nd ai5.nd,gZ ZQ Hm Pc ir VF 3 KN Sf yX qt jY aw BW (awz bGc bY3 rfl gK) bAX aIe KN gK KN fU eY5,eG3,by(obtain⟨dy,r,v,f,hy1,hr1,hv1,hf1,nr,nv,nf⟩:=hy.ex),dJ eXu CW dy hy1 Df Hf,Ro dx fd pd kvs kvp hx ((aJQ).ex),_,aJo aNB x CL dx hx OY SB rfl _ lZ bE h1 aBk hb aLj xX cMq bR8 e aLj (by rfl) aZ RR Oe v gN hv1 q hq aw1 Fm s2 H1 cRa hq hqq (NL cRa q aAh cCf) H2 dP ⟨_,rfl,y,CW,dy,_,_,rfl,mU hy1,Df,Hf,rfl,_,rfl,_,rfl,y,CW,dy,_,_,rfl,mU hy1,Df,Hf,rfl,_,rfl,bAF,?_⟩ z hz2 eYR aCD FG z eOH tM aR5 ((HD).free hz2) q bA XV nr nf Wj hq aV aLk qX hb aB bH7 kE mU hr1 kE hqq aOQ kE mU hf1 kE mU ZU [bE h1,AR hb (aLj=aY) cN bE e kW h1 aH e (by rfl),dP ⟨_,rfl,y,CW,dy,_,_,rfl,hy1,Df,Hf,rfl,_,rfl,_,rfl,y,CW,dy,_,_,rfl,hy1,Df,Hf,rfl,_,rfl,bAF,?_⟩ z hz2,eYR aB6 KB z eOH cI v (aL8 s3) Wj hz2 v Am,aV aLk,jJ hb,aB bH7 kE hr1 kE hv1 aOQ kE hf1 kE ZU]]
theorem aqq:bDA CL eVz gu eOL xU bWe 5 cVi (n_ CL):=aU1 Po CL F gu ae7 x L a t b u [dAH x L a t b u rfl hL ha hb hz hz2 k,HF ae7.nd,gZ oN AA 3 Pc gu Hl zD gu jC Wt VB cOu bje oG aWj VB cOu buu oG aw aw eY5,QR H1 y1 s1 n1 r1 dM0 b u aJQ kY hb hz2,aI5 y2 n2 r2,eN q cVS H2 r1 r1.row,yG r2 r2.row cZs,dCu (akg L t u) o1 o2 o3,JM Qi o1 o2 o3 _ aH o2 aF o1 q HC wX q [pE o1 o2,bB o2,aH uv,uM cZs,aH uv,aF o1 q,WM q],Wn AS o1 o2 o3 aH o2 uM cZs aH o3 aF o1 q MU q]
end
end WH
end
section
namespace WH
open PySem PySem.Spec PyProof.Rows L2
noncomputable def acs{α:cJ}(lt:Za)(l:eK)(x:α):Nat:=bV aBO Ct (lt y x)
theorem ao7{α:cJ}{lt:Za}(irr:∀a,bQL lt)(tr:Dz a b c Eb lt bMG lt bMk lt)(tot:xT a b (lt a b=bI) bKT lt tW){l:eK}{x y:α}(hx:cL5)(hy:xA l):NE (fM aSt x<fM aSt y) (lt x y):=bK aG OV (∀{a b:α},bKT lt→aSt a≤aSt b) YF a b h cN aV acs aFq aUf aUf aI (List.countP_mono_left eAN ?_) fO bKK e (lt x y) bS [lO LS,aG h1 (aSt x<aSt y) vM aV acs aFq aUf aUf cS a b rfl (List.append_of_mem hx) jS bY4 bY4 (List.countP_cons_of_neg fD) aQz List.countP_cons_of_pos eBA aG m (∀m:eK,dTV lV (lt z x)≤dTV eBA) JP m List.countP_mono_left eAN (tr z x y hz e) bN (m a) bN (m b) rF,aB (bp3 h1)]
theorem aly(a b:aR)(h1:cRi)(h2:dUB):tW:=eOk aH0 akj n
theorem a0j(a b:Oz)(h1:OO a b=bI)(h2:dUC):tW:=eOk aH0 akk n
noncomputable def anc(H:Hp)(v:V)(k:Oz):aE:=eI8 r Kc BM k.2 (aa8 H r k.1)
section
variable{X:Cx}{σ:cO}{H:Hp}
theorem buw:∀{X:Cx}{σ:cO}{H:Hp}{bH:dM}{s:bC}{A:cM}(I:LI)(hu:SF){v w:V}{u z:bU}{a b:Oz}(ha:anc H v a)(hb:anc H w b)(ru:CF)(rz:UQ w z){E:cU},bTp (keyLt' dZ4 u z) bG c s' (s'=s∧c=yZ OO):=Zd (by intro X σ H bH s A I hu v w u z a b ha hb ru rz E) [_,AM t1 r1 rfl h1 q1 ha] AM t2 r2 rfl h2 q2 hb fEf dAG cdb v1 o1 g1 c1 n1 d1 VJ t1 h1 dAG YE v2 o2 g2 c2 n2 d2 VJ t2 h2 [aNs e1 v1a v1 e2 v1b,aOH v1b] [aNs e3 v2c v2 e4 v2d,aOH v2d] bX e1 bX e3 aVk x1 e2 x2 e4 eN O (a2r (A:=A) I q1 q2 hu) On (abq A s a.2 b.2 x1 x2) aI (PySem.W.kat_lt g1 d1 g2 d2 ?_) aI (PySem.W.kat_cons GP O.eq ?_) bQ er (a.1=b.1) eZJ er PySem.W.kat_cons GP On.eq ?_ bQ en (a.2=b.2) eZJ en PySem.W.kat_nil QT aQ iR tW (Prod.ext er en) bEM (by rfl) On.before bGa
theorem bo{α β:cJ}{F:tZ}:Li l eK m DM Ys Zw i Nat a α b β cRN Ov|_,_,eF,_,_,_,h,_=>vN|_,_,.jR r _,0,_,_,h1,h2=>fC|_,_,bCQ,eG,_,_,h1,h2=>bo t bL8 fE
theorem be6{n:Nat}{ks:aN}{iT:Ds fB}(hk:dZJ)(hn:bGd=n)(hu:aRU):eZD OO:=fAP dZ4 Ru aG aEK Zw ks aN iT Ds fB us eQ cA dZJ bTn eY fs (PySem.W.KatTups kO us fs) FS (aSX=By) f fs dNj (typeOf f) To bK vR ks iT us p dNM p us [bY r,bX r,dL [] EK aKY aX] r t [bY rv,XM rv jR e rv [jF fs f1 f2 f3 (ih rv),by(obtain(⟨t1,r1,rfl,h1,ps,h3,_⟩):=r),HP,by(obtain(⟨_,cdb,v1,o1,g1,c1,n1,d1⟩):=VJ t1 h1),XM v1 jR e1 v1 [bX e1,by(obtain(⟨_,YE,v2,o2,g2,c2,n2,d2⟩):=VJ r1 h3),aI aT (cKn::fs) cH (.jR g1 c1 d1 aX f1) fW f2 mR f hf,aEe hf,kG eQ9 cKn o2.cls g2 aZ,AQ]]] jF fs f1 f2 f3 (aEK hk rv) aB (PySem.W.kat_kind f1 aBU byq hl h2 f2 f3 rfl hQ) [fFN (ao7 (lt:=keyLt) bEM dUM a0j (l:=keys) Oh gi Oh gj),DS rl (buw (A:=X.A.in1.in1) I fE (bo hk ki gi) (bo hk kj gj) rui ruj)]
end
end WH
end
section
namespace WH
open PySem PySem.Spec PyProof.Rows L2
section
variable{eJ:aM}{w:aK}
noncomputable def wg(eJ:aM)(w:aK)(h:aU)(k:Bs)(a:aA):aE:=∃o b v n,eX Ao o cOA (Bw=aBw (#[vF,v])) (IsTupleKey Mq h k.1 b) ((Mq).is k.2 v=aY)
theorem wg.typ{s:bC}{k:Bs}{a:aA}(x:cRk):dIM Zi:=Kw eAS c x o e c
theorem wg.one:∀{eJ:aM}{w:aK}{h:aU}{a:aA}{x y:Bs}(hx:aOR h x)(hy:aOR h y),x=y:=Zd BD eJ w h a x y hx hy _ cJD b hx _ fBH b' _ aF e1 f1 bX f1 aF e2 f2 aEI f2 f2 _ dEK f2 aEI f2 g1 g2 dEK g1 aEI g2 g2 _ LP g1 g2 aB (Prod.ext (e3.inj f3) Dq ((Mq).inj) e4 f4)
theorem wg.stays{h h':aU}{k:Bs}{a d:aA}{o:Obj}{es ep}(x:aOR h k)(ho:aIw d o)(hd:aP4)(hs:cTB h):aOR h' k:=bL aAt o' b v n e1 e0 e2 e3 e4 x aI AN o' b v n nP pZ cK5 a e1 e0 e2 (e3.keeps ho hd hs) e4 (by (rw[bY h,bB h,aZ]))
noncomputable def bjj(eJ:aM)(w:aK)(k:Bs):Int:=reduceHash (Builtin.Tuple.tupleHashOf dIo)
variable{A:cM}{E:cU}{s:bC}
theorem bjk:∀{eJ:aM}{w:aK}{A:cM}{E:cU}{s:bC}{k:Bs}{a:aA}{Q:UI Int}(hu:SF)(hk:cRk)(h:Q (bjj eJ w k) aM4 (FY+cNm)),FE (bDN jT):=by rw[eZX k a Q hu,fFC bDN,rD aV pyHashByItsType (by skip),rD Nr wpAny_cRoomFor_or fF bRW (by skip),dW1,bW UH _ _ aOb (aO (Value.builtin "tuple.__hash__")==aO aEJ) Q E,jJ Dv,dW1,gX (wpAny_callSpecialIfBoundUnlessNone?_slot ty dEL aV8 dEL ty F.entry_tuple_hash F.args_tuple_hash_1),DC GA (Builtin.Tuple.tupleItemsOf jT>>=_),ZD wpAny_tupleItemsOf e1 e2,gX ?_,bN5,DC GA aCL [aQ3,v],bVD (wpAny_pyHash_tuple (A:=A.in1) hu e3 bMo),ZG GA aCL [v] _,bVD aVX ((Mq).pyHash) e4,ZG GA aCL [] _,aH aAG,Ud,ZG GA (retInt (Builtin.Tuple.tupleHashOf _)) _,dQS,aLd bjj reduceHash h,aG et (FY+(bV k.1+1)+1+1=FY+cNm) lC bze,bW YI _ _ aOb eYz Q E _,Hd r eYz,wH yJ iF r h Ud aZ yJ eC r h cRh wpAny_rule aZ]
theorem bjl:∀{eJ:aM}{w:aK}{A:cM}{E:cU}{s:bC}{x y:Bs}{a b:aA}{R:dQE}(hu:SD)(hx:dVv)(hy:eOh)(h:R (.pS aBj Kr cKK) s),aMA eJ w (Builtin.«tuple.__eq__» BI [jT,vF]) R:=Zd (by intro eJ w A E s x y a b R hu hx hy h) gQ tb hy.typ cJD p hx _ fBH p' _ aNg (isInstance vF To) cUf tb aW4 gX aXq wpAny_tupleItemsOf e1 e2 (wpAny_tupleItemsOf f1 f2 ?_) gX ?_ DC _ aCL [(Ig p,aNt p'),(v,v')] aH aFr aWU (wpAny_eqBool_tuple hu e3 f3 ?_) bQ q1 (x.1=y.1) eYE q1 bVB [(v,v')] bVD ((Mq).eqBool e4 f4 ?_) bQ q2 (x.2=y.2) eYE q2 bVB [] aDy aAG aPd ?_ aF dQV Prod.ext q1 q2 h aB h
theorem bux{x y:Bs}{a b:aA}{Q:aQX}(hu:SF)(hx:dVv)(hy:eOh)(h:Q cKK s):FE (bDO jT vF):=fN aV bDO aZ5 cKb cLz bW UH _ _ aOb (bOR==aQ3) Q E bQ ab aNe bOR aQ3 bA4 qX ab pO a b xX (eq_of_beq ab) bEE aP bB e aF cFV hx.one hy h Gg (wpAny_rule (Cv h)) jJ ab Gg (wpAny_richCompare_same_room (op:= .Eq) hx.typ hy.typ dEM (wpAny_call_entry dEM hx.typ F.entry_tuple_eq (bjl (A:=A.in1) hu hx hy gJ Lv rfl tO bZ9 bG7 bG8 bG9 bHa bHb bHc bHd bHe e aB XD e aTP h) qR F.args_tuple_eq_2) bRW)
theorem be7:∀{eJ:aM}{w:aK}{A:cM}{E:cU}{s:bC}{ks:yU}{m:Nat}{a:aA}{Q:aQX}(hk:IsTupleKey Mq kO ks a)(h:Q aY s),eDq (m+1):=Id eZX ks m a Q gQ ty hk.typeIs (by obtain⟨o,iK,n,ho,_,hd,hi⟩:=hk) gQ all hi.byValue aV dEN dW2 eNL cUf ty aW4 eHz ho hd DC _ aCL iK bN5 JU (wpAny_forIn_list _ fR jM r s' (r.1=aS∧FS (s'=s) v jM (carriedByValue v=aY)) _ ?_ ?_ _ _ aIh all) [by rintro v jM r s'⟨_,rfl,hv⟩,_,aH (eqIsQuiet_byValue _ (hv v aX)),aW3,aW4,NS aIh bG u hu (hv u fW hu)] (by rintro⟨r1,r2⟩s'⟨hr,rfl,_⟩) _ So (r1=aS) hr jN Cv
theorem be8:∀{eJ:aM}{w:aK}{A:cM}{E:cU}{s:bC}{k:Bs}{a:aA}{Q:aQX}(hk:cRk)(h:Q aY s),eDq 8:=by rw[yN eJ w A E s k a Q hk h,fFC dEN,dW2,eNL,cUf ty,aW4,eHz e1 e2,DC _ aCL (#[aQ3,v]),bN5,DC _ aCL [aQ3,v],bVD (be7 e3 ?_),bVB [v],aQ aFr (eqIsQuiet_byValue _ cB ((Mq).byValue) e4),gX dLg,bVB [],aH aAG,NS (Cv h)]
end
noncomputable def a0k(eJ:aM)(w:aK):dZp Bs where
 is:=wg eJ w
 hash:=bjj eJ w
 draws:=yE cNm
 room:=bT A SF
 inj:=bG hx hy (hx.one hy)
 keeps:=kI x ho hd hs (x.stays ho hd hs)
 bDN:=fR hu hk h (bjk hu hk h)
 bDO:=kI hu hx hy h (bux hu hx hy h)
 quiet:=bG hk h (be8 hk h)
end WH
end
section
namespace WH
open PySem PySem.Spec PyProof.Rows L2
noncomputable abbrev aea:=cMn
noncomputable def nk(k:aea):Bs:=(iM k.1 (fun(c:Nat)=>(DP c:Key)),DP k.2)
theorem bjm{k j:aea}(h:nk k=nk j):k=j:=Wr cV nk h aEI h h1 h2 vI Prod.ext cDo Mo x y h1 dU bTh
noncomputable def ati(H:Hp)(b:aA)(k:aea):aE:=eY p JA Kc iW k.2 MQ YZ k.1
theorem ati.mono{H H':Hp}(s:dZM){b:aA}{k:aea}(h:aSy):ati H' b k:=Mr p Gq Vt
noncomputable abbrev a_t:=Bs×aVo
noncomputable def a0l(P:aM)(w:aK)(a:aA)(xs:aQC):HO:= .ext wE fBj (bVJ=Zg (entryOfKey (a0k P w)))
noncomputable def ao8(H:Hp)(kvs:WO)(xs:aQC):aE:=sJ cTb (aea×V) a_t dZ (nk p.1=q.1) (ati H cFR p.1) dLF kvs xs
noncomputable def DN(P:aM)(w:aK)(H:Hp)(a:aA)(kvs:WO):aE:=dZ bIL (oK≤IG) aG3 eTM bBP
theorem ao8.mono{H H':Hp}(s:dZM){kvs:WO}{xs:aQC}(h:bBP):ao8 H' kvs xs:=xS h cTA ((z.2.1).mono s)
theorem DN.mono{P:aM}{w:aK}{H H':Hp}(s:eW){a:aA}{kvs:WO}(h:cDx P w):DN P w H' a kvs:=dB qM h1 h2 xs h3 h4 h bSs bR xs cLM dL2 rH e
theorem ao8.val{H:Hp}{kvs:WO}{xs:aQC}(r:bBP)(k:aea):eOb cQB:=bK cV ao8 r cXD IE h1 h2 h aG e' (q.1=aPS) aQB h1 e aQ aDO CV (bLr aZl=aO q.2) CI aT4 e' AR e' eEI oO e (bjm (bEA z)) aQ aDP CV (bLr aZl=bLr qs) CI aT4 e'
theorem ao8.put:∀{H:Hp}{kvs:WO}{xs:aQC}(r:bBP)(k:aea){b:aA}{y:V}{u:bU}(hb:aSy)(ry:BZ),ao8 H bBm cI0 aPS:=WG yN H kvs xs r k b y u hb ry eTJ cQB dXP aH e bQ q sN cQB aD2 Oc q q (by clear e q) XT ao8 r dW4 (by delta p q ps qs h t ih) dJ cUb cWR h CC p.1 k wH LC q.1 aPS aQB h1 z BB iF z bFB iF e1 aZ AR e1 eEI JP y z (bjm (bEA y)) BB bAu bFB cD2 bS FK q q eJV
section
variable{P:aM}{w:aK}{H:Hp}{h:aU}{a b:aA}
theorem au6:dAq b k aea aSy (wg P w h aPS b):=QJ cY1 b k aB3 p e (by obtain⟨_,its,v1,o,g,c,n,d⟩:=ok b _ h1) _ Oy v1 e1 v1 pE e1 v1 XM v1 jR e2 v1 [pE e2 v1,bX v1,bX e1,oE AN o p _ n nP g c d (agc ok ?_) (aop (k:=DP k.2) e2) h2,mW vn nk,aH mL,by rfl]
theorem bb':dAq a kvs WO cDx P w wF xs eTM bBP dMo (a0k P w):=vM cY1 a kvs _ (by obtain⟨_,_,xs,h3,h4⟩:=e) _ (by obtain⟨⟨o,es,ep,g1,g2,g3,g4,g5⟩,_⟩:=ok a _ h3) dJ Mt xs h3 h4 aQn o yB g1 g2 g3 g4 ?_ g5 aG all Pq l WO m aQC zQ (ao8 H l m) x m (wg P w h x.1 VS) RM l m q cV ao8 q PQ q cG hq t [aI1,aEe hx,kG hM hq.1 aB (au6 ok hq.2.1),AQ] aB AO (all h4 x hx)
end
section
variable{X:Cx}{bH:dM}{σ:cO}{H:Hp}{s:bC}{a b:aA}{k:aea}{kvs:WO}{A:cM}{E:cU}
theorem DN.typ:∀{X:Cx}{bH:dM}{σ:cO}{H:Hp}{s:bC}{a:aA}{kvs:WO}(I:LI)(d:bUd),cSq∧(iJ c dXR DG cTE GS c ob):=qF yK X bH σ H s a kvs I d _ (by obtain⟨xs,_,_,dd⟩:=cIc) _ dP eO Jl c q bX q (by obtain⟨ob,_,_,h1,h2,_⟩:=dd) _ cVY
theorem cdd(hu:bQI)(I:LI)(d:bUd)(e:aSy){Q:cU}(h:aPw dSm Kr cJ2):aCb (dCQ .In vF jT):=jX eS1 aI (wpAny_in_heap (knd:=bT4) cWw cM3 d.1 dd ?_) aJ q cDT aF bFC q hM q cE2
theorem b5a(hu:bQI)(I:LI)(d:bUd)(e:aSy){Q:cU}(h:bNC dSm eHE ((JZ).getD)):cQa [jT,vF]:=bL eS1 aI bNB cLX eEw bT4 d.1 aT cWw VX aPS xs cM3 dd cFd cM5
theorem b5b:∀{X:Cx}{bH:dM}{σ:cO}{H:Hp}{s:bC}{a:aA}{b:aA}{k:aea}{kvs:WO}{A:cM}{E:cU}(hu:bQI)(I:LI)(d:bUd)(e:aSy)(hl:oK<IG){y:V}{u:bU}(ry:BZ){Q:aJr}(h:kQ H' s' Kt H' s' cA aRc (DN pC X.w H' a bBm) (Q () s')),aCb (setItem jT vF u):=qF (by intro X bH σ H s a b k kvs A E hu I d e hl y u ry Q h) _ nQ xs hx rel dd cIc dR hz NT iV FU aT5 aFo b2c hl (wpAny_setItem_heap (knd:=bT4) (hsz:=hz) cWw cM3 dd ?_) eHN eWr _ bD I' Kt eUh aGk (FY+(bT4).draws (nk k)) jX aI (aor I gG hx aAz hs bM2 pD dYS bM2) jG h1 h2' x kp _ EF o es ep g1 r x _ aB aXf o (kp _ g1) r sm bBL eUh dIU jG c o hc e Wv (h _ _ I' sm cH d.1 ?_ rP ah ((rel.put k e ry).mono ?_)) bN cGu y NQ b0p hl lJ c ys ec jV bL pQ z dA z hx ec bX ec aB ec
end
section
variable{X:Cx}{o i e EI:bZ}{pos TQ CK zT:Pos}{td ty tv:TE}
noncomputable def b5c:TE:=aKn kQ p H' JV YJ eW (DN pC X.w H' p []) iW
theorem aw3:cWq (b5c (X:=X)):=dLX qY HA rE fJ (a0l pC X.w fJ []) (bFj (a:=s.heap.objs.size) (t':=s.toks) bMB lB kM fAs gJ GR NI vR h1 h2 x kp) rfl (h _ _ Mm pK Mm cH dN6 bYo mJ cQh)
inductive br3(X:Cx)(Q:VK)(y:V)(x:V)(H2:Hp):aE|mk a b kvs k(_:rN)(_:Bq)(_:bSW H2)(_:dZz)(_:RK pI cJ2):eXg
noncomputable def cde(X:Cx)(ty td:TE):TE:=cW7 eXg
theorem bnx:dPC aRU (.In) (cde X ty td):=Gf dPv _ KE Q dJ VA hi aCn iv y H1 ry dJ aDf ho (by rintro u s2⟨x,H2,I2,rx,a,b,kvs,k,ex,ey,d,n,q2⟩) _ LP ex ey Vh bUz aB (cdd hu I2 d n dNp Eh)
inductive bjn(X:Cx)(D:yO)(σ:cO)(v:V)(x:V)(y:V)(H3:Hp):aE|mk a b kvs k(_:rN)(_:Bq)(_:bSW H3)(_:ati H3 b k)(_:oK<IG)(_:RA H4 (b9 a H3 H4) (DN pC X.w H4 a aNR) Dy H4):fAe
noncomputable def b5d(X:Cx)(td ty tv:TE):TS:=eJI fAe
theorem a7j:∀{X:Cx}{o:bZ}{i:bZ}{EI:bZ}{pos:Pos}{TQ:Pos}{td:TE}{ty:TE}{tv:TE}(hu:aRU)(ho:Ni)(hi:aYd)(hv:cQT)(hs:dZm),bUF cIW EI (b5d X td ty tv):=vM (by intro X o i EI pos TQ td ty tv hu ho hi hv hs) _ KE D dJ (wpAny_Assign_Subscript (j7 Sd hv aSk r v rv eVg (fun iv s3⟨y,H3,I3,ry,a,b,kvs,k,ex,ey,d,n,hl,q3⟩=>?_)) hs) LP ex ey Vh bUz aB (b5b hu I3 d n hl rv oW H4 s4 I4 sm d4 eJi (q3 H4 sm d4))
inductive bjo(X:Cx)(ty:TE)(σ:cO)(Q:VK)(x:V)(H1:Hp):aE|mk a kvs(_:rN)(_:bSW H1)(_:aHV (∃b k,ZY y vF bSW H2 dZz RK ((JZ).getD iE))):eOY
noncomputable def b5e(X:Cx)(td ty:TE):TE:=Yi eOY
theorem bjp(hu:aRU)(ho:Ni)(he:bPM)(m:eZN):cPV [e] (b5e X td ty):=Id oR Q h dNA fBI a d q1 bB ex Vh cX t1 t2 (DN.typ I1 d) cI4 bUq aDf he (by rintro(iv)(s2)(⟨y,H2,I2,ry,b,k,ey,d2,n,q2⟩)) aYI bB ey bUz aB (b5a hu I2 d2 n cYw _)
end
end WH
end
section
namespace WH
open PySem PySem.Spec PyProof.Rows L2
open PySem.SeqAt
section
variable{X:Cx}{bH:dM}{σ:cO}{H:Hp}{s:bC}{A:cM}
theorem b5f:∀{X:Cx}{bH:dM}{σ:cO}{H:Hp}{s:bC}{A:cM}(I:dQ){p q:aA}{t u:aR}(hp:aQ2)(hq:cOq)(hu:SD),RcAt A s iW tM tK t u:=Gf bVs t u _ eSa hp _ Rm YE rv2 pl2 (I.list (bi.of hq)) _ bDp cWf fAF (fun j h1 h2 a b ha hb=>kK cZQ cZR cTM cTN dAd aR3 cZH) bS7 bQ hsz (TX=bYc) eYK (RcAt.lists FZ bGb hsz hu cPd) S.1 aUC bS (RcAt.lists_lengths FZ bGb pP hu) (t=u) fC
end
section
variable{X:Cx}
inductive br4(x:V)(y:V)(H:Hp)(Q:VK):aE|mk a b t u(_:rN)(_:Bq)(_:mH)(_:aXY)(_:BR tK t u):QU br4
noncomputable def cdf:R2:=aD9 br4
theorem abk(hu:Dn aT1):Bu Eq cdf:=Ac aCd cJs t w bX rx bX ry (b5f I ha hb hu pC X.w Cu _ cEx)
end
theorem be9:iJ n aRg dZ (aUg bJu cZ n=Si33.dec n) qP bGe bJu cZ n ((UE n:Int).natAbs.log2<1920):=wR
theorem ai6:mP [CM,bD3,xK] aGH bD3 afz:=dW
inductive r9(vs:aN)(H:Hp)(Q:VK)(XE:XK):aE|mk a t gF(_:aBQ fT gF)(_:mH)(_:bAT)(_:cVx):BQ r9
theorem r9.out{vs:aN}{H:Hp}{Q:VK}{XE:XK}:KF r9 bSi gF bAT cVx:=RB r9.rec bSi gF bAT cVx aKE
theorem ao9:Xx [CM,jZ,aFD] amv:=dW
inductive wj(vs:aN)(H:Hp)(Q:VK)(XE:XK):aE|mk a t(_:pM)(_:mH)(_:Dw aYL):BQ wj
theorem wj.out{vs:aN}{H:Hp}{Q:VK}{XE:XK}:KF wj eUH:=RB wj.rec eUH aYn
theorem asb:Xx aGH bDZ ap1:=dW
inductive abl(vs:aN)(H:Hp)(Q:VK)(XE:XK):aE|mk a t(_:pM)(_:mH)(_:BN)(_:aGW ve):BQ abl
theorem abl.out{vs:aN}{H:Hp}{Q:VK}{XE:XK}:bPO abl ve:=bR6 abl.rec ve
theorem aw4:∀{t:aR}{i c:Nat},jW aPr cN2 dQt bCz (t.findIdx? Co=aO i)|[],i,c,h,_,_=>vN|x::t,0,c,h,_,hm=>tX|x::t,eG,c,h,ha,hm=>aJm aJ hx (ha x aX) cE bEH eC pP (aw4 (i:=i) fE cMC ha hm)
theorem a_u:JY t aR cN2 t (t.findIdx? Co=aS)|[],_=>rfl|x::t,ha=>tX
section
variable{P:aM}{w:aK}{K:aL}{mg:bF}{aW:aU}
theorem aw5:eVl ePo eNZ:=aHZ Po F B fg ai6 a t gF [cXA gF hz,gQ nd ai6.nd,Yq ZH (bd8 rfl bF4 YK aw aWF fU) AI cQ2 ET Na 0 aYP (aa7 a1y boot_str B.str jC) aw Sg _ _ _ rfl rfl _ _ rfl gY lC om0 lC om1 lC bqi dO b2l hz ?_,aG en (LT eCb=gF) lC b2m,aJo cYL 1 eCb cSF rY KA gF RA n bPZ aDh (t≠dHM) cH aBp cNo dB lM n h1 h2 ((aV2 b17).elim) (by rintro i σ H' hi⟨s1,⟨v2,rfl⟩,hno⟩) _ aF en hi LC (wG+JR) aIx lC b1h aH e1 dG d1 d2 d3 (be9 eG gC b01 hz hi) aI aKj d3 d2 aI5 p np hp cMR OD a p t _ rfl rfl mU ZU hp _ rfl lZ bE h pO t (Si33.dec eG) gT bN aG4 aH aP d1 GZ aJ q cVS H2 dA e (an_ hz lC b15 dO ba6 hi) q aB q bE h aI pD HD rK lJ n h1 h2 bO [cZD hno,_,aG e cOX t cN kW SZ bE z dG a1 a2 a3 (aes z) aB (hno _ a2 dO bzp a3 a1),Mz q H',aF e q,aB q]]
theorem a7k:cZk eDS eGX:=dAJ Po F T B ao9 dAI a t ha ao9.nd Yq aJ6 rR aJy AI VB (bh az8 (pv 2) Fk dQX dQY aZ7) cZn bBB fU Ng bQe AF He eHx aZm wd AF Xa eW FS (aou rY σ) x dQt Vr x cH aBp bT6 aX cJl ZU (by rintro i x σ H' U hx⟨s1,⟨v1,v2,rfl⟩,hno⟩hU) ePi aI NX bSI bSF hU mN bSF H2 dP aDk p hp aG s3 aCD kP H2 p zY gR 35 gR 46 pK hp NO fCa [bE h,dR hm bCz fN aLr h Ix inV (show∀a b:Int,eqV (V.int a) (V.int b)=(a==b) from fun _ _=>rfl) Rb dEm Co cG bE z pH b1i aU4 _ rfl _ _ rfl,gO q (k _ ((HD).trans s3)) e (cx t=i-1) Oq cx (aw4 hc hno hm),dH] bE h aG hm Vr c fN aLr h Ix inV (show∀a b:Int,eqV (V.int a) (V.int b)=(a==b) from fun _ _=>rfl) Rb dEm Co cG dD z1 z2 dL oO z1 bA pH b2g oO z2 bA pH b2h dP pD aR5 bTj x hx2 aF (take_snoc hc) hx2 dH (by rintro σ H'⟨s1,⟨v1,v2,rfl⟩,hno⟩) _ dA az OM hno aI Oe _ oP ZU Mz q H' cV cx q aF (a_u hno) q
theorem a_v:∀{P:aM}{w:aK}{K:aL}{mg:bF}{aW:aU}(F:eDT)(T:WB)(T2:Xv)(B:fQ)(ng:cXc),eH6:=dAJ aI9 P F T T2 B ng asb bVy hz k asb.nd cVq T2.a05 eUR (dm zD ng bKt) bDZ aJy cUC cTV fU JU bCq [bE h,dR h1 Rw 40 aIX b2w aIN a t 32 ha hz,aKG H1 p ps s1 np hp hps,HE bPD p hp,bOV aOs xu tN Ci i y DD u Ai u (y=pI (Cn u)) aDr hD hp ?_ aQ cK bYT aB (aS6 (eCj).1 (aS6 (Nat.succ_le_succ hz) iB)) (by intro i x H' hx s2 _ C hC) _ [EF q u rfl hu hq (hps.at hx),dJ kD Sg _ _ _ rfl Rz aXz hq _ _ rfl rfl Mf jA u hu] aH az WD Cw aJc lC b1g,kG iC H' ys s2 hy M bKn aDn eBH ?_ aH hy bNM aP0 cYa h2 cIM bYT u hu gO q cVS H' e (ve t=(eBH).all id) Ed ve cE bPj aLm bYe aZ] bE h AR h1 Rw 40 dN3 bE z bA pH b22 gO q bDh e (ve t=bI) aJw ve cMp bXM aZ
end
end WH
end
section
namespace WH
open PySem PySem.Spec PyProof.Rows L2
theorem ao_:Xx [CM,bY5,"rest",xK,qH] amw:=dW
inductive wm(vs:aN)(H:Hp)(Q:VK)(XE:XK):aE|mk a t(_:pM)(_:mH)(_:BN)(_:(aGY mz))(_:dOF):BQ wm
theorem wm.out{vs:aN}{H:Hp}{Q:VK}{XE:XK}:KF wm eFE:=RB wm.rec eFE aSN
theorem a_w(t:aR):aYL≤nJ:=mY cx vB e (t.findIdx? Co) cG i [bN aB5 List.findIdx?_eq_some_iff_findIdx_eq.mp,tI cG rF]
theorem bjq(t:aR):aKg aS aO 2 dIH:=aqk t 2
theorem buy(t:aR):aKg aO 2 aO 3 aBb dTk 1:=ad9 t 2 3
theorem buz(t:aR):aKg aO 3 aS bKv 3:=agw t 3
theorem a2t(t:aR):aKg aO 2 aS cOb:=agw t 2
theorem b5g{H':Hp}{F B:aA→bOG}{G:aE}(f:eZE→G)(g:eZE):G:=f g
theorem bjr{t:aR}(h:dWc):cNr:=bPy
theorem bny{t:aR}(h:cTP)(hn:xm ZP=aS):cNr:=bPy
theorem be_{t:aR}{n:Nat}{r:aR}(h:cTP)(hn:cWt)(hs:ju r=aS):cNr:=bPy
theorem bnz{t:aR}{n m:Nat}{r u:aR}(h:cTP)(hn:cWt)(hs:eUe):mz t=Fp (0<Rn) aO (aN4,n,m):=bPy
section
variable{P:aM}{w:aK}{K:aL}{mg:bF}{aW:aU}
theorem a7l:∀{P:aM}{w:aK}{K:aL}{mg:bF}{aW:aU}(F:eDW)(T:WB)(T2:Xv)(B:fQ)(aig:eGX)(alz:eH6)(yp:eNZ),cV1:=fFf aIq P F T T2 B aig alz yp ao_ [bVk,aDA ao_.nd AA 1 Bm aig Gw Tg wV alz eGA AA 2 aXQ aHe 1 BW aw Hn eRz dQX VF 3 bO6 yp cQ8 aN8 T2.ars Gw cOs aw Hm cQ8 qb Hl aw eRz dQY VF 4 bO6 yp cQ8 qb bY6 Gw ET qt 4 aw Hm NM Gw aIS jC bAX aGa eGA gK oG] dP bQe t ha H1 s1 aJ hle (a_w t) RR aKj a bAm p1 hp1 aqk aG s2 aB6 Ep p1 (vn aN4) pK hp1 dP bRP p1 _ ah FH H2 s2' KM s12 HD s2' (by clear s2 s2' hp1) GZ bQ hh (ve aN4=aY) bAb aH hh rG f9 RR aKj a VU s12 p2 hp2 agw MP s3 H2 cUm pK hp2 h2 UX cUm p2 Cm aYL ah aJ s13 (s12.trans s3) mN cUm H3 (by clear s3 hp2 s12) kW (b5g (H':=H3) (F:=fR p n H4 wF r (NL H4 p r) (wN≤Zu) cWt)) eZQ RR Wf p2 gN h2 q1 hq1 bjq s4 H3 cUh ((ZP).take) H4 cXx s5 H4 cUd [32,35] H5 dYN fCy wJ bjs RR aKj p2 sM s35 h2 q3 hq3 buy s6 H5 sG H5 q3 aBb ((ZP).drop 2) 1 9 H7 s7 KM s37 (s35.trans s6) s7 aG en (xm ZP=aIQ cRm EX cRm ((ZP).drop 3)) mY xm qX e mN cRm n fAr n (bny hh fD) H7 s13.trans s37 (n≠0) RR Wf p2 sM s37 h2 q4 hq4 buz Fm s8 H7 cWT hq4 bu0 UX cWT q4 ((ZP).drop) 3 H8 H8 (s37.trans s8) gJ cH bu0 aEi FH ((ZP).take 2=[32,35]) aB (main p2 0 H5 s35 gJ cH Le h2 aEi GU xm) [by rintro p n H4 s4⟨r,hp,hrl,hnp⟩,RJ s14 s13.trans s4,by clear s4 h2 s13,kW (b5g (H':=H4) (F:=fR q m H5 eY u (NL H5 q u) eUe)),eZQ RR Wf p gN hp q1 hq1 bjq s5 H4 cWn r.take H5 cXx s6 H5 cUZ [32,46] H6 aJ s46 (s5.trans s6) fCy AK bjs RR Wf p sM s46 hp q3 hq3 a2t s7 H6 sG H6 q3 MH r.drop 2 12 H8 s8 KM s48 (s46.trans s7) s8 aG en (ju r=aIQ cRx EX cRx []) mY ju qX e mN cRx m fAr m (be_ hh hnp fD) H8 s14.trans s48 bBd dP eO mJ q4 hq4 Fm s9 H8 cRW hq4 bu0 (NL cRW q4 []) H9 H9 (s48.trans s9) rP bu0 fD cRe r.take aB (main p 0 H6 s46 rP cB s46 hp GU ju) [by rintro q m H5 s5⟨u,hq,hsp⟩,RJ s15 s14.trans s5,aJ ea (bnz hh hnp hsp),zX bJB oP hq lZ bE h aG e (0<Rn) aIX ba7 aF Vn ea aB (k0 ea H5 s15) [bE h,aG e (¬0<Rn) bRz,aF WE ea,RR aKj a VU s15 z1 hz1 aqk,MP s6 H5 cU0 pK hz1 cdi UX cU0 z1 t.take aYL ah,aJ f1 (s15.free hz1),mN cU0 H6,dP Ld _ Ba z2 hz2,aJ s16 (s15.trans s6),aB (k1 _ ea _ z2 z1 uG s16.trans hz2 (s16.free hz2) f1 ah cB pK hz2 cdi)]]] [aJa hf dWc lX hh hf,MU (k0 (bjr hf) H2 s12)]
end
end WH
end
section
namespace WH
open PySem PySem.Spec PyProof.Rows L2
noncomputable def ajp(h n s p:V):yF:=[uO Bz h,uO xK n,uO dBf s,dWs]
noncomputable def ak8(t p:V):yF:=[uO uV t,dWs]
noncomputable def be'(k h n s:V):yF:=[uO aS1 k,uO Bz h,uO xK n,uO qH s]
theorem aw6:mP aPz aPz aho:=dW
inductive nh(C:aA)(vs:aN)(H:Hp)(Q:VK)(XE:XK):aE|mk p dx h n(_:dNZ)(_:Ly)(_:∀H' s q,qQ aMP nZ s aGJ (s≠q) (aU5 aM1 h n s tM→cBo s q)):QL nh
theorem nh.out{C:aA}{vs:aN}{H:Hp}{Q:VK}{XE:XK}:WK nh eVQ:=Gc nh.rec eVQ eUj
theorem aw7:mP aPu aPu ahp:=dW
inductive nj(C:aA)(vs:aN)(H:Hp)(Q:VK)(XE:XK):aE|mk p dx t(_:dMa)(_:Ly)(_:dOE):QL nj
theorem aqr:mP aPD aPD adi:=dW
inductive jx(C:aA)(vs:aN)(H:Hp)(Q:VK)(XE:XK):aE|mk p dx k h n m(_:dOZ)(_:Ly)(_:dO9):QL jx
structure aih(C:aA)(H H':Hp)(x:aA)(h:aR)(n:Nat):aE where
 ex:∃dx hp s q,dZ cPS aM1 aNG aM6 s tM bKI h MX aGc s aGc q aQR cDZ nZ s aGJ (s≠q) (hp≠s) (hp≠q)
structure aii(C:aA)(H H':Hp)(x:aA)(a:aA)(t:aR):aE where
 ex:∃dx q,zA cPS (ak8 jT tM) (NL H' a t) aGc q aQR aGJ (a≠q)
structure age(C:aA)(H H':Hp)(x:aA)(l:lF):aE where
 ex:QG dx hp cPS cZw bKI aFG aQR cDZ
theorem aw8:Xx JI ahq:=aDW
inductive uy(C:aA)(vs:aN)(H:Hp)(Q:VK)(XE:XK):aE|mk a t(_:pM)(_:mH)(_:(aGY aae))(_:dOr):QL uy
theorem uy.out{C:aA}{vs:aN}{H:Hp}{Q:VK}{XE:XK}:WK uy eEm:=Gc uy.rec eEm aXj
theorem ak9:Xx aGH SS ahr:=dW
inductive uz(C:aA)(vs:aN)(H:Hp)(Q:VK)(XE:XK):aE|mk a t(_:pM)(_:mH)(_:BN)(_:(aGY aad))(_:dOv):QL uz
theorem uz.out{C:aA}{vs:aN}{H:Hp}{Q:VK}{XE:XK}:WK uz eFF:=Gc uz.rec eFF aSN
section
variable{P:aM}{w:aK}{K:aL}{mg:bF}{aW:aU}
theorem ay1:bDA C RP aKQ dBK C aho aPz T bHm C eOp:=Ap Po C F T aw6 p dx h n [bIq p dx h n rfl hp k,dJ oF (ai bPX ZI RI jC aOy aOy),gZ cXC bT3 Sq 1,eER,eU2 aC0 dB dA aJB aJB f1 f1,aI bJk bF5 2,fFF dB Jn aPR cGd aPR aPR f2 f2 bRj 3,aEg dAj ?_ f1' f2' jG b o hb e xD FM,FM]
theorem ay2{C:aA}(F:RP aKR dBO C ahp aPu)(T:cAC C):eOq:=bDx aw7 (by obtain(⟨p,dx,t,rfl,_⟩):=h) [bNT,vT p dx t rfl hp k h,gZ oF FL bPX aOy cXC,aI eO mJ,cY d1 f1,eU2 cTO dB aF aJB f1 f1,gZ dYJ (k _ d1 ?_ f1' aO8 ?_),kG cI1 wT,FM]
theorem atj{C:aA}(F:RP aS5 dBM C adi aPD)(T:cAJ C):eOr:=cV6 aqr p dx k h n m [aAt p dx kk h n m rfl hp k h,gZ oF (ai bPX ZI RI jC RI gK RI oG) cXC,gZ bT3 Sq 1 bT3 Sq 2,gZ bT3 Sq 3 (k _ bPu aO8),FM]
theorem ay3:∀{P:aM}{w:aK}{K:aL}{mg:bF}{aW:aU}{C:aA}(F:eDZ)(T2:Xv)(B:fQ)(ae8:eOq),dVt (uy C):=dTJ aI9 P C F T2 B ae8 aw8 bVy k0 k1 dJ ZQ Gw Xh cAt ar5 rR bKD zr rR T2.ayb IX aXy ae8 CU rR Fw bCq bE h aG e (nJ<1) aIX b1k aB (k0 cML H (bYx _)) bE h aG e (¬nJ<1) bRz BH bCq bE h2 aG e2 (200<nJ) bIl dR7 b1v aB (k0 cML H (bYx _)) [bE h2,dR e2 (¬200<nJ) Tw h2 bAB pH b18 bKq,QR x dx nx ndx nxd ePd x dx,sY H1 q s1 nq hx hq,dJ QT,cJy bSV nx ndx,aB (k1 cML H1 x s01 CG dx q hx cB s01 ha hq nx dLC (ay ha (aUe nq)))]
theorem ay4:∀{P:aM}{w:aK}{K:aL}{mg:bF}{aW:aU}{C:aA}(F:eDX)(ac6:eOp)(wn:cV1),bQ9 bWC (uz C):=dTJ eSo ac6 wn ak9 bVk aDA ak9.nd Hq 1 Bm wn Gw Xh Od 1 yX awk aD8 aw cVk aD8 aD8 JU aGf a t rfl ha hz ?_ [aZO en H1 s1 WX,rG f_,bRZ Oq aad en H1] yN x ex H1 p hp s1 np nhp hpp hhp dJ WX rG f9 dRb Lm p _ _ _ rfl rfl aQ8 bAI rfl _ rfl lZ bE h aG e (aBT≠0) bL bE z aF z h eM h bRZ GU aad H1 bE h pO aBT 0 cX4 bE z kW h aC3 aBT rX dA4 ⟨_,rfl,p,_,_,_,rfl,rfl,aQ8,nR,_,rfl,p,_,_,_,rfl,rfl,aQ8,LD,?_⟩ y dy ny ndy nyd H2 q s2 hy hs hq cZP H1 KB dy bA7 C s12 aRJ s2 uL fs aUe ns fq aUe nq aB (k1 x.1 VS GU aad H2 y (s1.trans s12) ⟨dy,hp,sn,q,hy,aHn hhp,hs,hq,Wj ny,nhp,Wj fs,Wj fq,nsq,ay hhp fs,ay hhp fq⟩)
end
end WH
end
section
namespace L2
open PySem PySem.Spec PyProof.Rows
section
variable{P:aM}{w:aK}{A:cM}{E:cU}{s:bC}
theorem bjv:∀{P:aM}{w:aK}{A:cM}{E:cU}{s:bC}{itr tp:aA}{i:Nat}{iK:qA}{x:bU}{Q:cU}(hi:cSO)(ht:cSK)(hx:YS iK)(hQ:cHI (h'.IsTupleIter itr tp eG) itr x NG),eJR:=Zd fC9 x Q hQ _ eHa eW8 _ aV dEO fAS eQQ cDr bQk cDB bQk eVG aNg cDO Uc eNa wP hx aTX gX eQd cUs x dOA ?_ aB gJ cH cGY h1 Obj.isFreed_of_fields (Obj.data_mapFields h3 _) dKU h2 dM2 h3
theorem a7m:∀{P:aM}{w:aK}{A:cM}{E:cU}{s:bC}{itr tp:aA}{i:Nat}{iK:qA}{Q:cU}(hh:Bk)(hi:cSO)(ht:cSK)(hx:rW iK=aS)(hE:xT h' e dIP itr Xs (h'.get? e=aO o) (aEL=zW bYs) (E cI e NG)),eJR:=by rw[fC9 Q hh hE,_,eHa,eW8,_,aV dEO,fAS,eQQ,cDr bQk,cDB bQk,eVG,aNg cDO Uc,eNa,wP hx aTX,cOo wpAny_rule eQd ?_,aBR _ dMi,gX ?_,wP dDE newExc,fEZ cKa bA aOf (by rfl) cNM (by skip) ?_,by unfold raiseNew,aNj wpAny_handled,rD aH hh aH dNI,dNU,aB lW hE (((aOA).extBut.push _).push _) bL6]
end
theorem bfa{P:aM}{w:aK}{A:cM}(hh:Bk)(itr tp:aA)(hne:tp≠itr)(iK:qA):Draws P w A itr [itr,tp] xQ vE v YU iK vE h (h.IsTupleIter itr tp i∧h.IsTuple tp iK)where
 live:=AW st Zo o h _ Cz Wl h
 bY8:=eLz itr dOp st.2 tp
 OR:=eZK (bjv Cz Da (x:=cCb) aHB fR h' a b (hQ _ h' FY aHB aT a ((st.2).extBut b.extBut hne) b))
 pS:=oW s Q E st hE (a7m hh Cz Da aX hE)
theorem a7n(tp:aA)(iK:qA)(n:Nat)(dct:yH)(sl:FR):aN3 Builtin.«enumerate.__new__» BI [bAx,Uc] cQv GS tp cHo dct aOm cI Bx eFM cDC eFM HA bKy:=fAN cX hl h h eMq hT (Heap.IsTuple dZ5 tp iK) bYV (PySem.AutoSeq1.wpAny_loadPart' hl) eSM oY fP eZq oT sE dVP tI eP2 aB sS h eP2 aB sS h
end L2
end
section
namespace L2
open PySem PySem.Spec PyProof.Rows
noncomputable def bjw(K:aL)(a:aA):It:=cZW SE aRV cDj SE aYT
theorem bn1:∀{X:Cx}{bH:dM}{σ:St}{H:Hp}{s:bC}(I:dQ){a:aA}{xs ys:aN}(h1:cPs xs)(h2:cPs ys),dF=wQ∧aPl x V VI AX y V u bU dZ Xc Ah BZ:=by rw[aMy X bH σ H s I a xs ys h1 h2,Rm its r1 p1 (aFm h1),_,Rm YE r2 p2 (aFm h2),_,bY7 o e1 n d1 p1,_,bY7 o2 e2 n2 d2 p2,_,aF e1 e2,bX e2,aF d1 d2,HJ e3 uS aAD bA bEE d2 e4 its YE eCd e3,bB e4,aI eO (r1.length.trans r2.length.symm),lJ i x hx,dG u hu ru (r1.get hx),aSS hi (i<wQ) cN bN iO hx bN r1.length bN bFl rF u2 hu2 ru2 (r2.get (FW hi)),dH]
theorem a_x{P:aM}{w:aK}{A:cM}{E:cU}{s:bC}{en itr tp:aA}{i:Nat}{old:bU}{iK:qA}{Q:bAz}(hh:Bk)(h1:IsEnum kO en itr i old)(h2:cSO)(h3:cSK)(hx:rW iK=aS)(hQ:cYO itr):aPW (bFg cKo):=qF aG hT (s.TypeIs cKo OG) GI h1 aV bFg dRQ cCy hT dER F.entry_enumerate_next F.args_enumerate_next_1 aBR _ (field cKo 2) gX cFn rfl bJI gX (a7m (A:=A.in1) hh h2 h3 hx kI h' x k1 k2 ?_) cS o q1 q2 k2 dNy bR o q1 q2 NS (hQ _ k1)
theorem a_y{P:aM}{w:aK}{K:aL}{Jm:mD}{kk:Nat}{YD:Pos}(a e itr:aA):cZ7 bPz [e,itr] eX cYE itr JR (h.IsTupleIter itr a i) (e≠itr) (a≠itr) (e≠a)where
 mem:=aX
 obj:=Vc dOK eZo h1
 sF:=aDw (let⟨bLU h1,h2,n1,n2,n3⟩:=st;(nP bLU aY3 e h1 cU7 h2.at itr n1 n2 n3))
 OR:=Zd HN DW fAK cZB dYB aSC fCI cKB hel h1 eZ8 (itr<fJ) h2 fCn cFp bfa itr n2 h1 aT h2 htt hlt n1 hout NN ev v u gT aG q1 (cLW=rW its) aX dA q1 hu hv aYu hv aI cYA (tk+1) hout h2' eNy bD new Uz bQO h2' fJ zY bH4 x cSM [LZ i tk,v] I1 yS bQO Kk h2' (tk+1) dAo [e,itr] Gp dPc mR ys hy nP eO v Md ((hst.1).at) q pZ (sb.2 itr bF5) q n1 n2 n3 qM y u2 ey r1 r2 ((bn1 I hq hy).2 i x hx) aQ ey (RelV.inj r1 r2) FT qB eVf CV cHi itr GX cOB hb' aB cBg
 pS:=qF HN DW fAK cYI dYB fCI bHI (hf itr aX) aRM aB (a_x NH h1 h2 htt tQ cG bpy hx hl aZx cW0)
 AY:=eU4 q
inductive bcb(K:aL)(R:CD)(vs:aN)(H1:Hp):aE|mk a xs(_:pM)(_:eTB)(_:bC9 bjw):aOp bcb
noncomputable def bu1(K:aL)(ta:TA):TI:=bCa bcb
theorem bjx{X:Cx}{e:bZ}{ta:TA}{p pos YD:Pos}{Jm:mD}{kk:Nat}(hg:cNF)(hm:cM7)(ha:bQY)(hs:autoParam (bTB) EE.autr._auto_1):eIC bu1:=by rw[oR R h,bC6 bYu,cZc ex,bB ex,fEM,aNo pt I1.tuple,cCD cl dct dt ho pt,by simp only at hc hd,LP hc hd,cKB hlt ho,eWU callType_new (F.typeCall_enumerate_1 _) (F.newCall_enumerate_1 _) (F.args_object_init_2 obj _) (a7n a uS n dct sl) ho,aG hz2 (Bx cFh=aBM) cJ6,aSU (_∧_) hz2,bD he (IsEnum cWs aBM pT 0 uH) gT aJ z cTi cFh EL OG Zh cB0 bJH bKy aF hz2 z z hk ZV uF s1.heap.get? aO4 cWs eFs,dR hit ((cWs).IsTupleIter pT a 0) dTd aT GI he eBJ,yG I2 aYw hk cYb I2 a_y nP cS4 hit dQl dUR (aLh (Nat.lt_succ_of_lt hlt)) Wb,fFg CV cVt GX]
section
variable{K:aL}{a:aA}{xs:aN}{g:TG}{tb:TS}{D:yO}{σ:St}{H:Hp}
theorem bfb(Pv:aDY)(h0:aJL)(hl:aYk aO9 SE)(hs:cZU aRV)(hd:bCp):aSQ bPz:=dZT
end
end L2
end
section
namespace WH
open PySem PySem.Spec PyProof.Rows L2
theorem a7o:adj.map tL bFH=dES:=wR
theorem a7p:∀x∈adj,cF9∧dET≤10:=wR
theorem ag2:Xx [CM,aS1,"name",ST,SS] adk:=dW
inductive o9(C:aA)(vs:aN)(H:Hp)(Q:VK)(XE:XK):aE|mk a t(_:pM)(_:mH)(_:BN)(_:(aGY abo))(_:(bLj l abo bNL H)):QL o9
theorem o9.out{C:aA}{vs:aN}{H:Hp}{Q:VK}{XE:XK}:WK o9 eYi:=Gc o9.rec eYi aSN
theorem aml:DX [aES,"mark"] aES aj5:=dW
noncomputable def au7(CE CS CP:aA)(H H':Hp)(x:aA):YV Told|aWG h=>aOq aih CE h n| .sen t=>eY a aCU aOq aii CS a t| .ptr l=>age CP H H' x l
inductive t_(CE CS CP:aA)(vs:aN)(H:Hp)(Q:VK)(XE:XK):aE|mk a t(_:pM)(_:mH)(_:BN)(_:(aGY aTz))(_:(bLj y aTz cI2 H')):El t_
theorem t_.out{CE CS CP:aA}{vs:aN}{H:Hp}{Q:VK}{XE:XK}:Oi t_ eYj:=Pp t_.rec eYj aSN
theorem aih.old:∀{C:aA}{H0 H H':Hp}{x:aA}{h:aR}{n:Nat}(s:aD6)(e:aOq aih C h n),aih C H0 H' x h n:=KH yK C H0 H H' x h n s e (by obtain⟨dx,hp,sn,q,a1,a2,a3,a4,a5,a6,a7,a8,a9⟩:=e.ex) aB GC dx hp sn q a1 a2 a3 a4 aDB a5 aDB a6 aDB a7 aDB a8 a9
theorem aii.old{C:aA}{H0 H H':Hp}{x a:aA}{t:aR}(s:aD6)(e:aOq aii C a t):aii C H0 H' x a t:=dB Qx dx q a1 a2 a3 a4 a5 a6 e.ex CG dx q a1 a2 a3 aDB a4 aDB a5 a6
theorem age.old{C:aA}{H0 H H':Hp}{x:aA}{l:lF}(s:aD6)(e:bNL H):bNL H0:=dB vT dx hp a1 a2 a3 a4 e.ex SK dx hp a1 a2 aDB a3 aDB a4
section
variable{P:aM}{w:aK}{K:aL}{mg:bF}{aW:aU}
theorem atk:∀{P:aM}{w:aK}{K:aL}{mg:bF}{aW:aU}{C kd:aA}(F:eDY)(T:WB)(TK:cVX)(B:fQ)(zu:eOr)(fg:aZB)(wn:cV1),bQ9 bWE (o9 C):=dAJ (by intro P w K mg aW C kd F T TK B zu fg wn) ag2 bVk ag2.nd Yq JH aU6 bjx dTK Lr aJy AI FL BW bJt aYP jC cg bHs bYN Ke yX Na aBs 0 qb dSo gK Hq 4 wV wn aXQ dSo Gw Od 4 aXy zu aIe fU Dx 4 Dx 4 Dx 4 gf Ee kd _ cKE aGA (bfb (K:=K) (a:=kd) (xs:=dUP) Gb eW (aov rY σ) (abo t=zp i (Si33.KINDS.drop i) t) cH aBp qY aS aS aS aS rfl rfl (fun i σ H' _ _=>cKE) ?_ ?_) [by rintro i x σ H' U hx⟨s1,⟨v1,v2,v3,v4,rfl⟩,hk⟩hU,_,by(obtain⟨nm,hnm,rfl⟩:DD nm adj nm (x=Zl nm):=FH),eP c1 c2 mC a7p nm hnm,aG hkn gH dES bY9 vC (by rw[←a7o,kB,hnm]),gO hilt iO hkn a6_ (Si33.KINDS.drop i=bY9::Si33.KINDS.drop eG) cH1 hilt aGX hkn,dA a6_ zp hk,aI NX,bSI bSK cL9 hU,mN bSK cL9 H2,aI Ld nm c1,iC H3 p s3 np hp,mN bY9 n,dP eO EV q hq,Fm s4 H3 cUg hq hq' (NL cUg q [32]) H4,dP aU4 p q zC hp hq' bK aC2 bIk RE 11 aB (b2k c2) r hr2,hM jd,Fm s5 H4 cXI hr2 hr' (NL cXI r bQF) H5,KM s05 bAO aR5 s5,by clear s2 s3 s4 s5 hU np hp hq hq' hr2,aG bfc (bV Tb n 32=RE) aCs az,dP fBS oP hr' s05 z hz2,aQ aqk bfc,Fm s6 H5 cUY hz2 hz' UX cUY z bEC RE H6,aJ s06 (s05.trans s6),dRX GC _ rfl z r _ _ rfl rfl hz' AK hr' _ rfl lZ bE h dLV aF Vn hk dAP fBS Rz sM s6 hr' s06 agw bfc Fm s7 H6 cSw hy hy' UX cSw y Cm RE H7 aJ s07 (s06.trans s7) dQK cX9 hy' cGB lM en H8 s8 dJ WX rG f_ aB (k0 fD H8 (s07.trans s8)) yN x ex H8 p2 hp2 s8 np2 cdl hpp hhp dJ WX rG f9 aJ s08 (s07.trans s8) aYp ⟨_,rfl,_,rfl,p2,_,_,_,rfl,rfl,aQ8,nR,_,rfl,p2,_,_,_,rfl,rfl,aQ8,LD,_,rfl,p2,_,_,_,rfl,rfl,aQ8,bAI,?_⟩ o dy ny ndy nyd SL o dy _ _ _ _ rfl ah ?_ [lM H9 s9 ho,dJ QT] aPy H8 kP H8 dy EY o o cEp C ny ndy s89 (ag H8 H9) MG ob (s9 b ob MY ny (sI b ob e)) aB (k1 sC i x.1 VS aBT fD H9 o (s08.trans s89) SK dy hp2 ho cB s89 hhp (s08.free ny) (s07.free cdl)) bE h aG e (¬bEC RE=bQF) Ag h aF WE hk aB cH s06 qY _ _ _ _ rfl hk] (by rintro σ H'⟨s1,⟨v1,v2,v3,v4,rfl⟩,hk⟩) _ bRZ DE hk H'
theorem a2u:∀{P:aM}{w:aK}{K:aL}{mg:bF}{aW:aU}{CE CS CP:aA}(F:eMH)(T:WB)(ac7:bQ9 bWC (uz CE))(ac8:dVt (uy CS))(aaq:bQ9 bWE (o9 CP)),eSh:=aWK aHw P CE CS CP F T ac7 ac8 aaq aml [bVk,aDA aml.nd AA 1 aBs 0 qb aN8 cYo T.bsv ac7 Wt cYo T.b9s ac8 cYo T.bxs aaq gf,RR Wf a He m hm bjq,cJS s1 cT8 hm hm' UX cT8 m t.take 2,aG hd2 NW Cm 2 Zu DR aE0 b2y hz,dP aDk q1 hq1,Fm s2 H1 cUt hq1 bjs (NL cUt q1 aCj) H2,Fg bNR m q1 mU hm' bjs bE h cMl e h ux aL8 s2 cYr VU ux aG s3 aCD QK y cOb pK hy cX6 cX9 ah hd2 H3 s4 cGN aKG hd n en H3 x s4 en2 aWG hd bAO cGN cKs aMc s3 [bE h,aG e (¬Ph aCj) Ag h,dP aDk q2 hq2,cXx s3 H2 cUl Tx H3,cNU bNR m q2 kE mU hm' bjt bE h2 cMl e2 h2 s03 ((HD).trans) s3 cYr bPQ aG s4 (ag H3 ZE y cOb) pK hy cX6 bRP y _ ah ?_ H4 s5 dUT iC en H4 x s5 en2 (.sen dTk) pZ dUT s5 bR y dK0 cKs bGf s4 AR e2 Ph Tx Ag h2 dP aDk q3 hq3 Fm s4 H3 cUi hq3 cdm (NL cUi q3 bPp) H4 KM s04 aR5 s4 bP2 bNR m q3 Yh mU hm' cdm bE h3 aQL e3 h3 cYr VU s04 aG s5 (ag H4 Kn y MH Cm 2) pK hy cX6 cX9 ah hd2 H5 s6 (aMd s5) Ge l en H5 x s6 en2 (.ptr l) pZ (aMd s5) s6 cKs aMd s5 bE h3 AR e3 Ph bPp Ag h3 aB (k0 cCe H4 s04)]]
end
end WH
end
section
namespace WH
open PySem PySem.Spec PyProof.Rows L2
noncomputable def kq(CP:aA)(H:Hp)(x:aA)(l:lF):aE:=∃dx hp,VO aA1 CP cZw∧MB hp aFG
noncomputable def yi(CP:aA)(H:Hp)(a:aA)(ls:xE):aE:=GK xs bM aHS sJ (kq CP H) xs ls
noncomputable def aw9(CS CP:aA)(H:Hp)(x:aA)(s:HZ):aE:=∃dx tp q,dZ VO aA1 CS (ak8 Uc tM) MB tp uX aOJ q Cq
noncomputable def ge(CE CS CP:aA)(H:Hp)(x:aA)(e:dI):aE:=∃dx hp sl q,jU VO aWH aNG fT yL MB hp pA aOJ q XX GK ys bM bMW sJ (aw9 CS CP H) ys qL
section
variable{CE CS CP:aA}{H H':Hp}{x:aA}
theorem kq.mono{l:lF}(s:eW)(h:aZz):kq CP H' x l:=bUR dx Gq Vt
theorem yi.mono{ls:xE}(s:eW)(h:yi CP H x ls):yi CP H' x ls:=Mr xs Gq dV8 h2
theorem aw9.mono{y:HZ}(s:eW)(h:aw9 CS CP H x y):aw9 CS CP H' x y:=dB vT dx tp q h1 h2 h3 h kF dx tp q Lv Gq Vt h3.mono s
theorem ge.mono:∀{CE:aA}{CS:aA}{CP:aA}{H:Hp}{H':Hp}{x:aA}{e:dI}(s:eW)(h:Aj),aU0 H' e:=eXx yK CE CS CP H H' x e s h aAQ dx hp sl q h1 h2 h3 ys h4 h5 h gY Gq Vt (h3.mono s) bR ys rH h4 dV8 h5
end
theorem bu{α β:cJ}{F:tZ}{l:eK}{m:DM}(h:Ys):eR7 cEz m Ov:=cU6 Yv [iX i a e,aGP i [HP,aB sS r] i GG ih]
theorem e_:Xp ps bM i Nat x V YS tN DD p ps p (x=iW):=kX jG ps i x h dH
theorem ag3:mP [Cb,XJ,"same_aim"] VY adl:=dW
inductive ic(CP:aA)(vs:aN)(H:Hp)(Q:VK)(XE:XK):aE|mk x y l m(_:aCu)(_:aZz)(_:aMV y m)(_:BR cHA):Si ic CP
theorem ic.out{CP:aA}{vs:aN}{H:Hp}{Q:VK}{XE:XK}:Si ic CP→eUM:=aVb ic.rec CP eUM cZe
section
variable{P:aM}{w:aK}{K:aL}{mg:bF}{aW:aU}
theorem aar(a b:Nat):NE bHZ cZ a aVT aKa:=bQm tO aYc tO bOb
theorem atl:bDA CP eFB TP Pl eM6:=Ap Po CP F TP ag3 x y l m [pW E,by(obtain⟨x,y,l,m,rfl,⟨dx,hx,h1,h2⟩,⟨dy,hy,g1,g2⟩,k⟩:=h),gQ nd ag3.nd,aI oF aD3 Hm (am8 (qa Na jY NU Jw) (am8 cSN (am7 cSN))) cEJ jC cSN,aG key ZW b gE (b=lT AG aFG bZa (aLE=m.num) (aTF=m.sense)) BR eNw sR aSb pO eNw cHA jX nQ lk lh ln ls l nQ mk mh mn ms m bB hb lO Si33.Link.mk.injEq bQ q AG lh mh (ln=mn) (ls=ms) dE bS bS aH e k,aQ6 ⟨_,rfl,x,CP,dx,_,_,rfl,h1,uY,zJ,rfl,_,rfl,y,CP,dy,_,_,rfl,g1,uY,zJ,rfl,hx,hy,_,_,rfl,rfl,h2,g2,_,rfl,lZ⟩ bE c1 LC aFG bZa bNY c1 dPE ⟨_,rfl,x,CP,dx,_,_,rfl,h1,uY,zJ,rfl,_,rfl,y,CP,dy,_,_,rfl,g1,uY,zJ,rfl,rfl,_,rfl,lZ⟩ bE c2 aF aar c2 aQL e2 c2 gZ ⟨_,rfl,x,CP,dx,_,_,rfl,h1,uY,zJ,rfl,_,rfl,y,CP,dy,_,_,rfl,g1,uY,zJ,rfl,rfl,?_⟩ eTU aDy aar lZ cJY bE c3 aQL e3 c3 aI ⟨_,rfl,x,CP,dx,_,_,rfl,h1,uY,zJ,rfl,_,rfl,y,CP,dy,_,_,rfl,g1,uY,zJ,rfl,rfl,?_⟩ aJ q (key aY fD) aF tU q aH aar aB q bE c3 aZ bE c2 aF aar c2 AR e2 (aLE=m.num) Ag c2 aJ q (key bI fW e2) eJ3 bE c1 AR e1 (aFG=bZa) Ag c1 aJ q (key bI fW e1) aB eJ3]
end
end WH
end
section
namespace L2
open PySem PySem.Spec PyProof.Rows
section
variable{X:Cx}
theorem ao':aPo aS0 (∃x c t b,ZY xs [x,DG] eMR eHu DG BR b):=fN aC1 Qx x c t b rfl ty e q h QX u v ru rv (Vals.two r) bX rv aB (bec I ru ty e bT tk aA6 Hh EK PY q)
end
end L2
namespace WH
open PySem PySem.Spec PyProof.Rows L2
theorem apa:DX [lK] lK ace:=aDW
inductive je(CE CS:aA)(vs:aN)(H:Hp)(Q:VK)(XE:XK):aE|mk(x dx:aA)(hV nV:V)(sl q:aA)(ys:bM)(_:JW)(_:dNt)(_:bMW)(_:dL0)(_:dPu):bUG je
theorem je.out{CE CS:aA}{vs:aN}{H:Hp}{Q:VK}{XE:XK}:bUG je→fDD:=eZI je.rec fDD dKs aXZ (EE.cu a7 a8 a9 w_ a11)
theorem bjy:mP bNd bNd a8':=dW
inductive aij(vs:aN)(H:Hp)(Q:VK)(XE:XK):aE|mk(n k:Nat)(_:dMb)(_:BR cH3):BQ aij
theorem apb:mP bMU bMU amx:=dW
noncomputable def d_(t:aR)(i:Nat):Nat:=dSF
inductive wo(vs:aN)(H:Hp)(Q:VK)(XE:XK):aE|mk a t i(_:aBQ vX)(_:mH)(_:Ga)(_:dKN):BQ wo
theorem wo.out{vs:aN}{H:Hp}{Q:VK}{XE:XK}:KF wo eU3:=RB wo.rec eU3 aKE
theorem ai8:mP [lK,qH,aFE] cGD af0:=dW
inductive oo(CE CS CP:aA)(vs:aN)(H:Hp)(Q:VK)(XE:XK):aE|mk(x:aA)(e:dI)(y dy tp:aA)(qV:V)(t:aR)(_:aCu)(_:Aj)(_:aCB)(_:bMQ qV)(_:bL7)(_:dM7):El oo
theorem oo.out{CE CS CP:aA}{vs:aN}{H:Hp}{Q:VK}{XE:XK}:Oi oo fDn:=Pp oo.rec fDn fAl
theorem ae9:mP [lK,xM,XH,aFE] [lK,xM] acf:=dW
inductive oa(CE CS CP:aA)(vs:aN)(H:Hp)(Q:VK)(XE:XK):aE|mk(x:aA)(e:dI)(y:aA)(l:lF)(_:aCu)(_:Aj)(_:aCB)(_:aMV y l)(_:dM8):El oa
theorem oa.out{CE CS CP:aA}{vs:aN}{H:Hp}{Q:VK}{XE:XK}:Oi oa fA5:=Pp oa.rec fA5 bVo
section
variable{P:aM}{w:aK}{K:aL}{mg:bF}{aW:aU}
theorem apd{ys:bM}{y:aA}(h:aUh=aO y):atI FC (-1)=aO yW y:=bK bKU (List.eq_nil_or_concat ys) zs z bOm DT yJ aK2 h pO z y lX h bB e mW atI ixN aQ eC iB iF dB cG b1u aG e2 (LT (-1+Ul aVq (zs++[z]))=aLW) dB cG b1x aZ
theorem aqs:∀{P:aM}{w:aK}{K:aL}{mg:bF}{aW:aU}{CE CS:aA}(F:eGo)(B:fQ)(TE:xI)(TS:Bv),cXb:=UL bDm P CE CS F B TE TS apa bF8 x dx hV nV sl q ys rfl h [pW E,aLY x dx hV nV sl q ys rfl hx hs k0 k1 h,dJ oF aD3 aBi aIS jY bg dTt jY,bP2 ⟨_,rfl,x,CE,dx,_,_,rfl,hx,iZ,jD,rfl,_,_,rfl,oP hs,_,_,rfl,rfl,_,rfl,lZ⟩ bE h aG hpos (0<wQ) VG aG4 cK JN ba7 Ip y hy (∃y,aUh=aO y) bA Af aUh y bO AM dy tV r h1 k Fe k1 aB ⟨_,rfl,x,CE,dx,_,_,rfl,hx,iZ,jD,rfl,_,rfl,sl,_,_,_,rfl,rfl,gN hs,apd hy,y,CS,dy,_,_,rfl,h1,GD,HR,rfl,k⟩ bE h pO ys [] bL kW aTc eV (¬0<wQ) dT3 JN bqq aB GC _ rfl x CE dx _ _ rfl hx iZ jD rfl (k0 e)]
theorem bn2(F:eTW):eM4:=bDx bjy aSa n k [bNT,jF n kk rfl k h,aI oF aD3 VB ET qt 1 aw (qa qt (pv 0) aw Jw) cYD rR fU,cV fits k,Fg bMi bY h pO kk 1 aI0 aG4 b1m aF Vn k eYb e2 n (n==0) (aar n 0) aGm rfl aZ [bY h,aG e (kk≠1) iV aCS h aXF,fD4 WE,qB bY h1 dR e1 bPZ Gx cMq bhc eEK aZ,bY h1,bO]]
theorem a7q:cZk eTX eM5:=dY8 Po F T B apb i cXA i0 hi0 gQ nd apb.nd gZ oF FL (wa Rk cUM ET ar5 1 Ng yX awk aGU 0 fU (ck bYO) (am bLG 1 aw awi)) UZ 1 jA NV (∃i:Nat,eX (m=aM7) (σ=[rY,Ex]) Ga (H'=H) (d_ t i0=Ko)) jO _ i0 Fi rfl hi0 rfl rfl (by rintro m σ H'⟨i,rfl,rfl,hi,rfl,hl⟩) _ cNU dAt aNM lZ bE h eRa cY5 _ fFb fDj He bE h1 dR e RX wA cCJ aLr h1 cG rP bF9 Lm _ _ rfl rfl cOm aRF eG rfl rfl hlt rfl ?_ aH hl aV d_ cE bPk XW iF pP bO bE h1 pO c 10 cX4 bE z kW h1 bHZ cZ c 10 tX GZ aF hl k cV d_ k uB bPk XW eC aIz k aB k pO i nJ bT9 bRz hi GZ aF hl k cV d_ k aZ
theorem aw_:∀{P:aM}{w:aK}{K:aL}{mg:bF}{aW:aU}{CE CS CP:aA}(F:ePr)(T2:Xv)(T3:aJu)(B:fQ)(TE:xI)(TS:Bv),eM7:=bCS (by intro P w K mg aW CE CS CP F T2 T3 B TE TS) ai8 x e y dy tp qV t [pW E,by(obtain⟨x,e,y,dy,tp,qV,t,rfl,⟨dx,hp,sl,q,hx,hh,⟨ps,hps,hpp⟩,ys,hys,hyy⟩,sm,hy,ht,k⟩:=h),aEG ai8.nd hpl hpp,kZ hyl hyy,aI oN Wt bRb aIS jY eFr Yo 2 AI (qa Na bQy aCI fU Jw) cXW jY bY6,cV ad4 k,cMQ ⟨_,rfl,x,CE,dx,_,_,rfl,hx,iZ,jD,rfl,_,_,rfl,oP hps,_,_,rfl,rfl,_,rfl,lZ⟩ bE h aG e1 (0<aAl) VG aG4 cK NQ b0v hpl OC k' bDh iF e1 k' aB k' bE h AR e1 (0<aAl) dT3 HE aOO x CE dx hx iZ jD sl hys Fg aOs xu FC aPq se qL pI (yQ==t) aDr hD hys bL aH cK bN sm.senses Sb aS6 qC wQ aB (bp5 hyl aP) aC5 s1 ZT (by obtain⟨se,hse,dz,tz,qz,g1,g2,_⟩:=aVC hyy) dJ kD ⟨_,rfl,z,CS,dz,_,_,rfl,aQ0,GD,HR,rfl,_,rfl,y,CS,dy,_,_,rfl,cLp,GD,HR,rfl,tz,tp,_,_,rfl,rfl,bOH,kY ht,Mf jA se hse⟩ bO [aR0 vs,fDe dZX hyl se hse e.senses.any dMy ⟨_,rfl,x,CE,dx,_,_,rfl,Ho,iZ,jD,rfl,_,_,rfl,oP kY hys,rfl,_,rfl,?_⟩]]
end
end WH
end
section
namespace WH
open PySem PySem.Spec PyProof.Rows L2
theorem ak_:mP cHt cHt ahs:=dW
theorem bgw.ty{K:aL}{C:aA}(I:bgw K C){H:Hp}{x dx:aA}{fs:yF}(h:cNf):aom K H yT QC:= .ins h I.cl I.ha I.hn I.htk I.hm
noncomputable def bcc(CE CS CP:aA)(H:Hp)(v:V):YV Np|aS=>v=iE|dZs=>∃x dx fs,v=yT∧VO aA1 CE fs|cEN=>∃x dy tp qV,dZ (v=yT) VO aV6 Uc qV bL7|dIZ=>eY x (v=yT) aZz
inductive u_(CE CS CP:aA)(vs:aN)(H:Hp)(Q:VK)(XE:XK):aE|mk(a:aA)(xs:bM)(es:fK)(v:V)(y:Np)(_:aBQ v)(_:aHS)(_:aHX)(_:kJ e es aCB)(_:dOg)(_:dN0):El u_
theorem u_.out{CE CS CP:aA}{vs:aN}{H:Hp}{Q:VK}{XE:XK}:Oi u_ fCA:=Pp u_.rec fCA dKj
theorem cdn{F B:YV aA}{G:aE}(f:eL3→G)(g:eL3):G:=f g
theorem ape:cKt aS0 (.OF aS0):=wR
theorem aqt:∀{α β:cJ}{F:tZ}{l:eK}{m:DM}(h:Ys),(bK9 l m)∨pL a b (aAm=aO a) (m.getLast?=aO b) Ov:=wA sY α β F l m h kZ hl h cOH aAm aF List.getLast?_eq_none_iff e dH a (by right) aG e1 kC l (iS-1) a DK List.getLast?_eq_getElem? e cS b hb r (bu h e1) dH
section
variable{P:aM}{w:aK}{K:aL}{mg:bF}{aW:aU}
theorem aqu:∀{P:aM}{w:aK}{K:aL}{mg:bF}{aW:aU}{CE CS CP:aA}(F:ePq)(T2:Xv)(T3:aJu)(B:fQ)(TE:xI)(TP:Pl)(jy:cXb)(lq:eM6),eNY:=Ap (by intro P w K mg aW CE CS CP F T2 T3 B TE TP jy lq) ae9 x e y l [pW E,by(obtain⟨x,e,y,l,rfl,⟨dx,hp,sl,q,hx,hh,hpt,ys,hys,hyy⟩,sm,hy,k⟩:=h),aEG ae9.nd hyl hyy,SU dy hpy hy1 hy2 (id hy),dJ ZQ bRb yX qt bKL qt NU T2.SEE cUC cLR Hq 2 Bm jy eFr KC 2 3 DU CY lq gK fU cXW jC bZb,cV ad5 k,eYb b1 IN cNY (aar IN 0) ⟨_,rfl,y,CP,dy,_,_,rfl,hy1,uY,zJ,rfl,rfl,_,rfl,x,CE,dx,_,_,rfl,hx,iZ,jD,rfl,_,_,rfl,oP hys,_,_,rfl,rfl,rfl,_,rfl,?_⟩,bD b2 NE dMH bQH aJc fD b3 NE eS8 tK cNY bQH iV aQ b1 b2 dEh aT oO V.bl.inj z lV dKD,oE iR aH6 decide eS8 _ _ ?_ b3,aIC lZ bE h aJ k' bDh aF bMr aLF k' aB k' bE h AR e1 (cNY=bQH) Ag h kW (cdn (F:=bT r eFa)) cGl bE De aI Lm x dx _ _ sl q ys rfl hx hys (? fst) (? snd) aZ4 snd dD y0 hy0 (by rcases aqt hyy with⟨z1,_⟩|⟨y1,se,l1,l2,d0,tp,r,g1,g2,g3⟩) xG aZ aF hy0 l1 bX l1 aG hr3 eFa gT aV du aH l2 g3 aB bAp d0 r aT g1 (De r hr3) aZ4 fst bE en aG hr3 aOJ q aHf Ac bB en aJ es (aTc vC hM hyl) aV du aH es hpt AQ (by rintro r⟨zs,hz1,hz2⟩) DF hzl hz2 aG h12 qC aZ0 mY du vB q bXh aB sm.sees se aB (sm.links se (List.mem_of_getLast? q)) HE WI r hz1 fCQ (ajn 3) 1 aDN aHf tK m l hz1 Vi qC aLW bp5 hzl h12 ZT GW m hm hpm hz2 hz z y l (hpm.mono s1) (hy.mono s1) aR0 vs fDe eBI hzl m hm ((aHf).any) dL3 cFD oP kY hz1]
theorem ay5:∀{P:aM}{w:aK}{K:aL}{mg:bF}{aW:aU}{CE CS CP:aA}(F:eTY)(T2:Xv)(T3:aJu)(B:fQ)(AP:eRo)(abr:eM7)(yx:eNY),eN4:=UL aOT P CE CS CP F T2 T3 B AP abr yx ak_ Ro a xs es v y rfl h [aOV a xs es v y rfl ha hes sm hv,aEG ak_.nd hl hes,aI oN PH bRb Od 1 VB bVh fU AP.mE cXW rR T2.anv Wt bRb aJ0 rR VB bVh fU AP.mS dWj abr dWj yx,aJ k' bDh,dOu y hv [bX hv,aB aJJ k'] hv [qM x dx fs rfl hx hv,dPJ (AP.e.ty hx) AP.ee f_ fM 300 300,OJ di k',dPj bY h3] hv [Cd x dy tp qV rfl hx ht hv,fFc dSt AP.se AP.ss f_ ⟨_,rfl,_,rfl,a,_,_,_,rfl,rfl,He,apd l1,_,rfl,x1,e,x,dy,tp,qV,t,rfl,he,eOG,hx,ht,k⟩] hv [AJ x hx hv,jF dx hp hx1 hx2 (id hx),fFc dZ6 AP.pe AP.ps f9 ⟨_,rfl,_,rfl,a,_,_,_,rfl,rfl,He,apd l1,_,rfl,x1,e,x,l,rfl,he,eOG,hx,k⟩]]
end
end WH
end
section
namespace L2
open PySem PySem.Spec PyProof.Rows
section
variable{X:Cx}
noncomputable abbrev TJ:=cA Str St aA4
noncomputable def PJ(X:Cx)(es:mD)(t:TJ):aE:=bLM out Str Q VK aNd Ou t out Uo (joinParts out (evalEach es pR))
noncomputable def tJn:TJ:=fun out _ H Q=>rQ out.length∧vD EQ out
theorem a_z:PJ X [] tJn:=fun out bH s σ H Q I h=>joinParts_nil aA6 EQ out cH PY rK h.2 h.1
noncomputable def tJs(x:Str)(tr:TJ):TJ:=aI8 out (rQ bV bQ5∧Ou tr bQ5)
theorem a2w{x:Str}{j pos}{es:mD}{tr:TJ}(hr:dM3):PJ X (Kg bXF KR j::es) (tJs x tr):=Mw cFJ out dKM Calls.Constant_str aT h.1 cBz hr PY h.2
noncomputable def tJi(te:TE)(tr:TJ):TJ:=dYK (∃a:Int,eVe gR a (a.natAbs<IG) eF1)
theorem log2_small{n:Nat}(h:n<IG):n.log2<1920:=bK CC n 0 jB aZ eV (n.log2<20) ((Nat.log2_lt z).mpr bA jN b2b) JN b2d
theorem bjz:fDQ tJi:=fDE aLZ u s1 v H1 I1 r1 a e hz hl q aB (formatField_int_small (log2_small hz) aT hl eJN)
noncomputable def tJt(te:TE)(tr:TJ):TJ:=dYK (∃x:Str,eVe KR rQ bXU bQ5)
theorem bu3:fDQ tJt:=fDE aLZ u s1 v H1 I1 r1 x e hz hl q aB (formatField_str bG t' tk aT hl eJN hz)
theorem a2x{v1 v2:bZ}{jM:mD}{pos:Pos}{t:TJ}(h:PJ X eFL t):Uf (.JoinedStr eFL pos) t aKL:=aCA Q q (JoinedStr_many (h aKL bH s σ H Q I q))
end
end L2
end
section
namespace WH
open PySem PySem.Spec PyProof.Rows L2
theorem cdp{F B:NB}{G:aE}(f:eL4→G)(g:eL4):G:=f g
theorem b5j{x:Str}{k:Nat}(h:aFu≤k):dET≤k:=Nat.le_trans (bEe (aFk (xs:=x.cps))) h
theorem asc:mP [Bz,xK,qH,SS] dJo ap4:=dW
inductive zm(vs:aN)(H:Hp)(Q:VK)(XE:XK):aE|mk(h:aA)(t:aR)(n m:Nat)(_:cVC)(_:Jx h)(_:cLG)(_:aRg)(_:qC m)(_:cXM):BQ zm
theorem zm.out{vs:aN}{H:Hp}{Q:VK}{XE:XK}:KF zm fA1 dZ cVC Jx h jU cLG aRg qC m cXM:=RB zm.rec fA1 zA cVC Jx h cLG aRg qC m cXM dAl
theorem ane:iJ n aRg ((eOl " #" cHD 35)∧(eOl " ." cHD 46)):=wR
section
variable{P:aM}{w:aK}{K:aL}{mg:bF}{aW:aU}
theorem a_0:eVl eXI cXg:=Ap Po F B fg asc a t n m [aPF a t n m rfl ha hz hn hm k,aDA asc.nd (ai BW bNa rR ZI Ke ET awk 1 aw eOP fU Ke ET awk 2 aw eOP jC UZ 3),dP bQe AF gB He p np,cJS s1 cOv np hp (NL cOv p t),kW (cdp (F:=bT H2 (aJE∧NL H2 p eRc))),cGl bE De aI aUK (g9 bPh neq bPh eq) aZ4 eq pO n 0 bK Iu (show∀a b:Int,eqV (V.int a) (V.int b)=(a==b) from fun _ _=>rfl) h jN a5a aI (De H1 eO s1) tI bS rF aFy neq [aG e (n≠0) bQ7 bhd,eLA,fEt hp,aI5 q nq hq,aIC Fl p q mU hp hq aC2 bN (b5j m2) aV vO NQ b0h hz aI (De _ eO ((HD).new np)) EH WE m1 aV NL DS jd L2.ah] (by rintro H2⟨s2,hp2⟩) _ FX ht eRc u aG hu (Rn≤dB3) bL FU ht fA oY jK tI cG rF eLA _ bO NO bMi [bE h,aG e bBd bQ7 bhd,by(obtain⟨_,m1,m2⟩:=ane m hm),fEt hp2,eR6,zX Fl p q kE hp2 hq aC2 bN (b5j m2) aV vO NQ b0i hu [aI aXd ((aAP s3).new np) np,aV bGg,by rw[WE,←EG,ht,←m1],aV NL,DS jd ah]] bE h pO m 0 bQ7 a5a aI aXd s2 np aV bGg tI bS rF]
end
end WH
end
section
namespace WH
open PySem PySem.Spec PyProof.Rows L2
theorem ag4:DX [XH,bZc,xM,"name",SS] XH adm:=dW
noncomputable def a_1(l:lF):aE:=dZ (IN<5) qC aLE qC aTF
inductive o_(CP:aA)(vs:aN)(H:Hp)(Q:VK)(XE:XK):aE|mk(a:aA)(ls:xE)(_:pM)(_:dMU)(_:kJ l ls aYR)(_:dMR)(_:aWD ls.flatMap GE):Si o_ CP
theorem o_.out{CP:aA}{vs:aN}{H:Hp}{Q:VK}{XE:XK}:Si o_ CP→fCx:=aVb o_.rec CP fCx aSN
theorem aqv{α:cJ}{f:cL0}{l:eK}{i:Nat}{x:α}(h:aRf):(aFe eG).flatMap f=dRU++f x:=aBG aW1 h
theorem a2y{α:cJ}(f:cL0)(l:eK)(i:Nat):dSz f gD aK3 f:=bK aG e (aK3 f=dRU++(l.drop i).flatMap f) aQB XY bEI bS
theorem a_2:iJ n (n<5) (∃x:Str,eX kC adj n x (aUg eE7=cDy n) (bGe eE7≤10) (bGe dMW≤10) (aFu≤10)):=bK cY n h (by match n,h with|0,_=>rw[aB sS wR]|1,_=>rw[aB sS wR]|2,_=>rw[aB sS wR]|3,_=>rw[aB sS wR]|4,_=>rw[aB sS wR])
section
variable{P:aM}{w:aK}{K:aL}{mg:bF}{aW:aU}
theorem atn:∀{P:aM}{w:aK}{K:aL}{mg:bF}{aW:aU}{CP kd:aA}(F:eMI)(T:WB)(TK:cVX)(TP:Pl)(fg:aZB)(zw:cXg),eN5:=Ts aHw P CP kd F T TK TP fg zw ag4 a ls [pW E,by(obtain⟨a,ls,rfl,⟨xs,ha,hxs⟩,hsm,hz,k⟩:=h),fFA ag4.nd AA 3 (b_ j6 dTK KN Rr) Hl bG6 ar zw aHm aGa KN KN KN aIM fU cSR (h_ qo bG6 ar fg aHm CU (a2x (a2w (bu3 gK (a2w a_z)))) (pv 4)) aHm,JU eQH Gb eW (aox rY iL L σ) eD6 dEp GE sC aS aS aS rfl [by rintro i x σ H' hx⟨s1,⟨v2,v3,v4,rfl⟩,hl⟩,fEL l hli,nQ dx hp h1 h2 cMS,dG b1 b2 b3 mC hsm l hli,FV nm e1 e2 e3 e4 e5 (a_2 _ b1),aJb eT (aqv (f:=Si33.linkText) hli) eL (a2y GE ls eG),by rw(occs:=aGe) [eT,fA]at eL,bD eI (atI (adj.map Zl) cZ IN=aO cL9) aJm rG bf aH8 kB e1 eq1 (GE l=aO0 cTd) zK GE,Wh lh mT bXt dB eV (bXt≤gD GE l) gT mW GE bGg cG b_2 (b_' hz eL aP) ⟨_,rfl,y,CP,dx,_,_,rfl,h1,uY,bTe,rfl,kd,_,_,_,rfl,rfl,cKE,eI,?_⟩ ⟨_,rfl,y,CP,dx,_,_,rfl,h1,uY,bTe,rfl,_,rfl,y,CP,dx,_,_,rfl,h1,uY,bTe,rfl,_,rfl,y,CP,dx,_,_,rfl,h1,uY,bTe,rfl,hp,_,_,_,rfl,h2,lh,b2,b3,?_⟩,aI5 p np hpp,gZ aGm bHg aXz hl aT YL rQ _ bZd aMC _ rfl US e5 aHm US e4 aHm cQ5 cQ5 _ rfl cQ5 ?_,eR6,by rw(occs:=aGe) [e2]at hq,bNW aGd q p _ rfl hq kE hpp ?_ aH8 az az q2 nq2,MP s4 H3 eNb pK nq2 h4 (NL eNb q2 cTd) gT aV NL Ol jd ah,mN Mv H3 q2 H4,dP eO YL rQ 1 bZd q3 nq3,MP s5 H4 cUe pK nq3 h5 (NL cUe q3 [10]) ah,bNW Fl q2 q3 wJ h4 h5 aH8 az az q6 nq6,dR s6 Ti sG cUe q6 aXW cTd uG ((pZ bAO cOi s5).trans) nq6 Fl L q6 AK hl ah,bJd (by rw(occs:=aGe) [fA,az,az,az]),aI pD ((aL8 s6).new nL) cYe,aH8 eT eq1,dAO] (by rintro σ H'⟨s1,⟨v2,v3,v4,rfl⟩,hl⟩) cWV aG el (bGh=cJ4) dB Ol cK oU Ff hxs dH]
end
end WH
end
section
namespace WH
open PySem PySem.Spec PyProof.Rows L2
theorem amm:DX [lK,bZc,qH] lK aj6:=dW
structure a7r(e:dI):aE where
 num:qC yL
 aAo:∀l∈XX,aYR
 Qm:∀s∈qL,∀l∈Cq,aYR
noncomputable def vh(s:HZ):aR:=(aO0 (Tx++uX))++s.links.flatMap GE
theorem apf(e:dI):aFH e=(cP2 aO0 aSo)++e.senses.flatMap vh:=qS aFH eV ((fun(s:HZ)=>45::32::(uX++(10::s.links.flatMap GE)))=vh) bL aE9 s aV vh cG bS
inductive ua(CE CS CP:aA)(vs:aN)(H:Hp)(Q:VK)(XE:XK):aE|mk(x:aA)(e:dI)(_:JW)(_:Aj)(_:aXx)(_:dKS)(_:aWD aFH e):El ua
theorem ua.out{CE CS CP:aA}{vs:aN}{H:Hp}{Q:VK}{XE:XK}:Oi ua fCw:=Pp ua.rec fCw aSN
theorem ai9:DX [xL,uV,lK] xL af1:=dW
inductive r_(CE CS CP:aA)(vs:aN)(H:Hp)(Q:VK)(XE:XK):aE|mk(a:aA)(xs:bM)(es:fK)(_:pM)(_:aHS)(_:aHX)(_:kJ e es aXx)(_:dMS)(_:dMV):El r_
theorem r_.out{CE CS CP:aA}{vs:aN}{H:Hp}{Q:VK}{XE:XK}:Oi r_ bU3 es eVJ:=Pp r_.rec bU3 es eVJ bJE aVg (EE.gp a3 a4 a5 a6 a7 a8)
theorem a7s:aUg aU3 "= "=aCj∧aUg aU3 "- "=Tx:=wR
theorem same_none{H H':Hp}{p:aA}(s:eW)(h:aQM p):JV:=bA RG (H p) o wT
section
variable{P:aM}{w:aK}{K:aL}{mg:bF}{aW:aU}
theorem a2z:∀{P:aM}{w:aK}{K:aL}{mg:bF}{aW:aU}{CE CS CP:aA}(F:eGp)(T:WB)(TE:xI)(TS:Bv)(fg:aZB)(zw:cXg)(wq:eN5),eOK:=Ts aOT P CE CS CP F T TE TS fg zw wq amm x e [pW E,by(obtain⟨x,e,rfl,⟨dx,hp,sl,q,hx,hh,hq,ys,hsl,hys⟩,hsm,hz,k⟩:=h),gQ nd amm.nd,vQ apf hz k,aI oN (ai MC 1 cSR (h_ qo aYP bhu Ez zw jY jY aw) ZI (cq bIn uw fU wV wq jY) JH Yo AI (ai (cq bIn uw fU cSR bJt aYP bhu bg jC) aIM fU wV wq KN) UZ 1),aG z1 (mT (bXu+dX0+cTG+3)∧mT (bV aWk+gD e.sees.flatMap GE+cTG+3)) cN eV (bXu≤bV aWk) zK bGg Jn fA fA fA fA hz ON qZ aEZ hz NQ b_v hz,eP z1 z2 z1,aI aGm iB,iC H1 p1 s1 n1 h1,aF a7s.1 h1,aYp ⟨_,rfl,x,CE,dx,_,_,rfl,Ho,iZ,jD,rfl,_,rfl,x,CE,dx,_,_,rfl,Ho,iZ,jD,rfl,hp,pA,yL,0,rfl,kY hh,dO cak z1,hsm.num,cL1,?_⟩ H2 p2 s2 n2 h2 Fl p1 p2 cMa h2,cN4 tI aWM rF,dD p3 n3,fFR aCj aWk aSo aC2 L nL',aJ s5 (s4.trans oB gW aXW aSo nL'),bDD h5 (NL sG bJ5 L aXW aSo L aO0 aSo) bNg s05 pZ aR5 s5 nL (same_none ((aR5).trans s4) nL'),by clear s5 h4 s4 n4,mN Mv eEo L H5,by clear nL' h3 s3 h2 s2 h1 s1 n1 n2 n3,aJ eU (apf e),FX hU aO0 aSo U,Wh lU mT (U.length+dX0+cTG) dB dA fA fA hz hz aY1 h5 ⟨_,rfl,x,CE,dx,_,_,rfl,bPL,iZ,jD,rfl,q,XX,rfl,hq.mono s05,dEV,dO cal z1,?_⟩,QR H6 p6 s6 n6 h6 Fl L p6 AK h5 h6,cN4 aB (b_y lU),gO s7 aWm ((s05.trans s6).new) eHi nL h7 (NL sG H6 L eHi L cP2 U) bNg,mN Mv H6 L H7,by clear h6 s6 n6 h5,FX hV cP2 U U2,dR lU2 mT (U2.length+gD e.senses.flatMap vh) dB FU hV fA lU aVp x CE dx Lj s7 iZ jD sl aDa s7 hsl,JU aZn jo FC cSF sO iL L (NL H' L (U2++(e.senses.take i).flatMap vh)) cH s7 cNo aEi cJl kY hsl [fAL v hv,Yz,GW se hse hat hys hy,FV dy tp q8 g1 g2 g3 cMS,aJb hlk eCn hse eT (aqv (f:=vh) hse),aJ eL (a2y vh qL eG),dA eT fA eL,aG eS (gD vh se=3+se.text.length+gD se.links.flatMap GE) sR aV vh cE fA fA fA wP qZ aEZ bzc,FX hW ((e.senses.take i).flatMap vh) W,gZ aY1 hl aGm iB,aI5 p2 n2 h2,aF a7s.2 h2,bNW ⟨_,rfl,y,CS,dy,_,_,rfl,mU g1,GD,HR,rfl,p2,tp,_,_,rfl,rfl,h2,mU g2,?_,?_⟩ aC2 p3 n3,fFR Tx yQ bJl cE az az fA p5 n5,dR s5 Ti eJ7 uG ((bAO cOi).trans) n5 Fl L p5 wJ hl ah,bJd (by rw[fA,az,az,az,fA,fA]),gO s6 aWm ((s1.trans s5).new) eHj nL h6 (NL sG eJ7 L eHj L ((U2++W)++cO6)) bNg,aJ g8 (hat.mono s6),mN Mv Mv eEo p5 L H6,FV dy8 tp8 q9 k1 k2 k3 g8,dJ aY1 h6,aYp ⟨_,rfl,y,CS,dy8,_,_,rfl,k1,GD,HR,rfl,q9,bGi,rfl,k3,hlk,aBU b9' z2 eS eL,?_⟩ H8 p8 s8 n8 h8 Fl L p8 Az h6 h8,bJd (by rw[az,az,fA,fA,fA,fA]),oE pD ((s6.trans s8).new nL) rK eT,aV vh,eV (U2++(W++(dUu cO6))=dUu (U2++W++cO6)) aX,aH aP,dAO] cZD hl cWV aG el (IH=bV FC) dU9 hys dH]
theorem aw':∀{P:aM}{w:aK}{K:aL}{mg:bF}{aW:aU}{CE CS CP:aA}(F:eGj)(sk:eOK),xU bWG 5 [xL] Mb r_:=aHZ aI9 P CE CS CP F sk ai9 a xs es [bLN a xs es rfl ha hxs hsm hz,fFA ai9.nd aIM fU wV sk jC iB,NO eQH cSF rY iL L eD6 es.take aFH cNo [fAL x hx,fEL e hei,eN eT (aqv (f:=Si33.entryText) hei) eL (a2y aFH es eG),dA eT fA eL,cV dEU hz,gZ aY1 hl aGf y e rfl cMS mC hsm e hei gC byu hz eL,QR H2 p s2 np hp Fl L p mU hl hp,cN4 aB (by6 hz eL),oE pD ((HD).new nL) rK eT,dAO] cZD hl cWV aG el (SV=cJ4) dU9 hxs (by rw[←el,OM]at hl) aB hl]
end
end WH
end
section
namespace WH
open PySem PySem.Spec PyProof.Rows L2
noncomputable def del(H:Hp)(M:bM):Hp:=bT b Fp yC M (H b)
section
variable{H H':Hp}{M M':bM}{b D:aA}{o:HO}
theorem sf:ag Pb H:=wC Fu cV del e
theorem ub(h:b∉M):del H M b=H b:=eC h
theorem bn3:Vk H Hp M bM D aA o HO bCd (del cPX M=Pb):=cN iC H M D o h aE9 b aV del wT
theorem bj0(s:aG6)(h:bCd):Xe Pb H' M:=wC bL XT del e pG e jK HP uW hb jJ hb aB lW s oO hb (z▸h) e
end
noncomputable def rdF(a b f:V):yF:=[uO xL a,uO dBg b,uO bVT f]
inductive abm(CE CS CP:aA)(H0 H:Hp)(x:aA)(e:dI):YV bM|aS{dx hp sl q:aA}{ps:bM}(h1:eJY)(h2:eHO)(h3:aO5 q)(h4:eD5)(h5:vW sl [])(h6:qL=[]):aWl H0 H bJZ|uQ{dx hp sl q dy tp r y:aA}{ps ts ys:bM}{ss:NY}{se:HZ}(h1:eJY)(h2:eHO)(h3:aO5 q)(h4:eD5)(h5:vW sl aPj ys)(h6:qL=bAk se)(h7:sJ (aw9 CS CP H0) ys ss)(h8:UO H0 aV6 Uc BM)(h9:NL H0 tp yQ)(h10:vW r bOo)(h11:sJ dNi ts bGi):aWl H0 H aWh r
theorem zx{α β:cJ}{F:tZ}{l:eK}{m:DM}{a:α}{b:β}(h:Ys)(r:Ov):eDK:=bB2 RU r eF r' RU r' ih
theorem abm.ent:∀{CE CS CP:aA}{H0 H:Hp}{x:aA}{e:dI}{M:bM}(s:aD6)(h:cPA),Aj:=kX yN CE CS CP H0 H x e M s h (by cases h with|aS h1 h2 h3 h4 h5 h6=>rw[eK4 bR [] h5 gG h6 eF]|uQ h1 h2 h3 h4 h5 h6 h7 h8 h9 h10 h11=>rw[by delta h1 h2 h3 h4 h5 h6 h7 h8 h9 h10 h11,_,eK4 rP h5 aID h6 zx aDi h7 aUM cH rH h8 rH h9 rP h10 aDi h11])
inductive uc(CE CS CP:aA)(H:Hp)(N:bM):bM→lR fK bM|nil:Ug H N [] [] []|aUi{xs:bM}{es:fK}{x:aA}{e:dI}{M:bM}(h1:cRf)(h2:bRI):Ug H N aP3 dTy M
theorem uc.all:∀{CE CS CP:aA}{H:Hp}{N:bM}{xs:bM}{es:fK}{M:bM}(h:bC8),aHX:=eSn es M bVe aB eF aB (zx PZ h1 sf (h2.ent sf))
structure anf(CR CE CS CP:aA)(Hb H:Hp)(r:aA)(fV:V)(bs:aR)(es:fK):aE where
 ex:∃dr A B xs M,Et cHV bBb kJ b bS4 Sv Hb mV bS4 bMJ eBN eWc
theorem abm.mono{CE CS CP:aA}{H0 H H0' H':Hp}{x:aA}{e:dI}{M:bM}(s0:ag H0 H0')(s:∀b∈M,H' b=H b)(h:cPA):aWl H0' H' M:=bA (by cases h with|aS h1 h2 h3 h4 h5 h6=>rw[aB (.aS aQG h1 aQG h2 fD dWq fD h6)]|uQ h1 h2 h3 h4 h5 h6 h7 h8 h9 h10 h11=>rw[aB (.uQ aQG h1 aQG h2 fD dWq fD h6 PZ h7 s0 aQG h8 aQG h9 fD PZ h11 s0)])
end WH
end
section
namespace WH
open PySem PySem.Spec PyProof.Rows L2
theorem aqw{H H':Hp}{M M':bM}(s:eFu)(h:∀b∈M',yC M∨xB):Xe Pb H' M':=wC NI XT del e
theorem abm.full:∀{CE CS CP:aA}{H0 H:Hp}{x:aA}{e:dI}{M:bM}(h:cPA),∀b∈M,aG1 (H b=Option.some o):=kX yK CE CS CP H0 H x e M h (by cases h with|aS h1 h2 h3 h4 h5 h6=>rw[bS]|uQ h1 h2 h3 h4 h5 h6 h7 h8 h9 h10 h11=>rw[bS])
theorem a_3{N M:bM}(nd:aQy){b:aA}(h:yC M):bMc:=lV ((List.nodup_append.mp nd).2.2 b z b h rfl)
section
variable{CE CS CP:aA}{H H2:Hp}{N:bM}{xs:bM}{es:fK}{M:bM}
theorem uc.to:∀{CE:aA}{CS:aA}{CP:aA}{H:Hp}{H2:Hp}{N:bM}{xs:bM}{es:fK}{M:bM}(nd:aQy)(s:aNA N DI bOI)(h:bC8),Ug H2 N xs es M:=kX XZ CE CS CP H H2 N xs es M nd s h bVe aB eF [pE h1 h2,aG s1 Xe aCi H2 (N++M) (aqw aMF lW s bIx e dR3),dP (.aUi PZ h1 s1 (h2.mono s1 ?_)) b hb,eP o ho uI h2.full,bO]
theorem uc.off:∀{CE:aA}{CS:aA}{CP:aA}{H:Hp}{N:bM}{xs:bM}{es:fK}{M:bM}(nd:aQy)(h:bC8),bHQ aYm aA9 N:=wA yN CE CS CP H N xs es M nd h aG s Xe aCi H N (aqw aMF e JX gB fW hb) bVe aB eF aB (zx aDi h1 ((h2.mono s (H':=aA9 N) JX (ub (a_3 nd hb))).ent (bYx _)))
theorem bj2{H3:Hp}{x:aA}{h:aR}{n:Nat}(nd:aQy)(Jo:∀b∈N,aIV)(s:aJE)(en:eRH h)(E:bC8)(k:aOj b bMc (H3 b=H2 b)):QG sl q nZ sl aGJ bBt Ug H3 N aP3 aYA Yt h n bJZ:=jX (by obtain(⟨dx,hp,sl,q,a1,a2,a3,a4,a5,a6,a7,a8,a9,w_,a11⟩):=bGj) aJ E1 (E.off nd) bD f bMZ bMc bK cY hb z fO s2 Xe aA9 N H3 bPs bA MT (aqw bPu Wb) xD fO aQ6 Us sl q a7 a8 a9 (.aUi PZ E1 s2 (.aS (dx:=dx) (hp:=hp) (ps:=[]) ?_ ?_ ?_ eF ?_ rfl)) aQ ub (k (f a5)) dU aB a1 fO eCl aQ ub (k (f a6)) dU aB a2 bS dU bS bS
end
end WH
end
section
namespace WH
open PySem PySem.Spec PyProof.Rows L2
theorem nd2:∀{N:bM}{sl q:aA}(nd:mV bPs),jU aTN cOl cOk bBt:=kX jG N sl q nd bO
theorem nd3:∀{N:bM}{sl q r:aA}(nd:cJ0),Et aTN cOl cOk (r∉N) bBt (sl≠r) (q≠r):=kX XO N sl q r nd bO
theorem mk3:∀{N:bM}{sl q r:aA}(h:aTN)(h1:cOl)(h2:cOk)(h3:r∉N)(h4:bBt)(h5:sl≠r)(h6:q≠r),cJ0:=kX (by intro N sl q r h h1 h2 h3 h4 h5 h6) bO
section
variable{CE CS CP:aA}{H H2:Hp}{N:bM}{xs:bM}{es:fK}{M:bM}
theorem abt{H:Hp}{b c:aA}{o:HO}(h:xB)(h2:aIc o):pY c:=tO bA bPG
theorem bj3:∀{CE:aA}{CS:aA}{CP:aA}{H:Hp}{H2:Hp}{N:bM}{xs:bM}{es:fK}{M:bM}{x y a:aA}{e:dI}{t:aR}(nd:aQy)(Jo:∀b∈N,aIV)(s:aJE)(na:aCU)(sn:aii CS H H2 y a t)(E1:cRf)(E2:bRI),∃dx hV nV sl q ys r,jU ePV eGZ (wQ=IH) eX (sl∈M) (q∈M) nZ r cJ0 Ug QK sl aPj ys N aP3 aYA cVd aWh r:=QJ (by intro CE CS CP H H2 N xs es M x y a e t nd Jo s na sn E1 E2) aFI dy r b1 b2 b3 b4 b5 b6 bGk _ aG d0 (ag aCi H) sf (by cases E2 with|aS h1 h2 h3 h4 h5 h6=>rw[eW9,fFO,aG yr (y≠r) tO fC,jF m0 m1 m2 m3 (nd2 nd),fC8,aI fBm [] fD,fFj bPs [] [] eF Xn ub y3 dU aB b1 bS,wY eCk Xn ub t3 dU aB b2 bS,VQ fE]|uQ h1 h2 h3 h4 h5 h6 h7 h8 h9 h10 h11=>rw[fDx,fFO,bD rr (r0≠r) tO ((abt b5 h10) aK1) yr (y≠r) tO fC,fBD,fC8,aI fBm bTf ?_,kG jS h6 fA fA Ff h7 (by rfl),fFj dT2 bTf bAk se (zx aNO h7 kF dy0 tp0 r0 cH kE h8 kE h9 bR ts ?_ aNO h11) aQ ub aMQ m5 dU AQ fO,Bj Xn ub y3 dU aB b1 bS eCk Xn ub t3 dU aB b2 bS,VQ fE])
end
end WH
end
section
namespace WH
open PySem PySem.Spec PyProof.Rows L2
section
variable{CE CS CP:aA}{H H2:Hp}{N:bM}{xs:bM}{es:fK}{M:bM}
theorem bj4{D y:aA}{l:lF}{M:bM}{o:HO}(Jo:∀b∈M,aIV)(hD:bCd)(pn:eKE):kq CP (del bTy M) y l:=bL vT dx hp c1 c2 c3 c4 bGl aG f bMZ (b∉M) bK cY hb z bO Wv jO dx hp NR Xn (ub (f c3)) iR aRx tO (f c3 cTH) aB c1 eCl Xn (ub (f c4)) iR (hp≠D) tO (f c4 cTH) aB c2
theorem bj5:∀{CE:aA}{CS:aA}{CP:aA}{H:Hp}{H2:Hp}{N:bM}{xs:bM}{es:fK}{M:bM}{x y:aA}{e:dI}{l:lF}(nd:aQy)(b5k:∀b∈N,aIV)(s:aJE)(pn:eKE)(E1:cRf)(E2:bRI),∃dx hV nV sl q ys,dZ ePV eGZ Fn ys [] eY ps bMs q tN AG pF aZ0 (q∈M) eOy q ps (∃y0 dy tV r ts,zA (aUh=aO y0) (H2 y0=aO aV6 tV BM) bMs r bOo (dEo=aZ0) (r∈M) eOy r ts):=wA (by intro CE CS CP H H2 N xs es M x y e l nd b5k s pn E1 E2) MP d0 aCi H sf sF aIs D o bCd Xe aCi bTy (N++M) YF D o hD bK aI (aqw BG o' hb e ?_ dR3) wT (by cases E2 with|aS h1 h2 h3 h4 h5 h6=>rw[eW9,eKw bPs Iv hb z rfl dU Lz,gO sq ((nd2 nd).2.2.2) ep (e.point l=uT e aAo (XX++[l])) aP2 dEW h6,eZF (sF (D:=q) (o:=gW aPj ps) aX) [] gB bR rfl ps gY cLM ?_ aX ?_,qB aV du aH h6 dQc h4,aDy ep cHw (.aS bKw cGc ah eVN cGL ?_ h6),aDs]|uQ h1 h2 h3 h4 h5 h6 h7 h8 h9 h10 h11=>rw[fDx,eKw dT2 bZe hb z rfl bRX,fBD,aG ep (e.point l=aPi bAk uT se Qm (bGi++[l])) cO8 dEW h6,eZF (sF (D:=r0) (o:=gW aPj ts) aX) bTf fF Ua y0 dy0 _ r0 ts yB aX rH cB d0 h8 rH h10 ?_ aX ?_,wY aV du aH h6 cG dQc h11,aDy ep cHw (.uQ bKw cGc ?_ cGL ?_ rfl aNO h7 kE h8 kE h9 ah eVN aNO h11),dU aDs,aDs])
end
end WH
end
section
namespace WH
open PySem PySem.Spec PyProof.Rows L2
theorem aqx:bTm adn:=aDW
inductive mi(C:aA)(vs:aN)(H:Hp)(Q:VK)(XE:XK):aE|mk p dx(_:aNK)(_:Ly)(_:cZj):QL mi
theorem amn:mP [Cc,aES,jZ,aS2,aS1] dNG aj7:=dW
inductive xw(CR CE CS CP:aA)(vs:aN)(H:Hp)(Q:VK)(XE:XK):aE|mk(Hb:Hp)(r ln:aA)(t:aR)(p:Nat)(l:RL)(_:dOc)(_:dOG)(_:Jx ln)(_:BN)(_:Fy)(_:dPo):aSL xw
theorem xw.out{CR CE CS CP:aA}{vs:aN}{H:Hp}{Q:VK}{XE:XK}:aSL xw→fDl:=cZ9 xw.rec fDl dAe
noncomputable def aqy(CE CS CP:aA)(H H1:Hp)(v:V)(o:Np):aE:=cUu y eY x (v=yT) cI2 H1
theorem uc.inv:∀{CE CS CP:aA}{H:Hp}{N xs M:bM}{es:fK}(h:bC8),es=[]∨∃xs' x es' e,xs=xs'++[x]∧AG es (es'++[e]) sJ aYm aCi xs' es' bRI:=eSn M es bVe qK bO
theorem a0m{l:RL}{es:fK}{e:dI}(h:l.map xP=dTy):pL l' z (l=l'++[z]) (l'.map xP=es) (z.2=e):=bK QX a b h1 h2 (List.map_eq_append_iff.mp h) cCI b h2 [z] h2 bO
theorem a2_{CE CS CP:aA}{H:Hp}{Q:VK}{E:XK}{a:aA}{t:aR}(h:mH)(hz:BN)(k:xT v H1 aCv cIp H1 bOT RV v):aA3 t_ Bc H Q E:=zM a t rfl h hz eKU dYy rfl IF y e0 H1 x s1 tn dYy Gj x tn
theorem aqy.v{CE CS CP:aA}{H H1:Hp}{v:V}{o:Np}(h:dZj):bcc CE CS CP H1 v o:=bA fDs aK0 dx hp sl q a1 bGj aB kF x dx _ aT e a1 eLy q bGk aB AN x dx a _ cH e a1 a2 eLy hp bGl uJ dx hp a1 a2
theorem aqy.up:∀{CE CS CP:aA}{H H1 H2:Hp}{v:V}{o:Np}(s:aRJ)(h:dZj),cIp H2 o:=kX yN CE CS CP H H1 H2 v o s h fDs aAt dx hp sl q a1 a2 a3 a4 a5 bGj lH x e SL dx hp sl q cLK cLL rH a3 rH a4 a5 vT dx q a1 a2 a3 a4 bGk lH x e bR a na SK dx q cLK cLL rH a3 a4 qM dx hp a1 a2 a3 bGl qY dx hp cLK cLL a3
section
variable{P:aM}{w:aK}{K:aL}{mg:bF}{aW:aU}
theorem ato{C:aA}(F:RP aKT dBN C adn EZ)(T:cCs C):aOw aKT EZ mi:=bDx aqx aSa p dx [bNT,eUA,gZ oF cUn RI gf eO mJ,cY d1 f1,dR n1 (d1≠p) cBq bY e aG0 C vH bF5 hp aX,aI eO mJ,cY d2 f2,cJr cTO,Wh f2' cF0 eVY bRj 1 aG0 C ah Sq 2,Gp dAj ?_ f1 f2' cI1 xD FM,FM]
theorem a2':∀{P:aM}{w:aK}{K:aL}{mg:bF}{aW:aU}{CR CE CS CP:aA}(F:eXJ)(T3:aJu)(B:fQ)(AP:eRo)(TR:cPD)(TE:xI)(ae_:eSh)(ac9:eN4)(jy:cXb),eV4:=aU1 (by intro P w K mg aW CR CE CS CP F T3 B AP TR TE ae_ ac9 jy) amn Hb r ln t p l [dAH Hb r ln t p l rfl hR hln hz sm kf kx,gQ nd amn.nd,fCK LA LB hR.ex,dJ oN VF 3 wV ae_ fU Hl CY ac9 jY gK eO9 ET awk 4 (ck T3.anw) rR YK oG jC aQg bVh gK AP.mE (ai (cq bHl jY gK) RY jY jC) aQg bVh gK AP.mS RY aJ9 aWj gK Hx wV jy dTt gK,sX Jo b bTL aIV fN aSb eM hb aKC hb bRX dU Lz,bDH nd5 List.nodup_append.mp c4 nd6 nd5.1,eM nd6,by(obtain⟨⟨rA,rB⟩,AB⟩:=nd6),dJ oN rfl,bYD atb,aI (a2_ hln hz ?_),jG v H1 s1 hv,cJY (by skip) aI ⟨_,rfl,r,CR,dr,_,_,rfl,kY c1,OZ,QO,rfl,_,rfl,LA,xs,aBl,v,bOT,rfl,kY c5,ME bZf YN dRY,?_,hv.v,?_⟩ qB dD e he aCW z hz he aB (sm.each z hz) dD H2 s2 uL s12 aL8 s2 hv2 hv.up s2 (by clear hv) dSr bMi bE h aG hk (bIp≠0) bK eM h jN bhd dP Ld _ FA f nf aJ s3 (s12.trans oB bKQ nf) aDx h3 iY H2 f bKQ f bKQ ah fr abt nf bBF mN FG f _ H3 cJE cLI (kf hk _ f bC7 LA LB xs M ah ((c2.trans s3).new) r aX c3 c4 bA bUt (c7.to c4 ?_) Av) dU bUt qW b o hb e KI aG hk (bIp=0) bQ7 a5a aPZ ho bOT aF ho hk bX hk y vQ ho hk hv2 AJ x tn hv2 eW3 y [aG en eRH hd tn,aK0 dx hp0 sl0 q0 a1 bGj,gZ aOg CE (AP.e.ty a1) AP.ee (f_ ?_) ⟨_,rfl,r,CR,dr,_,_,rfl,bBF,OZ,QO,rfl,bHg cTS,_,rfl,LA,_,_,rfl,rfl,aHn c5,?_,?_⟩,Wn aH cK bN (bWU bZf) aF cK aP bN aE7 aV vO rF,bD hr3 YY H2 LA cTy r dGO LA LB iE vH rA bBF hB3 BT H2 LA cTy LB cTU NZ AB aHn c6,aI ⟨_,rfl,r,CR,dr,_,_,rfl,hr3,OZ,QO,rfl,rL hB3,_,rfl,LB,_,_,rfl,rfl,hB3,?_,?_⟩,wY aQ az cK bN aE7 aV vO JN b2q,cZp,aG kN aOj b (b∉bTL) (upd QK LA cTy LB gW (cTU++[qT p]) b=H2 b) (fun{b}hb=>bIV),vT sl q n1 n2 n3 E4 (bj2 c4 Jo s12 en c7 kN),aG out bMZ (b∉bTL) bG hb z FH,LQ mv lN rC Jb,BH bC7 LA LB aP3 bJZ Av (((c2.trans s12).new (c3 LA aX)).new) LB aX ?_ ?_ ?_ E4 aC4 vK hb z jK dH eM z aP5 z dE aB (same_none c2 n1) aB (same_none c2 n2) dH,aY7 wP NL jd ah] u [by(obtain⟨a,na,sn⟩:eY a aCU (aii CS H H2 x a u):=tn),fFI bGk,by(obtain(⟨dx,hV,nV,sl,q,ys,rn,g1,g2,g3,g4,g5,g6,g7,g8⟩):=bj3 c4 Jo s12 na sn E1 E2),gZ aOg CE dUN AP.se (f9 cHa dUN AP.ss f_) ⟨_,rfl,r,CR,dr,_,_,rfl,bBF,OZ,QO,rfl,_,rfl,LA,_,_,_,rfl,rfl,cTS,eAY,x0,CE,dx,_,_,rfl,g1,iZ,jD,rfl,rL g2,_,rfl,sl,_,_,rfl,rfl,g2,?_,?_⟩,wY aQ cK g3 bN Cr eCs aV vO JN bg8,cZp,aJ out (a_3 c4 g4),eM out,by simp only[mv,akh,lN,rC,Jb]at g8 c6 c5⊢,aH hl',BH bC7 LA LB cTx aWh rn cKj ((c2.trans s12).new) sl fW g4 ?_ g7 ?_ g8 aC4 vK hb z xG dH eM z aKC z dE dH bS dU aB (same_none c2 g6) KI,KI] lk [aG pn (age CP H H2 x lk) tn,fFI bGl,aG lz qC gD du z.2 SI bN eCs du oY oS Iy se hse aB (this.links se (List.mem_of_getLast? hse)) aB this.sees,aAt dx hV nV sl q ys g1 g2 g3 (bj5 c4 Jo s12 pn E1 E2),dR fin qG D aA o HO cA bCd Ug bTy bTL cTx (es'++[(z.2).point lk]) M aHN bTy kK vR D o hD g8 cZp aJ out (a_3 c4 hD) eM out (by simp only[mv,akh,lN,rC,Jb]at c6 c5⊢) aH hl' MT bC7 LA LB cTx M cKj ((c2.trans s12).new) D fW hD c3 c4 ?_ g8 KI KI aOg CE dUO AP.pe (f9 cHa dUO AP.ps f9),Bi ⟨_,rfl,r,CR,dr,_,_,rfl,bBF,OZ,QO,rfl,_,rfl,LA,_,_,_,rfl,rfl,cTS,eAY,x0,dx,hV,nV,sl,q,ys,rfl,g1,g2,?_,?_⟩ bY e0 (by rcases g3 with⟨_,ps,k1,k2,k3,k4⟩|⟨y1,_,_,_,_,k1,_⟩) qB aI aT rL k1 eVE q k1 eEs k2 aZ aZ cY y0 hy0 (by rcases g3 with⟨k1,_⟩|⟨y1,dy1,tV,rr,ts,k1,k2,k3,k4,k5,k6⟩) HQ aZ aF hy0 k1 bX k1 aI kF dy1 tV rr cH k2 rL k3 eVE rr k3 eEs k4 aZ]]
end
end WH
end
section
namespace WH
open PySem PySem.Spec PyProof.Rows L2
theorem bj6(u:aR):∀c∈u.takeWhile aXS,RX:=cN cY c hc bN (List.all_takeWhile (p:=aXS) (l:=u)) aF aLn aP XU (aP c hc)
theorem bj7(u:aR):(u.takeWhile aXS=u)∨∃v,u=u.takeWhile aXS++10::v:=bP0 u sQ rfl c bQ h (c=10) SC bB h nF aOz u aQ XW iF lX h LL ih e v e Hz bOb aT v bA EH Qj e
theorem bfe:∀{t:aR}{i:Nat}(hi:aWs)(l:RL),(dZh→cDc i l ER (.SO (1,nJ)))∧(Ko≠nJ→jU (Ko<nJ) (i≤Ko) kJ c dWw RX cDc i l ER aZc (Si33.lineIn l i ((ER).take aDe)) aHs m (bGm aOk [] m (Cm aOk))):=vG jG t i hi l bD el (d_ t i=dSF) rfl dl (bV ER=aM7) aE0 LL (bj7 (t.drop i)) e v e Nn dA e dl el aI aT Xo wE (absurd gC cac hi el h) eAx aF e h10 jS (a1n h10) eC fN aH OK pQ z aF z dl eM dl aB (byf hi dl) OK dl aLy aB (byz el fE) [Qh v e,gQ ln Ya e,uB fA qZ dl ln,dR lt (Ko<nJ) gC b_u el ln eO lV bMz dO bz2 lt,bY2,dJ pD lt dO b_p el,bD e2 ((ER).take aDe=bNn) Wq CV (aDe=bV bNn) aB (b_m el) UA cRG w e aQ e List.take_append cG e3 (t.drop aOk=v) fN eV (Cm aOk=(ER).drop (bV bNn+1)) uE dEy pB aH aP UA cRG w e aQ e dCd cG,aQ e2 e3,aI eO (bj6 _),eAx,mN cRG w,cE e (a1m h10) OK,bLY aH el,bLY qN Hv (Si33.lineIn l i w)]
end WH
end
section
namespace WH
open PySem PySem.Spec PyProof.Rows L2
inductive kg(CR CE CS CP:aA)(vs:aN)(H:Hp)(Q:VK)(XE:XK):aE|mk(r dr A B:aA)(fV:V)(xs:bM)(l:RL)(_:IV BM)(_:cHV)(_:bMJ)(_:dOB)(_:cIE aU8)(_:Fy)(_:dMw)(_:dOQ):aSL kg
theorem kg.out{CR CE CS CP:aA}{vs:aN}{H:Hp}{Q:VK}{XE:XK}:aSL kg→fDp:=cZ9 kg.rec fDp fDL
noncomputable def yz(t:aR):eHf:=aZc (bGm 0 [] [] t) aHs l Mi dI0 aO f aHs aYN
noncomputable def a_5(CR CE CS CP:aA)(H H':Hp)(r:aA):YV eHf|aHs=>∃dr A B fa,oA r bJ9 aIv∧oA fa aM8 f.1 f.2|aYN=>∃dr A B xs,eX oA r bJ9 iE DB A PU nZ A cIE (ge CE CS CP H') Fy
theorem amo:mP [uV,Cc,jZ,bY5] aVQ aj8:=dW
inductive ud(CR CE CS CP:aA)(vs:aN)(H:Hp)(Q:VK)(XE:XK):aE|mk a t(_:pM)(_:mH)(_:BN)(_:dAh):aSL ud
theorem ud.out{CR CE CS CP:aA}{vs:aN}{H:Hp}{Q:VK}{XE:XK}:aSL ud→aNT dAh:=cZ9 ud.rec aNT dAh aXj
theorem anf.fault{CR CE CS CP:aA}{Hb H H3:Hp}{r dr A B:aA}{xs M:bM}{v:V}{bs:aR}{es:fK}(c2:bBb)(c3:∀b∈bS4,Sv Hb)(c4:mV bS4)(c5:bMJ)(c6:eBN)(c7:eWc)(s3:rJ H3):aNV Hb kP H3 r bJ9 v v bs es:=jX aJ nd6 ((List.nodup_append.mp c4).1) eM nd6 (by obtain(⟨⟨rA,rB⟩,AB⟩):=nd6) aI bC7 A B xs M ah ((c2.trans s3).new) r aX c3 c4 bA bUt (c7.to c4 bPu) dU bUt wT
theorem cds{F B:aE}{G:aE}(f:(F→B)→G)(g:F→B):G:=f g
section
variable{P:aM}{w:aK}{K:aL}{mg:bF}{aW:aU}
theorem a3a:∀{P:aM}{w:aK}{K:aL}{mg:bF}{aW:aU}{CR CE CS CP:aA}(F:eGf)(T3:aJu)(B:fQ)(TR:cPD)(al0:aMI P aKT CR 1 EZ (mi CR))(aik:eM5)(ae':eV4)(y6:eNX),xU bWF 7 aVQ cFx ud:=fFf (by intro P w K mg aW CR CE CS CP F T3 B TR al0 aik ae' y6) amo bVy hz k aDA amo.nd AA 1 aYl al0 Hm aw ZI dNR (aks ET ar5 2 Ng (aev cP3 NU)) VF 3 zD aik jC eO9 cOs Ng fU aOE T3.abx gK (cq Ez ae' fU eGB jC) Hm bQX Sf cP3 NU (im fU wV y6 fU rfl) UZ 1 QR r dx nr ndx hne Ee r dx ah fEW LA LB nA nB nAB h1 h2 h3 nr mA (LA≠r) bAW mB (LB≠r) uL nA0 ((ag.ins (C:=CR) nr ndx).free) nA nB0 ((ag.ins (C:=CR) nr ndx).free) nB dR R0 aNV H H1 iE aCf ([]:RL) NA ([]:RL) bA MT ⟨dx,LA,LB,[],[],h1,s01,?_,?_,h2,h3,eF⟩ bS dH jA NV YG i Nat fV V l RL v3 bJ eX (m=aVl-i) aN2 rY aJq Ex aNV H H' fV aWw aBl Fy ((AG fV iE Ga cI8 (bGm i [] l ER))∨eZr) (_root_.EE.xa _ 0 iE [] aS Fi rfl R0 bQQ gB uN lC b2z bA (by rfl)) [by rintro m σ H'⟨i,fV,l,v3,rfl,rfl,R,sm,hI⟩,_] fCK LA1 LB1 R.ex _ kW (cds (F:=Fn fV iE cI8 aYN eZr)) SJ bE De aI dAt dWg (g9 bPh in1 bPh cdt) aZ4 cdt rG De (by rcases hI with⟨e1,e2,e3⟩|z) KO aI aNu e1 eV (i=nJ) bT9 bRz e2 AZ e3 aP aTx bGm tU pH (.inr) aZ4 in1 dR hi aWs aIX azp cXB (g9 bT h' (? in2) bT h' (? cdu)) aWP cdu aZ aFy in2 [aQL e0 h',bB e0,by(rcases hI with⟨_,_,eI⟩|⟨fa,_,_,z,_⟩),by rotate_left,dU aZN,gZ oF bF9 aUZ a t i rfl cB c2 ha dO bqb fE,cX q1 q2 (bfe hi l),dS6 aGd _ rfl _ dWg rfl _ rfl lZ bY h2 dR eE dZh bIl eA8 h2 ba5 aDk cY fa nf Kp s3 cT3 nf g3 iY H' fa cT3 fa cT3 aJ fr (abt nf c1) mN ZL fa _ H3 cJE cLI dAs gC byw hi eE aIv l (anf.fault c2 c3 c4 c5 c6 c7 s3) sm fF kF fa 1 nJ aPV ?_ dU FM bS [bY h2,aG eE (Ko≠nJ) cN bY z kW h2 aQ z az aGl Iw,jF q3 q4 q5 q6 (q2 eE),aI Lg _ rfl _ rfl _ rfl _ rfl _ rfl a _ rfl VU c2,cY p np,aH ad9,Kp s3 gW aM9 aDe np g3 UX aG2 p aM9 aDe p ((ER).take) aDe,mN ZL p _ H3,aG lz NW ((ER).take) aDe Zu iV aQ sZ aE0 by9 hz,aJ eL (azx sm i _ q5),mN dWw ln,Bi aBr H r p ln i l rfl ⟨dr,LA1,LB1,xs,M,cLI,c2.trans s3,c3,c4,kE c5,kE c6,c7.to c4 Xg kE e⟩ g3 lz sm ?_ ?_ ED hk H4 fa R4 hfa aI dAs gC bpx q3 q4 aIv l R4 sm fF (dBS fa _ _ aPV hfa) cE eI q6 eL Ej er (aTz ln) x aZ ED x ex hk H4 R4 aI dAs gC bpx q3 q4 iE (mv l i x) R4 (aki sm i hk) gB aPV dO ba6 q3 bS]] bE hF (by rcases hF with⟨rfl,hF⟩|⟨fa,kk,pp,rfl,hfa,hF⟩) SC aI cXB (f_ ?_) bL2 Lg r dr LA1 LB1 _ xs l rfl c1 c5 c6 bZf sm ?_ iX e0 H2 s2 eQX Xk yz hF lO e0 (by obtain(⟨dr',A',B',xs',M',d1,d2,d3,d4,d5,d6,d7⟩):=(anf.fault (CR:=CR) (dr:=dr) (v:=iE) c2 c3 c4 c5 c6 c7 s2).ex) aB AN dr' A' B' xs' nP d1 d5 (d3 _ aX) d7.all sm [by intros kk pp e0 H2 fa s2 nfa hfa,eQX,Xk yz hF,lO e0,aJ fr (abt nfa c1),aB AN dr LA1 LB1 fa aT ah Av] gZ cXB (f9 ?_) aXd c2 nr aV yz DS hF AN dr LA1 LB1 fa aT c1 hfa
end
end WH
end
section
namespace WH
open PySem PySem.Spec PyProof.Rows L2
noncomputable def aeb(H:Hp)(M:bM)(B:bAZ):aE:=∀b∈M,iJ o DI (B o)
section
variable{H:Hp}{M:bM}{B:bAZ}
theorem aeb.del(h:aKx){b:aA}{o:HO}(e:DI)(n:¬B o):del H M b=aO o:=gG (ub bT m (n (h b m o e))) e
variable{CE CS CP:aA}
theorem bn4(h:aKx)(n1:bRk)(n2:bCk){x:aA}{l:lF}(p:aZz):kq CP Pb x l:=dB jF dx hp h1 h2 p uJ dx hp bSM n1 bRF
theorem a7u(h:aKx)(n1:bRk)(n2:bCk){q:aA}{ls:xE}(p:aOJ q ls):yi CP Pb q ls:=eUi aHR h1 n2 (bn4 h n1 n2 z)
theorem bn5(h:aKx)(n1:bRk)(n2:bCk)(n3:aXa CS){y:aA}{s:HZ}(p:aw9 CS CP H y s):aw9 CS CP Pb y s:=dB vT dy tp r h1 h2 h3 p kF dy tp r cH bSM n3 bRF eKt
theorem a3b:∀{H:Hp}{M:bM}{B:bAZ}{CE:aA}{CS:aA}{CP:aA}(h:aKx)(n1:bRk)(n2:bCk)(n3:aXa CS)(n4:aXa CE){x:aA}{e:dI}(p:Aj),aU0 Pb e:=eXx (by intro H M B CE CS CP h n1 n2 n3 n4 x e p) aAQ dx hp sl q h1 h2 h3 ys h4 h5 p gY bSM n4 bRF eKt bR ys aHR h4 n2 xS h5 (bn5 h n1 n2 n3 z)
theorem a3c(h:aKx)(n2:bCk)(n5:dT4){x:aA}{r:fB}(p:aa8 H x r):aa8 Pb x r:=eUi aHR h1 n5 aHR z n2
theorem a3d:∀{H:Hp}{M:bM}{B:bAZ}(h:aKx){CL:aA}(n1:aXa CL)(n2:∀k,¬B uD k)(n3:∀k,¬B (.dK k))(n5:dT4){x:aA}{L:fY}(p:aOn),qv CL Pb x L:=KH XZ H M B h CL n1 n2 n3 n5 x L p fBi p1 p.ex dL cYp f p1 bSM n1 bRF aHR h3 n3 (Paired.c_ h4<|QY (by rintro _ _⟨a,q,b,c⟩) a bR q b aHR c n5) h5 h6 p.ok
end
end WH
end
section
namespace WH
open PySem PySem.Spec PyProof.Rows L2
noncomputable def ay6(l e r p:V):yF:=[uO vP l,uO xL e,uO bVU r,uO aKS p]
noncomputable def placesOf(d:cQ):WO:=dIy eH3
noncomputable def b5m(N:iQ)(sc gM:oX)(x:Str)(j:Nat):gE:=eRJ&&! dDK&&! dDL&&lT cPq&&lT dS5&&dWy&&fCU tK y.1 x bI
theorem axa:∀{N:iQ}{sc gM:oX}{x:Str}{j:Nat}(h:b5m N sc gM x j=aY),bb2 N sc gM x j:=by
 intros N sc scope x j h
 unfold b5m at h
 simp-iota only[Bool.and_eq_true,List.all_eq_true,decide_eq_true_eq,Bool.not_eq_true']at h
 rcases h with⟨⟨⟨⟨⟨⟨h1,h2⟩,h3⟩,h4⟩,h5⟩,h6⟩,h7⟩
 refine ⟨?_,h2,h3,h4,h5,h6,?_⟩
 · revert h1
   cases scope.kind<;>intros q<;>first|rfl|cases q
 · intros y hy
   have q:=h7 y hy
   revert q
   cases y.2 with
   |free=>
    cases sc.names.lookup y.1 with
    |none=>intros q;cases q
    |some k=>cases k<;>intros q<;>first|exact .inr (.inl ⟨rfl,.inl rfl⟩)|exact .inr (.inl ⟨rfl,.inr rfl⟩)|cases q
   |«local»=>intros q;exact .inl ⟨of_decide_eq_true q,rfl⟩
   |cell=>intros q;cases q
   |_=>intros q;exact .inr (.inr ⟨nofun,nofun,nofun⟩)
theorem aqz{k:Nat}{A:cM}(r:aDl):bQI:=Gx r.un can
theorem a07.ok{Pr:aM}{w:aK}{K:aL}{mg:bF}{aW:aU}{x:Str}{st:cC}{N ps:iQ}{k:Nat}{sp:Sp}{P:aA}(F:eP6)(S:bUw)(len:aSK)(OS:∀(f c:aA)(A:cM)(lG:FN)(s:bC)(H:Hp)(vs:aN)(Q:VK)(E:XK),jW eXt cDm aVM x aGr DG aVx eY t cJq aWN CX0 Pr x aGr DG dIn):eMe zE:=cN (by obtain(⟨f,oc,od,kV,doc,pm,an,c,ct,osl,lk,hcd,hk,hm,hb,hT⟩):=F.ex) aI SK f _ (bq8 lk hcd S len fCq) hm hk hb cS t h q (OS f c A lG s H vs Q E hT hr hsp) eMC
structure ci(Pr:aM)(w:aK)(CH CL CE CS CP:aA)(H:Hp)(x:aA)(L:fY)(d:cQ):aE where
 ex:∃dx l e r p xs rs,eX eGY bNN cG0 cGx d dZ dUp Aa (aa8 H) rs bXk tO aCt pA (DN Pr w H p dKF)
theorem axb:mP [qJ,vP,xL,lK,Zm,"order",jZ] aXc ave:=dW
noncomputable def lu:Str:="settle.<locals>.<lambda>"
noncomputable def jv:Pos:=sC 124 44 124 94
noncomputable def oq(M:bM)(H H':Hp):aE:=eFu
inductive xx(Pr:aM)(w:aK)(CH CL CE CS CP P:aA)(vs:aN)(H:Hp)(Q:VK)(XE:XK):aE|mk(x l e dx:aA)(fs:yF)(L:fY)(xs:bM)(es:cQ)(_:dME)(_:dLI)(_:dOP)(_:bNN)(_:cG0)(_:aHX)(_:cHj)(_:qP SV)(_:kJ y es cGn)(_:dMB)(_:dOi):aSR xx
theorem xx.out{Pr:aM}{w:aK}{CH CL CE CS CP P:aA}{vs:aN}{H:Hp}{Q:VK}{XE:XK}:aSR xx→fDR:=dAr xx.rec fDR (fun a0 a1 a2 a3 a4 a5 a6 a7 a8 a9 w_ a11 a12 a13 a14 a15 a16 a17 a18=>EE.bsn a0 a1 a2 a3 a4 a5 a6 a7 Nl a8 a9 w_ a11 a12 a13 a14 a15 a16 aT a17 a18)
theorem ag5{α:cJ}{F:lR aA α}:ZN ys aN as eK (wQ=as.length) aPl y V Xc pL p a gH as a (y=qI p) (F p a) (∃rs:bM,ys=aWa∧Ei rs as)|[],[],_,_=>Gj [] eF|[],uP,h,_=>vN|uP,[],h,_=>vN|bQ4,a::as,h,m=>fN qM p a' e1 rfl f (m 0 y rfl) eM e1 bB e1 cS rs e2 r (ag5 (ys:=ys) (as:=as) rX fR i z hz (m eG z fE)) lH (p::rs) bA qK (.jR f r)
theorem a0n{γ α β:cJ}{F:tZ}{f:γ→α}{g:γ→β}:aJi l iU γ kJ i l (F (f i) (g i)) Aa F aA8 f l.map g:=eX5 i (h i aX) (ih bG j hj (h j fW hj))
theorem ak':Pq γ cJ f (γ→V) ZN ys aN l iU γ (wQ=iS) aPl y V Xc bNG (y=f a) (ys=Zr f):=Wr dD γ f jG ys l h m _ kW IM
theorem a7v{d:cQ}{i:Nat}{en:dI}(h:Vg):aUj (bZg eG)=cQ6++[(aSn,qT i)]:=SI aJ hi aR2 aUj aQ rO h bO
theorem a_6:∀{d:cQ}(hk:bAA){i:Nat}{en:dI}(h:Vg),cy cQ6 aSn=aS:=kX XO d hk i en h RG (cy cQ6 aSn) v [aTj,aJ m (bm' e),cV aUj m,aF mL m,cS x hx hq (Qg m),cX j hj (List.mem_iff_getElem?.mp hx),aJ hx2 (List.mem_zipIdx_iff_getElem?.mp hx),aF List.getElem?_take hx2,pG hx2,wY uW lt aDm kC cYk x.2 aSn tQ aQ kB hx2 aLi uQ hq gH cYk aSn Wz h bN dQd iO e1 hk e1.trans bXE NQ bg7 lt,Yv]
theorem bn6{H:Hp}{D:aA}:ZN ps bM rs fB aYb rs kJ p ps (p≠D) (NLs aJI ps rs):=bL iX ps rs h XT NLs h cOp h bY _ aB eF r t bY hp aI (.jR ?_ (ih bG p hm (hp p fW hm))) bW (del H [D] _=_) aH (ub fD) aB r
theorem a3e:∀{L:fY}{es:cQ}(hk:cHj){l:iU bMj}(h:WS.ac5 bHW i fM (acs OO aKz bQq aKz) l),l.map VW bMp=aX3:=aJF L es hk l aG km (∀i:bMj,bQq aKz=aOF bMp) bK pQ i cG dRb (ayr hk ?_ ?_) bN iM h.1 dYD eGq SV dYD es bO bO cJZ eTg OJ km q aG m (∀i:bMj,aOF bMp∈aKz) eM1 aJ r (ao7 (lt:=keyLt) bEM dUM a0j (m j) (m i)) bO
section
variable{Pr:aM}{w:aK}{K:aL}{mg:bF}{aW:aU}
theorem getD_at{α:cJ}{xs:eK}{i:Nat}(x:α)(h:i<dF):gH xs (bGn i x):=bA2 (FW h)
theorem bff:∀{Pr:aM}{w:aK}{K:aL}{mg:bF}{aW:aU}{CH CL CE CS CP P:aA}(F:aI6 bEa ave aXc P)(B:fQ)(ap:jU (CE≠CH) (CS≠CH) (CP≠CH) (CL≠CH))(TH:zL)(TE:xI)(gu:ePQ),dAb bEa aXc xx:=dKK cDK K mg aW P F B ap TH TE gu axb (by obtain⟨x,l,e,dx,fs,L,xs,es,rfl,_⟩:=h) dAA _ (by obtain⟨x,l,e,dx,fs,L,xs,es,rfl,hx,hfs,hL,he,hes,hk,hn,hh,a7w,k⟩:=h) HF axb.nd aI oN PH Xu 4 aB1 KC 2 lK 3 DU CY gu fU aCI gK Ws (a0e (k:=4) (q:=lu) (x:=jZ) (j:=6) (P:=P) hr nd bF4 bZh hT rfl cS1 aNI jC cKc cKd Fk bSv 4 aCI bSv 2) Hn bPX eXz bSv 2 eXz bSv 4 RI aw3 aJ6 jY Nu DU (a7j bSY jY Fk We At At HI rfl) EF a0 b0 c0 d0 rfl hfs Ms aG hz1 NT Er aQ4 qP dF a4_ hn hxl HE WI e he aJo (xu (te:=bNE cN6 (aex (bmu K (ajn 3) Bz) atb) (jq CL vs H1 Q E0)) (xs:=PU) aPg y pL p en bP3 (y=iW) eEX aRN dB (by rintro i y H1 H2 sx⟨p,en,h1,h2,h3⟩) bTQ p en h2 (bj0 sx aX) hD bAl aYf ?_ ?_) eRY ZT aXk dz aPn dJ kD ⟨_,rfl,_,rfl,z,CE,dz,_,_,rfl,aQ0,iZ,jD,rfl,l,L,hp,IT,rfl,aJQ,bOH,bCA hh,?_⟩ QR H4 y s4 ny r4 ZC s4 Fh y en hen ?_ nQ ps q1 q2 q3 r4 dR yD aRx dB pQ z (WH.awu fE fE fE) bR ps aNl ub pP q1 (bn6 q2 ?_) lJ p hm z fO [fE1 rs hrs (ag5 (F:=eGQ eEX H1) (ys:=ys) (as:=es) aKt hxl) EF p en h1 h2 h3 bKA hy aB bTQ p en h2 sf,fFa hrl hrs dJd bK Io a7w z c' z1 z2 jB sQ bAd z Qi c' z1 z2 nF bR c' aHo ss bAd z2 oP aQZ SV,jG c2 H2 sp ti,gQ sP eVC,bD neP Xf DI aZA pY P bJq y aGh oT oT aL7 a7w t c' dA y t z sE z aB (no _ rfl) P1 cWZ H1 bK aL7 a7w t c' jK xD Qh c' t _ xD,eI3,aG bfg dY1 dWY,BF eWK anc ((aKz).take) gG aAi eF kI i ks H3 h3 cB h3.1 aMf [eWt,_,Ek ciq hri rs aHh rs hrl hi,Ek axc hxi xs aHh xs hxl hi,bBW aas hei es,gQ cdw (bo hrs hri hei),Ro dz hp sl q g1 g2 cPF,aJb D3 cQX hys e3 kE bK7 neP he aQZ,yG z3 kE bK7 neP g1 aQ0 ⟨_,rfl,_,rfl,D,_,_,_,rfl,rfl,gN D3,aCp Wz hri,_,rfl,_,rfl,e,_,_,_,rfl,rfl,gN e3,aCp bJs fO,_,CE,dz,_,_,rfl,z3,iZ,jD,rfl,FA,bG t ht eO dQ1 ht⟩,eVw ((aKz).take) aOF aas,aH kt,dR mk (∀{v:V}{k:Oz}{Ha Hb:Hp},cA (ag Ha Hb) (anc Ha v k) (anc Hb v k)) (fun{v k Ha Hb}ss⟨t,r,h1,h2,h3⟩=>(bTQ t r bAd h2 ss)) aZV xS hks (mk (ag.push ht) z) yA t aPV ah,dG ps r1 r2 cdw,yG r1' cQX r1 bR ps DH ht r1' cK4 r2,lJ p u z,xD] [fFe,eUo be6,eTQ,CA a0o (a3e hk hol) s4 oB gW aQd hr2 r4 BT H3 r aQd r aQd ah,aS8 ZE r aQd H4 s4 r4,aDx S Xf aIF aZA uF H4 aI3 z no Yh (sP (bfg z no) z) x4 S Ho Ef,dR ti4 (ar' P lu jv c2 H4) aT Yh aUk Yh aMf aOd x CH dx _ x4 pV qE aXH,Jj h5 aBN x _ H5,eIH sx5 H4 H5 h5 x5 b0,eN r5 (sx5.keep x4 r4 MN) S5 bTY sx5 (S z no),oQ nx Xf aIF bUT pY x bJq y aZ6 ll (bZi=SV) Tl aUa hol.1 lz rQ bZi Er aQ4 qP bZi a4_ hn ll,fEP r5 D2 hD2 bGn s6 dF hxl e sM s6 (S5 aQZ Ef (nx aQZ aVY)) [fFq H6 ys6 s6 cdx M6 e6 dXz M6.1 M6.2 AK x5 h7 H7,eIH sx7 H6 H7 h7 x7 cI D2,ZZ x6 AK x5 r7 (sx7.keep x6 AK r5 MN) S7 bTY sx7 AK (S5 z no n) D27 (sx7.keep x6 cdx MN),fEP r7 D3 hD3 rs.getD s8 aAI hrl D sM s8 (S7 hys Ef (nx hys aVY)) [fFq H8 ys8 s8 cdy M8 e8 dXA M8.1 M8.2 Az x7 h9 H9,eVI sx9 H8 H9 h9 x9 d0,ZZ x8 Az x7 D29 (sx9.keep x8 Az D27 MN) D39 (sx9.keep x8 cdy MN) S9 bTY sx9 Az (S7 z no n),QR pp H10 npp s10 cdz dO5 aIa x9,Jj h11 Mv H10 x H11,eVI a_7 H10 H11 h11 x11 cI pp,gO x10 aIa x9 b5o (DN Pr w H11 pp []) kX eW1 cdz fDV (a_7.keep x10 z3 MN),bDI bfh eO0 D29 bu5 eO0 D39 S11 bTY a_7 aIa (S9 z no n),zG only (aeb H1 aWB bT o (eR3∨eNf)) kX jG b hb o eo fO all bUc (del H1 aWB b=aO o) (uF H11∧pY pp) YF b o eo bL cV del eo pG eo xG bX eo uW nb eM nb aJ z9 bOv sx9 Az bOv sx7 AK bOv sx5 Yh (sP nb.2 eo) dL bOv a_7 aIa z9 dMk H2n bNk aHT pp H11 Rq cT0 (fun{H'}sx b o eo=>GT ((all eo).2) ((all eo).1)) nI JY C aA (C≠CH) (∀d f,aOh (∃d' f',ePW UG CH d' f') (∃ps,ePW aNi)) (fun{C}n d f z=>Am),bD nO (∀{o:HO},cA bUT aZA aOh eR3 eNf) (fun{o}n1 n2 z=>bK (by rcases z with⟨_,_,z⟩|⟨_,z⟩) fP Ch z aB Dr n1 z Ch z aB (n2 _ z)) cd1 bHQ aYm cT0 xS hes (a3b only (nI vY ap.2) aSE (nI ap.2.1) (nI ap.1) dRY),eN cd2 xS hrs (a3c only aSE aSE z) cd3 (a3d only (nI ap.2.2.2) aSE aSE aSE aJQ),bD bu6 (Paired aYm cT0 (ol.map cQd) aX3) tQ hM a0o a0n ol eW4 cd1 hxl cd4 Aa (aa8 (del H1 aWB)) bLT cQe ((aX3).map) bT en aCt IT tQ FU a0o mL a0n ol eW4 cd2 hrl,aJ kS (hk.perm dTA),OC lS aUa dTA eQK dXz cQd bfh,aF eQK dXA cQe bu5,mN bLT cQd x2,mN bLT cQe r2,FX hds aX3 ds,Ip cos p11 MF z H11 pp (a0l Pr w pp z) bTc _ z e b5o aT z e,aG nl Li b aA ys aN MA H11 gW ys pY pp YF b ys z cFL z p11,kZ x2l bu6,Vj bLE x11 D2 gN bfh (wd (K:=K) (a:=D2) (xs:=x2.map qI) Gb (ab5 sO iL l iL e iL D aJq σ) aHT pp H11 (DN Pr w H' pp dVm) cH bT6 bBo gG aAi b5o QE aHk i sx eJS ?_ ?_) [cZ4 i H' v3 v6 sx dn,ZT,aXk dz aVC bu6,dJ NX,bNV s12 vX JG H' H12,CA x12 aHn eNc z12 eEy g1 h12 (NL H12 hp IT) eEy g2,Vb ⟨_,rfl,_,rfl,x,CH,dx,_,_,rfl,x12,pV,qE,rfl,_,rfl,z,CE,dz,_,_,rfl,z12,iZ,jD,rfl,hp,_,rfl,aW5 h12⟩ t1 ht1 s13 Yg t13 iY H12 t1 Yg t1 Yg kP H12 t1 Yg H13,fCZ CE z12 iZ jD bRd iY H13 t2 bRd t2 bRd kP H13 t2 bRd H14,KM b5r (s12.trans s13) s14,dR pl qP bV dVm qS aUj cE cK aLG sZ aB (b_d hn lS) bHn pp t2 aSn rfl (dn.mono b5r) eLN dO bqn pl,aZO H15 s15 b5s pD bTj Wa aDQ s15 cB b5r dYo,aF (ur _ (a_6 kS hen)) b5s,aH (a7v hen),aB b5s] [by rintro σ H'⟨_,sx,dn⟩,bDG x2l dn,aJ ss (H2n sx),zX (k H' ?_ fF jA c2 ?_ ⟨dx,l,D2,D3,pp,x2,r2,?_,cd3.mono ss,eJS,PZ bu6 ss,GT (nl bu5) bu5,PZ cd4 ss,dn⟩) bTT dJ (ss b o ?_) aH (ub nb) aB cLq [eTk ti4.1,eK3],oS eTk ti4.2 eK3 aB eNc]]]]]
end
end WH
end
section
namespace L2
open PySem PySem.Spec PyProof.Rows
section
variable{σ:St}{H:Hp}{D:yO}{g:TG}{tb:TS}{K:aL}{a b:aA}{xs ys:aN}
theorem au8(Pv:aDY)(h0:aJL)(hl:wQ=dF)(hq:aYk aO9 (DQ∧bTK))(hs:∀i x y σ H T,qQ VI Xc aNa aHA dJy dXq)(hd:bCp):aSQ bC3:=dKp AN xs ys cAX (ys[i]) gY ((cEI hq).1) ((cEI hq).2) aHB dO FW _ VX xs ys ((bNO hq).1) ((bNO hq).2) gB lB v Qx T x1 y1 rfl hT rfl q1 q2 y
end
end L2
namespace WH
open PySem PySem.Spec PyProof.Rows L2
theorem afa:DX [Cc,bD0,lK,Bz,aFE,jZ] Cc acg:=dW
theorem bu7{t u:aR}(h:tk t=tk u):t=u:=bL cV tk h aI cDo Mo x y h bTh
noncomputable def bn8(kvs:jQ)(l:RL):aE:=∀h:aR,aEc h=Fp (gh l h=0) KA cT7
theorem bn8.snoc:∀{kvs:jQ}{l:RL}(r:bn8 kvs l)(x:aA0 dI),bn8 aGD tk Fs gR (cZ (gh l Fs)+1) aRt:=WG jG kvs l r x bE h aH ab3 aG ec (gh aRt h=cT7+fZ (Fs==h) 1 0) qS gh cE aEX fA bEQ oT oY cG vL Fs h jK bS aG e2 (gh aRt h=cT7) uE ec mF e aQ eC oO e oU (bu7 z) e2 jN r
noncomputable def afb(l:RL):WO:=aB7 ((Fs,aH7),bCr)
theorem axd:qG l RL e dI (CJ (cy (afb l) (pA,yL))=(aBO ((aBl).reverse.any) (y.head==pA&&y.num==yL))):=Wr dD l e FU qc List.any_reverse aV afb aQ OI OI
section
variable{P:aM}{w:aK}{K:aL}{mg:bF}{aW:aU}
theorem aq0:∀{P:aM}{w:aK}{K:aL}{mg:bF}{aW:aU}{CR CE CS CP:aA}(F:eMF)(T3:aJu)(B:fQ)(TR:cPD)(TE:xI)(a3f:eM4),eNX:=bCS aOT P CR CE CS CP F T3 B TR TE a3f afa r dr LA LB fV xs l [pW E,by(obtain⟨r,dr,LA,LB,fV,xs,l,rfl,hrd,hA,hB,hes,sm,k0,k1⟩:=h),HF afa.nd,aI oN AA 1 aan JH Yo AI FL dR9 eYN Hq 4 aw3 JH cIC jY jY Lr AI aJz (ai dR9 ZI aBi (abd (bnx bSY dYA (pv 4))) io aOE T3.a4t rZ aBi Tg CY a3f KN dWI io aOE T3.a06 rZ (a7j bSY oG dYA agp rfl)) gf,bLO hes,aJ l3 aE7,dD al hal,Sx s1 tP hal a1 En al tP al tP rE al tP H1,aI aOO r CR dr kY hrd OZ QO LA kY hA,aG nal bUc DI pY al YF b o z (ay z hal),cFY (jo (K:=K) (a:=LA) (xs:=PU) Gb (agu aJq iL al aS aS σ) aHT al H1 wF kvs aO2 al cEe (bn8 kvs (aFe i)) cH bT6 bBo Mt [] a1 lB aN5 pQ h aAi QE aHk i sx bRx hA kY hA ?_ ?_) [by rintro i v σ H' hv⟨⟨v2,v3,rfl⟩,sx,kvs,hkv,hkl,hC⟩,fFr,CA il iO hy z1 bRx g1 aQ0 h1 bKI QI bRx g2 bOH,dP fA7 z1 h1 t ht,gO s2 oB aJK ht t2 iY H' t aJK t aI4 (tk QI) bCU,aSp ZL t aJK t2,Gd a2 mU hkv gv hC QI,eTO al aJt a2 (mw.t a2 t2) gv,aG eg ((eLJ Fp (gh aDb QI=0) aO qT eIP)=qT eIP) Ax oY bS (by rfl),aH eg,zX fCl al (ags.t a2 t2 aSm CV qP oK aB (bx6 l3 hkl il)) cH bTj ?_ gJ aRd ah bTT _ jV nb aB mU dYo bOh HG wc dO bqa hkl,qB bN (hC.snoc y) aQ rO hy aB aP] (by rintro σ H2⟨⟨v2,v3,rfl⟩,sx,kvs,hkv,hkl,hC⟩) bDG hxl hC aF cK hkl iC kn H3 nkn s3 dn3 aG S3 rJ H3 aPe eo kE bRx eo cLq gO a3 kE hkv bn9 bUc DI pY kn YF b o z (ay GT (nal z) kY z nkn) aJ nak (ay hkv nkn) aKF ⟨_,rfl,r,CR,dr,_,_,rfl,dUf,OZ,QO,rfl,_,rfl,r,CR,dr,_,_,rfl,dUf,OZ,QO,rfl,LA,LB,_,_,rfl,sM S3 hA,sM S3 hB,?_⟩ (au8 (K:=K) (a:=LA) (b:=LB) (xs:=PU) (ys:=cTU) JC i jU (ab4 aJq iL al iL kn σ) aHT kn H3 (DN P w H' kn bTx) (dEY l [] l=dEY l aAh NA aDb (l.drop i)) gY cYe bBo dn3 rfl fC QY aHk i sy gN bT7 hA gN bT7 hB ?_ ?_) [by rintro i v u σ H' U hv hu2⟨⟨v2,v3,v5,rfl⟩,sy,dn,hW⟩hU,fFr,aFX b1 hb1 ar_ hu2,dA kB hy hb1,So (y.1=b1) zV hb1,gO il iO hy dr2 (l.drop i=y::dRC) cH1 il ((bXo hy).2),dA dr2 ai2 hW,aI NX,aJ s4 oB eCw hU,UA ZL U eCw H4 s4,aG B4 bUc DI uF H4 YF b o eo zC bT7 eo,aJ z4 (B4 g1),aG h4 (NL H4 hp QI) (B4 g2),aJ a4 zC lW sy nak a3,Vb fA7 z4 h4 t ht s5 aJK t5 iY H4 t aJK t aJK aBN t aJK H5,Vb PP _ rfl z CE dz _ _ rfl wJ z4 iZ jD rfl FA ?_ t2 ht2 s6 aEA t6 iY H5 t2 aEA t2 aEA kP H5 t2 aEA H6,KM sA (s4.trans s5) s6,dR S6 rJ H6 aPe eo AK (s5 _ _ (B4 eo)) cID kn t2 bS1 (dn.mono sA) bR t t6 cMX,aH (axd aDb y.2),zX cGm bE c1 aF iF c1 hW eGa aB fCz 2 [bE c1,aF eC c1 hW,aG tk6 aBu H6 aI4 (tk QI) gG a0f cMX,gO a6 AK wJ a4 cp (dYs≠0) jX aV gh bE z0 bN (aTc z0) aG m xA nM Ct (Fs==QI) dSU (Qn hy) aX aF aP m bX m,aJ gv (hC QI),aF eC cp gv,aI ⟨_,rfl,z,CE,dz,_,_,rfl,dWu,iZ,jD,rfl,_,rfl,_,rfl,al,_,rfl,tQ hM gv mw.t a6 tk6,bHE,dYs,rfl,?_⟩,Fg cGm bE c2 AR c3 (bUO=aY) bA bR8 q bUO dH jL aF eC c3 hW eGa aB fCz 3 [bE c2,aBk c3 bUO bA bR8 q bUO (by rfl) dH,aF iF c3 hW,Vb ⟨_,rfl,_,rfl,_,rfl,z,CE,dz,_,_,rfl,dWu,iZ,jD,rfl,FA,?_⟩ t3 ht3 s7 aEA t7 iY H6 t3 aEA t3 aEA kP H6 t3 aEA H7,bD kl qP bV bTx qS afb aQ cK sZ aB (by4 l3) vn0 (cy bTx bS1=aS) bSc (cy bTx bS1) v bN (axd aDb y.2) dH,aI bHn kn t3 bS1 rfl (dn.mono (sA.trans s7)) bR t t7 KG cMX dO bqn kl,aZO H8 s8 dn8 aWC cYe Wa aDQ s8 KG WA aDQ sy eo,wY aF aJn vn0 dn8 aQ rO hy XT afb dn8 DS lN dn8,dH]]] (by rintro σ H'⟨_,sy,dn,hW⟩) uB cK hxl aTx hW aI (k0 DE hW H' aPe eo bT7 eo)]
end
end WH
end
section
namespace WH
open PySem PySem.Spec PyProof.Rows L2
theorem axe:bTm aht:=aDW
inductive nu(Pr:aM)(w:aK)(CH CL CE CS CP:aA)(vs:aN)(H:Hp)(Q:VK)(XE:XK):aE|mk p dx(_:aNK)(_:dMl)(_:dOM):wB nu
theorem nu.out{Pr:aM}{w:aK}{CH CL CE CS CP:aA}{vs:aN}{H:Hp}{Q:VK}{XE:XK}:BV nu eFC:=BX nu.rec eFC aYn
theorem ay7:Vq IW jZ jZ aj9:=dW
inductive m8(Pr:aM)(w:aK)(CH CL CE CS CP:aA)(vs:aN)(H:Hp)(Q:VK)(XE:XK):aE|mk(x:aA)(i:Nat)(L:fY)(d:cQ)(_:aOG)(_:nE)(_:aIJ HH):wB m8
theorem ay8:mP aX4 aX4 aj_:=dW
inductive ue(Pr:aM)(w:aK)(CH CL CE CS CP:aA)(vs:aN)(H:Hp)(Q:VK)(XE:XK):aE|mk(x:aA)(i m:Nat)(L:fY)(d:cQ)(_:dNd)(_:nE)(_:BR bLX):wB ue
theorem ue.out{Pr:aM}{w:aK}{CH CL CE CS CP:aA}{vs:aN}{H:Hp}{Q:VK}{XE:XK}:BV ue fCk:=BX ue.rec fCk bJD aVG (EE.ao a5 a6 a7)
section
variable{Pr:aM}{w:aK}{K:aL}{mg:bF}{aW:aU}{CH CL CE CS CP:aA}
theorem ay9:∀{Pr:aM}{w:aK}{K:aL}{mg:bF}{aW:aU}{CH:aA}{CL:aA}{CE:aA}{CS:aA}{CP:aA}(F:eP3 CH)(T:zL)(o8:cV3 CL),dJ3 CH eXm nu:=Ts aSP T o8 axe p dx [pW E,EF p dx rfl hp k h,dJ ZQ RI cPI cUn RI aw3,fFL l nll CL,yG p1 cB s01 hp aG0 CH p1 iB,Jj h2 KB p _ H2,bD sx2 cPr p DK h2 OW p2 Ay H2 Tv [((vP:Str),BK)] aPm h2,fEd e ne p2 h3 DA H2 e H3,zG e2 Pj H2 e ah sx3 (b9 p H2 H3) eDk h3 p3 Ay H3 Tv [uO vP BK,dWr] aPm h3 e3 (H3 e=aO sK) ePN h3 ne p2,fEd r nr p3 h4 DA H3 r H4,oQ sx4 (b9 p H3 H4) eDk h4 p4 Ay H4 Tv [uO vP BK,dWr,uO bVU BM] aPm h4 r4 (H4 r=aO sK) ePN h4 nr p3,QR pp H5 npp s5 dn5 aG0 CH wJ p4 aX,Jj h6 Mv H5 p H6,zG sx6 (b9 p H5 H6) DK h6 OW p6 Ay H6 Tv dNn cI pp aPm h6 sF Xf aIF pY p bOJ aI3 eo nb aDQ sx6 wJ aDQ sx4 aDQ sx3 aDQ sx2 eo np Xf aIF (∀d f,o≠aM5 CH) pY p (fun{b o}eo no z=>aYc),MT (k H6 Wa (sF cB s01 eo nb) ⟨dx,l,e,r,pp,[],[],p6,eO Ua dl fm q [] [] yB (sF hl ?_) eLO hf eLO hq eF ?_ mJ,bAt (ii e3 p3 MN) wJ lW sx4 (ii e3 p3 MN) e3,eF,bAt (ii r4 p4 MN) wJ r4,eF,?_⟩) Oo dL aX eQp,jK aB eQ8 eW1 dn5 _ fDV bAt (ii z3 wJ p4 MN) z3]
theorem a3g(F:eGv)(B:fQ)(TH:zL):eOZ:=bK6 aYo ay7 aK0 x i L d rfl h [Cd x i L d rfl hH k h,by(obtain(⟨dx,l,e,r,p,xs,rs,hx,hL,he,hes,hrr,hrs,hd⟩):=bZj),gZ oF IX (qa ar5 (pv 1) cLR Jw) ⟨_,rfl,_,rfl,x,CH,dx,_,_,rfl,hx,pV,qE,rfl,_,_,rfl,oP he,_,_,rfl,rfl,?_⟩,bTu hes,aZ]
theorem a_8:∀{d:cQ}{i m:Nat}{en:dI}(h:Vg),bLX=(bKO cD0 m m aMg):=aJF d i m en aV bGp dH
theorem a3h:∀{Pr:aM}{w:aK}{K:aL}{mg:bF}{aW:aU}{CH:aA}{CL:aA}{CE:aA}{CS:aA}{CP:aA}(F:eMb)(B:fQ)(TH:zL)(TE:xI)(jz:eOZ),Kj bWl 2 aX4 ue:=UL bVq jz ay8 Ro x i m L d rfl h [pW E,aFI x i m L d rfl hH k h,aNW,dJ oF IX cEJ Pc jz cYD jC MI aJ9 fU,JU GC _ rfl _ rfl x i L d rfl hH _ rfl lZ [bE c1,aQL il c1,fEl,Ek aas hei d (d[i]),cFH dz hp cPF,_,fD4 (a_8 hei),wY bE c2 dR e2 (1≤m) dYv c2 bhc ⟨_,rfl,x,CH,dx,_,_,rfl,hx,pV,qE,rfl,_,rfl,e,_,_,_,rfl,rfl,bAl,cPx,_,CE,dz,_,_,rfl,g1,iZ,jD,rfl,_,_,rfl,bO9,_,_,rfl,rfl,?_⟩ bTu g5 aZ,bE c2,rM] bE c1 AR il HH Ag c1 eV (bLX=bI) qS bGp oY dE (by rfl) bS aZ]
end
end WH
end
section
namespace WH
open PySem PySem.Spec PyProof.Rows L2
theorem agf{α:cJ}{p:bO7}:fBs (r.isSome=p a) (gD rs.filterMap id=eBG)|[],[],_,_=>rfl|[],uP,h,_=>vN|uP,[],h,_=>vN|r::rs,a::l,h,m=>bL aJ ih (agf (p:=p) (rs:=rs) (l:=l) rX eJx m) cS a' e q (m 0 r rfl) Oo
theorem afc:Vq Rt EB lK EB ach:=dW
inductive kh(Pr:aM)(w:aK)(CH CL CE CS CP:aA)(vs:aN)(H:Hp)(Q:VK)(XE:XK):aE|mk(x a:aA)(L:fY)(d:cQ)(t:aR)(_:QP)(_:nE)(_:mH)(_:ZR)(_:cZF):wB kh
theorem kh.out{Pr:aM}{w:aK}{CH CL CE CS CP:aA}{vs:aN}{H:Hp}{Q:VK}{XE:XK}:BV kh bUn cZF:=BX kh.rec bUn cZF bVj
theorem ag6:aNb EB "asked" CM IW EB ado:=dW
inductive ph(Pr:aM)(w:aK)(CH CL CE CS CP:aA)(vs:aN)(H:Hp)(Q:VK)(XE:XK):aE|mk(x a:aA)(L:fY)(d:cQ)(t:aR)(_:QP)(_:nE)(_:mH)(_:Ut)(_:ZR)(_:eNh):wB ph
theorem ph.out{Pr:aM}{w:aK}{CH CL CE CS CP:aA}{vs:aN}{H:Hp}{Q:VK}{XE:XK}:BV ph dH6 zA QP nE mH Ut ZR eNh:=wE bA (by cases h with|mk a0 a1 a2 a3 a4 a5 a6 a7 a8 a9 w_=>rw[aB (bXN a0 a1 a2 a3 a4 yB a5 a6 a7 a8 a9 w_)])
theorem bj8:cWN fY PB (cYX=mQ (dEI L a b) 0):=WG lM L a b (by rcases akg L a b with⟨o1,o2,_⟩|⟨o1,o2⟩|⟨o1,o2,_⟩) Bj Qh o1 o2 _ bS pE o1 o2 bB o2 aQ o1 uv (by rfl) Qh o1 o2 _ bS
theorem picked_eq:∀{α:cJ}{g:aGI α bJ}{rs:Gh}{l:eK}(h:aAI=iS)(m:eOT bNG (r=g i a)),eA5 eMn l.zipIdx.filterMap:=wA sY α g rs l h m pO rs eMn l.zipIdx.map cRQ aQ kB bE0 Af rW rs r dH aZ
theorem amp{d:cQ}{f:aJd dI}{rs:Gh}(h:aAI=iH)(m:eOT DD en d en (r=dW3)):eA5 (vn dIv f):=Wq (picked_eq (g:=vE en dW3) h m) mW vn Si33.placesOf (by rw[mL,←List.filterMap_eq_map,List.filterMap_filter]) pB
theorem a3i{X:Cx}{pos:Pos}(K:aL)(n:Nat){es:mD}{k:Nat}{t:TGs}(hc:KP)(h:eDl)(hK:autoParam (aDq) EE.autr._auto_1)(hn:autoParam (eDr) EE.autr._auto_1)(hst:autoParam (eBn) EE.autr._auto_1):eUu (b3n K n t):=aQO (qm hc h hn hst)
section
variable{K:aL}{a:aA}{xs:aN}{g:TG}{te:TE}{tt:TT}{vs:aR}{σ:cO}{H1:Hp}{D:aA}{Qd:NB}
theorem bce(R:aJR)(OV:aED)(hD:aIO)(hl:aEv)(hz:NT)(hs:∀i x H T,jW VI aVs aHA ZW C cF6 xT y H4 (ag aRV H4) cNj cTW aUP aV9 Ki aRV cIZ)(hd:bUP dF):bVi aJP aZu:=cZt a2h bL (by rintro(i)H x H' _ _⟨T,z,_,hT,e,_⟩) aH e xD gT (by rintro(i)H x H' hi s⟨T,z,e1,hT,e2,q⟩hD' C hC) LP e1 e2 (hs i z H T dNQ q s hT C hC)
end
section
variable{Pr:aM}{w:aK}{K:aL}{mg:bF}{aW:aU}{CH CL CE CS CP:aA}
theorem aq1:∀{Pr:aM}{w:aK}{K:aL}{mg:bF}{aW:aU}{CH:aA}{CL:aA}{CE:aA}{CS:aA}{CP:aA}(F:eHW)(B:fQ)(TH:zL)(TE:xI),cB4 bWh EB kh:=eKe TE afc afc.nd cGK aI oF IX MI bBj Yo lK 2 AI yX Na bQy fU jC bUQ hx e he cMR aOs aic PU eUE (IT==t) aX9 hD he Vi qP dF a4_ hn hxl aC5 s1 ZT aXk dz aPn dJ kD ⟨_,rfl,z,CE,dz,_,_,rfl,aQ0,iZ,jD,rfl,_,rfl,hp,a,_,_,rfl,rfl,bOH,ZU,_,rfl,lZ⟩ cJR aI bA0 jA en hen GX Yx aR0 ps eAq eWX (pA==t) bS
theorem atp:∀{Pr:aM}{w:aK}{K:aL}{mg:bF}{aW:aU}{CH:aA}{CL:aA}{CE:aA}{CS:aA}{CP:aA}(F:eHV)(B:fQ)(TH:zL)(gu:ePQ),Lk bWf 5 EB ph:=Xi aQs F B TH gu ag6 a t [aOV x a L d t rfl hH ha ht hn,dAT ag6.nd,Yq Xu 2 CY gu jY fU MI bBj Yo CM 3 DU cOu bje jC gK ⟨_,rfl,x,CH,dx,_,_,rfl,hx,pV,qE,rfl,_,rfl,l,L,a,t,rfl,hL,ha,ht,?_⟩,eG3,aJ hy hy.row,bUQ Ho r cLs,dRX cIJ aic eUE cHk IT aX9 cLs aC5 s2 bVE oE kD cFv z y _ ((dRZ).mono s2) (hy.mono s2) bj8 aI lZ kG bE c aB bA0 bR en hen c.symm bE c wT cU8 eAq eWX cHk pA wT]
end
theorem ay_:mP cEq cEq aj':=dW
inductive uf(vs:aN)(H:Hp)(Q:VK)(XE:XK):aE|mk(a b:aA)(t u:aR)(_:cGC)(_:mH)(_:aXY)(_:dK9):BQ uf
theorem uf.out{vs:aN}{H:Hp}{Q:VK}{XE:XK}:KF uf fA9:=RB uf.rec fA9 cZe
theorem aa9:eRG yg:=dW
inductive k_(f:cR5)(Pr:aM)(w:aK)(CH CL CE CS CP:aA)(vs:aN)(H:Hp)(Q:VK)(XE:XK):aE|mk(x a:aA)(L:fY)(d:cQ)(t:aR)(_:QP)(_:nE)(_:mH)(_:ZR)(_:cZT):fCp
theorem k_.out{f:cR5}{Pr:aM}{w:aK}{CH CL CE CS CP:aA}{vs:aN}{H:Hp}{Q:VK}{XE:XK}:fCp→bUn cZT:=@k_.rec f Pr w CH CL CE CS CP vs H Q XE eZ bUn cZT bVj
theorem acw:eRG z_:=dW
theorem a7x(t u:aR):decide (Cm cRL=u)=u.isSuffixOf t:=eId List.isSuffixOf_iff_suffix FJ bY h hM h aBJ List.drop_suffix bY h aB oU (List.suffix_iff_eq_drop.mp h)
theorem atq(t u:aR):decide (bEC Rn=u)=u.isPrefixOf t:=eId List.isPrefixOf_iff_prefix jB bO bY h aB oU (List.prefix_iff_eq_take.mp h)
theorem al1:∀{H:Hp}{z:aA}{L:fY}{h:PB}(r:aa8 H z aCt h),∃q vs,oM z vV (tM::vs)∧MB q aUH h:=cN iC H z L h r aB3 ps r cV aLk h2 aRl h2 a b tI bS mG
section
variable{Pr:aM}{w:aK}{K:aL}{mg:bF}{aW:aU}{CH CL CE CS CP:aA}
theorem a3j:bVr Pr ePn B fQ cW3:=Ap bVc Pr B ay_ a b t u [pW E,aFI a b t u rfl ha hb k h,dJ oF IX (qa Na aXQ (f8 cZn (h_ akt Ng cLQ)) fU Jw),aSr ⟨_,rfl,_,rfl,_,_,rfl,aNM,_,rfl,_,_,rfl,oP hb,_,_,rfl,rfl,_,_,rfl,_,rfl,a,_,rfl,He,?_⟩,aC2,LC fZ (eHl>0) eHl 0 aVS cRL eDs bzi b0_,aQ e1 agw,aJ s1 oB gW bKv cRL hq,oE cID q b u ah kY hb a7x,AQ]
theorem ala:∀{Pr:aM}{w:aK}{K:aL}{mg:bF}{aW:aU}{CH:aA}{CL:aA}{CE:aA}{CS:aA}{CP:aA}(F:eHS)(B:fQ)(TH:zL),EM bWB IW Zk eX6 t.isPrefixOf:=Xi aSP B TH aa9 a t [dPM aa9.nd,bLO hrs,fBV (aam yX Na (gq (bi1 K) aSs 3 qb (f8 cTV fU)) fU),eT6,aGA eYZ t.isPrefixOf [fCb,bVE,dZI,eVH,eVq,mN bSK JG H2,dAP kD ⟨_,rfl,z,_,_,_,rfl,rfl,bO3,nR,_,rfl,_,_,rfl,oP q3,_,rfl,q,_,rfl,cKH,?_⟩ az aqk,aJ s3 oB gW aBb aNy nJ hy,oE aP7 y a _ t rfl ah kE q3 _ rfl atq,aI lZ,kG bE c aB eRA,bE c,aZ] cU8 eUx t.isPrefixOf AQ]
theorem ang:∀{Pr:aM}{w:aK}{K:aL}{mg:bF}{aW:aU}{CH:aA}{CL:aA}{CE:aA}{CS:aA}{CP:aA}(F:eHR)(B:fQ)(TH:zL)(afd:cW3),wS bWA 2 cD6 eX6 t.isSuffixOf:=eKe afd acw acw.nd bLO hrs fBV (aam (i8 CY afd aSs 3 fU)) eT6 cJQ eYZ t.isSuffixOf fCb bVE dZI eVH eVq mN bSK JG H2 Bb kD ⟨_,rfl,z,_,_,_,rfl,rfl,bO3,nR,_,rfl,q,a,_,t,rfl,q2,q3,?_⟩ H3 s3 wX (g9 aB4 ?_ aB4 ?_) dU aB eRA aZ cU8 eUx t.isSuffixOf AQ
end
end WH
end
section
namespace WH
open PySem PySem.Spec PyProof.Rows L2
noncomputable def yq(rs:aR):aF1 Nat:=YR rs.eraseDups.map r r cWp
noncomputable def l9(rs:aR):sT:=bJN yq rs (DP x.1,qT x.2)
theorem bn'{α:cJ}{p:YV eK}(h0:p [])(hs:kQ l a (p l) (p aPX))(l:eK):p l:=bK eV (p l.reverse.reverse) aBI l.reverse aB h0 a r bS GX
theorem alb{α:cJ} [Pk](l:eK)(a:α):a∈bEn↔a∈l:=aTi
theorem bfi(l:RC):eHh:=cN aI (bn' (p:=AV l RC eHh) rfl pX l a ih l) aQ bGq dE2 aV bGr dRS a bO r eV ((List.filterMap tL x [aO r])=[r]) rfl aMb aP bGq ih aV bGr bO
noncomputable def gx(L:fY)(d:cQ):aR:=Lo d.flatMap aBq bAY 1
theorem bj9(L:fY):∀d:cQ,gx L d=(nM ((Lo d.map aLo bAY).filterMap) x):=eD0 d e d XT gx ih cE SX rC ih bRf bAY a (by rfl)
theorem bu8:qG L fY d cQ eBW aX8 cEw:=KW dD L d mW bZk yq EH bfi bj9 bOM dD r hr0 (by clear hr0) pB hM aUf bW (List.countP cG3 (aLo bAY==aO r) d=List.countP Uu x r (gx L d)) dSZ d e AS e d ih XT gx ih (by rw[List.countP_cons,SX,bY4,←ih]) Mx bAY cG a r tI cG rF
theorem a3k:eN3 (bTo bBR r=aX5 (r∈rs) cWp):=kK dD rs r bCt aH mL aG go (∀l:aR,bTo aB7 eNp dE1 r=aX5 (r∈l) cWp) Fv l dSZ l a AS a l ih aH rC bQ h (a=r) fP bB h aQ (j8 rfl) iF aX aQ (i_ tX) ih bO aJ e (go rs.eraseDups) OJ alb e aB e
theorem boa:eN3 (putK bBR DP r (SR cZ (eIh+1))=l9 cRO):=cN dD rs r aJ hv (a3k rs r) AT h r rs bOe aG e1 (l9 cRO=nM rs.eraseDups.map eNp ((cRO).countP)) aJm bCt jS bGq bGr bMr ((bO2).mpr) mL aH e1 aV Jk jS qc hv aDR iF Ub sN aO qT eIh bCt aQ mL mL bOM aUb x _ bO [aF eC h hv,aH aJn hv,bCt,AZ bGq bGr cEE ((bO2).mp) lN lN,eNg dE1 Uu x r h,pB,Oj aQ mL mL bOM SH aJ hx ((bO2).mp hx) bO,cG]
theorem bob(rs:aR):NW l9 rs aAI:=bL bCt bMq aB (WH.aac (WH.ab0 rs) AO ((bO2).mp hx))
end WH
end
section
namespace WH
open PySem PySem.Spec PyProof.Rows L2
theorem zy:aNb dE3 CM bF7 Mu vc:=dW
inductive gm(Pr:aM)(w:aK)(CH CL CE CS CP:aA)(vs:aN)(H:Hp)(Q:VK)(XE:XK):aE|mk(x:aA)(L:fY)(d:cQ)(_:JW)(_:nE)(_:ZR)(_:dLS):wB gm
theorem gm.out{Pr:aM}{w:aK}{CH CL CE CS CP:aA}{vs:aN}{H:Hp}{Q:VK}{XE:XK}:BV gm eGG:=BX gm.rec eGG aKE
theorem bfj(L:fY):∀d:cQ,tR cEw iH:=cGs d aBo e bN ih XT gx aP bO
section
variable{Pr:aM}{w:aK}{K:aL}{mg:bF}{aW:aU}{CH CL CE CS CP:aA}
theorem ail:∀{Pr:aM}{w:aK}{K:aL}{mg:bF}{aW:aU}{CH:aA}{CL:aA}{CE:aA}{CS:aA}{CP:aA}(F:eFn)(TH:zL),VC bWg qJ eXm gm:=fFE aIq Pr CH CL CE CS CP F TH zy dPb hn dAT zy.nd dAy oF aZs aky ZH Yo AI bBe (gq i5 Dx 2 qb aN8) DU eYN aKF aOO x CH dx Ho pV qE r cLs (jo (K:=K) (a:=r) (xs:=aWa) Gb (aow sO wZ σ) eW VP bHX cHH cH bT6 s1 c1 QE aHk i sx cB sx hrr ?_ ?_) [by rintro i v σ H' hv⟨⟨v2,v3,rfl⟩,sx,hkv⟩,bVE,eIG sx,dAP Lg z _ _ _ rfl rfl bO3 nR _ rfl q _ rfl cKH Ub (wG=aVS 1) aqk,Sx s2 gW bCi hy y2 BT H' y bCi y bCi aG2 y bCi H2,aJ sA (sx.trans s2),aG yc bBh bK pQ z aZ,aJ il iO hen,aG et (gx L (bZg eG)=bI2 cHH aNy 1) qS gx aW1 hen cG,OC l1 dHW bfj sZ l1,aKF bPD y y2 cTm jo bCi JC j dZ (aoy sO wZ RO σ) Vv c bOI aHg VP bHX eLb cH rK bBo aZ6 QE aHk i sy lW sy yc y2 [eLB j H3 hv2 v3 sy hk3,EO rk hrk ar_ hv2,aJ hj iO hrk,aF sZ hj,eTO c gB gJ gB hk3 aOY DP rk hk3 a3k,FX hA eLb A0,bD lA (A0.length≤2000) tQ (by rw[←hA,fA,sZ,sZ]) b_i hn l1 eg ((eLJ aX5 (rk∈A0) eIi)=V.int cZ eIi) bK oY bO5 uW nm eNg A0.countP Uu x rk nm bS,aH eg,BH fCl c aQA DP rk hk3 aSm (Nat.le_trans (bob A0) lA) aRd rK bTT _ FM [by rw[ah,rO,hrk,←EG,hA],bN (boa A0 rk),GX]] eAZ H3 v3 sy hk3 (by rw[az,OM,←et]at hk3) oT aI pD bTj ?_ xD] eS2 H' sx hkv aCy hxl hkv aB wX (k H' c sx hc hkv)
end
end WH
end
section
namespace WH
open PySem PySem.Spec PyProof.Rows L2 SeqAt
section
variable{eJ:aM}{w:aK}{A:cM}{E:cU}{s:bC}
theorem bj_{l b:aA}{iK pU:qA}{e c:WU}(hl:aEt)(hb:bSu)(hu:SD)(he:aRQ){Q:aQX}(h:Q bNr s):FE (oneLt' aY BK vF):=qF dIi dIq dIc dId aH oneLt'_eq lO aAj Nr wpAny_cRoomFor hu gX (wpAny_callSpecialIfBound?_slot (T:=yI) cCM bYX (call_meets bYX cCM dEA qR F.args_list_lt_2 dIs a0h gY ho ho2 he ?_)) jN aTP
theorem bu9{X:Cx}{bH:dM}{σ:cO}{H:Hp}(I:LI){p q:aA}{t u:aR}(hp:aQ2)(hq:cOq)(hu:SD){Q:aQX}(h:Q (tE t u) s):FE (oneLt' aY iW tM):=Gf aI2 pl bNf hp eG7 bTJ aif aF e h bDp cWf fAF vM (by intros j h1 h2 a b ha hb) cZQ cZR cTM cTN dAd aR3 cZH bS7 cWO aI (bj_ FZ bGb hu cBU Uh aNE vY aNE ?_) cE e1 e2 ag1 aB h
end
section
variable{X:Cx}{σ:cO}{H:Hp}
noncomputable def bj'(H:Hp)(v:V)(t:aR):aE:=eY p (v=iW) aQ2
theorem bka{n:Nat}{ks:aN}{iT:fB}(hk:sJ (bj' H) ks iT)(hn:bGd=n)(hu:aRU):eZD tE:=fAP Dc IU [aI (PySem.W.kas_kind (T:=VL) gC bz9 hl h2 mR v hv rfl rfl hQ),bBC i hi hv,aJ lt iO hi,dPL gi gH iT (iT[i]'(aBU b_r hn hl lt)) ki gH ks (ks[i]'(aBU cag hl lt lk)),eYw,aF hi hui,bX hui,aF e1 rui,bX rui,YC its rv' pl bNf e2,YC o ho hc FZ,eQ9 iW aEL ho,aZ] [fFN (ao7 (lt:=lexLt) aaf bLJ cJb aly (l:=keys) Oh gi Oh gj),aQ rl bYF,eYw,cS q e3 e4 (bo hk kj gj),aF e1 rui,aF e3 ruj,bX rui,bX ruj,aB (bu9 (A:=X.A.in1.in1) I e2 e4 FH NJ)]
end
noncomputable def a7y(a b:cMn):gE:=mQ dXm 0||(bKO (dXm==0) a.2 b.2)
theorem ag7:∀(a b:cMn),Eb a7y↔lexLt a.1 b.1=aY∨(a.1=b.1∧a.2≤b.2):=fN dD a b aV a7y fC3 cHN ad3 dE bS aZ bS
theorem a3l:Xp L fY d cQ l iU (Fin iH) (WS.ac5 bII iH fM (acs tE aKi bQq aKi) l) (l.map VW EJ=Si33.rhymesOf aX8):=QJ jG L d l h bD km (∀i:Fin iH,bQq aKi=cE5) aBG pQ i e0 (Si33.rhymesOf aX8=NA ((cRR).mergeSort a7y)) rfl aG key (l.map cXz=(cRR).mergeSort a7y) bL zX (aag (R:=aVt Eb a7y) ?_ ?_ dXG ?_ ?_ ?_) aI (List.Perm.trans ?_ oU dRf) bN iM h.1 cXz eGq iH cXz cRR cG dH [cJZ,eTg,OJ km q,bDD m (∀i:Fin iH,cE5∈aKi) eM1 r1 eS3 (m i) (m j) r2 eS3 (m j) (m i),aH ag7,LL q q q1 q2,jK aZ eDD bzm r1 eDD bzo r2 nF aT lW aly r1.symm r2.symm FH] bA5 eUY (by rw[ag7]at h1 h2⊢) LL h1 h1 h1 h3 qB LL h2 h2 h2 h4 dU sQ cTZ vw aZ dH dD a b cE aEY ag7 ag7 WP a.1 b.1 jK dH aH0 akj q dU bS bS Oj (by intro a _ b _ h1 h2) _ vQ ag7 h1 h2 aG as (∀x y:aR,cA (tE x y=aY) (lexLt y x=aY) oJ) vG jG x y z1 z2 bN Dq vw z1 z2 aF aaf aP bX aP dH (by rw[e0,←key,mL]) (by rfl)
end WH
end
section
namespace WH
open PySem PySem.Spec PyProof.Rows L2
theorem a7z{X:Cx}{a:bZ}{ta:TE}{p p2 pos Ri:Pos}(K:aL)(hm:cM6)(hm2:cM8)(hc:KP)(ha:HV)(hK:autoParam (aDq) EE.autr._auto_1)(hg:autoParam (cNE) EE.autr._auto_1)(hg2:autoParam (cNG) EE.autr._auto_1)(hs:autoParam (aEz) EE.autr._auto_1)(hs2:autoParam (eWb) EE.autr._auto_1):eEq (b4' K ta):=aQO (awz hm hm2 hc ha hg hg2 hs hs2)
theorem acx:aNb CM "turned" jZ Mu aaa:=dW
noncomputable def rg:Str:="places_by_rhyme.<locals>.<lambda>"
noncomputable def ou:Pos:=sC 154 42 154 69
inductive i9(Pr:aM)(w:aK)(CH CL CE CS CP P:aA)(vs:aN)(H:Hp)(Q:VK)(XE:XK):aE|mk(x:aA)(L:fY)(d:cQ)(_:JW)(_:nE)(_:ZR)(_:dMC)(_:dOj):aSR i9
theorem i9.out{Pr:aM}{w:aK}{CH CL CE CS CP P:aA}{vs:aN}{H:Hp}{Q:VK}{XE:XK}:aSR i9→eIL:=dAr i9.rec eIL cZO
section
variable{Pr:aM}{w:aK}{K:aL}{mg:bF}{aW:aU}{CH CL CE CS CP P:aA}
theorem anh:∀{Pr:aM}{w:aK}{K:aL}{mg:bF}{aW:aU}{CH:aA}{CL:aA}{CE:aA}{CS:aA}{CP:aA}{P:aA}(F:aI6 bD9 aaa Mu P)(B:fQ)(TH:zL),dAb bD9 Mu i9:=dVG aQs P F B TH acx dAA _ eYY a7w dAT acx.nd aI oN aD3 Xu 2 aB1 Yo CM 1 aJy (a7z K bGc bY3 rfl aSs 1) (a0e (k:=4) (q:=rg) (x:=jZ) (j:=3) (P:=P) hr nd bF4 bZh hT rfl cS1 aNI jC cKc cKd aMx cCS 2 gK) bUQ hx r hrr fFb cIJ xu aPg y QG p en Vg (y=iW) (p≠D) bJb aMY IT dPf i y H1 H2 p en hrr eRY dIg dIe eIG s1 RR kD aBr z _ _ _ rfl rfl bO3 nR q _ rfl cKH ?_ y hy aw1 aDu fE1 ts hts (ag5 (F:=eGQ (NL H1 p aMY IT)) (ys:=ys) (as:=d) aKt hxl) (by obtain⟨p,en,h1,h2,_,h3⟩:=bKA hy) tI bS mG fFa htl hts dJe bK Io a7w z c' z1 z2 Hz bAd z bR c' aHo ss bAd z2 oP hys iH qW c2 H2 sp ti aG P1 cWZ H1 bK aL7 a7w t c' dE aDu aDu eI3 bDD bfg dY1 dWY sP eVC D2 bK7 bfg hys hys aJo eWK bj' ((aKi).take) eF dB (by rintro i ks H3⟨s3,_⟩) kE aMf eWt _ Ek cit hti ts aHh ts htl hi bBW aas hei d gQ ni (bo hts hti hei) aI aOd D _ _ _ rfl sM s3 D2 aCp Wz hti s3 eVw ((aKi).take) aMY aas.head aH kt bL1 hks sS cQX ni [fFe,eUo bka,eTQ,aJ a0o (a3l hol),aJ s4 oB gW aQd hr2,cL3 (k _ r Wa Yh (sP nb cLq) fF bR c2 Yh aUk Yh aMf ?_ ?_) bBk e0 (H r) o bQ hP (r=P) kG dA hP kE aUk hr2 bX hr2 aDu hM a0o aSU iY H3 r _ r gW MH ol.map VW EJ ah aV vn aH mL (by rfl)]
end
end WH
end
section
namespace WH
open PySem PySem.Spec PyProof.Rows L2
noncomputable def oV:oC→V|aS=>iE|lI=>vX
theorem a_9:TB d cQ h PB n Nat eZw:=kK lJ d h n aG go Nb d cQ k (cy aQ1 dQ8 eH3 (h,n)=(Dt ((eQy).map) Mh aVS (i+k))) Fv d cOp d pQ k (by rfl) e d AS e d ih bE k cE XQ rC bEH bQ q (pA=h∧yL=n) An aH (j8 pP) bS cE (i_ fD) ih eC fD aH dE4 pB bO aJ e (go d 0) bW eZw mW aUj Si33.entryAt aH e Hv eQy
theorem a70{d:cQ}{x:lF}(h:aKw=aS):cUS:=GU aUl
theorem axf:fCD (aKw=aO i) aUl fZ (CO≤aMg) lI aS:=WG eVD aV aUl aH h bW (eRN=_) CC CO 0 jB bS aQ bAu dYT dH
theorem bfk:∀{d:cQ}{x:lF}(h:cUS),dII x:=vG lM d x h cV aUl h aV bZl RG aKw i [KS i e,aC9 h eRN h,bW ((aF7 (i,bTS)).map _=aS),CC CO 0,dU bO,aZ]
theorem bfl:fCD dYY bZl aIQ aMg EX i (max 1 CO):=vG eVD cV aUl h aV bZl Af aKw j [KS j e,aG h ((aWA aYy iM dYl eZ j)=aO i) h,Fq ((aF7 (j,bTS)).map) eZ ((j,bTS):mX),CC CO 0,bA4 aIg z DT aQ iF z (vz he lC om5) WP aMg 0 jB bS cE eC q Al dO b29 q z (by rfl) yJ bAu h fD9 e2 dYl bO s KS s e2 NN ji j i zV h aF dYT e2 bN iO e2 jJ dO bzx aP aJh EX j CO (j,max 1 CO) aLy pH b2_]
theorem a71{d:cQ}{h:PB}{n i:Nat}(e:bIf h n=aO i):∃en,Vg:=gJ (FW (ad7 e))
theorem ag8:cUV jZ adp:=dW
inductive ie(Pr:aM)(w:aK)(CH CL CE CS CP:aA)(vs:aN)(H:Hp)(Q:VK)(XE:XK):aE|mk(x z:aA)(L:fY)(d:cQ)(ln:lF)(_:ZJ)(_:nE)(_:aNU)(_:bKr aYY):wB ie
theorem ie.out{Pr:aM}{w:aK}{CH CL CE CS CP:aA}{vs:aN}{H:Hp}{Q:VK}{XE:XK}:cVA ie dXb:=eWB ie.rec dXb
theorem ag9:cUV jZ adq:=dW
noncomputable def dw(H:Hp)(y:aA)(s:mX):aE:=oM y aM8 s.1 s.2
inductive j1(Pr:aM)(w:aK)(CH CL CE CS CP:aA)(vs:aN)(H:Hp)(Q:VK)(XE:XK):aE|mk(x z:aA)(L:fY)(d:cQ)(ln:lF)(_:ZJ)(_:nE)(_:aNU)(_:dMx)(_:dOf):wB j1
theorem j1.out{Pr:aM}{w:aK}{CH CL CE CS CP:aA}{vs:aN}{H:Hp}{Q:VK}{XE:XK}:cVA j1 eXC:=BX j1.rec aVF ln lF eXC bVj
theorem ag_:Vq Rt jZ XH jZ adr:=dW
noncomputable def aat(d:cQ):aE:=∀e∈d,eFG
inductive j5(Pr:aM)(w:aK)(CH CL CE CS CP:aA)(vs:aN)(H:Hp)(Q:VK)(XE:XK):aE|mk(x:aA)(i:Nat)(L:fY)(d:cQ)(_:aOG)(_:nE)(_:HH)(_:aCF)(_:bKr aWy):wB j5
theorem j5.out{Pr:aM}{w:aK}{CH CL CE CS CP:aA}{vs:aN}{H:Hp}{Q:VK}{XE:XK}:BV j5 aSO eUX:=BX j5.rec aSO eUX bVo
section
variable{Pr:aM}{w:aK}{K:aL}{mg:bF}{aW:aU}{CH CL CE CS CP:aA}
theorem ci.mono:∀{Pr:aM}{w:aK}{CH:aA}{CL:aA}{CE:aA}{CS:aA}{CP:aA}{H H':Hp}{x:aA}{L:fY}{d:cQ}(s:eW)(h:nE),dQU:=KH (by intro Pr w CH CL CE CS CP H H' x L d s h) aMT aMa aB ⟨dx,l,e,r,p,xs,rs,rH hx,dEx s,rH he,aDi hes,rH hrr,aDi hrs,hd.mono s⟩
theorem atr:∀{Pr:aM}{w:aK}{K:aL}{mg:bF}{aW:aU}{CH:aA}{CL:aA}{CE:aA}{CS:aA}{CP:aA}(F:eGt)(B:fQ)(TH:zL)(TE:xI)(TP:Pl),bDl:=Xi bVq TP ag8 z ln [eY6,aNW,_,SU dz hp hz hhp hP,gQ nd ag8.nd,aI oF aCk 2 (bjp bSY jY Fk We NU NU bIR) dWH yX zr NU MI aJ9 jC 2,Vb ⟨_,rfl,x,CH,dx,_,_,rfl,hx,pV,qE,rfl,p,_,rfl,hd,_,rfl,z,CP,dz,_,_,rfl,hz,uY,zJ,rfl,hp,_,rfl,aW5 hhp⟩ t1 ht1 s13 bPn t13 En t1 bPn t1 bPn rE t1 bPn H1,fCZ CP hz uY zJ bRe iY H1 t2 bRe t2 bRe KB t2 bRe H2,eBi sA,oE jO t2 (bZm,bZn) bP4 (hd.mono sA) eLN a_9,aJ kk (k H2 sA),aI WX,DL ee bIf bZm bZn aF (a70 ee) kk aI (f_ (f_ kk)) i [fH i,eP en hen (a71 ee),aJ il (ad7 ee),fEl,cYc,_,aF (axf ee hen) kk,uM ⟨_,rfl,z,CP,dz,_,_,rfl,WA hz,uY,zJ,rfl,_,rfl,x,CH,dx,_,_,rfl,Lj sA,pV,qE,rfl,_,rfl,e,_,_,_,rfl,rfl,aCH sA,cPx,_,CE,dy,_,_,rfl,cNK,iZ,jD,rfl,_,_,rfl,Rz sM sA g4,_,_,rfl,rfl,_,rfl,?_⟩,bTu g5,zX lZ bE c bN bMf aF eC dO bzn aP kk aB kk [bE c,eV (¬cKu>cZ aMg) Ag c,aF iF dO b0' aP kk,aB wX kk]]]
theorem ats:∀{Pr:aM}{w:aK}{K:aL}{mg:bF}{aW:aU}{CH:aA}{CL:aA}{CE:aA}{CS:aA}{CP:aA}(F:eGu)(B:fQ)(TH:zL)(TE:xI)(TP:Pl)(fb:bDl),cXL:=Xi (by intro Pr w K mg aW CH CL CE CS CP F B TH TE TP fb) ag9 z ln [aPF x z L d ln rfl hH hP k0 k1,aNW,aDA ag9.nd VF 2 Pc fb dWH aJ0 aJ9 jC bAX YK jC cZn NU,Bb cV7 z hH hP H1 s1 WX,nQ dz hp hz hhp hP,fD9 ee aYY MU (f_ (k0 (bfk ee) H1 s1)) i fH i aJ il (ap_ ee) bBW a0p hen d fD8 cYc [gQ ld (bfl ee hen),uM ⟨_,rfl,x,CH,dx,_,_,rfl,Ho,pV,qE,rfl,_,rfl,e,_,_,_,rfl,rfl,gN aQZ,cPw,_,CE,dy,_,_,rfl,aQ0,iZ,jD,rfl,_,_,rfl,oP kY g4,rfl,_,rfl,?_⟩] bTu g5 cNU lZ bE c bN bMf bN (V.int.inj aP) aF iF dO bpt aP ld bRZ ld H1 eV (¬a0p.senses.length=0) dUy aF eC aP ld dP ⟨_,rfl,_,rfl,z,CP,dz,_,_,rfl,kY hz,uY,zJ,rfl,_,_,rfl,FA,?_⟩ t2 ht2 LC fZ (cKu>1) cKu 1 cZ (max 1 Jp) eDs b1q b25 DS e1 (k1 _ ld _ t2 cLC ht2 Wj ht2 ah)]
theorem att:∀{Pr:aM}{w:aK}{K:aL}{mg:bF}{aW:aU}{CH:aA}{CL:aA}{CE:aA}{CS:aA}{CP:aA}(F:eGw)(B:fQ)(TH:zL)(TE:xI)(fb:bDl),cXK:=fEa bVq fb ag_ bLN x i L d rfl hH il os cFN ag_.nd bBW a0p hen d fD8 (by obtain⟨dy,hp2,sl,q,g1,g2,⟨zs,g3,g6⟩,ys,g4,g5⟩:=cCu hen) [dJ oN Hq 2 aJ9 fU Gw aJ0 jC zD fb Lp,aI ⟨_,rfl,x,CH,dx,_,_,rfl,hx,pV,qE,rfl,_,rfl,e,_,_,_,rfl,rfl,bAl,cPw,_,CE,dy,_,_,rfl,g1,iZ,jD,rfl,_,rfl,_,_,rfl,oP g3,rfl,_,rfl,?_⟩] aG nx (aLc d i=eDi) fN aV aLc aH hen bW ((Fp AH a0p.senses eDi)=_) oY KO uW z aH (os _ (Qn hen) z) (by rfl) (by rfl) aS8 a0p.sees lns nx g6 aGb g6 [rG f_,bVx bDh nx,aB aP] a b [uM ⟨_,rfl,_,rfl,q,_,_,_,rfl,rfl,gN g3,nR,x,_,L,d,_,rfl,hH,a,?_⟩,cY H1 s1,aZ]
end
end WH
end
section
namespace L2
open PySem PySem.Spec PyProof.Rows
theorem a__:∀{X:Cx}(hc:KP),aVE VL pL a kvs (xs=Bc) aD1 dZg:=by rw[dD X hc,yN bH s σ H xs us Q I r h,_,AM a kvs rfl ha q h,dG u rfl rx (vals1 r),bX rx,bUB hz vs (brp TM ha),eP ep hat dd.dictAt,kZ hl rel,aI (PySem.W.kdl_call (PySem.W.kdl_dict (knd:=bCW) (kvs:=vs) (ep:=ep) hd) NH hat gC bpy hz hl ?_),xN h' tk Dd c' kp hS aL6,dJ cVr eXa bFj dL9,dA1 oK Uk aFk bFY hl,iC i y v e1 e2,cVO,nQ k x h1 h2 cSn,Mg e1 kv h3,dG u hu ru (biv rel (k:=LU) (v:=kv.2) (i:=i) h3),aF h1 hu,bX hu,aB (a6u h2)]
end L2
end
section
namespace WH
open PySem PySem.Spec PyProof.Rows L2
noncomputable def ik(n:Nat):Key:=DP n
theorem a3n{a b:Nat}(h:ik a=ik b):tW:=Gx (Sum.inl.inj h) ba5
noncomputable def acy(w:aR):sT:=YR w.map p (ik p) bCr
theorem bcf(w:aR)(p:Nat):CJ cU1=lT (p∈w):=jX FU qc IR aV acy cG HY qB (by intro⟨a,h1,h2⟩) hM (a3n h2) aB h1 bO
theorem boc:∀{w:aR}{p:Nat}(h:p∉w),putK (acy w) (ik p) (Cw aY)=acy (w++[p]):=Gv w p h pO cU1 aS VG (bcf w p) dQx Ej z cU1 v aZ aH aJn e aV acy cG
theorem aph:Vq Rt jZ bZo jZ amy:=dW
inductive z5(Pr:aM)(w:aK)(CH CL CE CS CP:aA)(vs:aN)(H:Hp)(Q:VK)(XE:XK):aE|mk(x:aA)(i:Nat)(L:fY)(d:cQ)(_:aOG)(_:nE)(_:HH)(_:ZR)(_:aCF)(_:dPk):wB z5
theorem z5.out{Pr:aM}{w:aK}{CH CL CE CS CP:aA}{vs:aN}{H:Hp}{Q:VK}{XE:XK}:BV z5 aSO eXD:=BX z5.rec aSO eXD dAl
section
variable{Pr:aM}{w:aK}{K:aL}{mg:bF}{aW:aU}{CH CL CE CS CP:aA}
theorem a72:∀{Pr:aM}{w:aK}{K:aL}{mg:bF}{aW:aU}{CH:aA}{CL:aA}{CE:aA}{CS:aA}{CP:aA}(F:eGx)(B:fQ)(gt:cXK),Lk bWP 3 jZ z5:=fEa aSP B gt aph aPF x i L d rfl hH il hn os k HF aph.nd dAy oN Hq 2 aky eSm 1 aZa fU 2 FL aP8 jC fU MC 1 Pc gt dHl (a__ rfl) jC aI jA NV eYP wy bKM bZp (m=bQ6) kF _ [] lI aCh s1 c1 (.OL) LN rfl (by rintro m σ H'⟨wy,p,rfl,sH,hw,W,ndw,rfl⟩) eNB eQn dR fin (dJX→(tB1 aFW xs pL a kvs aHW bH5 aD1 dZg (ajn 2)) dNH H' Q) cN bE hp aI Oe c hw aKo JU (k _ y wy p dSL (sH.free hy) ?_ W ndw ?_ hp) [HM H' y _ y,aH ah,mW acy vn,aH mL,by rfl] bE z bB z cWP oS fH e aZ DT WX cMH p WM (f9 (fin xR)) q fH q HC Xj c aOY (ik q) hw aH bcf AT hq q wy PF Ar hq WM (fin fF MZ q hq) [DO hq,fFi (hlt.2 q rfl) eYP wy2 dSQ dE7 (dTL<bQ6) (by rintro σ' H2⟨wy2,p2,h1,h2,h3,h4,h5,h6⟩) h6 jO wy2 p2 yB h1 h2 h3 h4 h5 rfl,dR kl (gD acy wy<vO) qS acy aH cK eUz Wf c aQA (ik q) hw kl,aH (boc hq),bD s2 rJ dVn bCh c2 aJ5 H' cHn cHn ah,aSp dVn c2,Bb cFg q rfl (aUm s2) ql os H3 s3 jO dHU aJp q aCh cOi kE c2 (.zS W) nds ?_,tI aTh rF]
end
end WH
end
section
namespace WH
open PySem PySem.Spec PyProof.Rows L2
noncomputable def KeysIn(n:Nat)(kvs:sT):aE:=GK ks aR cTJ bFA ik FS UB q ks (q<n)
theorem KeysIn.len{n:Nat}{kvs:sT}(h:dYk):oK≤n:=fN jF ks h1 h2 h3 h bN Ya h1 dA cK cK aP bN ePM h2 dRc h3 aZ
theorem KeysIn.put:∀{n q:Nat}{kvs:sT}{v:V}(h:dYk)(hq:q<n),KeysIn n aGD ik q v:=KH sY n q kvs v h hq SU ks h1 h2 h3 h aAZ e bIP [aH aJn e,aI aT (ks++[q]) aRd fD,wY vI dCf h2 bE z bN (bi0 e) fO,fO] u [Ch u,dJ Mt ks ?_ h2 h3,aV Jk,aQ qc e,aMb iF Ub sN aHy mL h1,bOM,aUb x,_,fO]
theorem ab7:DX [qJ,dE8,ST,bZo,jZ,aS3] qJ zg:=dW
inductive jw(Pr:aM)(w:aK)(CH CL CE CS CP:aA)(vs:aN)(H:Hp)(Q:VK)(XE:XK):aE|mk(x:aA)(L:fY)(d:cQ)(_:JW)(_:nE)(_:ZR)(_:aCF)(_:dOI):wB jw
theorem jw.out{Pr:aM}{w:aK}{CH CL CE CS CP:aA}{vs:aN}{H:Hp}{Q:VK}{XE:XK}:BV jw eIK:=BX jw.rec eIK cZO
open Classical in noncomputable def a3o(d:Si33.Dict)(r:Nat→Option Bool):Prop:=∀q b,r q=some b→(b=true↔isRing d q)
section
variable{Pr:aM}{w:aK}{K:aL}{mg:bF}{aW:aU}{CH CL CE CS CP:aA}
theorem amb:∀{Pr:aM}{w:aK}{K:aL}{mg:bF}{aW:aU}{CH:aA}{CL:aA}{CE:aA}{CS:aA}{CP:aA}(F:eFp)(B:fQ)(TH:zL)(gt:cXK),ePl:=dVG aQs F B TH gt ab7 pW E eYY os [aNW,HF ab7.nd] cGK dAy oN aZs aky JH eDF cLR AI (ai BW NM VF 4 jC eSm 4 aZa oG 1 ZI dYR Hx gK oG Hl zD gt oG Sf Xh Od 4 Tg Gy 1 oG ZH KC 3 aJz aP8 fU rZ) MT ⟨_,rfl,x,CH,dx,_,_,rfl,Ho,pV,qE,rfl,_,_,rfl,oP aQZ,_,rfl,?_,?_,?_⟩ aB b1r fO BF cYL 0 (UE cJ4:Int) Gb cHL eW cZX VP GN i cH AN aS aS aS aS rfl s1 jO [] aPI nP c1 aYs uN LN aX Ur rfl (fun q b(z:aS=aO b)=>UK) bG q z (absurd z (Nat.not_lt_zero q)) [by rintro i σ H2 hi⟨⟨v2,v3,v4,v5,rfl⟩,sH,kvs,r,hkv,hK,hv,hS,hD⟩,_,aJa il HH tQ aF cK hi by2 hxl hi CV (GV+JR=cZ i) aB bqh,dP eO mJ y hy,GZ,zG yc bBh aKf s2 rJ DA H2 y dSL y2 Pj H2 y ah c2 iY H2 y sK c GN aIK hkv,aJ hyH (sH.free hy),OX DA H2 y H3 s2 y2 c2,aI jA NV eKW wy MX eW aNN wy dSg aW7 kv2 bKM bZp cQL (r q=aS) eFw dXf (m=bQ6) cLv [] lI kvs Nl rfl s2 y2 c2 hK (.OL) LN aX dVU rfl,by rintro m σ H'⟨wy,p,kv2,rfl,sH',hy',hc',hK',W,ndw,hN,hv',rfl⟩,eNB,eQn,bD back ZW D yO eUD Dy H'' (b3s (bqz K (ajn 3)) (a53 5) (brr cN6 (ajn 5) (tC (V.bl bI))) D cJv H') bL dD D hDn aI WI y hy' Fg cTm jo (vn wy) fR j σ H'' jU (∃v5:bJ,σ=[sO,wZ,Ex,Vd,cBS,v5]) cGg (NL H'' y wy) wF kv3 cGT (.dK kv3) aW7 kv3 (∀q,aOl kv3 q=Su (q∈wy.take j) aCE dXf) gY rK sH' hy' Mt kv2 hc' hK' dVU eJP j H'' (by rintro j v σ H'' hj⟨⟨v5,rfl⟩,s4,y4,kv3,c4,K4,hv4⟩) EO q hq ar_ hj aJ ql mC hlt.1 q hq aEg aBr _ rfl c _ rfl aQA (ik q) c4 eRw K4.len rK ?_ ?_ _ ah (K4.put ql) ?_ VR b Ux VQ fE wY bE q' cE ab3 rO hq CC q' q jB bS aQ eC eOi (hv4 q') bS aZ no cA cQL (¬bB0) cWb eUD dZ cHL cGg cZX cGT GN eG wA (by intro nr hi σ H''⟨h1,h2,kvs,h3,h4,h5⟩) eXO bSs eQl kvs bI h3 h4 dE aZ ePT dX9,dR yes cA cQL bB0 cWb dZ dHz v5' (cJv=[sO,wZ,v2,v3,v4,v5']) eW cZX VP GN eG bL dD yr hi eXO cH WZ sH' eQl kv2 aY hc' hK' dE fO ePT dX9 WX,cMh p gZ (f9 (f9 ?_)) WX cGA (f_ (f_ (back _ (no ?_ ?_)))) lJ q hq z aFs p0 e eJ6 _ HP cWP dU HP qK p0 [HC Xj c dMX,aJ hv0 (hv' p0),AT hq p0 wy,bAb aF iF hq hv0 aH hv0 rG f9 aI WX eMW uM (yes (W.round hq) ?_) bXa dE6 e h dU fO qK [aF eC hq hv0,bLg er (r p0) b [aF er hv0,aG hv0 (dWS=aO Hh) hv0,aH hv0,rG f9,aI WX,eMW,aG hf cWb bK cWP dE fO qK,aLl b aY WM (yes (W.back p0 rfl ((hS p0 aY er).mp rfl)) hf) bI [HC (back _ (no pX q hq z hf)),cS p1 e h eJ6,HP,bN ((hS p0 bI er).mpr h),bX aP]] [aF er hv0,aC9 hv0 dWS hv0,aH hv0,fFi (hlt.2 p0 rfl) eKW wy2 MX eW aNN wy2 dSg aW7 kv2 dSQ dE7 kJ q wy2 (r q=aS) eFw Su (q∈wy2) Lb bJn (dTL<bQ6) (by rintro(σ')H2⟨wy2,p2,kv3,h1,h2,h3,h4,h5,h6,h7,h8,h9,h10⟩) h10 kF wy2 p2 kv3 fCo rfl,aI Wf c aQA (ik p0) hc' eRw hK'.len,Ie s4 rJ cQ7 gT iX b o eo jV bA1 hc cB sH' eo c4 aJ5 H' bLw bLw ah y4 (NL cQ7 y wy) gT HM H' c _ y jV yc hy' cQ7 H4 s4 c4 y4,aI bU0 rfl rL y4 _ rfl y y4 bAB eUz,aG ev (vn wy++[oV aO p0]=eDJ) DE jd,aH ev,Ie s5 rJ cXH gT iX b o eo jV bA1 hyH zC eo y5 (NL cXH y dTX) ah c5 YY H4 y eDJ c bLw NZ yc c4 cXH H5 s5 c5 y5,aI cFg p0 rfl (aUm s5) ql os,cY H6 s6,aIH kF dTX aJp p0 _ Nl rfl (s5.trans s6) AK y5 AK c5 (hK'.put ql) (.zS W) nds mR q hq2 Ur ?_ ?_ fO aQ ab3 (hv' q) CC q p0 jB bS jJ eOi bS,fO]]]] [by rintro σ H'⟨⟨v2,v3,v4,v5,rfl⟩,sH,kvs,r,hkv,hK,hv,hS,hD⟩,_,dA cK hxl hD,aSr wX (k H' c kvs sH hc hkv ?_),bN (hD q dO bys hq),aH (hv q),Af (r q) b [aJ z (hS q b e),zP (a9p hq) z,fO]]
end
end WH
end
section
namespace L2
open PySem PySem.Spec PyProof.Rows
noncomputable def bu_(tk tv:TE):TE:=eCh (tk σ rE p tP aFT x cNl (Ay H2 tP∧eRx (Q iW FG p eI2)))
theorem bkb:∀{X:Cx}{pos:Pos}{k v:bZ}{tk tv:TE}(hu:Ny)(hk:eBO)(hv:dU8),Ev cR [aWn] [v] (bu_ tk tv):=KW yK X pos k v tk tv hu hk hv _ cZr q _ eN hn (bE7 (bEi fJ)) I1 eAP tP bTX bMB dYU aJ hp (biq (pos:=pos) hk hv (bm9 (X:=X))) dR q0 (a2e [(tk,tv)] σ rE fJ tP bG ps H2 xJ ps [(x,y)] (H2 fJ=aO tP∧eRx (Q HA FG fJ eI2)) _ oJ) (q _ hn) (wpAny_Dict_any rfl rfl aX aX JF aFY hp _ _ I1 q0) bFc ws s2 ps H2 I2 rel q1 _ (by cases rel with|nil=>rw[bUj]|@jR pp ww ps ws h t=>rw[dAF pp ww ps ws h t,eLC t _ _ bUj [eP x y pp,eP u r ww,eP r1 r2 h,FV e b kk ex eb q2 q1,gQ ex ex,bB ex,NN r1 u aQ3 r1,bUB z xs (a6n bYI e),bX rel,Xk storeAll aFr,aWU (wpAny_dictSet_heap (hsz:=mJ) (knd:=bTO) iV bW Dn aT1 a4' hu (agc bYI eb) dd ?_),eHN,Ud,ZG _ (forIn ([]:dSS) PUnit.unit _) _,aH aAG,Wp yA aQD EK ?_ q2,cJf o h2 h3 h4 h5,dJ (aor I2 bM5 hs Wl hq cH EV hd rP aRq uN ?_ r2 aQn o dOT),bRL]])
end L2
end
section
namespace WH
open PySem PySem.Spec PyProof.Rows L2
theorem lc{α β:cJ}{m:aAW α β}{F:aUL V}:fBs ((m a=aS∧r=aS)∨pL b v yY m b (r=aO v) (F v b)) Aa F aWf bVM m|[],[],_,_=>eF|[],uP,h,_=>vN|uP,[],h,_=>vN|r::rs,a::l,h,q=>jX aJ ih (lc (m:=m) (F:=F) (rs:=rs) (l:=l) rX eJx q) cS a' e z (q 0 r rfl) eM e bB e bEJ z e1 e2 b v e1 e2 f jK bS bB e2 aH (List.filterMap_cons_some e1) RU f ih
theorem al2{β:cJ}{G:aUL aA}{vs:aN}{l:DM}(h:sJ ML b aOM (G y b) vs l):bLu (vs=tN) G l:=bB2 WF [] eF a [AJ y g a,AJ ps r ih,WF (y::ps) (.jR g r)]
noncomputable def ug(s:mX):yU:=[Gn s.1,Gn s.2]
theorem bkc{a b:mX}(h:ug a=ug b):tW:=aRC ug
noncomputable def iy(kA:Fz):jQ:=nM known.map (ug x.1,qT x.2)
theorem axg(s:mX):∀kA:Fz,eFd=aQ1 aNQ known.find? s qT x.2:=Ku kA MK x l [aJ ih ih,bW (Kb ((ug x.1,qT x.2)::iy l) ug s=_),vL x.1 s,fP aQ (j8 bOb) (List.find?_cons_of_pos aIz) (by rfl) aQ (i_ UP e bkc) (List.find?_cons_of_neg aIz) aB ih]
theorem bcg(s:mX)(kA:Fz):CJ eFd=bBJ s:=bA AZ axg bFC IR List.find?_isSome Cg
theorem dw.mono{H H':Hp}{y:aA}{s:mX}(e:eW)(h:bP5):UT dw s:=aXI
noncomputable def qf(H:Hp)(y:aA)(l:aCT):aE:=cSH dw
theorem qf.mono{H H':Hp}{y:aA}{l:aCT}(e:eW)(h:qf H y l):UT qf l:=cSG
theorem dw.put{H:Hp}{y c:aA}{o:HO}{s:mX}(ht:aJS)(h:bP5):dw Br y s:=eZT
theorem qf.put{H:Hp}{y c:aA}{o:HO}{l:aCT}(ne:bBh)(ht:aJS)(h:qf H y l):qf Br y l:=cVa
theorem a3p:∀{d:cQ}{i m:Nat}(h:aGo ZS),QG en sn Vg bBd kC Dg (m-1) sn (aF7 ZS=aO sn):=cN qW d i m h eP sn h (Option.isSome_iff_exists.mp h) aG hm bBd bL bE z cV bGp h aZ DL e aBZ cV bGp h aZ en aB Us en sn rfl hm DK (vz e hm) h h
theorem bfm(d:cQ):∀ls:xE,(EN ls.filter y y.kind 3).filterMap dQJ=(ls.filterMap bT ln dIh).filterMap id:=cGz ls ln aJ ih ih dH
noncomputable def bch(H:Hp)(v:V)(o:uZ mX):aE:=cUu s aOM bP5
theorem afe:Vq [qJ,qH,XH,xM,"aims",SS] qH aci:=dW
inductive oh(Pr:aM)(w:aK)(CH CL CE CS CP:aA)(vs:aN)(H:Hp)(Q:VK)(XE:XK):aE|mk(x z:aA)(L:fY)(d:cQ)(s:mX)(_:ZJ)(_:nE)(_:bIJ)(_:uK)(_:aCa)(_:QD cR2):wB oh
theorem oh.out{Pr:aM}{w:aK}{CH CL CE CS CP:aA}{vs:aN}{H:Hp}{Q:VK}{XE:XK}:cXJ oh cR2:=cZh oh.rec cR2
section
variable{Pr:aM}{w:aK}{K:aL}{mg:bF}{aW:aU}{CH CL CE CS CP:aA}
theorem aq2:∀{Pr:aM}{w:aK}{K:aL}{mg:bF}{aW:aU}{CH:aA}{CL:aA}{CE:aA}{CS:aA}{CP:aA}(F:eM9)(T:bAD)(TH:zL)(TE:xI)(TS:Bv)(TP:Pl)(lv:cXL),eOR:=Xi cJw T TP lv afe z s [pW E,by(obtain⟨x,z,L,d,⟨i,m⟩,rfl,hH,hz,hG,hs,k⟩:=h),cFN afe.nd,FV en sn hen hm hsn hsa (a3p hs),Ms,aJ il iO hen,Ek axc hxi xs aHh xs hxl il,cYc,DF hyl g5,aJ ml iO hsn,aHF b5x hyj ys (m-1) PR ys (m-1) byp hyl ml,aFI dz tp r2 k1 k2 zs k3 k4 (bo g5 hyj hsn),DF hzl k4,bD hlk qP sn.links.length Gx mC ((bCA hG.ok.each).links) sn hsn bg9 ei (aDd m=cZ (m-1)) dO bql hm,gZ oN Hq 2 (bg aG9 aJ9 aD8 bBB aD8) bDB 4 KC 2 xM 3 DU (aam bRu aCI gK T.bxt) zD lv gK bBj KC 4 SS 5 aJz bMw 5 rZ ⟨_,rfl,x,CH,dx,_,_,rfl,hx,pV,qE,rfl,_,rfl,z,_,_,_,rfl,rfl,wU hz,nR,e,_,_,_,rfl,rfl,bAl,cPx,_,CE,dy,_,_,rfl,g1,iZ,jD,rfl,_,rfl,z,_,_,_,rfl,rfl,wU hz,LD,_,_,rfl,rfl,sl,_,_,yW b5x,rfl,rfl,gN g4,(gG ei aUD (m-1) bJs rM),_,CS,dz,_,_,rfl,k1,GD,HR,rfl,?_⟩,HE WI r2 k3,Ka eLD aic bNE (ajn 0) cH2 ajn 3 aUy j1 vs H1 Q E0 aDN cIh eY ln AD bZr ln ((GF≠3∧v=aS)∨(GF=3∧wF u (v=aO u) (bch H' u Lh) (u≠Vm))) bLH j v H1 H2 ln gN k3 Vi qP aLW bz_ hzl hlk dPd u jB qK aI fF bR h2 u cH h3 ?_ h5 aPZ e2 Lh aF e2 h4 aB h4 t aF e2 h4 AJ y h6 h4 WF y GT cPm h5 h6 [eSl hv s1,cS pj hpj rfl (e_ hv),cS ln hln hP (bu k4 hpj),aJ hP (hP.mono s1),jF dp hpp f1 f2 (id hP),aI kD eRL pj dp f1,wY bY c cMl c c c V.int.inj c aG c (GF=3) dO b1o c Ww Lm _ rfl x pj L d ln rfl dR0 hP ?_ ?_ iX e0 H2 s2 aB eVd uN DE e0 MN (by intros t e0 H2 y s2 ny hy) aI eVd aPV gG e0 Gj y hy bY z aZ,bY c,Yx],[ED H1 ps s1 hv M,aJ M1 (lc (m:=cIL) (F:=bch H1) (rs:=ps) (l:=sn.links) cEO hzl<|eTf ln dLZ),kZ Ml M1,aJ Ll (List.length_filterMap_le cIL bZr),aI WI D hv,cY D2 hD2,Ww aOs aic (ps.filterMap id) cIh Xs AD dZ7 o Fn o aS (v=aS) pL t u (o=aO t) (v=aO u) wF y (u=qO) (y≠D2) UT dw t bLH j v Ha Hb o hD2 hv Er CV qP gD ps.filterMap id aB (b_6 hlk Ml Ll) bFd h2 h2 t u h3 h4 y h5 h6 h7 dE qK nF VX t u h3 h4 Mt y h5 h6 GT h6 h7 eSl hv2 s2 cS o ho hO (bu M1 hv2) aI kD WX Kd o [eV (v=iE) hO,Yx] t [AJ y hy hO,HC bA0 bR aO t ho fF yA t EK rfl aT y uN Nq mU hy,aG hy (H1 y=_) hy,aUW WH.bb1],cJY ED H2 ps2 s2 hv2 M2 aJ M3 (lc (m:=id) (F:=cP4 (dw H2 y t)) (rs:=ps2) (l:=dZ7) gG M2.1 Ml<|eTf o (M2.2 j v hj)) cS qs e1 hq (al2 M3) aI (k H2 D2 HD Wj hD2 jA qs fD) Xk db hsa bW Aa (dw H2) qs ((EN sn.links.filter y y.kind 3).filterMap) dQJ DS bfm hq]]
end
end WH
end
section
namespace WH
open PySem PySem.Spec PyProof.Rows L2
theorem bfn{d:cQ}{mK:Nat}{s:mX}{kA:Fz}{gF:aCT}(K:bC5)(l:aCT)(hl:∀y∈l,aGo y):aTn+bV aQo≤aIf:=cN hM an5 bN (aac (l:=aPc++aQo) (m:=cK8) ?_ bSw) HQ bMd aH SY aI cH aTo ((ab0 _).sublist bW4) aBF a ha b hb e bB e aW2 x hx ha aB ((xg.mp hb).2 x.2 hx) kG Ic oS bUL aB (ap9.mpr dSO) aB (ap9.mpr (hl x dV5))
theorem api{d:cQ}(h:uK):aIf≤Zt:=fN aG go Nb d cQ n (kJ e d qC IH→eNQ≤n+12*iH) Ku d cG e d bO bN (go d 0 aEl Cr aHO h.ok.each) bN h.ok.len aV Si33.allSenses rF
theorem a73(a b:Fz):iy Ib=iy a++iy b:=fW iy
theorem ab8(a:Fz):gD iy a=BA:=fW iy
theorem aec:Vq [qJ,ST,bGs,"latest",bDW,"reached",qH,SS] ST aa_:=dW
inductive jr(Pr:aM)(w:aK)(CH CL CE CS CP:aA)(vs:aN)(H:Hp)(Q:VK)(XE:XK):aE|mk(x z:aA)(L:fY)(d:cQ)(s:mX)(_:ZJ)(_:nE)(_:bIJ)(_:uK)(_:aCa)(_:QD Ta aVe s):wB jr
theorem jr.out{Pr:aM}{w:aK}{CH CL CE CS CP:aA}{vs:aN}{H:Hp}{Q:VK}{XE:XK}:cXJ jr dSk:=cZh jr.rec dSk
section
variable{Pr:aM}{w:aK}{K:aL}{mg:bF}{aW:aU}{CH CL CE CS CP:aA}
theorem apj:∀{Pr:aM}{w:aK}{K:aL}{mg:bF}{aW:aU}{CH:aA}{CL:aA}{CE:aA}{CS:aA}{CP:aA}(F:eHY)(B:fQ)(y8:eOR),cYR:=Xi aSP B y8 aec z s [eY9,gQ nd aec.nd,uL hu qu hr hA api hG,dP oN AA 2 (bkb hu fU aw) BW (cg CU fU) aCk 4 aw (wa Rk aIS gK (ai bLG 4 aw awi VF 5 NM ZH KC 3 Nu bBe zD y8 HI GJ 7 eJZ Gk oG RY rZ Gk BW rZ)) 2 c hc,aJ zc (ay hz hc),aI CG _ rfl ah z cGk rfl vH zc hz ?_,bD s1 rJ eFR (((bPC).new hc).new hc) c1 aJ5 aCK uD [(cGk,VN)] Kl bRs ah,vU eFR H1 s1 c1,dP cNb a ha,aHz s2 oB gW cFS ha,Ie c2 YY H1 a cFS c Kl bRs DH ha c1 a2 (qf eDQ a [st]) bR [z] ah aRq cMc ca aJT aKf eDQ H2 s2 c2 a2,aG r0 (bKx=Si33.reachFrom d 3 aIf 0 bRs [st]) mY bZs bOZ dH,aI jA NV fDy MX eXP eW aJT dWx eHH eUB eJQ eYQ (m=ePU) (_root_.EE.a88 _ a 0 aIf bRs [st] aS aS aS (_root_.EE.ba0 rfl s2 ca c2 a2 cTq cKq eM z eZ aOz r0 rfl)),by rintro m σ H'⟨a,n,f,kA,gF,v5,v6,v7,rfl,sH,ca,hc',⟨ps,ha1,ha2⟩,hK,hE,hN,rfl⟩,DF hpl ha2,bNU cJH ha1 hpl,aBx gF WM wX (k H' c sH hc FH) l0 lr [pE l0 lr,FX bE2 (l0::lr) gF,aG hne AH gF bK hM bE2 cG,dQk hlp hne,eP cd_ hbound (hN hne),nQ g rfl hg1 hg2 (ah0 hK (n:=n) hbound),aJa cT bI0 (GV<cZ last.length) (Iw dO b12 hlp) cT,bNx fDy MX eXP eW aJT dWx eHH eUB eJQ eYQ (ePU<g+1+1) (by rintro σ' H2⟨a,n,f,kA,gF,v5,v6,v7,h1,h2,h3,h4,h5,h6,h7,h8,h9⟩) fD (_root_.EE.bsn a n f kA gF v5 v6 v7 (_root_.EE.ba0 h1 h2 h3 h4 h5 h6 h7 h8 rfl)),dP bM8 rfl aX b hb,uL s3 sH.trans oB sK hb hbH sH.free hb,aKq ab ha1 hb cb hc' hb,oQ c3 iY H' b sK c Kl kA DH hb hc' a3 (qf cT1 a gF) (qf.mono (ag.push hb) bR ps ha1 ha2) b3 (qf cT1 b []) cQh,aAR cT1 H3 s3 c3 a3 b3,dG ps ha1 ha2 a3,aI WI a ha1,aG bu' (∀(l:aCT),∀y∈aK3 aF9 3,aGo y) KH lM l y hy aLD q hq (List.mem_flatMap.mp hy) aB (ahz hq),NO aZm jo tN JC i zA aIt v6 v7 aGv sO RO wZ rY KA mI iL b v6 eW aXC a eJy VP Kl bBn eD9 (qf H' b eD9) yB AU s3 ha1 ha2 aIu azr c3 aIu azr b3 eJP i H' [by rintro i v σ H4 hv⟨⟨v6,v7,rfl⟩,s4,a4,p4,c4,b4⟩,Yz,GW t ht hyt p4 hy,dR tIn aGo t bL dG u hu1 hu2 (Qg mC hK.lk t ht) hM hu2 aB (hK.there u hu1) bU8 y t (aUm s4) hyt tIn,iC H5 w5 s5 n5 hw5,dG qs hq1 hq2 hw5,aJ s5H (s4.trans s5),gO a5 wJ a4 p5 Tp (dw H5) gF PZ p4 s5,Gd c5 wJ c4 b5 b4.mono s5,dR wb (w5≠b) kX aFs bs hb1 b4 aB aKf bPD w5 hq1,JU eS4 aId jU (∃v7:bJ,aGv sO RO wZ rY KA mI iL b Vd) eW aXC a eX eJy DB w5 aId sJ (dw H') qs aW8 VP Kl bBn cWF (qf H' b cWF) bKi rK s5H a5 p5 hq1 hq2 pP pP dLl cTl j h [by rintro j v σ H6 hv6⟨⟨v7,rfl⟩,s6,a6,p6,w6,q6,c6,b6⟩,EO u hu6 e_ hv6,GW t2 ht2 hut q6 hu6,aG et ((aW8).take jP=aVi aW8++[t2]) zB rO ht2,by rw[et,←EG,a9n kA _ t2 mI],aJ lP (bfn hK dI1 Go y hy dH),OX cWF nw c6 b6 lP,oE Xj c Ab (ug t2) c6 hut bcg,Uq e2 aNQ ((aNp).any) t2 [qX cGt aY,WM bKi rK s6 a6 p6 w6 q6 c6 b6] [jJ CV (¬bI=aY) jL,bD en (Kb (iy aNp) ug t2=aS) eJp bcg t2 aNp e2 lt (gD iy aNp<vO) bK cE ab8 fA cK Nz (aTn+nw.length≤Zt) by_ hA lP,HC aKj c bN9 (ug t2) c6 hut lt,aH aJn en,zG ct FF (H6 c) HU s7 rJ aP9 H6 aOS bCh a7 iY H6 c bOr a gW tN vH ca a6 w7 iY H6 c bOr w5 cKy vH AL w6 c6 w6,eN p7 cYy p6 mX dw aOS ct q7 cYy q6 mX dw aOS ct,CA u7 aH9 hut.put aOS ct b7 (b6.put (o:=bOr) KJ cb ct) c7 aJ5 H6 bOr Kl bBn (nw++[t2]) vC (by rw[ah,lN,←EG,a73 aNp]),by(generalize aP9 H6 aOS=H7 at s7 a7 w7 p7 q7 u7 b7 c7⊢),aDz bs hb1 hb2 b7 hbl,aG bt FF (H7 b) HU,aEg ⟨_,rfl,rL hb1,_,rfl,b,_,_,rfl,rfl,hb1,aBn bQc Ji Zt aB (caa hA lP hbl),rK,?_,?_,Fj p7 bt,?_,Fj q7 bt,?_,bR (bs++[u]) ?_ cKz Fj hb2 bt u7.put bt⟩ VR q Ux VQ fE,dE VQ fE VQ fE,aB aUd]] (by rintro σ H6⟨⟨v7,rfl⟩,s6,a6,p6,w6,q6,c6,b6⟩) DF ql q6 aG et ((last.take eG).flatMap aF9 3=dHZ aW8) bK aW1 ht cG aZ] (by rintro σ H4⟨⟨v6,v7,rfl⟩,s4,a4,p4,c4,b4⟩) DF pl p4 (by rw[cK,pl,OM]at c4 b4) HK ⟨_,rfl,b,mI,g,_,_,_,_,_,rfl,s4,KJ cb,c4,b4,hK.next mI,?_,?_,?_⟩ bE e aZ bE e aZ dH]]
end
end WH
end
section
namespace WH
open PySem PySem.Spec PyProof.Rows L2
noncomputable def dh(H:Hp)(y:aA)(t:EW):aE:=oM y aGp t.1 bKB bJF
noncomputable def iw(H:Hp)(y:aA)(l:Yb):aE:=cSH dh
noncomputable def act(a b:EW):gE:=mQ a.1 b.1||(a.1==b.1&&(mQ aCR aPH||(bKO (aCR==aPH) aOX bLV)))
theorem aed(a b:EW):aRz↔bBr a.1 b.1 (aCR<aPH∨(aCR=aPH∧aOX≤bLV)):=fW act
theorem a3q(a b c:EW)(h1:aRz)(h2:bMG act):bMk act:=tQ aLv aed b96 h1 h2
theorem a3r(a b:EW):(yZ act||act b a)=aY:=dB cE aEY aed aed b_f
theorem a74:∀{a b:EW}(h1:aRz)(h2:bBU act),tW:=QJ jG a b h1 h2 aLv aed bCZ e1 bCZ e2 aB (Prod.ext e1 eTd e2)
noncomputable def bkd(t:EW):iU (Int⊕aR):=[Gn t.1,Gn bId,Gn bJF]
theorem cd':bDd EW (PyProof.Rows.lexLt itemOrd (bkd b) (bkd a)=bI) aRz:=Gv a b h aH aed cV bkd h ON PyProof.Rows.lexLt itemLt h bO
theorem a75:∀{α β:cJ}{F:tZ}{l m:eK}(p:dS2),JY t DM Ei m t eY u Ei l u (u.Perm t):=kX sY α β F l m p (by induction p with|nil=>rw[Zq t h,DT,lH [] eF eF]|jR x _ ih=>rw[cY t h,Oy h a r cS u h1 h2 (ih r) lH (_::u) (.jR a h1) (h2.cons _)]|swap x y l=>rw[cY t h,aRl h a r aRl r b r aB rP bH7 b a r HG (.swap)]|trans _ _ ih1 ih2=>rw[cY t h,Sr u (ih2 h),cS v h3 h4 (ih1 h1),lH v h3 (h4.trans h2)])
theorem ag':aYh ps bM UR tN (us=aUc Ig):=aPP ps cY _ h DT (by rfl) p ps [cY _ h,bIK h [bX r,dAQ t]]
theorem a3s:LO ps bM (Vals tN (aUc Ig)):=Ku ps aB eF p ps RU rfl ih
noncomputable def asd:aH3 aA|jT=>a|_=>0
theorem bfo{ps:bM}{out:eQ}(h:cTu out.Perm):∃qs:bM,out=qs.map Ig∧qs.Perm ps:=bA JU jA (out.map asd) ?_ [aH mL,dP1 out,aQP mR v hv,IE p rfl (Qg (h.subset hv)),by rfl] bN (h.map asd) aF mL aP aG e (aUc (asd∘Ig)=ps) vC bEs cDN ps aZ
theorem baa{h:aU}{sh:WU}:aJi ps bM kJ p ps (∃f,TupOf h sh iW f) (∃fs,TupsOf h sh Vz fs):=GO ps bY _ dL [] eF p ps [bY q,cX f hf (q p aX),cX fs hfs cXu q,dL (f::fs) (.jR hf hfs)]
section
variable{X:Cx}
theorem a3t:∀{X:Cx}{bH:dM}{σ:cO}{H:Hp}{s:bC}(I:LI){p:aA}{t:EW}(h:La p t),cV9 iW=aO (bkd t)∧∃f,TupOf kO aXp iW f:=by rw[yK X bH σ H s I p t h,_,dAG aKX rv o ho hc n hd VJ p h,dAu r3,bU6,eP t3 rfl r3,dL (G.tupKeyC_of ho hc hd rfl) (bXN _ p o _ n bA8 ho hc hd rfl eZ AU MN)]
inductive a0q(K:aL)(vs:aN)(H:Hp)(Q:VK):aE|mk(a:aA)(ps:bM)(ts:Yb)(_:aDS)(_:aWb tN)(_:Tp (dh H) ts)(_:TB qs bM us Yb p aA qQ sJ (dh H) qs us (us.Perm ts) (us.Pairwise aVt aRz) JV (Q iW EU p aId)):Tz a0q
noncomputable def bke(K:aL):LH:=aEy a0q
theorem bab:cWm aKO bke:=by rw[bMy,Cd a ps ts rfl hs hp q h,Du rv hl aLO hs,cFZ r,aJ ei (ag' rv),bB ei,aF cK hz,sX a76 p ps (∃t,La p t) sR cY p hm bBC i hi hm IE t ht (bu hp hi) cKQ,cX fs ht (baa (h:=s.heap) (sh:=aXp) ps bG p hm (let⟨t,ht⟩:=eEc;(a3t I ht).2)),dR hk iJ v (v∈Vz) (∃l,cV9 v=aO l) sR cY v hv aW2 p hm hv cX t ht eEc gJ ((a3t I ht).1) (G.sorted_tups dDj ht hk aYf fun st' a77 a0o _=>?_),bD hpl ((aOt).toList.Perm ((Vz).zip (aUc Ig))) iV hM pairsOf_toList Array.perm_iff_toList_perm.mp a77 b50 cTu ((NA aOt).toList.Perm) Ac bN (hpl.map xP) aH aFz aG e ((cTu ((Vz).zip)).map xP=aUc Ig) DR List.map_snd_zip bEi _ aF e aP aP,cS qs eq hq (bfo b50),cS vs hv1 hv2 (a75 hq hp),kZ hql hv1,cX ep he' (PyProof.Rows.sortedAll_at kO Vz ((bFX st').map xP)),dR lP rQ bV aId dB aQ cK dE9 hz Fh aQD EU xC aId bYb I.laid aE2 PyProof.Rows.sortedAll_old (Nat.le_succ _) aT lP uJ ((NA aOt).toList) ep DR eq a3s qs he' (q qs vs _ hv1 hv2 ?_ dVd),aJa key (∀i(h:i<uU),KK (G.tupKindC kO aXp) (bFX st') i=bkd vs[i]) KW cY i h bD hqi gH qs eN1 PL hvi gH vs (vs[i]) PL aJ aim (bo hv1 hqi hvi) bD sz ((aOt).size=qs.length) gT bN Ya eq uB aFk bFW cK aP aP hai gH aOt bDy (Array.getElem?_eq_getElem _) bD h2 aBa ((bDy).2) eN1 YT IY aHx rW l eq (by simp only[bFs,bYB,hai,kB,hqi,IK]at aP) JN bVL h1 ((bDy).1=(bDy).2) ((mem_zip_self (hpl.subset (Array.getElem_mem_toList _))).1) aV KK aH hai Fq ((cV9 ((bDy).1)).getD) [] cE h1 h2 ((a3t I aim).1) (by rfl) bEX,eUT,bN eIj a0o tQ aMb pairsOf_size cK dE9 xf hql hj,dA (key i hi) (key j hj) aP,JN cd']
end
end WH
end
section
namespace WH
open PySem PySem.Spec PyProof.Rows L2
theorem a0r{K:aL}{H:Hp}{y:aA}{s:mX}(h:bP5):WT qO aDH [cFX,fT s.2]:= .tup dQB eFc
theorem bkg(s t:mX):eBl aDH [cFX,fT s.2] aDH [cDX,fT t.2]:=eI6 cE IR LS bZt b_w
theorem bve{X:Cx}(hu:bSz):Bu bXT VD (∃a b s t,eX rN Bq Ss a s Ss b t bPq tK s t):=fN eXv cJs s t aI dAB btr ePS (a0r ha) (a0r hb) aH bkg aB q
theorem aha:aNb ST bGs qH IW ST ads:=dW
noncomputable def aim(x:aYU):EW:=(x.2,aHl,aNY)
inductive pi(Pr:aM)(w:aK)(CH CL CE CS CP:aA)(vs:aN)(H:Hp)(Q:VK)(XE:XK):aE|mk(x z:aA)(L:fY)(d:cQ)(s:mX)(_:ZJ)(_:nE)(_:bIJ)(_:uK)(_:aCa)(_:QD (iw H' y ((bMD).map aim))):wB pi
theorem pi.out{Pr:aM}{w:aK}{CH CL CE CS CP:aA}{vs:aN}{H:Hp}{Q:VK}{XE:XK}:cXJ pi eO8:=cZh pi.rec eO8
theorem a0s:∀{d:cQ}{s:mX}(h:uK)(hs:aCa),tR Km s Zt:=WG jG d s h hs aJ hA (api h) aV bZs bOZ bO fCW tR cIk aIf K.le bOh (go _ _ _ _ cTq aX) hA
theorem axh:∀{d:cQ}{s:mX}(hs:aCa),mV aCf Km s:=Gv d s hs aV bZs bOZ bO fCW mV aCf cIk aTo aGF go _ _ cTq aX
theorem bci:∀{l:Fz}(nd:mV aWw){x:aYU}(h:cL5),l.find? JO y y.1 x.1=aO x:=kX jG l nd x h PQ l DT a l [AS a l ih,bO]
theorem a3u{d:cQ}{s:mX}{us:Yb}(hp:eVp us.Perm)(hs:us.Pairwise bG a b aRz):us=bOB bMD:=cN aG p2 eVp ((bOB bMD).Perm) bOB dRf aI (aag (hp.trans p2.symm) hs ?_ fun a _ b _ h1 h2=>aV2 a74) cJZ aB (List.pairwise_mergeSort bLJ (a3q (aim a) (aim b) (aim c) h1 h2) aVt (a3r (aim a) (aim b)) _)
theorem a78(st:mX):cHh Fz eUK bOB nM Ct (x.1 !=st):=eOW e
section
variable{Pr:aM}{w:aK}{K:aL}{mg:bF}{aW:aU}{CH CL CE CS CP:aA}
theorem atu:∀{Pr:aM}{w:aK}{K:aL}{mg:bF}{aW:aU}{CH:aA}{CL:aA}{CE:aA}{CS:aA}{CP:aA}(F:eHX)(B:fQ)(ip:cYR),Lk bWK 5 ST pi:=Xi aSP B ip aha z s [eY9,HF aha.nd,Yq Xu 2 Pc ip (cz bab dEe bZh (aun bBj aYB 2 qH 3 DU ET (bve bFI) 3 fU aEb Gy 2 gK aSs 3 aSs 3)) bU8 z st hH hz hs,eR5,aJ rl (a0s hG hs),aJ rn (axh hs),QW aKh c hc od,cR6 c,bD cD (c≠D) bBx hcf aJ5 H1 aY5 aY5 ah,fCG hzf (dw eDH z st) (dw.put HU (hz.mono s1)) Vv c aIF iY H1 c aY5 b o H1 c aY5 Kz b eDH H2,FX hrr bKx rc,fFk cWB a2h (a_c c od (iy rc)) rc.length rl bTs rc JB (e.1=st∧r=aS) (e.1≠st) wF y aJk qO aRx (dh H' y (aim e)) cSI e bBG dV9 dWa KI dAC cFM aas hei rc eOv (iy rc) bLP ekv eXk kD cFv q z st hqs (hzf.mono sH) vL aFJ st aPL KI DO e aG aUo (aWI rc aFJ=aO qT bZu) zB axg mC bci rn hei HC ⟨_,rfl,_,rfl,c,_,rfl,(eXe fF kF (iy rc) (ug aFJ) q QZ KQ od bBG hqs hval.symm tM bZu),_,rfl,q,_,_,_,rfl,rfl,wU hqs,nR,_,rfl,q,_,_,_,rfl,rfl,wU hqs,LD,Ba,?_⟩ aKo aI ZC bAJ rP hei fF bR e y uN Nq ah bPH Ty H3 ps s3 (lc (m:=eUK) (F:=cP4 (dh H3 y t)) (rs:=ps) (l:=rc) M.1) e aF a78 hq aJ ajq kE hcf zX aT ajq zM D qs _ rfl gN cKj cK4 hq ?_ lJ p t hp HM H3 c _ p jV lV bL aF z hp aF iR (H3 c=_) hp ajq bX ajq aB hp [aKG rs us y hr1 hr2 hr3 hy,bD hyc bBh bBx hy3 (H3 y=aS) dB aF (aq hyc) hy hy,cKC hy1 (hnew y (s3.free hy3)),OC eus (a3u (d:=d) (s:=st) fD hr3) eus hr1,aI (k _ y eMN hy1 bR rs ah bTl hr1 hp aIK hp),KI]]
end
end WH
end
section
namespace WH
open PySem PySem.Spec PyProof.Rows L2
noncomputable def my(x:gL):yU:=[Gn x.1,Gn VS,Gn aBT]
theorem alc:bDd gL (my a=my b) tW:=RM a b h cV my h KZ
theorem sg{α β:cJ}{F:tZ}:ZN l eK m DM (iS=aK7) aDG i a α b β cRN Ov Ys|[],[],_,_=>eF|[],uP,h,_=>vN|uP,[],h,_=>vN|a::l,b::m,h,q=>aBD (q 0 a b rfl rfl) sg rX oW i x y h1 h2 (q eG x y fE fE)
theorem aws{α:cJ}{l:eK}(nd:bEq){i j:Nat}{x:α}(h1:aRf)(h2:bRv):i=j:=dQd iO h1 nd bEA dCn
theorem dh.mono{H H':Hp}{y:aA}{t:EW}(e:eW)(h:Oa t):aRm t:=aXI
theorem iw.mono{H H':Hp}{y:aA}{l:Yb}(e:eW)(h:cQw):dVh:=cSG
theorem dh.put{H:Hp}{y c:aA}{o:HO}{t:EW}(ht:aJS)(h:Oa t):dh Br y t:=eZT
theorem iw.put{H:Hp}{y c:aA}{o:HO}{l:Yb}(ne:bBh)(ht:aJS)(h:cQw):iw Br y l:=cVa
theorem dh.x{a:aA}{H H':Hp}{kvs:jQ}{y:aA}{t:EW}(s:aRc)(ha:Yc)(h:Oa t):aRm t:=eFY h
noncomputable def gg(ks:iN)(ys:bM):jQ:=eFJ cVh my
theorem sv{ks:iN}{ys:bM}(h:bQ3):bV Do=TZ:=GU gg
theorem ain:eZO iN gL bKS Do|[],_,_,_=>rfl|uP,[],_,_=>rfl|Bl,bQ4,k,h=>eUs cVB yW y Do alc ain
theorem aio:fB5 iN gL bKS Do|[],_,_,_,_,_,h,_=>vN|uP,[],_,_,_,_,_,h=>vN|Bl,bS2,0,k,y,nd,h1,h2=>eLV|Bl,bS2,eG,k,y,nd,h1,h2=>fBg cVB yW z Do alc KZ aio
theorem bkh{ks:iN}{ys:bM}{i:Nat}{k:gL}{y:aA}(h1:dK5)(h2:Xc):gH Do dYM:=cGw gg (bEW (z:=(k,y))|>.mpr cQH)
theorem bcj{ks:iN}{ys:bM}{k:gL}{y:aA}(h:bQ3):gg bQE cMK=Do++[dYM]:=eRE gg
noncomputable abbrev z8(H:Hp)(ys:bM)(ks:iN)(f:BU):aE:=sJ bG y k (iw H y (f k)) ys ks
theorem z8.put{H:Hp}{ys:bM}{ks:iN}{f:BU}{c:aA}{o:HO}(hl:aRs (H c))(ht:aJS)(h:aHH):z8 Br ys ks f:=ME h QS y k (bZq tO Fu IP ps z1 z ht)
theorem z8.app{H:Hp}{ys:bM}{ks:iN}{f:BU}{m:Nat}{b q:aA}{t x:gL}{ps:bM}(nd:bZv)(nk:UB)(hb:Be ys b)(ht:Be ks t)(hx:La q x)(hl:aO5 b)(hp:Aa (dh H) ps f t)(h:aHH):z8 EU b dMt ys ks yE eJL:=cN aG nt FF (H b) bK cY xs z aZ aI (sg dQy oW i y k hy hk ?_) vL i m dQf bB e aF hb hy aF ht hk bX hy bX hk bW cB iw jI t t (f t++[x]) (f t) qX rfl lH aBP q bAM cKz Fj hp nt hx.put nt [bD yb (y≠b) eUr nd hy hb kt (k≠t) eUr nk hk ht,bW cB iw eJL,jJ kt,aB ((bo h hy hk).put yb nt)]
noncomputable def jj(ks:iN)(f:BU)(k:gL):iN:=nM ks.flatMap iM cOM eZ x
theorem bac{ks:iN}{f:BU}{k y:gL}:xA aWY ks↔bPo∧k∈f y:=mY jj aZ
noncomputable def fi(ks:iN)(f:BU):Nat:=aHY gD f k
theorem bad(f:BU)(k:gL):∀ks:iN,tR aWY ks bH6:=eYU (by unfold jj fi at*) dH
theorem ahb:mP [IC,"back",XI,SS] [IC] adt:=dW
inductive mj(vs:aN)(H:Hp)(Q:VK)(XE:XK):aE|mk(a:aA)(ks:iN)(ys:bM)(f:BU)(_:pM)(_:aWv)(_:aHH)(_:UB)(_:aNL)(_:aWu)(_:cY8):BQ mj
theorem mj.out{vs:aN}{H:Hp}{Q:VK}{XE:XK}:KF mj cFI cY8:=cUr mj.rec cY8
theorem ase(f:BU):Nb ks iN i (fi Eu f≤bH6)|[],_=>aX|Bl,0=>fW fi|Bl,eG=>bL aJ ih (ase f ks i) bE3 fi aZ
section
variable{Pr:aM}{w:aK}{K:aL}{mg:bF}{aW:aU}
theorem atv:fC2 eGm cVz:=cXN eZh ahb [fEB ahb.nd,dP oF (ai MC 1 aan ZI eHd aVy fU jC NM eHd bBe Gy 0 jC DU bMg bQN gK 1 RY dWI jC UZ 1) c hc,aJ ac (ay ha hc),Ie sx1 bBL aCK Xg DH hc e a1 En c tP a MM DH hc ha c1 En c tP c eRU ah aCK H1 sx1 a1 c1,QW aKh a a1 od,aI aMD a od cD5,Ie sx2 bBL eDG (sx1.trans OW) a2 iY H1 a Wy a Wy ah c2 iY H1 a Wy c eRU NZ ac c1 eDG H2 sx2 a2 c2,fBt cUE od jU eJ2 aRc oA a Wy (∃bs:bM,eX (Ji=i) bs.Nodup kJ b bs xB VP eL6 (z8 H' bs Eu eZ [])) gY AU sx2 a2 aYs Fi LN aX c2 eF [by rintro i σ H30 v H3 hi⟨⟨v2,v3,rfl⟩,sx3,a3,bs,hbl,hbn,hbf,c3,hL3⟩⟨rfl,kk,vv,q,hkv,rfl,hq⟩,dA6 kn b51,aG hqk (dh H3 q kn) hq,dP eO aX b hb,aKq cb c3 hb ab a3 hb,bD hbH xB dAX (H b) aF JJ sx3 KJ ab hb bX hb kt (dFa eG=Eu++[kn]) zB rO hki,bD tl (Ji=bV Eu) aID sZ caj hi hbl nin (kn∉Eu) jX bE z dG j hj e (List.getElem_of_mem z) aF sZ hj aF List.getElem_take e bN (aws ndk (i:=j) (j:=i) (x:=kn) vJ Al (dBZ hj (Nat.min_le_right _ _)) e hki) mG,eVB Lg _ rfl c _ rfl bN9 aIk CV iY H3 b sK c eL6 VQ fE DH hb hq bK aQ (sv tl) sZ bMa vZ (min i TZ) aB (b_t hkl) AU ?_ ?_ (bs++[b]) fW hbl ?_ ?_ ?_ Xn (aq MY hc) MY hbH sx3 FM,IU [aH SY,aI pD hbn aX,cYm,eM hy,bB hy,dAL,NK j hj hx,eA0 kj h1 hL3 hj,_,fO] fO,jK jS ah cUF ain kt (bcj tl) aH kt oQ L4 (z8 DA H3 b bs Eu eZ []) xS hL3 uG aMe hb nt FF eTn cMZ nl aRs eTn cMZ bL1 (L4.put nl nt) bKV aZ6] [by rintro σ H3⟨⟨v2,v3,rfl⟩,sx3,a3,bs,hbl,hbn,hbf,c3,hL3⟩,_,vQ OM c3 hL3,aI eO a3,bD na FF (H3 a) HU nl aRs (H3 a) HU,oQ sx4 bBL bRT MM (sx3.trans OW) a4 iY H3 a MM a MM ah c4 iY H3 a MM c cB6 NZ ac c3,aJ L4 (hL3.put (o:=MM) nl na),aAR bRT MM H4 sx4 a4 c4 L4,QW aKh a a4 od2,aI aMD a od2 cD5,bD na4 FF (H4 a) HU nl4 aRs (H4 a) HU,oQ sx5 bBL dVq (sx4.trans OW) a5 iY H4 a aPv a aPv ah c5 iY H4 a aPv c cB6 NZ ac c4,aJ L5 (L4.put (o:=aPv) nl4 na4),aAR dVq H5 sx5 a5 c5 L5,fBt cUE od2 eX eJ2 aRc dXY cEk bJj bs (jj Eu g) nP AU sx5 a5 c5 L5 [by rintro i σ H60 v H6 hi⟨⟨v2,v3,rfl⟩,sx6,a6,c6,L6⟩⟨rfl,kk,vv,q,hkv,rfl,hq⟩,dA6 kn w5,aSS hqk (dh H6 q kn) hq ts hw1 hw2 eCt hki,aJ hwA AL hw1 ha,dR bkl (mw H6 a tM iL w5) cV4 Do q KQ od2 a6 hq hki hyi aGd _ rfl a bkl w5 rfl gJ gN bAt hwA hw1,aJo eS4 bOo zA (∃v3:bJ,aN2 rY wZ iL q) aRc dXY cEk (dh H' q kn) bJj bs yE cRs yB rK sx6 a6 c6 hqk fC QE aHk j sx GT hwA hw1 (by rintro j v σ H8 hv⟨⟨v3,rfl⟩,sx8,a8,c8,q8,L8⟩) EO u hu8 e_ hv GW t ht ceb hw2 hu8 aJ hut (ceb.x sx8 ha) bD et ((aCl).take jP=cEt++[t]) zB rO ht ef (∀k:gL,bLC dYq bKk=jI k t (cRs++[kn]) cRs) Fv k fO kZ bl L8 aI Xj c eJz AT hin t ks IU [NK m hm hin,gO ml iO hm hbm Be bs eHn PL,aJ aUo (aio ndk hm hbm),aH aUo,aJ b53 (hbf _ cTn iP m),dG ps g1 g2 (bo L8 hbm hm),aAR eHn b hbm aUo b53 g1,kZ gl g2,eN lb1 (bad g t (dFa i)) lb2 dQj bT a tK a t ((aCl).take) j,aJ lb3 (ase g ks eG),oQ lb4 (fi dRD g=fi Eu g+gD g kn) qS fi jS rO hki lN List.sum_append cG e0 (pF=bV (jj Eu g t)+bV aBh ((cEt).filter) a a t) Uk gl fA cK lps cGf Tm aF sZ lb2,OC g3 eJz aUo g3,eVB (f_ ⟨_,rfl,_,rfl,c,_,rfl,g3,rL g1,_,rfl,b,_,_,rfl,rfl,g1,bMm lps,rK,?_,?_,?_,q8.put HU,?_⟩) jV MY b53 sx8 [jV AL a8 g1,aB a8],fP jV AL c8 g1 aB c8 bN (z8.app hbn ndk hbm hm q8 g1 g2 L8) aZ] [aH (ain hin),uM yB rK sx8 a8 c8 q8 dX1,iC m b k hb hk,aJ e9 (ef k),aF eC oO hin Am e9,aSU (iw H8 b bLC dYq bKk) e9,aB (bo L8 hb hk)] [by rintro σ H8⟨⟨v3,rfl⟩,sx8,a8,c8,q8,L8⟩,dJ nP AU sx8 a8 c8 ?_,kZ wl hw2,aCy wl L8,eV (∀k,jj dRD g k=bLC aCl bKk) SI bE k jj aW1 hki cG,aH (aK6 aP),aB L8]] [by rintro σ H6⟨⟨v2,v3,rfl⟩,sx6,a6,c6,L6⟩,_,aF OM L6,bD na6 FF (H6 a) HU nl6 aRs (H6 a) HU,aI aT a6 wX (k _ c bs bPe hc bBl (L6.put nl6 na6)),CC b a,aY7 jV z bAt z e]]]
end
end WH
end
section
namespace WH
open PySem PySem.Spec PyProof.Rows L2
noncomputable def acz(ks:iN)(f:BU)(x:gL):iN:=fZ Ue cNB (f x) lT bPo []
noncomputable def weight(f:bPl)(p:bA6):iN→Nat|[]=>0|Bl=>(fZ (p x=aY) 0 (f x))+aB2 f p
theorem a79(f:bPl){p p':bA6}:JY ks iN kJ x ks (p' x=p x) (bGt f p' ks=cSd):=bBN ks bY _ x bY h aV bGt aQ (h x aX) cXv
theorem ald(f:bPl){p p':bA6}{k:gL}(h1:p k=bI)(h2:p' k=aY)(h3:As (x≠k) (p' x=p x)):∀{ks:iN},cA UB (k∈ks) (aB2 f p'+f k=cSd):=aCx ks cY _ h DT x ks cY nd h aF aAb nd aV bGt vL x k KO bB e cE h1 h2 (a79 f (p:=p) (p':=p') ZB (h3 y oO nd.1 fC)) bO cE (h3 x e) Nat.add_assoc (ih nd.2 tX)
theorem aq3(f:bPl)(p:bA6):∀ks:iN,cSd≤(bFA f).sum:=eYU aV bGt bO
noncomputable def agg(H:Hp)(t:aA)(x:cPL):aE:=eY y oM t zY qO pI x.2 Oa x.1
noncomputable def TurnsAt(H:Hp)(a:aA)(l:aY0):aE:=bLu aBe tN (agg H) l
theorem agg.mono{H H':Hp}{t:aA}{x:cPL}(e:eW)(h:eL2):agg H' t x:=Mr y bKE (h2.mono e)
theorem agg.put{H:Hp}{t c:aA}{o:HO}{x:cPL}(ht:aJS)(h:eL2):agg Br t x:=Mr y bA wT (h2.put ht)
theorem TurnsAt.put{H:Hp}{a c:aA}{o:HO}{l:aY0}(ne:aJT)(ht:aJS)(h:eDP):bGu Br a l:=cVa
theorem asf{α β:cJ}{F:tZ}{l:eK}{m:DM}{b:β}(h:Ei l (m++[b])):pL l' a (l=l'++[a]) Ei l' m Ov:=eS7 m l bMS bX t aB yA [] uN eF r bMS QX l' a h1 h2 (ih t) aB jO (_::l') a uN (.jR r h1) h2
theorem axi{α β:cJ}{F:tZ}{l l':eK}{m m':DM}(h:Ys)(h':Ei l' m'):Ei (l++l') (m++m'):=bB2 aB h' r RU r ih
noncomputable def ajr(l:iN):jQ:=YR Zr k (my k) bCr
theorem bcm(k:gL):∀l:iN,CJ bKS (ajr l)=lT (k∈l):=aXg x [aJ ih ih,bW (CJ cVB bCr (ajr l)=_),vL x k,fP aH (j8 bOb) mF e aQ (i_ cOV) ih bO]
theorem aff:DX [IC,"left","entered",XI,dFb,"turn",SS] IC acj:=dW
inductive ko(vs:aN)(H:Hp)(Q:VK)(XE:XK):aE|mk(a:aA)(ks:iN)(ys:bM)(f:BU)(_:pM)(_:aWv)(_:aHH)(_:UB)(_:aNL)(_:aWu)(_:cY7):BQ ko
theorem ko.out{vs:aN}{H:Hp}{Q:VK}{XE:XK}:KF ko cFI cY7:=cUr ko.rec cY7
structure br8(H:Hp)(ks:iN)(f:BU)(l e w:aA)(H':Hp)(iG bx:iN)(st:aY0):aE where
 same:eW
 hl:iw H' l iG
 he:oA e uD bQl
 hw:TurnsAt H' w dFc
 dfs:aWg bI7 st
 cover:∀x∈ks,bAR∨(x,bI)∈st
 sub:∀p∈st,p.1∈ks
 es:∀x∈bx,Ue
 en:bx.Nodup
 few:bRE (gD f k+2) bRw≤Zs
theorem bod(g:BU){k:gL}:JY ks iN (k∈ks) NW g k (fi ks g):=aCx ks bY h DT x ks bY h aV fi aQ rC aUp zI bJM jK bS bN (ih z) cV fi aP JN byn
theorem pick_false(ks:iN):cHh iN eNs aDg (Ct bT t cKL) t t bI:=eOW t
theorem boe(f:BU):cUw aHY (gD f k+2) (bH6+2*TZ):=cNt ks x ks aJ ih ih bE3 fi dH
section
variable{Pr:aM}{w:aK}{K:aL}{mg:bF}{aW:aU}
theorem aq4:bVr Pr eGl B fQ cVy:=cXN bVc Pr B aff [fEB aff.nd,aI oN AA 1 NM Hm aan ZI (aum bDB 4 aYB 0 XI 3 DU oy Fk gK agp) fAt aQg (i8 Yl) RY fU Yl bMg aZa Yl 2 PH aP8 jC Yl Hx oG Fk Yl agp aIM oG aUV (dm Gy 0 Yl) aMH [(SS,6)] Nu (aam (abd bQN HI 0)) Fk HI agp UZ 1,dP eO aX l hl,CA al (ay ha hl) s1 oB sK hl l1 En l sK l sK ah,vU cOc H1 s1 l1,dD e he,cKC heH he,aKq le l1 he ae ha heH,aHz s2 oB tP he,bD l2 iY H1 e tP l sK DH he l1 e2 iY H1 e tP e tP ah,OX KB e tP H2 s2 l2 e2,yG a2 cMb aKh a a2,bE od,cR6 a,bD aD (a≠D) bBx hD2 eBm dB aF aMQ aD hD hD,cKD hDH hD2,aKq lD l2 hD2 eD e2 hD2,bD af iY H2 a Wy a Wy ah sx2 (b9 a H2 FG a Wy) OW,OX FG a Wy H3 af sx2 hD,BF cWB a2g cUE od TZ hkl (∃kk t y,zA gH ks kk aJk cI t (t≠D) aRx oA t dV2 aRm kk) dB (by rintro i r Ha Hb sx⟨kk,t,y,h1,h2,h3,h4,h5,h6⟩) kF kk t y eTR GT h3 h5 dVk aNH af bLo hi bLo av3 Yx [dAC,dA6 ci0 b51,eP dl hDs hDs,yG qD AL hq hDs QT,bW (b30 (aex (ajn 3) (aex (tC (Cw bI)) atb)) _ _ eCQ),Bb aDk t ht ZC pK ht kF _ t q yB hki rfl Nq qD ah DH ht hq,bPG] [Ty H4 ps s4,aJ M3 (lc (m:=eEd) (F:=eGr H4) (rs:=ps) (l:=ks) M.1<|KH lM j r hj aLH kk t y h1 h2 h3 h4 h5 h6 (M.2 j r hj) lH kk h1 fF xY uN h2 Gj t bR y h5 h6),cJu,aF iR (ks.filterMap eEd=eB2) fC hq,aJ a4 zC af,dR na FF (H4 a) HU eO a4,zG s5 rJ cRc dYa CC b a cMA z mU eo l5 iY H4 a MM l sK NZ al cMA KJ al l2 e5 iY H4 a MM e tP NZ ae cMA KJ ae e2 D5 (bGu cRc D (bFA tL (x,bI))) bR qs bA Yx Fj hq na,aAR cRc H5 s5 l5 e5 D5,aJ w0 (aq3 yE bCm bJO ([]:iN) ks),aF boe w0,aI jA NV fBJ iG bx st (m=bRE bCm bRw) (_root_.EE.ajx _ [] [] aAh eB2 aS aS aS uN LK s5 bKV l5 e5 aEi iV hM dFd Dfs.start ks.reverse AO fF aOD Kh p hp rM aX LN bA rM rfl),by rintro m σ H'⟨iG,bx,st,v3,v5,v6,rfl,I,rfl⟩,_,aDz ws hw1 hw2 I.hw hwl,fFB [uM wX (k H' l iG bx I.same hl I.hl I.dfs ?_),bE x,QW eO bT hx eRR hx,aG hxe bAR bK zI bQU dE aB z aZN,kW SZ,bE nx,bN (I.dfs.a1f x hxe nx),bX aP] tn eP kn bn tn fE2 dZv AM ws' tw rfl hw3 hw4 dZ8 aG knk (kn∈ks) (I.sub _ bN6) bNx fBJ b54 a7_ st2 (st2.length+aB2 yE bCm bJO a7_<bV dZv+aB2 yE bCm bRw) aLZ σ' H2 l2 e2 st2 v3 v5 v6 h1 h2 h3 h3 (_root_.EE.agk l2 e2 st2 v3 v5 v6 bSs rfl) [OC few I.few qZ few,aF lN hw1] eYI D eY3 (H' D) aGg rM rJ cP8 wA VR b jV bA1 hDH aB cB I.same eo bGu cP8 D CA t6 dVD l6 (I.hl.put (o:=gW Te) lD nt) e6 YY H' D Te e uD bQl vH eD I.he aUn cP8 H6 s6 w6 t6 l6 e6 dG yk t7 k7 t6 aI aP7 tw _ _ _ rfl bO4 LD _ rfl aLl bn aY [eXR l6,CA D7 I.dfs.leave lle (aac I.dfs.nd AO eRR) ntl FF (H6 l) HU,dAM (f_ ⟨_,rfl,rL hl1,_,rfl,tw,_,_,_,rfl,rfl,bO4,nR,l,_,_,rfl,rfl,hl1,aBn bMa vZ lps.length rF,iG++[kn],bx,jM,_,_,_,rfl,eWS ?_ bR (lps++[yk]) bAM cKz Fj hl2 ntl k7.put ntl bBl (w6.put (bEm lD) ntl) D7 ?_,aX⟩) VR b Ux SH zI bQU dU qK aZ] bI [uM ⟨_,rfl,tw,_,_,_,rfl,rfl,bO4,nR,_,rfl,e,_,rfl,Ab aIk e6 k7,_,rfl,?_⟩,aH bcm,AT hke kn bx,JM Ar hke uM (dEX iG bx jM _ _ _ uN eWS s6 l6 e6 w6 (I.dfs.skip hke) bSw aX) zI bQU dU qK rM [DO hke,aJ enl (aac I.en AO (I.es x hx)),aC9 env Kb bQl my kn eJp bcm kn bx Wi hke,eZG tw bO4 nR e bN9 aIk e6 k7 qS ajr aH cK Nz vZ bx.length bg2 hkl enl,aQ aJn env iR (bQl++[(aIk,bCr)]=ajr bH9) fW ajr,bD nte FF (H6 e) aGg rM s7 rJ eH7 bCh,CA w7 (w6.put (o:=aQT) KJ eD nte) l7 (l6.put (o:=aQT) le nte) t8 iY H6 e aQT tw dV3 vH AL t7 e6 t7,gO k8 aH9 k7.put cBk nte e7 iY H6 e aQT e aQT ah,by(generalize eH7=H7 at s7 w7 l7 t8 k8 e7⊢),aDz wps hw5 hw6 w7 b56,aF aK9 b56,dP aBr rL hw5 _ rfl tw _ _ _ rfl rfl wU t8 nR FA ?_ tn htn,aKq tD hw5 htn ttw t8 htn,bVv cIH D DH htn hw5 dLa (wps.length≤Zs) bx8 few b56 sp7 bIE Lb htn,oQ nt7 FF (upd H7 tn zY bIE Lb D) cMZ s8 rJ cU4 cB8 Yx w8 (bGu cU4 D (dFe++[(kn,aY)])) bR (wps++[tn]) bAM (bYn xS hw6 ((aMe sp7).put nt7) (agg.put nt7 bR yk ah (k8.mono sp7))),gO l8 ((l7.mono sp7).put (o:=gW aYg) lD nt7) t9 YY cFB D aYg tw dV3 vH AL t8 hw5 cB sp7 t8,gO k9 aWm ((k8.mono sp7).put) aYg nt7 e8 YY cFB D aYg e aQT vH eD cB sp7 e7,by(generalize cU4=H8 at s8 w8 l8 t9 k9 e8⊢),fE7 w8,uB fA aK9 bFq hxl,eNr,fBv hyi ys hyl,aDz gs hg1 hg2 eCt hik hgl,aDx bkl (mw H8 a cI yk iL wk) cV4 Do yk gB Az ha k9 hik hyi gle bod g knk,dP ⟨_,rfl,rL hx1,_,rfl,_,rfl,tw,_,_,_,rfl,rfl,wU t9,nR,a,_,rfl,bkl,wk,rfl,aDa s8 hg1,?_⟩ D2 hD2,cIP (aic (xs:=gs.map qI) aPg r DD t aCl t aGj (t∉ks) (r=aS) cCQ (∃u y,eX aJk cI u (u≠D2) (y≠D2) oA u dV2 aRm t) cSI t hD2 sM s8 hg1 aBn Sb Nat.le_trans vZ gs.length rF ?_ ?_) bFd h2 h2 h2 u y h3 h4 h5 h6 h7 fBE nF aT h2 jO u y nP h3 h4 h5 dVk GT h5 h7 BD i v H9 hv9 s9 hD9 C hC EO y hy e_ hv9 GW t ht bkm hg2 hy aJ hyt ((bkm.mono s8).mono s9) yG yD (ay (bkm.mono s8) hD2) kD Xj a Ab (my t) aQF Az ha hyt AT hin t ks Nn NK mt hmt hin aJ mtl iO hmt aH (aio ndk hmt (FW (l:=ys) kH)) HC aDk dD u hu9 aI ZC pK hu9 cPO KQ hin jO u y Fi Nq yD ah uG hyt.mono hu9 bPH [aH (ain hin),WM Mf cPO gB NP hin],fD0 iC H9 ps9 s9 hv9 M9 aJ M10 (lc (m:=eNs) (F:=eGr H9) (rs:=ps9) (l:=aCl) Uk M9.1 cK hgl<|Gv j r hj aB3 t (M9.2 j r hj) aI jA t h1 (by rcases h2 with⟨h2,h3⟩|⟨h2,u,y,h3,h4,h5,h6,h7⟩) wH Qh h2 h3 _ bS fBE _ nF xY cH cF4 h3 Gj u bR y h6 h7) dG zs ez hz (al2 M10) aF pick_false hz kZ hzl hz aF cK hzl gO fle dQj bT t cKL g kn nt9 FF (H9 D) aGg Yx aF ez hv9 [aJ wl dNN yE bCm bRw bJO bH9 Wi hke dK8 AO aJc aOD,BH ⟨D,D2,_,_,rfl,rfl,aQF hx1,hv9,eTb aB (b99 few hxl hzl fle wl),iG,bH9,((aCl).filter bT t cKL).reverse.map bT t (t,bI)++(kn,aY)::jM,_,_,_,rfl,LK ?_ ((l8.mono s9).put lD nt9) bA aDs ?_ (I.dfs.enter hke ?_) ?_ ?_ ?_ ?_ ?_,?_⟩ VR b _ Yx [aI jA eAp bA Yx,by rw[dFf,bFp,←dFd,dFg],eOD xS hx2 ((aMe s9).put nt9) hz nt9]] Bj bE y aV acz rM SH zI bQU dU rM rM Bj dD p hp vK hp hp jB rM VM hp hp hp dE rM aB dN9 SH Ic dU aB (I.es x hx) rM bDL aH SY aI pD I.en aX cYm rM rM rM]]]]
end
end WH
end
section
namespace WH
open PySem PySem.Spec PyProof.Rows L2
theorem axj(p:bA6):∀l:iN,iS=eBG+gD Ct aK4 a (p a)|[]=>rfl|HS=>NI aJ ih (axj p l)
theorem a0t(ks:iN):aJi l iN UB (aHY bV aBh Ct a a k≤iS):=aBI ks aB aE2 mJ k ks [cY l nd,aF aAb nd,aJ ih (ih (Ct dXO) nd.2),dRw eLY ((Ct dXO).filter) eLY Ct fN cY k' hk' aH dFh aI bAh bX8 List.filter_congr LR a ?_ CC a k' dX6 aQ cEh aBO aKJ (nd.1 dB FU y z hk') DO z,aF e ih,aQ rC aUp,bOh (Nat.add_le_add_left ih _) bNX oU (axj bT a tK a k l)]
theorem a7':∀ks:iN,dP6 eZ 0=0|[]=>rfl|Bl=>Uk rC aUp (a7' ks)
theorem a8a:cUw dP6 eZ 1 TZ|[]=>rfl|Bl=>dB jS rC aUp (a8a ks) qZ b1s
theorem a8b{ks:iN}(nd:UB)(f:BU):∀ks':iN,bSa ks'≤fi ks' f|[]=>iV eV (bSa []=0) (a7' ks) bz7 aP|cL4=>Wr eN ih (a8b nd f ks') h (a0t ks (f x) nd) pO bSa cL4 (aHY bV cOM+bSa ks') bK (by clear ih h nd) aNx ks k ks [BB rC aUp ih,eV (bV aWY cL4=bV cOM+bV aWY ks') mY jj cE SX fA cK,JN b_n] aH e bE3 fi
theorem bcn(g:BU):cUw aHY (gD g k+1) (aHY gD g k+TZ)|[]=>rfl|Bl=>NI aJ ih (bcn g ks)
noncomputable def uh(H:Hp)(R:aDt)(kvs:jQ):aE:=VE RN (R x) (bNj=aS) r eJD
theorem uh.map{H H':Hp}{R:aDt}{kvs:jQ}(m:kQ y r Oa r aRm r)(h:aSB):aYe R:=tL xX (h x) rM
theorem uh.none{H:Hp}{R:aDt}{kvs:jQ}(h:aSB){x:gL}(e:aY6):bNj=aS:=dWm
theorem uh.some{H:Hp}{R:aDt}{kvs:jQ}(h:aSB){x r:gL}(e:rT R r):eJD:=dWm
theorem uh.has{H:Hp}{R:aDt}{kvs:jQ}(h:aSB)(x:gL):CJ bNj=CJ (R x):=bA DL e (R x) aH (h.none e) (by rfl) r [IP y h1 (h.some e),bS]
theorem uh.put{H:Hp}{R:aDt}{kvs:jQ}(h:aSB){k nH:gL}{y:aA}(hy:Oa nH):uh H tL fZ (x=k) (Option.some nH) (R x) aGD my k qO:=tL bK vL x k wH bB e lO tU lH y vJ ab3 tU hy lO WE bN (h x) aAZ e2 (R x) [aF e2 aP,bW (qR cy=_),aQ ab3 eC cOV,aB aP] r [aF e2 aP,Sr z aP,lH z dB aQ ab3 eC cOV h1 h2]
theorem ale:DX [IC,"back",bD5,"root",dFb,XI] IC ahu:=dW
inductive va(vs:aN)(H:Hp)(Q:VK)(XE:XK):aE|mk(a:aA)(ks:iN)(ys:bM)(f:BU)(_:pM)(_:aWv)(_:aHH)(_:UB)(_:aNL)(_:aWu)(_:dAw):BQ va
theorem va.out{vs:aN}{H:Hp}{Q:VK}{XE:XK}:KF va dHF eX pM aWv aHH UB dZ aNL aWu dAw:=cUr va.rec dAw
theorem aq5{ks:iN}{f:BU}{x y:gL}:xA (acz ks f x)↔dZ Ue xA (f x) bPo:=zK acz
theorem bog{ks:iN}{f:BU}{x y:gL}(h:Rch bI7 x y):Ue∨x=y:=bA bEg h aE1 cG zS e _ sQ aB5 aq5.mp
section
variable{Pr:aM}{w:aK}{K:aL}{mg:bF}{aW:aU}
theorem ay':∀{Pr:aM}{w:aK}{K:aL}{mg:bF}{aW:aU}(F:eGk)(B:fQ)(aau:cVz)(za:cVy),eP1:=cXN yK Pr w K mg aW F B aau za ale [dPw ale.nd,gZ ZQ MC 1 Bm aau aCk 2 aan JH (a6s rfl bY3 CU Bm za) DU FL Hl (cg CU gK) fAt eJZ rZ gK aIM oG Gy 1 rZ 2 eZ3 a g ha,aKG H1 c bs s1 nc hc hB,dD r hr1,cKC hrH hr1,Sx sp1 tP hr1 r2 iY H1 r tP r tP KB r tP H2,aHz s2 sp1,aI aP7 a ks ys g cMb dYj ndk hkl hsum,yK H3 yl iG bx s3 nyl hyl hD hlk,_,eXR hyl,bNU Ee yl _ gN hl1 hll,gO hsb (a8b ndk g ks) II VE zQ Ue y (acz ks g x) bPo (fun x _ y hy=>(aq5.mp hy).2.2),BF (ana (J:=Itv K yl bGv) bGv JC i eX (∃v3 v4 v5:bJ,aGE rY wZ aJq v3) aHd cRZ cYh (∃kvs R,eX aO2 r aYe R aPs dLQ (bGv-i) As Vs Ue cYH aBY (R x)) OD Bp (sp1.trans s3) hl1 hl2 [] aPI kE r2 tL rfl kM AO fC QS x y (UK) QS x r (UK) YW z (UK) VG (aq3 eZ 1 aBY (aS:cKw) ks) a8a aZ (fun i σ H' hi⟨_,_,h,_⟩=>aT hi xY aT gN h Wz (FW (l:=lps) iP)) Ci σ H' lB ?_ ?_) [by rintro i σ H4 v H5 hi⟨⟨v3,v4,v5,rfl⟩,s4,yl4,p4,kvs,R,r4,hR,hT,hRk,hRl⟩⟨rfl,hy⟩,gQ hv (hy _ (bi.of yl4)),aFX ry hry e_ hv,GW nH br' hrt p4 hry,bDF b59 ((hlk nH).mp (Qn br')) cNb wt hwt,aJ b5_ (s4.free hwt),ZZ rw' (ay r4 hwt) yw (ay yl4 hwt) spw oB gW [yW ry] hwt w0 (aq3 yE bB7 aBY (R x) ks),aF bcn w0,aI jA NV eZP R' eX (σ=[rY,wZ,aJq,iL ry,iL wt,v5]) aHd cRZ cYh MX eHI eJb aO2 r aYe R' eOX R' As cLF Ue cYH bMx (m=bRE bB7 bMx) (m≤Zs) (_root_.EE.xa _ R [nH] kvs _ Nl rfl (s4.trans spw) cB spw yl4 PZ p4 spw dVK bR [ry] ah aRq dVK cB spw r4 (hR.map YN (aMe spw)) (Back.start b59) gY hRk hRl rfl FH),by rintro m σ H'⟨R',st,kvs,v5,rfl,s5,yl5,p5,rt5,⟨ws,hw1,hw2⟩,r5,hR5,hBk,b5',bvj,rfl,aTZ⟩,DF hwl hw2,fFB [uM nP Bp s5 yl5 p5 jO kvs R' nP r5 hR5 ?_ b5' bvj,aJ hj (bXo br'),eP hj1 hj2 hj,HJ el iG (left.take bQJ++nH::left.drop (bQJ+1)) cVQ hj2 tl gD left.take bQJ bQJ gG sZ bzk,bN (hBk.done hD el FH AO ((hlk x).mpr hx) II AO ((hlk x).mp hx) fR x y h (bog h)),dH] kn fE2 (kn::jM) EF ws' tw rfl hw3 hw4 dZ8 gQ knk ((hBk.wait kn aX).1) [aF qZ aTZ,aF lN hw1] bNx eZP R2 ZY σ [rY,wZ,aJq,iL ry,iL wt,v5] aHd cRZ MX cYh eHI eJb aO2 r aYe R2 eOX R2 As sN (R2 x) Ue cYH aBY (R2 x) (bRE bB7 aBY (R2 x)<bV (kn::jM)+aB2 yE bB7 bMx) (by rintro σ' H2⟨R2,st,kvs,v5,h1,h2,h3,h4,h5,h6,h7,h8,h9,h10,h11,h12⟩) h12 AN R2 st kvs v5 fCo gY h10 h11 rfl FH eYI wt eY3 (H' wt) aGg dH aB6 cP9 bCh iw cP9 wt gO t6 dVD yl6 BT H' wt Te yl cD1 vH yw yl5 CA p6 ME p5 bLy p gL (dh H' p q) dVC rt6 cFa rt5.put r6 YY H' wt Te r ES vH rw' r5 aJ hR6 (hR5.map bLy y gL aRm q dVC) (by generalize cP9=H6 at s6 w6 t6 yl6 p6 rt6 r6 hR6⊢) [aI Xj r Ab aIk r6 t6,aH (hR6.has kn)] bLg eR (R' kn) rr [fH rr,uM AN R' jM kvs _ Nl rfl s6 yl6 p6 rt6 w6 r6 hR6 (hBk.skip fD) cH b5' bvj aX] [eN wl1 eY7 eZ 1 wl2 eY7 yE bB7,HC aKj r bN9 aIk r6 t6 aSm aQ4 vZ oK b__ hkl bvj,bD ntr FF (H6 r) HU s7 aB6 eH8 bCh,CA w7 (w6.put (o:=bOq) KJ rw' ntr) t7 aH9 t6.put aOx ntr yl7 iY H6 r bOq yl gW cD1 vH AL yl6 r6 yl6,CA p7 cYy p6 gL dh aOx ntr rt7 aH9 rt6.put aOx ntr r7 iY H6 r bOq r bOq ah,aJ hR7 ((hR6.put (k:=kn) rt6).map bLy y gL (dh H6 y q) aH9 z.put aOx ntr),by(generalize eH8=H7 at s7 w7 t7 yl7 p7 rt7 r7 hR7⊢),fE7 w7,aF aK9 hxl,eNr,kZ hbl hB,fBv hbi bs hbl,dG zs hz1 hz2 ((bo hB hbi hik).mono s7),aG hzw (wk≠wt) kX aFs zs' hz3 (bo hB hbi hik) aB (ay hz3 b5_),kZ hzl hz2,bD bkl (mw H7 c cI tw iL wk) cV4 dGD tw gB KG hc t7 hik hbi nt7 FF (H7 wt) HU,zX ⟨_,rfl,rL hx1,_,rfl,_,rfl,c,_,rfl,bkl,wt,wk,_,_,rfl,rfl,hx1,hz1,eTb mG,tL cIV kn,aAh (jj ks g kn)++jM,_,_,rfl,?_,Av,Fj p7 nt7,rt7.put nt7,jA eAp bIV,Av,hR7.map YN (z.put nt7),hBk.take eR ?_,?_,?_,?_⟩ VR b _ jV bA1 b5_ aB KG eo [aQ dFf dFg,eOD Fj hx2 nt7 hz2 nt7],FJ bE y cE List.mem_reverse bac aq5 bS SH dH,kG bN (wc kvs (my kn) cI ry) dH,dH]] [by rintro σ H4⟨⟨v3,v4,v5,rfl⟩,s4,yl4,p4,kvs,R,r4,hR,hT,hRk,hRl⟩,_,aF bEz hT,QW wX (k H4 r kvs R iG (aL8 s4) hrH r4 hR hT ?_) x,QW eO (hRk x) hx,vI hT.all x,bS]]
end
end WH
end
section
namespace L2
open PySem PySem.Spec PyProof.Rows
section
variable{eJ:aM}{w:aK}{K:cJ} [dBa K]{knd:dZp K}{A:cM}{E:cU}{s:bC}
theorem a8c{d a:aA}{xs:GH K aVo}{k:K}{v:bU}{Q:cU}(hu:knd.room A)(II:eNd)(hm:bT5 knd)(hsz:NT)(h1:JK p (aR4=aO p) p.2 bBs)(h2:eKM RA h' ePb v cTB kO (Q v aGk cCi)):FE eBx v:=SI aAt o es ep ho hc hd he his hn hm dictSetDefault aZ5 cKb cLz cMQ cJU aXq knd.pyHash hu II (wpAny_dictFind_heap (s:=bBs) hu II ho hd he his hn ?_ ?_) bY hno uL hat atKey_none_of_get hno hnot not_mem_keys_of_get hno Ww (wpAny_bind (wpAny_rule (aLQ (wpAny_updateDictKeys (hz:=tQ aJ e (size_of_entries he) bg3 hsz e) (s:=bBs) ho hd cFQ (h2 hat _ lW dBS (ep+1) yB cGY ho Obj.isFreed_of_dict (Obj.data_mapDictKeys hd _) (hc.mapDictKeys _) (Obj.data_mapDictKeys hd _) ?_ ?_ ?_ aOA))))) eBw CI he entryOfKey eBw aI1 Ic jK aB (knd.keeps (his x hx) ho hd aOA) OJ dEq hx bB hx aB (knd.keeps II ho hd aOA) kG cE (storedH_new hat) lN SY bO iX j p hj gX (bFG (s:=bBs) ho hd ?_) aQ (entry_at he j) hj Gg bAa wpAny_rule (h1 p (atKey_of_get hn hj))
theorem a3w{d a:aA}(hd:bBy)(aFK:bU):MeetsIn eJ w (Builtin.«dict.setdefault» BI [KL,jT,aFK]) fR A R s (knd.room GA∧∃k xs,eX eNd bT5 knd NT UY p aR4 Eo p.2 bBs eKM RA h' ePb aFK cTB kO Eo aFK aGk cCi):=aZ1 vM (by rintro(A)R s⟨hu,k,xs,II,hm,hz,h1,h2⟩) mW Builtin.«dict.setdefault» Builtin.Dict.keyAndDefault aWU (wpAny_notOrdered_dict bYM ?_) DC _ Th (d,bOR,aO aFK) Ud DC _ nN (d==Zf) _ (eBx aFK>>=_) jJ rX Gg (a8c hu II hm hz aCM cUs p.2 (h1 p hp) kI hn h' hm' hs' cUs aFK (h2 hn h' hm' hs'))
end
section
variable{X:Cx}{bH:dM}{σ:St}{H:Hp}{s:bC}{a b:aA}{v:V}{r:bU}{A:cM}{E:cU}{kvs:jQ}{k:yU}
theorem bkn:∀{X:Cx}{bH:dM}{σ:St}{H:Hp}{s:bC}{a:aA}{b:aA}{v:V}{r:bU}{A:cM}{E:cU}{kvs:jQ}{k:yU}{Q:cU}(hu:SF)(I:dQ)(e:Yc)(eb:aQ7)(l:aD5)(rv:UQ v r)(h1:UY v' JZ dXl v')(h2:aKy→cPb cNx r),bKN "dict.setdefault" [jT,vF,r]:=QJ (by intro X bH σ H s a b v r A E kvs k Q hu I e eb l rv h1 h2) EF z hd xs rel dd ZM a6n _ cY6 NT cNR xX cGu v NQ byy l aIC (call_meetsIn dFi Jl PySem.F.entry_dict_setdefault HG PySem.F.args_dict_setdefault_3 (a3w (knd:=bTO) hd r) aT aXX jO k xs aZf aYi dd hz) dD p hp aJ rv (rel.val k) aF hp rv DL ev JZ aF ev rv bX rv v' [aF ev rv,aB (h1 v' ev _ _ PY rv)] qW hn h' dd' hs aJ rv' (rel.val k) aF hn rv' cQu ev JZ v' [aF ev rv',bX rv'] aI (h2 ev _ ?_) cJf q g2 g3 g4 g5 eZv aQn q nP hq g2 g3 g4 g5 bRL
end
inductive a8d(ty tx:TE)(σ:cO)(Q:VK)(x:V)(H1:Hp):aE|mk a(_:rN)(_:bCE)(_:cXn eKV (y=vF∧eX yY H3 ES MA H3 aVI aD5 JK v bBD v H3 (aKy→Q z kP H3 a uD bHA z))):aSA a8d
noncomputable def boi(td ty tx:TE):TE:=Yi aSA a8d
theorem aq6{X:Cx}{o e f:bZ}{CK zT:Pos}{td ty tx:TE}(hu:Ny)(ho:Ni)(he:bPM)(hf:eBP)(m:fAm dFj):pJ aYj dFj bBz (boi td ty tx):=Ze oR Q h dKi dFi PySem.F.type_dict_setdefault dOV bB ex Vh dNK cI4 bUq aDf he bFn iv s2 y H2 I2 ry q2 aI (bX0 JF aZJ hf) (by rintro(fv)(s3)(⟨z,H3,I3,rz,kvs,k,b,ey,ea,eb,hl,q3,q4⟩)) aYI bB ey bUz aB (bkn hu I3 ea eb hl rz IF v' hv w' s4 I4 rw' VX v' H3 I4 rw' (q3 v' hv) fR hn s4 I4 yA z Lv I4 rz q4 hn)
end L2
end
section
namespace L2
open PySem PySem.Spec PyProof.Rows
section
variable{eJ:aM}{w:aK}{A:cM}{E:cU}{s:bC}
theorem boj{T aAS:uR}{AY a:bU}{jM:eQ}{b:dUW}(hl:bMF RW bDV aWo bGw)(hm:Bind.madeBy RW=pure aO aAS)(hne:eL0):aN3 Builtin.«object.__init__» aT (AY::a::jM) ND bLi (s.TypeIs AY T∧Eo uH s):=kK rG Meets.of_wp (by rintro(eJ)(w)(A)(R)(s)(⟨hT,hq⟩)) aV Builtin.«object.__init__» bYD List.isEmpty qX cGt (! bI||! bI) bTU aZ
theorem a8e:∀{eJ:aM}{w:aK}{A:cM}{E:cU}{s:bC}{T aAS:uR}{Bn:Builtin}{a:bU}{b:dUW}{S:PySem.Spec}{Q:cU}(ft:TypeCalled T aAS bGw)(hne:eL0)(hct:eIc T ND)(hcn:dWQ aAS cRp RW)(hok:∀obj,argsOk bGw cRp obj)(bZw:entryFor table aAS=aO Bn)(g:aN3 Bn cRp RW S)(h:S GA (wants bG obj s₁ (s₁.TypeIs obj T∧Q obj s₁) E) s),FE (call RW xZ ND):=Id (by intro eJ w A E s T aAS Bn a b S Q ft hne hct hcn hok bZw g h) _ dG c tl cpv ft.mro eN hmade dFk hsub ft.sub aI (wpAny_call (codeAny_of_tree ?_)) ZG _ (callAny RW _) _ Wp aT (Code.quiet_builtin _ fC) cD4 F.entry_type_call aH (Around.under_plain (weight_type_call_type T xZ ND) (units_type_call_type T xZ ND)) eN h1 ft.notType h2 ft.canCreate bTU dRH (codeAny_call_builtin ft.plain bZw (wpAny_of_eq hcn (g eJ w GA _ s h))) lJ r s₁ hr bNQ r hr fl [fH fl,cFU fl ret obj [fH obj,eN hT hr.1 hli dFl,aJ hbi (ft.init.bind obj),bTU,dRH (codeAny_call_builtin ft.init.plain F.entry_object_init (ft.init.check _ _ _ _ _ _ _ _ hT (hok obj) (boj (T:=T) (self:=obj) (a:=a) (rest:=[]) (b:=b) dFl dFk hne eJ w GA (wants Nk s₂ (r=uH∧Q obj s₂) E) s₁ Gj hT hr.2))),lJ r₂ s₂ hr₂,bNQ r₂ hr₂ fl₂ [fH fl₂,cFU fl₂ ret r [cX rfl hq hr₂,bTU] aB (om6 hr₂)]] aB (om6 hr)]
theorem a8f{M:BC}{pos:Pos}{T:uR}{SQ:GH gE aOK}{kws:GH uZ Str aOK}{Q:cU}(aT0:args.any wL=bI)(hkw:kws.any (·.1.isNone)=bI)(h:aIm (evalArgs RW aY SQ kws) bG a s₁ YI M A (call RW a.pos a.kw) Q E s₁):aIm (callWith pos RW [] SQ kws) Q:=Lx aV callWith aI YQ aFv eQI a aHD wpAny_standAt (by simp-iota only[aT0,hkw,dEF]) aLQ aGK aZt h₁ fR r s₂ hr dRl bAa wpAny_point hr
theorem bok(a v:bU):eIc OG bKY v:=bHi
theorem bol(a v:bU):dWQ "enumerate.__new__" dVx bAx:=bHi
theorem bom(o a v:bU):argsOk bGw dVx o:=mY argsOk bFZ
theorem bko(l:aA)(iK:qA)(n:Nat)(dct:yH)(sl:FR)(t:Tok):aN3 Builtin.«enumerate.__new__» aT [bAx,BK] dUD cQv GS l aMW VL dct aOm sl cI Bx aZr ePA:=aZ1 vM cZ0 aI7 cX hl h h eMq hL (Heap.IsList dZ5 l iK) bYV (AutoSeq1.wpAny_loadPart' hl) eSM oY FJ eZq sE dVP fP cX8 aB sS h cX8 aB sS h cX8 aB sS h
theorem bae{l:aA}{iK:qA}{t:Tok}{Q:cU}(hL:aEt)(h:iJ h' eUq h' cA (h'.IsListIter fJ l 0) dVp (Q cI xC NG)):FE (call bAx [BK] dUD):=KW cCD c dct dt hl hL (by replace hc:c=VL:=hc) (by replace hd:dt=aOm:=hd) LP hc hd eWU a8e qR bok qR bol (bom obj _ _) (bko l iK n dct sl t) hl aG hz (Bx aZr=xC) cJ6 bW (_∧_) aH hz aG he eUq ePA bJW bN cTi aZr EL OG Zh cB0 HA dLc hz dL GI he (h _ he dTd eFs)
end
theorem asg{P:aM}{w:aK}{A:cM}{it:aA}{fp:bM}{n:Nat}{Pt:lR Nat bU}{St:bRV}(D:Draws P w A it fp n Pt St):Draws P w A it fp mI vE v dXZ (Pt j v) vE h dXZ (St j h)where
 live:=dB (by rintro(_)_⟨j,_,st⟩) (D.live j _ st)
 bY8:=Kw (by rintro(_)_ _⟨j,e,st⟩hk) j e (D.frame j _ _ st hk)
 OR:=dB (by rintro(i)s Q E hi⟨j,e,st⟩hQ) (D.item j s Q E kH st IF v h' tk hp hs sb (hQ v h' tk bR j e hp bR jP kH hs sb))
 pS:=dB (by rintro(s)Q E⟨j,e,st⟩hE) (D.done s Q E fC hE)
noncomputable def bkp(K:aL)(a:aA):It:=cZW DQ bQi T bSd (dF=i)
theorem baf{P:aM}{w:aK}{K:aL}{Jm:mD}{kk:Nat}{YD:Pos}(a e it:aA):cZ7 bPA bQh eX cYE it aIx cSE (e≠it) (a≠it) (e≠a)where
 mem:=aX
 obj:=NI (by rintro(i)h⟨⟨old,he⟩,⟨o,ho,hc,hd⟩,_⟩b hb)
 sF:=dB (by rintro(i)h h'⟨⟨old,he⟩,hi,hne⟩k) eVF
 OR:=Zd (by intro X hP hw hK hc i bH s σ H E I hf⟨⟨old,he⟩,hit,hne⟩⟨xs,x,hq,hx⟩) DW aKu aSC cKB hel he eZ8 cNq hit fCn eSw he aT i uN hit Qv aGT bz0 hne.1 ho cS j ej hv hv HJ ei j i kH ev u v gT aJ hv hv uB ei CV (cLW=rW its) cG hu hv zV hv bB ev YC j2 ej2 aqi hst aXm ei2 j2 eG dO bpl ej2 aqi aI cYA (tk+1) ho h'' eNy bD new cSP bQi fJ bJL x cSM [LZ aIx tk,u] I1 yS bQi fJ Kk h'' (tk+1) dAo bQh aPU eSr gT cY ys hy aH (I.agr hy hq) hx hne.1 FT eVf (cGB:cHi it) ePY
 pS:=kK (by intro X hP hw hK hc i bH s σ H E I hf⟨⟨old,he⟩,hit,hne⟩⟨xs,hq,hx⟩) DW aKu WJ aRM bB hx aB (wpAny_pyNext_enum_endD eSw he aT Ra uN fC Qv bG h' eb kD aNr cW0)
 AY:=tQ (by rintro(A)i s Q E⟨⟨_,he⟩,_⟩h) dDH he h
inductive bco(K:aL)(R:CD)(vs:aN)(H1:Hp):aE|mk a xs(_:pM)(_:aEv)(_:bC9 bkp):aOp bco
noncomputable def bvk(K:aL)(ta:TA):TI:=bCa bco
theorem apk:∀{X:Cx}{e:bZ}{ta:TA}{p pos YD cp kp:Pos}{j:Nat}{Jm:mD}{kk:Nat}(hg:cNF)(hm:cM7)(ha:bQY)(hs:autoParam (bTB) EE.autr._auto_1),cIf cAg OG [e] [kM aO ST (.bXF gR 1 j cp) kp] bvk:=by rw[by intro X e ta p pos YD cp kp j Jm kk hg hm ha hs,_,KE R,_,cDY cFi bYu iB iB,aG he (aVv [e]=bIb aVv []) cMw,oE (a8f DE he rfl ?_) he,vI evalArgs_kwB rfl,hM he,aI JF aVN,aLZ us s1 vs H1 I1 r1 a xs ex hq q,_,bB ex,cFZ r1,aI (kws_cons (wpAny_Constant_int (kws_nil ?_))),aJ I2 (I1.tok dQg),nQ its rv p' hz (I2.list hq),ZG _ (call bAx Bc bKY LZ 1 _) _,vI bae bYq,jG h' he hit hk,dJ (dDH he ?_),gO I3 (I2.kept (t':=dQg) hk) hal (a<pT) bL3 Rm o n ho p' ho,MT cYb I3 baf aZf cS4 hit dQl ?_ aB (bz3 hal) aB (b0r hal),aSb,fFg (rX:cVt)]
section
variable{K:aL}{a:aA}{xs:aN}{g:TG}{tb:TS}{D:yO}{σ:St}{H:Hp}
theorem al3(Pv:aDY)(h0:aJL)(hl:cRo)(hs:cZU bQi T)(hd:bCp):aSQ bPA:=dPq MZ xs bNO hl
end
end L2
end
section
namespace WH
open PySem PySem.Spec PyProof.Rows L2
noncomputable def aip(H:Hp)(v:V)(o:cKw):aE:=cUu t aOM Oa t
theorem axk:cUV qH avf:=dW
inductive abn(Pr:aM)(w:aK)(CH CL CE CS CP:aA)(vs:aN)(H:Hp)(Q:VK)(XE:XK):aE|mk(x z:aA)(L:fY)(d:cQ)(ln:lF)(_:ZJ)(_:nE)(_:aNU)(_:dPh):wB abn
theorem abn.out{Pr:aM}{w:aK}{CH CL CE CS CP:aA}{vs:aN}{H:Hp}{Q:VK}{XE:XK}:cVA abn dXc:=eWB abn.rec dXc
theorem afg:DX [qJ,IC,jZ,lK,xK,qH,xM,SS] qJ ack:=dW
inductive oj(Pr:aM)(w:aK)(CH CL CE CS CP:aA)(vs:aN)(H:Hp)(Q:VK)(XE:XK):aE|mk(x:aA)(L:fY)(d:cQ)(_:JW)(_:nE)(_:uK)(_:dAp):wB oj
theorem oj.out{Pr:aM}{w:aK}{CH CL CE CS CP:aA}{vs:aN}{H:Hp}{Q:VK}{XE:XK}:BV oj bSb dAp:=BX oj.rec bSb dAp aKE
theorem bag:LO E LG (fi aJN (ma E)≤aAp):=fN bE E aJ h (a0t aJN aWW (adb E)) dRw eNu cA0 aWW eNu bRt vG aUb k aV ma cE Qo cK cK (by rfl) dA e cK h aB h
noncomputable def ash(H:Hp)(c:aA)(E:LG)(H':Hp):aE:=eW∧wF ys VP uD (gg (Qq E) ys) (z8 H' ys aJN (ma E)) FS bZv y ys Td
theorem ash.mono:∀{H:Hp}{c:aA}{E:LG}{H' H'':Hp}(s:Ti H'')(h:bCl E),ash H c E H'':=KH xN H c E H' H'' s h fAn eTz aDi h3
section
variable{Pr:aM}{w:aK}{K:aL}{mg:bF}{aW:aU}{CH CL CE CS CP:aA}
theorem bfp:∀{Pr:aM}{w:aK}{K:aL}{mg:bF}{aW:aU}{CH:aA}{CL:aA}{CE:aA}{CS:aA}{CP:aA}(F:eGs)(TP:Pl)(lv:cXL),cXs:=Xi aSP TP lv axk z ln [eY6,gQ nd axk.nd,SU dz hp hz hhp (id hP),dJ oN VF 2 Pc lv Gw Od 2 bAX aGa NU Dx 2 Dx 2,aI Lm _ rfl x z L d ln rfl hH hP eKU aJJ (k H1 _ s1 DE e0) (fun t e0 H1 y s1 ny hy=>aIj ⟨_,rfl,z,CP,dz,_,_,rfl,kY hz,uY,zJ,rfl,_,rfl,y,_,_,_,rfl,rfl,wU hy,nR,_,rfl,y,_,_,_,rfl,rfl,wU hy,LD,Ba,bG t2 ht2 lW k cLC ht2 gG e0 Gj t2 ah⟩)]
theorem aq7:∀{Pr:aM}{w:aK}{K:aL}{mg:bF}{aW:aU}{CH:aA}{CL:aA}{CE:aA}{CS:aA}{CP:aA}(F:eFo)(B:fQ)(TH:zL)(TE:xI)(TS:Bv)(TP:Pl)(ab9:cXs),eQr:=fFE cJw B TP ab9 afg fFD afg.nd evl a9z dP oN aZs aan aJ6 jY AI DU bQs At aDX aJz JH (dm UJ 5) Nu FL MC 7 zD ab9 HI Ke bMw 7 RY bCj aq6 fU aEb UJ 6 jC oG Gk c hc bD k1 (ash H c [] aCK) dPp xc aOj H' bCl [] eW wE h.1 fEx v2 v3 v4 v5 v6 v7 bJi sO wZ v2 v3 bCl cCW [fCe v2 v3 v4 v5 v6 v7,fD6 dz,_,cJT hzi cTC hen a8g ((d.zipIdx.take eG).flatMap) cLb (cCW++dVY) lE aTl eG,bOP lE lE evl,aI NX,fE9 JG,cZZ cOD sl cLD g4,fDu aZn al3 FC JC j ((∃v4 v5 v6 v7:bJ,bJi sO wZ Ex RO)∧bCl dJj) aT WZ aEi bNP j g4 (by rintro j v σ H4 U2 hv2⟨⟨v4,v5,v6,v7,rfl⟩,hI2⟩hU2) zs aWV cOT dR lS (gD ((en.senses.zipIdx.take j).flatMap) aWV+bV cOT≤bV dVY) lS bPJ aJ hI2 (hI2.mono oB zY fT jP qO hU2) UA eOx H4 H5 hI2 dS6 aVp y CS dy aC8 hI2.1 GD HR r2 aDa hI2.1 q3 eLE jo aDN ((aIt v6 v7 aGv sO wZ Ex RO KA jP Vd v6)∧bCl cW6) aT AU aEi bNP m q3 (by rintro m v σ H6 hv3⟨⟨v6,v7,rfl⟩,hI3⟩) dAf hv3 q4 aJ hP (hP0.mono hI3.1) bD b6b ((sn.links.take (m+1)).filterMap bK8=(sn.links.take m).filterMap bK8++cKe) bK cE rO hln dE2 oT (by cases hl:dJL) mF hl lL NW ((sn.links.take m).filterMap) bK8 bV cOT lC dCD ((List.take_sublist m bZr).filterMap _) EH b6b EG aG lA tR cW6 Qe Mc fA fA (b_k lE lS lL) vU cW6 EE hI3 lA aST cV7 pz (aUm hI3.1) hP H7 av s7 hav aAZ e0 Lh [aF e0 hav,eV9,aI aIj eO AU,eV (cKe=[]) eFN,aQ aP Ij,aB (hI3.mono s7)] t [fH t,aF e0 hav,dG ya rfl hya hav,bD hya (dh H7 ya QV) hya ev (cKe=[(Me,QV)]) eFN,aH ev,aJ hI4 (hI3.mono s7),nQ dp hpp f1 f2 hP0,eYA hI4,DF bl L8,aSr aJJ ⟨_,rfl,c,rfl,aJt c8,_,rfl,pz,CP,dp,_,_,rfl,Az f1,uY,zJ,rfl,_,rfl,_,rfl,Ba,?_⟩,cIg,Kp sq bLB hq q9 (dh eF3 q Me),OX eF3 H8 sq q9 hl0,eT0 Pj H8 l0,aJ b6e (s8.free (sq.free hl0)),vU DA H8 l0 H9 sl0 l09,KM s9 (s8.trans sq) sl0,gO c9 bAe cB sq c8 L9 (z8 H9 bs bIj (ma EE)) xS L8 ((aMe sq).mono sl0),bDJ q9 q9.mono sl0 y9 ((hya.mono sq).mono) sl0 kl awd EE,aG lt9 (bV (gg (Qq EE) bs)<vO) bK aH (sv bl) Nz NW keysOf EE Qe b04 lA kl,fEc eJM (my Me) q9 lt9 dD v hv aG hin ((Me:gL)∈bIj) (SZ<|eLW ain) bNu cH9 aHF b hbm bs mm eHo fEb (aio cNI hmm hbm) aJ hbf (hb8 _ cTn kH mm) aDz ps w1 w2 cRX L9 wl eGP (ma EE Me) EE.length ma aEg aT cMk PP b _ _ rfl rfl w1 aBn bQc pF Qe rF AU ?_ bs ?_ ?_ nb8 hb8 VR b' aDu eXX akq Oj bN (z8.app nb8 cNI hbm hmm y9 w1 w2 L9) aQ akq (an3 hin) vI bE5 aP lJ y k z DS akr z [bE hn,fDT (Me:gL) bIj (aio cNI hmm dP7 kH) Qq (EE++[(Me,QV)]) dGM akq,EH cUF ain (bcj bl),Zc cl0 dWv nt FF (H9 c) HU nl aRs (H9 c) HU,oQ s10 rJ aP9 H9 bJ8 kX VR b' Ux c10 aJ5 H9 bOs bOs ah bvn iY H9 c bOs l0 sK NZ cl0 l09,eN L10 (L9.put (o:=bOs) nl nt) y10 aH9 y9.put bJ8 nt,aUn aP9 H9 bJ8 H10 s10 c10 bvn L10 y10,bD nt0 FF (H10 l0) aGg Oo l0n eAo jX bE z NK mm hmm z eA0 kk z1 L8 hmm _ aF aHo sq hl0 bX hl0,aEg aT rL bvn PP l0 _ _ rfl rfl bvn iB AU ?_ cBn ?_ ?_ ?_ ?_ VR b' Ux FM,oS aH eks Fg aZV ?_ jA [ya] aO8 vI sg Ff L10 dZL aG hkn (k≠Me) oO nin bA Oo aQ akr eC hkn aB ((bo L10 hb hk).put oO l0n bA Oo nt0) [cE akr tU (awe nin),RU (y10.put nt0) eF] Oo,Oo]] [by rintro σ H6⟨⟨v6,v7,rfl⟩,hI3⟩,DF zl q4,aCy zl hI3,aI eO WZ,EH a8h EG,aB hI3] (by rintro σ H4⟨⟨v4,v5,v6,v7,rfl⟩,hI2⟩) uB cK yl eA1 hI2 oE eO bNv a8g hI2] [eS5 v2 v3 v4 v5 v6 v7,_,uB cK hxl dSv hI,FV s2 ys c2 L2' n2 b2 hI,_,aMO eev cMO evE dQH,vQ eev c2 L2',bDI ea (aK6 (awg d)) es cMP bag kl cMP awd,vQ ea L2' es,aB wX (k H2 c _ ys s2 hc c2 L2' (adb _) (a5y d) gC bqe evl kl gC bqe evl es)]
end
end WH
end
section
namespace WH
open PySem PySem.Spec PyProof.Rows L2
theorem aq8{K:aL}{H:Hp}{y:aA}{s:gL}(h:Oa s):WT qO aDH eMX:= .tup dQB (.jR ZX eFc)
theorem bkq(s t:gL):eBl aDH eMX aDH [cDX,bKB,fT bJF]:=eI6 jS IR LS bZt bZt b_e
section
variable{X:Cx}
theorem bop(hu:bSz):Bu Eq VD SN o cKw b aA t gL jU (aip H x o) Bq La b t aIJ (o=aO t):=bL eXv Cd o b t ho rfl hb q h Kd o [NN ho x iE ho,aB dAB bih zM _ _ iE (aq8 hb) rfl rfl q] a [AJ p hp ho,oE dAB bih ePS (aq8 hp) (aq8 hb) bkq,aZ]
theorem bkr:∀{X:Cx}{bH:dM}{σ:cO}{H:Hp}{s:bC}{A:cM}(I:LI){p q:aA}{a b:gL}(hp:La p a)(hq:La q b)(hu:SD),cR9 iW tM aKa:=bN2 bVs a b _ bUM hp _ bUN hq _ dAu r5 fCT bU6 cYW aVk t5 r5 t6 r6 gO O (au5 (lt:=bMY) (xs:=eLg) (ys:=eLh) (A:=A) pl pl2 hu kM rfl rfl (fun j h1 h2 x y hx hy=>(bA fEE bDK bDK)) Wr bE z bB z aG hq (H p=_) hq aF iR bM6 hp hq) e NE (eLg=eLh) aKa aJc tX hM e aB O.eq
theorem bvq:∀{X:Cx}(hu:Ny),Bu In VD (∃(o a:aA)(t:gL)(ts:iN),eX (x=cI o) (y=jT) La o t (iw H a ts) aIJ cNp):=FI dD X hu (by intro bH s σ H x y v u Q I rx ry h) _ (by obtain⟨o,a,t,ts,rfl,rfl,ho,⟨ps,h1,h2⟩,q⟩:=h) _ bX rx bX ry eSa h1 RJ ei ag' rv bB ei (by classical rw[aJo (SeqAt.in_listAt bT w eXh FZ ?_ dHQ) dD w hw eM hw ePg NK i hi hp aLD t2 ht2 (bu h2 hi) _ bN (bkr (A:=X.A.in1) I ht2 ho fE) aG e NE cVp p tK t2 t bQm lV bL aG z (H p=_) z aF eAv z fO gT pQ z hM z ht2 bS [pO ((Vz).toArray.any bT w eXh) lT cNp bL (by rw[IR,LS,←Array.any_toList,Cg]) HY bAb bZy w hw hd _ eM hw ePg NK i hi hp GW t2 ht ht2 h2 hi bD z0 cVp p lX hd z bM6 z0 aF eAv z fO [bE hm,NK i hi hm,kZ hl h2,gO il iO hi hpi gH ps cUN PL,lH aNt cUN aX (@Iw cVp cUN _ (bo h2 hpi hi))],aZ]])
end
theorem azb:mP bKX bKX aka:=dW
inductive xy(Pr:aM)(w:aK)(CH CL CE CS CP:aA)(vs:aN)(H:Hp)(Q:VK)(XE:XK):aE|mk(x z:aA)(L:fY)(d:cQ)(ln:lF)(i:Nat)(_:dMF)(_:nE)(_:aNU)(_:cC8 cE3):wB xy
theorem ahc:mP [bWJ,SS,IC,bD5] cDG vd:=dW
structure bai(H:Hp)(d:cQ)(lA rA:aA):aE where
 ex:∃ks ys kvs R iG,jU oM lA MM dGg (jm d) UB eX aXv ks oM rA ES aSB aPs (acz ks (jm d)) 0 cCp Vs
theorem bai.mono:∀{H H':Hp}{d:cQ}{lA rA:aA}(s:eW)(h:cJj),eQ4 H':=KH xN H H' d lA rA s h fDw aMa aB GC ks ys kvs R iG Gq aDi h2 h3 h4 cD9 (h6.map YN (aMe s)) h7 h8
inductive gn(vs:aN)(H:Hp)(Q:VK)(XE:XK):aE|mk(o:aA)(av:V)(lA rA:aA)(d:cQ)(s:mX)(ln:lF)(_:dOL)(_:dMs)(_:dON)(_:cJj)(_:dL1)(_:dNe):BQ gn
theorem gn.out{vs:aN}{H:Hp}{Q:VK}{XE:XK}:KF gn fDo:=RB gn.rec fDo fAl
theorem a8i(d:cQ)(k:Nat)(t s:mX):NE aZY (aRk:gL) aRj dMf k s:=cN aV Si33.answers AZ an4 IR LS dFn aTi aV jm cG
section
variable{Pr:aM}{w:aK}{K:aL}{mg:bF}{aW:aU}{CH CL CE CS CP:aA}
theorem a3x(F:eMc)(T:bAD)(fb:bDl):eRC:=cV6 azb x z L d ln i [by(obtain(⟨x,z,L,d,ln,i,rfl,hH,hP,k⟩):=h),Yq dTR cP3 Pc fb bLz (i8 (pv 2)) T.anz bGx GC _ rfl _ rfl x z L d ln rfl hH hP bG H1 s1 cLy,fEv Si33.wrongSee,cOH aYY aF e k MU k j aF e k uM eTU bQ hf dIT wH Ar hf aCg hf MU k DO hf Gr hf WM k]
theorem aiq:bVr Pr eMd T bAD cW4:=bCS bVc Pr T ahc o av lA rA d sp ln [dAH o av lA rA d sp ln rfl ho hav hR hon k,_,fDw hR.ex,_,dF2,kZ hyl h2,gZ oN Wt dTR Od 1 VB (bh az8 Dx 0 Fk (ck T.b9t) (ck T.bsw) aZ7) bLz (bh (bvq hu) (pv 0) bCj aos jC fU aZ7) bGx T.a08 bLz yX (bop bFI) (bir hu (pv 3) fU bIR) Gy 3 rR T.bc0 bGx WX,cV Si33.wrongLink k,dX3 Lh aF e hav eV9 eSN aF e k MU k t [fH t,aF e hav,dG y rfl hy hav,aG hy Oa QV hy,gO ht (hon t e) hok (cO2∈ks) ((h4 _).mpr<|bL bE n eV aZY (QV:gL) bKz cVs aZ),aQt aGd o _ _ rfl wU ho nR FA tu htu,aJ s1 oB zY gR 1 gR 2 htu,aI SL tu _ rfl dKG rfl rfl _ rfl ?_,UA aGq tu gR 1 gR 2 H1 s1,aG ek (inV fT GF eD8=lT cJm) gT aQ IR LS CI inV (show∀a b:Int,eqV (V.int a) (V.int b)=(a==b) from fun _ _=>rfl) b1d,aSU fZ (inV fT GF eD8=aY) _ _ ek,bQ hk cJm,bOe Ar hk aG fin qG H2 Hp a aA cA aJE (iw H2 a cN9) (tIf (bq1 Ry aIJ aZY cO2 QV) (tC VN) (tC gR 2) [] H2 Q) vM (by intro H2 a s2 _) dJ oN rfl aJ k (k H2 s2) aF e k aG k RK gR fBa k (by rw[iF hk,←a8i]at k) AT hc cO2 cN9 fP yJ (Iw hc) k MU k yJ (aKJ hc) k WM k HC aUZ lA rfl aJt kY h1 _ rfl aX dD l0 hl0 aI oF Ab (my QV) DH hl0 kY h1 DH hl0 cLp aHz s2 oB sK hl0 aG l02 Pj H1 l0 ah aSp DA H1 l0 l02 AT hin (QV:gL) ks bA5 NK m hm hin gO ml iO hm hym Be ys (ys[m]' kH) PL aH (aio h3 hm hym) aJ tr ((bo h2 hym hm).mono s2) eWf _ aH (ain hin) aJ en (SZ bT n (hin ((h4 _).mpr n))) aG tr (iw H2 l0 cN9) gG en bKV l02 eWf l0 [DO hk,aJ g1 Ab (my QV) cLo cLp,eP rr hrr (Option.isSome_iff_exists.mp ((h8 _).mpr hok)),dG yo v1 v2 (h6.some hrr),OC g2 Ab (my bKz) cLo kY ho v1 g2,Mz k H1,aF e k,aG k RV gR fBa k,Gr hk,aJ ri (bhk (left:=left) (j:=0) h4 h7 h8 ht),aIH (f9 ⟨_,rfl,rA,rfl,aJt cLo,_,rfl,_,g1,_,rfl,_,rfl,rA,_,rfl,g2,R QV,yo,rr,?_,rfl,v2.mono s1,_,rfl,?_⟩) DL ea (R QV) aH (h6.none ea) (by rfl) r2 [fH r2,dG y2 w1 w2 (h6.some ea),aH w1,WF y2 (w2.mono s1)] hM hrr bQ hc (R QV=R bKz) wH Ar hc aF aXr ri.mp hc k MU k DO hc Gr UP hc ri.mpr WM k]]]
end
end WH
end
section
namespace WH
open PySem PySem.Spec PyProof.Rows L2
noncomputable def axm(H:Hp)(y:aA)(t:cF7):aE:=oM y dOJ
noncomputable def xz(H:Hp)(y:aA)(l:aDZ):aE:=cSH axm
theorem xz.mono{H H':Hp}{y:aA}{l:aDZ}(e:eW)(h:xz H y l):UT xz l:=Mr ps bKE aWR Sy z
theorem aee:DX [qJ,IC,bD5,dE8,dFo,jZ,lK,"turn",xM,xK,qH,bWJ,"which","each"] qJ aa':=dW
inductive l_(Pr:aM)(w:aK)(CH CL CE CS CP:aA)(vs:aN)(H:Hp)(Q:VK)(XE:XK):aE|mk(x:aA)(L:fY)(d:cQ)(_:JW)(_:nE)(_:uK)(_:cYn):wB l_
theorem l_.out{Pr:aM}{w:aK}{CH CL CE CS CP:aA}{vs:aN}{H:Hp}{Q:VK}{XE:XK}:BV l_ bSb cYn:=BX l_.rec bSb cYn aKE
theorem a0u{H H':Hp}{fd q:aA}{E:aDZ}{t:cF7}{ps:bM}(hfd:nZ fd)(s:eW)(h1:aXC fd)(h2:Tp (axm H') E)(hq:aQM q):rJ eXf∧xz eXf fd (E++[t]):=bL aJ fq (ay h1 hq) aIH aT eMN bR aBP q bAM cK6 ME h2 pX p u z aDu HM _ fd _ p jV AL z h1 aB DH hq z kG HM _ fd _ q aDu
section
variable{Pr:aM}{w:aK}{K:aL}{mg:bF}{aW:aU}{CH CL CE CS CP:aA}
theorem apm:∀{Pr:aM}{w:aK}{K:aL}{mg:bF}{aW:aU}{CH:aA}{CL:aA}{CE:aA}{CS:aA}{CP:aA}(F:eFq)(B:fQ)(T:bAD)(TH:zL)(TE:xI)(TS:Bv)(TP:Pl)(zb:eQr)(ac_:eP1)(ul:ePl)(afh:eRC)(ab9:cXs)(oz:cW4),Kj bWR 5 Mu l_:=aHZ (by intro Pr w K mg aW CH CL CE CS CP F B T TH TE TS TP zb ac_ ul afh ab9 oz) aee x L d [fFD aee.nd awl bhr,Wh one aCF aEl ((aHO hG.ent).ei) ZQ MC 1 Bm zb AA 2 wV ac_ fU BW Bm ul Hq 4 NM JH cGI Lr aJz Nu FL eO6 UJ 6 eNM Ez afh rR bAg Gy 3 rZ aw bQs UJ 6 GJ 9 GJ 10 eO6 UJ 10 AA 11 aEb UJ 8 rZ bAf MC 12 aUA oz aIe (pv 11) zD ab9 bAg fU jC eNM (pv 12) bAf bBj KC 4 "each" 13 GJ 13 yX awk aSs 13 (ck bGx) (pv 13) aIN x L d hH hG,XZ H1 lA ks ys s1 nlA hlA hLd ndk hNK hkl hsum,dJ eZ3 lA (jm d) hlA,aMy H2 rA kvs R iG s2 nrA hrA hRg hT hRk,dR hRR eQ4 H2 GC ks ys kvs R iG mU hlA dYj ndk hNK hrA hRg hT hRk LK _ rfl x L d rfl (aUm (aL8 s2)) Er hG.ok.len one ?_,aKG H3 rd rkv s3 nrd hrd hrv,uL sA ((HD).trans) s3 hRR hRR.mono s3,eEt,aG q4 (xz cQY fd []) cQh,aJ s4 oB sK hfd,vU cQY H4 q4 s4,Vj bLE zC Lj sA e sM s4 WA he cIN wd Gb (∃v5 v6 v7 v8 v9 v10 v11 v12 v13:bJ,cJx v5 v6 v9 v10) Rq H3 (xz H' fd ((d.zipIdx.take i).flatMap bOC)) cH eR0 s4 fE aKA i WA he [by rintro i v σ H5 U hv⟨⟨v5,v6,v7,v8,v9,v10,v11,v12,v13,rfl⟩,s5,q5⟩hU,ZT,by(obtain⟨en,hen,dz,hp,sl,q,g1,g2,⟨zs,g3,g6⟩,ys2,g4,g5⟩:=aPn),cDv,cJT hzi cTC hen a8g ((d.zipIdx.take eG).flatMap) bOC (bHR ajm++dVZ) lE aTl eG,bOP lE lE awl,aG lE2 (bV dVZ=bV aN9+gD en.senses.zipIdx.flatMap aOI) Oq ajm fA,aI NX,aJ sU oB zY vX JG hU,uL s5 s5.trans sU q5 q5.mono sU,vU aNn H5 vX JG H6 s5 q5,kZ zl g6,cZZ wJ cNK q sM s5 WA g3,NO eLF wd aDN NV fCE cVE cRq s5 pP aKA m WA g3 [fDz m H7 s7 q7,dAf hv2 g6,bVv bPJ sU2 fT m cI pz hU2,uL s7 s7.trans sU2 q7 q7.mono sU2,vU bJX H7 U2 m pz H8 s7 q7,aDx hsm Be aN9 eKr eGV zi lS List.length_take_le m aN9,fE6 cVE tQ aQ fA sZ b_j lE lE2 q7,dG ps w1 w2 q7,OC gd aOY (ik i) KG hrd (hrv i il) gd,dP ⟨_,rfl,cMk,_,rfl,_,rfl,_,rfl,_,rfl,rd,_,rfl,gd,x,pz,L,d,ln,i,rfl,dW5 s7,dW6 s7,?_⟩ H9 s9,dP Ld _ bAF qq hqq,kZ wl w2,fE8 eKr (s7.trans s9) aQF w1 xS w2 aQF z cRq] fCf H7 s7 q7 _ uB cK zl eA2 aN9 zi q7 cZZ KG cNK sl sM s7 WA g4 fDu aZn al3 dQo JC j fCE dJR cH cRq s7 pP aKA j WA g4 fDz j H8 s8 q8 ts aOI bKZ bVv bPJ sU2 fT jP qO hU2 [uL s8 s8.trans sU2 q8 q8.mono sU2,vU eOx H8 H9 s8 q8] kZ tl q4 aKF aVz y CS dy Az WA q1 GD HR r2 sM s8 WA q3 eLE wd bOo dNP (∃v7 v8 v11 v12 v13:bJ,cJx Ex RO KA jP Vd) cVF cH eIq s8 rX aKA m WA q3 [by rintro m v σ H10 U3 hv3⟨⟨v7,v8,v11,v12,v13,rfl⟩,s10,q10⟩hU3,dAf hv3 q4,bVv bHx U3 sU3 fT m cI pz hU3,uL s10 s10.trans sU3 q10 q10.mono sU3,vU bJX H10 U3 m pz H11 s10 q10,aG hsm Be bKZ eR2 eGV l4,fE6 cVF dB jS fA fA fA sZ (b_a lE lE2 lS) q10,nQ dp hpp f1 f2 (id hP0),dP ⟨_,rfl,pz,CP,dp,_,_,rfl,aIa WA f1,uY,zJ,rfl,_,rfl,_,rfl,Ba,?_⟩ o ho,aJ so oB bLB ho,uL s12 s10.trans so q12 q10.mono so,aG o12 (dh eIY o Me) ah,OX eIY H12 s12 q12 o12,dR cet UY t Lh (t∈db d GF cGr) SI dD t ht db cE (vz hen lC bqk) Nat.add_sub_cancel hsn dH cUz rfl x pz L d ln dW5 s12 dW6 s12,qW H13 av s13 hav,dP Lg _ rfl o av lA rA d cGr ln rfl (o12.mono s13) hav ((hRR.mono s12).mono s13) cet H14 s14,eBi s15,dG ps w1 w2 (q12.mono s15),kZ wl w2,dP aP7 cMk _ rfl _ _ rfl _ rfl bAF qq hqq,fE8 eR2 (s12.trans s15) w1 w2 eIq] (by rintro σ H10⟨⟨v7,v8,v11,v12,v13,rfl⟩,s10,q10⟩) (by rw[cK,tl,eA2 bKZ l4,EG _ ((en.senses.zipIdx.take j).flatMap aOI),←a8h]at q10) dH fCf H8 s8 q8 Jn cK yl eA1 EG q8 oE pD eR0 s8 a8g q8] [by rintro σ H5⟨⟨v5,v6,v7,v8,v9,v10,v11,v12,v13,rfl⟩,s5,q5⟩,eKK q5,aG q5 (xz H5 fd (a90 d)) q5,aDz ps w1 w2 q5 wl,HE WI fd w1,fFk bDe aic tN aPg v DD t cLc t JB (t.1=0∧v=aS) (t.1≠0) wF y (v=aO qO) aRx UT axm t bLH i v Ha Hb t gN w1 Vi cGf bg' awl wl BD i v H6 hv s6 hD6 C hC Yz GW t ht bkm w2 hy aDx hyt eHC AK bkm yD ay bkm hD aI kD Lm y _ _ _ rfl rfl wU hyt nR rfl _ rfl ?_ bQ e0 (t.1=0) jK KI eV aPO aC3 t.1 cFc e0 rX aH aP MU bA0 cPO fF bR e0 y uN yD hyt Ty H6 ps6 s6 (lc (m:=eNt) (F:=cP4 eHC) (rs:=ps6) (l:=cLc) aKt wl) t eWh ef aDZ eNt nM Ct (x.1 !=0) t dA ef bdz hq aB (k H6 D pZ (sA.trans s5) s6 ((sA.trans s5).free hD) bR qs fD hq)]]
end
end WH
end
section
namespace WH
open PySem PySem.Spec PyProof.Rows L2
noncomputable def amc(h:aR):yU:=h.map bT n DP n
theorem a8j{a b:aR}(h:amc a=amc b):tW:=cHJ aYc
theorem bkt(h:aR):Ft (amc h) kV (vn h):=eEJ amc
noncomputable def gKv(ks:fB)(ys:bM):jQ:=eFJ cVh amc
theorem baj{ks:fB}{ys:bM}(h:bQ3):bV aZo=TZ:=GU gKv
theorem au9:eZO fB aR cGU aZo|[],_,_,_=>rfl|uP,[],_,_=>rfl|Bl,bQ4,k,h=>eUs eIe yW y a8j au9
theorem a3y:fB5 fB aR cGU aZo|[],_,_,_,_,_,h,_=>vN|uP,[],_,_,_,_,_,h=>vN|Bl,bS2,0,k,y,nd,h1,h2=>eLV|Bl,bS2,eG,k,y,nd,h1,h2=>fBg eIe yW z a8j dH a3y
theorem boq{ks:fB}{ys:bM}{k:aR}{y:aA}(h:bQ3):gKv bQE cMK=aZo++[(amc k,yW y)]:=eRE gKv
noncomputable def z6(E:Bh):fB:=dWk
noncomputable def afi(E:Bh)(k:aR):aN:=eT4
theorem ani(E:Bh)(e:bBS):eS9 z6:=fW z6
theorem anj(E:Bh)(e:bBS)(k:aR):afi cGZ k=eEP cPn:=mY afi dH
theorem aq9{E:Bh}{k:aR}:eAA bA9:=cO8 z6 af_
theorem alf(E:Bh):mV bA9:=eCo z6
theorem bfr(E:Bh):NW z6 E aAp:=eTH bPx aq9.mp
theorem a0v{E:Bh}{k:aR}(h:k∉bA9):afi E k=[]:=eYd afi aq9.mpr
noncomputable def apn(Hb:Hp)(c:aA)(E:Bh)(H:Hp):aE:=bBb∧wF ys aIc uD (gKv (z6 E) ys) Aa bG y k vW y cPn ys z6 E FS bZv y ys aQN y
theorem apn.mono:∀{Hb:Hp}{c:aA}{E:Bh}{H H':Hp}(s:eW)(h:eTx),apn Hb c E H':=KH xN Hb c E H H' s h fAn eTz xS h3 rH z
noncomputable def bku(Hb:Hp)(c:aA)(E:Bh)(h:aR)(v:V)(H:Hp)(y:V)(H2:Hp):aE:=AX yy aA vs aN (y=cI yy∧eX bMs yy vs (uU<vO) Vv c DI bOI (apn Hb c dVX QK yy (vs++[v])) aQN yy)
theorem bcp:∀{Hb H:Hp}{c q l0:aA}{E:Bh}{h:aR}{v:V}(hc:aQN c)(I:eTx)(lP:vZ aAp)(hq:oM q YZ h)(hl0:nZ l0),eKV zA (qI q=vF) cR8 c ES cR8 b aVI aD5 UY u JZ (bku Hb c E h v H u cOd) (aKy→bku Hb c E h v H cKp aP9 cOd bHA cKp):=Gf (by intro Hb H c q l0 E h v hc I lP hq hl0) _ eYA I DF bl L8 eT0 cR8 l0 sK aJ b6e (s8.free hl0) aJ cp6 hl0 vU cOd H9 sl0 l09 aJ s9 (s8.trans sl0) eN c9 bAe c8 L9 xS L8 bAe z aJ kl (bfr E) cFY eJM (amc h) uE bkt AQ bJJ baj bl Nz vZ gD z6 E bg2 lP kl [dD u hv,aJ hin (SZ<|eLW au9),bNu,gO mml iO hmm hbm kC bs mm eVt PL,fEb (a3y bPx hmm hbm),eN hbf (hb8 _ cTn eGU mm) w1 cRX L9,OX eVt b hbm hbf w1,eGP eCG aAp afi,aEg yA b aCh w1 aSm aQ4 vZ bV eCG bg2 lP al Je z bAe z bR ?_ bs bKW nb8 hb8 hbf VR b' Ux eXX ani,Wn aQ ani (an3 hin) vI sg bl iC i y k hy hk aH anj vL i mm jB Kf Xn eC oO e (aws bPx hk vJ hmm z) oO e (aws nb8 hy vJ hbm z) aB (bo L9 hy hk)] bE hn fDT h bA9 (a3y bPx hmm dP7 eGU) z6 dVX (bA9++[h]) ani EH cUF au9 (boq bl) gO cl0 dWv l0n eAo fN bE z NK mm hmm z aLD kk z1 (bu L8 hmm) _ fO cEl jO l0 [] aCh bBl YL (0<vO) jL ?_ bR ?_ cBn bSN b6e jG b' o nb' eo aDs lJ b' o eo xD jB FM aH eks Fg cK6 dX1 dZL aG hkn (k≠h) oO nin Am aJ z1 (bo L9 hb hk) jS anj eC hkn (aq oO l0n Am) (aq AL z1 c9) aB z1 jS anj tU (a0v nin) ah dU fO fO
noncomputable def vi(ts:fB)(t:aR):Nat:=fZ cNp (ts.idxOf t+1) 0
noncomputable def air(CE CS:aA)(H:Hp)(x:aA)(ts:fB):aE:=∃(dx:aA)(hV nV qV:V)(sl:aA)(ys:bM),dZ VO aA1 CE aM1 hV nV sl qV bMW sJ bG y t (∃(dy tp:aA)(rV:V),bMQ rV∧bL7) ys ts
theorem air.mono:∀{CE CS:aA}{H H':Hp}{x:aA}{ts:fB}(s:eW)(h:cHM),air CE CS H' x ts:=KH BD CE CS H H' x ts s h aLH dx hV nV qV sl ys h1 h2 h3 h aB (_root_.EE.agk dx hV nV qV sl ys cH Gq Vt eEU h3 (by rintro _ _⟨dy,tp,rV,z1,z2⟩) rV rH z1 rH z2)
theorem ais{α β γ:cJ}{F:lR α γ}{f:β→γ}{l:eK}{m:DM}(h:sJ aVt (F a (f b)) l m):Aa F l m.map f:=bB2 aB eF a RU a ih
theorem ge.texts:∀{CE CS CP:aA}{H:Hp}{x:aA}{e:dI}(h:Aj),dIa dRy:=KH xN CE CS CP H x e h aAQ dx hp sl q g1 g2 g3 ys g4 g5 h aB (dEX dx _ _ _ sl ys Lv g1 g4 ais eEU g5 (by rintro _ _⟨dy,tp,r,z1,z2,_⟩) _ z1 z2)
theorem ahd:mP [lK,uV,xK,qH] [lK,uV] adu:=dW
inductive ig(CE CS:aA)(vs:aN)(H:Hp)(Q:VK)(XE:XK):aE|mk(x a:aA)(ts:fB)(t:aR)(_:QP)(_:cHM)(_:mH)(_:dM9):bUG ig
theorem ig.out{CE CS:aA}{vs:aN}{H:Hp}{Q:VK}{XE:XK}:bUG ig→fAh:=eZI ig.rec fAh cZe
theorem ai':mP [Cb,XJ,qH] VY af2:=dW
inductive ow(CE CS CP:aA)(vs:aN)(H:Hp)(Q:VK)(XE:XK):aE|mk(x y:aA)(a b:dI)(_:aCu)(_:aU0 H a)(_:cHg y b)(_:aZk)(_:dKP)(_:dK2):El ow
theorem ow.out{CE CS CP:aA}{vs:aN}{H:Hp}{Q:VK}{XE:XK}:Oi ow fAi:=Pp ow.rec fAi dAl
theorem bak:bDd dI aZk (bGy a b=(eAF||b.senses.any bT t cOF)):=qF lJ a b h aV bGy aH h wP beq_self_eq_true aLm pB aH IR BB Cg bYh LS HY Ae (by rintro⟨s,hs,t,ht,e⟩) dJ jA t ht aV vi KZ bZy t ht e _ eV (aTE∈a.senses.map vS) (SZ<|bL bE n cV vi e aZ) KZ
theorem ceu{B G:aE}(f:B→G)(g:B):G:=f g
section
variable{Pr:aM}{w:aK}{K:aL}{mg:bF}{aW:aU}{CE CS CP:aA}
theorem atw:∀{Pr:aM}{w:aK}{K:aL}{mg:bF}{aW:aU}{CE:aA}{CS:aA}(F:ePs)(B:fQ)(TE:xI)(TS:Bv),bCI:=Ap bDm Pr CE CS F B TE TS ahd x a ts t [pW E,by(obtain⟨x,a,ts,t,rfl,⟨dx,hV,nV,qV,sl,ys,g1,g2,g3⟩,ha,k⟩:=h),aEG ahd.nd yl g3,gZ oF aD3 bQs jY AI DU cQ2 yX Na At fU aw aVz x CE dx g1 iZ jD sl gN g2,bAj aZn al3 FC Gb aIt v2 v3 aN2 sO rY v2 eW (t∉ts.take i) cH AU bPC aX aKA i g2 cZ4 i H1 v2 v3 s1 ni Yz Db u hu dy tp rV q1 q2 (bu g3 hy) dJ NX aHz s1 oB zY bJL qO hU UA aNn H1 bJL qO H2 s1 cMR ⟨_,rfl,y,CS,dy,_,_,rfl,kY q1,GD,HR,rfl,_,rfl,tp,a,u,t,rfl,rfl,kY q2,ZU,_,rfl,lZ⟩ bE c aQL c c bB c gO k (k H2 s1) e (vi ts u=eG) kK aV vi aJ il iO hu aH aXr Qn hu pB LC ts (ts.take i++u::ts.drop eG) cVQ aGX hu AZ e1 List.idxOf_append eC ni List.idxOf_cons_self sZ aB (bzz il) aF e k aB wX k bE c aI pD AU s1 aQ rO hu dH [eS2 H1 s1 ni,bDG yl ni,fEv vi,Gr ni,aB k]]
theorem axn:∀{Pr:aM}{w:aK}{K:aL}{mg:bF}{aW:aU}{CE:aA}{CS:aA}{CP:aA}(F:eFz)(B:fQ)(TE:xI)(TS:Bv)(dq:bCI),dZD:=Ap aHw Pr CE CS CP F B TE TS dq ai' x y a b [aPF x y a b rfl hA hB hh hb k,gQ nd ai'.nd,cFH dx hp (id hA),_,aAQ dx2 hp2 sl2 q2 m1 m2 m3 ys2 m4 m5 (id hB),DF yl g5,kZ yl2 m5,aF (bak hh) k,aI oN aD3 VB cUM aJ0 jY aJ0 NU agp aZG (dm NU) qH 2 AI cUC zD dq bQy,aG da Pq l NY zs bM (aLW=iS→NE aC3 bV aDN tK l []) YF l zs h bQm lV fC lV fD,bQ hab bK9 aTH bXv,Nn aI ⟨_,rfl,x,CE,dx,_,_,rfl,g1,iZ,jD,rfl,_,_,rfl,bO9,rfl,_,rfl,?_⟩ aQ (da yl) (Iw hab.1) HC ⟨_,rfl,y,CE,dx2,_,_,rfl,m1,iZ,jD,rfl,_,_,rfl,oP m4,rfl,_,rfl,?_⟩ aQ (da yl2) (Iw hab.2) eSN dA hab.1 hab.2 k MU k [kW ceu,Gi bE De aI ⟨_,rfl,x,CE,dx,_,_,rfl,g1,iZ,jD,rfl,_,_,rfl,bO9,rfl,_,rfl,?_⟩ aH (da yl) bQ h1 (aTH=[]) wY Ar h1 HC ⟨_,rfl,y,CE,dx2,_,_,rfl,m1,iZ,jD,rfl,_,_,rfl,oP m4,rfl,_,rfl,?_⟩ aQ (da yl2) (aKJ oO hab aT h1 z) WM De aZ [HE aOO y CE dx2 m1 iZ jD sl2 m4,bL2 bDe xu dQo aPq t bXv pI cOF aDr gN m4 Vi qP ys2.length a4_ hb yl2 aC5 s1 ZT aFI t ht dz tp r n1 n2 n3 aVC m5 _ Bb kD ⟨_,rfl,_,rfl,z,CS,dz,_,_,rfl,kY n1,GD,HR,rfl,x,tp,_,aTE,rfl,cMT ge.texts hA,kY n2,?_⟩ H2 s2 bM3 _ rfl ZC s2 jA t ht aZ [aR0 vs,aF (ak' (f:=AV t HZ cHv (0<dJg)) (l:=b.senses) aKt yl2 M.2) hv,aI aDn (b.senses.map bT t cOF) fC,Mz k H',LC eAF bI aDM Bool.and_eq_false_iff bQ h1 (aTH=[]) dE aZ bS,aZ]]]]
end
end WH
end
section
namespace WH
open PySem PySem.Spec PyProof.Rows L2
noncomputable def pickOf(d:cQ)(had:aR)(e:dI):oC:=Dt ((Vx).find?) dTW eUp
noncomputable def afj(ps:RC)(had:aR):aR:=ps.foldl bG h p Mi p lI (i::h) h had
theorem bal(d:cQ)(e:dI):qG l fK had aR (aP6 aPY=eLZ aP6 l):=aPP l bY had bW ((cJc aIU e [] aP6 [])=[aIU e]) Hv aIU e x l [bY had,bW ((cJc aIU x aPY aP6 aPY)=eLZ eKf),Kd aIU x [Cl,dAQ had] i [Cl,dAQ aCo i]]
theorem aq_{i:Nat}:qG ps RC had aR (eE2↔i∈had∨lI∈ps)|[],had=>fW afj|aJ2,had=>eON had eE2 Gu|aYy::ps,had=>eON aCo j (i∈afj ps aCo j) rM
noncomputable def aq'(d:cQ)(h:aR):aR:=NA nM d.zipIdx.filter tK aOB h
theorem bor{d:cQ}{h:aR}{i:Nat}(hi:i∈aq' d h):bTs d (pA=h):=NI cV aq' hi
noncomputable def aja(d:cQ)(i:Nat)(e:dI):gE:=eUp
theorem a3z{a b:dI}(h:Eb bGy):aZk:=Fu cV bGy h
theorem bos:TB d cQ had aR e dI (aIU e=aLo dRK (aq' d pA) dTW (aja d i e)):=KW lJ d had e aG e1 (List.range iH=dEZ xP) vJ List.zipIdx_map_snd dBU mW pickOf aq' (by rw[←List.head?_filter,e1,Qo,Qo,dFh]) aLy rG List.filter_congr SH aG hd kC d x.2 x.1 (List.mem_zipIdx_iff_getElem?.mp hx) bW (eLu=(eLu&&tK aOB pA)) bKK ho dNl cG [cV aja ho,aF hd ho,aH cFV a3z ho,cG]
noncomputable def a34(x:BP dI):bBS:=(aOB,qT x.2)
theorem asi(d:cQ)(h:aR):afi (dEZ a34) h=vn (aq' d h):=aJm aAf afi aq' vn cE Qo mL mL
theorem paired_ints{vs:aN}{l:aR}(h:sJ eRh vs l):vs=vn l:=bB2 (by rfl) a [aQ a ih,by rfl]
theorem apo:mP [Cb,XJ,dFp,jZ,lK,"taken",dFo,aKS,"free"] VY amz:=dW
inductive wu(Pr:aM)(w:aK)(CH CL CE CS CP:aA)(vs:aN)(H:Hp)(Q:VK)(XE:XK):aE|mk(x z:aA)(L L2:fY)(d g:cQ)(_:ZJ)(_:nE)(_:bLI)(_:uK)(_:aPa)(_:QD dMM):wB wu
theorem wu.out{Pr:aM}{w:aK}{CH CL CE CS CP:aA}{vs:aN}{H:Hp}{Q:VK}{XE:XK}:BV wu bVp eOV:=BX wu.rec bVp eOV dAe
section
variable{Pr:aM}{w:aK}{K:aL}{mg:bF}{aW:aU}{CH CL CE CS CP:aA}
theorem a8k:∀{Pr:aM}{w:aK}{K:aL}{mg:bF}{aW:aU}{CH:aA}{CL:aA}{CE:aA}{CS:aA}{CP:aA}(F:eFA)(B:fQ)(TH:zL)(TE:xI)(abu:dZD),ePk:=aU1 bVq abu apo x z L L2 d g [fDh,HF apo.nd,aMT bZz,fFU hZ.ex,dP ZQ Hm aan PH JH cGI Lr DU eB4 RY bCj aq6 jC We aPM gK Xu 5 aky aCk 6 NM JH (dm NU) eB4 VF 7 bCj aos jC We aPM bDB 8 KC 7 jZ 3 DU (aam (PW.pt (aks (abd aZa gK 5) (aev (i8 CY abu (b_ cCS aCI rR gK Rr) oG))))) gK aQg aIS bAg (ai aP8 rZ bHh 8 RY HI bHh 8) Hx HI gf 6 c hc,eSJ,fEx v3 v4 v5 v6 v7 v8 bJA sO RO wZ v5 v6 (apn H c iM (d.zipIdx.take i) a34 H') [fCe v3 v4 v5 v6 v7 v8,eCV,dAY (bu hes hzz),dR hzi cTC cDa hen NX,fE9 cI zz,aG hcI MF kvs H3 c ES eZs,fFJ ⟨_,rfl,c,rfl,aJt hc3,_,rfl,zz,CE,de,_,_,rfl,cOD,iZ,jD,rfl,hp,_,rfl,aNu cLD g2⟩ Yg qT i,cE rO hzi lN,fDS bNv] [eS5 v3 v4 v5 v6 v7 v8,eKK hI,FV s2 bs c2 B2 nb2 hb2 hI,DF bl2 B2,dD tk htk,Sx stk QM htk tk3 iY H2 tk QM tk QM FG tk QM H3,eEt,CA sfd oB sK hfd tf (ay tk3 hfd) fd4 Pj H3 fd ah,Gd tk4 cB sfd tk3 s24 stk.trans sfd,Gd ce2 htk a7e stk.free hfd,OX cQY H4 fd4 tk4 s24,aKF aVp z CH dz cB s24 cMc pV qE e2 aDa s24 mU he2 (jo (K:=K) (a:=e2) (xs:=aDN) JC j jU (∃v3 v4 v7 v8:bJ,bJA sO RO wZ iL tk iL fd) Rq H2 DB fd iM aZM oV wF kv oA tk (.dK kv) (dFr≤j) (∀q:Nat,CJ aOl kv q=lT eK9) gY WZ s24 fd4 Mt [] tk4 lB aJm pQ q mF Si33.pairsFrom aKA j mU he2 ?_ ?_) [by rintro j v σ H5 hv⟨⟨v3,v4,v7,v8,rfl⟩,s5,fd5,kv,tk5,kvl,hkv⟩,eCV,GW en hen hEn bkv hzz,aJ jl iO hen,aJ hE5 ((hEn.mono s2).mono s5),Db de hp sl q g1 g2 g3 (id hE5),_,aG egt (g.take jP=dQ7++[en]) zB rO hen,aQ egt bal,bD ppl MO bV aZM iV aQ ((vx d dQ7 []).1) sZ by5 gl CT (∀q,q∈afj aZM []↔eK9) JT pQ q aq_ cG,aAR aZM pp fd5 hkv ppl CT,aH bos,bDF c5 wJ c2 ⟨_,rfl,c,rfl,aJt c5,_,rfl,zz,CE,de,_,_,rfl,g1,iZ,jD,rfl,hp,_,rfl,aW5 g2⟩ t ht,cIg,Kp st Yg ht t6 iY H5 t Yg t Yg,OX kP H5 t Yg H6 st t6 hl0,Sx sl0 sK hl0 l07 Pj H6 l0 DA H6 l0 H7,aJ s57 (st.trans sl0),eN t7 bAe t6 gd Ab (amc IT) cB s57 c5 gG bkt t7,aG hpl eY y ((Kb (gKv eHr bs) amc IT).getD cKp=qO) (NL H7 y aRY) bK AT hin IT eHr Gi bNu cH9 Sc cjn hbm kC bs mm v eHo gQ z1 cRX B2 aF asi z1 aB rP DE (a3y (alf _) hmm hbm) cB s57 wJ z1 [aJ z1 (a0v hin),aF asi z1,aJ z2 (List.map_eq_nil_iff.mp z1),lH l0 vC aH (au9 hin) FH],dG y ey hy hpl,oE oF gd ey,aG pll MO bV aRY fN aV aq' aH cK bN (List.length_filter_le Ew BP dI tK aOB IT aTl) aF aLG aP rF,HE WI y hy,bAj bDe aic (vn aRY) Ci m v eY i Be aRY i (v=nN bNw aO qT i aS) aX9 gN hy bAB cLm pll (by intro m v H8 hv8 s8 _ C hC) EO i hi ar_ hv8 dG ei hei hhd (bor (Qn hi)) aJ il iO hei HJ hone dHa eIR Oq aja hei ce4 CJ aOl kv i dQw bA AZ (hkv i) IR LS dFn CT oE kD Xj tk aOY (ik i) Az cB s57 tk5 ce4 Uq hcc dQw WM (f9 Mf eLM) [bQK axc hxi xs hxl,gQ hEi cPF,KM s08 pZ (aAP s5) s57 s8,HC ⟨_,rfl,x,CH,dx,_,_,rfl,Lj s08,pV,qE,rfl,_,rfl,e,_,_,_,rfl,rfl,aCH s08,cPw,_,rfl,_,zz,ei,en,rfl,hEi.mono s08,(hE5.mono s57).mono s8,hhd,Er Cr bCA hGg.ok.each,bG H9 s9 bKq⟩,bR8 ho eIR MU wX ZC s9 eLM bS] [iC H8 rs8 s8 hv8 M,cI7 (lc (m:=eKT) (F:=eRh) (rs:=rs8) (l:=aRY) vJ M.1 az) m hm i,aF (paired_ints M3) hv8,eWh efl aR eKT Dt Ct bNw i,aF efl hv8,KM s28 (s5.trans s57) s8,eN fd8 eBd fd5 tk8 eBd tk5,UA dRK aRY bNw fr hv8,aI cJH hv8,aGb fr [eX4 (f9 Lg rL fd8 fd _ _ rfl rfl fd8 bMm ppl WZ ?_ ?_ kv ?_ aQS kvl) jV bA1 a7e,kG jV tf aB tk8,bE q,bS] i0 frr [pE i0 frr,aH iR dLW (vn cS8) (Iw fC),aG i0v kC (vn cS8) 0 qT i0 rfl,eZG D gN hv8 eCf tk aQA (ik i0) tk8 aSm CV qP dFr aB (bx6 gl kvl jl),bD fd9 eMl fd gW (pp.map oV) NZ tf fd8 D9 eMl D cDW cS8 vH AL hv8 tk8 hv8,eX4 ⟨_,rfl,rL fd9,_,rfl,D,_,_,_,rfl,rfl,gN D9,eCf,fd,_,_,rfl,rfl,fd9,bMm ppl,WZ,?_,?_,cBv kv i0,?_,?_,?_⟩ aQ (aq (ay eo a7e)) (aq (ay eo ce2)),jB aQ (aq tf) ah bN (wc kv (ik i0) Lb) NQ by' kvl,wY bE q aH ab3 bQ e0 (q=i0) jB bS aQ eC UP e0 a3n (hkv q) bS]]] (by rintro σ H5⟨⟨v3,v4,v7,v8,rfl⟩,s5,fd5,_⟩) aCy hzl fd5 aB wX (k H5 fd (aAP s5) (s2.free a7e) fd5)]]
end
end WH
end
section
namespace L2
open PySem PySem.Spec PyProof.Rows
section
variable{eJ:aM}{w:aK}{A:cM}{E:cU}{s:bC}
theorem bft:∀{eJ:aM}{w:aK}{A:cM}{E:cU}{s:bC}{it d:aA}{i n ep:Nat}{od:Obj}{es:WR}{en:aTd}{Q:bAz}(hit:dW0)(hod:bB8)(hdd:aKl)(hsz:OT=n)(hx:bP3)(hQ:eRX h'.IsValIter en.val),bTM:=Zd (by intro eJ w A E s it d i n ep od es en Q hit hod hdd hsz hx hQ) fD1 eYt eLU [aH cVw,cDr cAV,cDB cAV] dXv jJ fD dXw fEq [by dsimp only,aH (if_neg (iR (¬(fM i<0)) cL2)),aH aTX,aH (Array.getElem?_eq_getElem hlt'),by dsimp only] cDM eGC wpAny_typeNameOfWhole_valiter eGC wpAny_typeNameOf_valiter eYr aG aqi aXi ((cFt).IsValIter) eG eX7 cOo aFv dNk wpAny_isOneOf_valiter fEG wpAny_isOneOf_valiter (es[i].val) fEr
theorem bkw:∀{eJ:aM}{w:aK}{A:cM}{E:cU}{s:bC}{it d:aA}{i n ep:Nat}{od:Obj}{es:WR}{Q:bAz}(hh:Bk)(hit:dW0)(hod:bB8)(hdd:aKl)(hsz:OT=n)(hge:aDh)(hQ:cYO it),bTM:=by rw[by intro eJ w A E s it d i n ep od es Q hh hit hod hdd hsz hge hQ,fD1,eYt,eLU,aH cVw,cDr cAV,cDB cAV,dXv,jJ fD,dXw,cJP,by dsimp only,aH (if_neg (iR (¬(fM i<0)) cL2)),aH aTX,aH (Array.getElem?_eq_none (aQ4 wD OT byi hsz hge)),by dsimp only,cDM gX aVX wpAny_typeNameOfWhole_valiter OU gX aVX wpAny_typeNameOf_valiter OU,eQW,eSu,gX (aLX aYv dKT cKa bQu cNM dNC cCK),by unfold raiseNew,oE aHD wpAny_handled dNI,fEz,eNE]
theorem bfu{d:aA}(hd:bBy):MeetsIn eJ w (Builtin.«dict.values» BI [KL]) cQv eIQ HA cBM bZB (#[KL]):=aZ1 KW (by rintro(A)R s⟨hm,h⟩) gX ?_ aV Builtin.Dict.noArgs dTe hm DC _ (Ii d) Ud dSP aV dDA jJ rX Gg aGK bAa aLX sS h
theorem bfv{v d:aA}{ep:Nat}{od:Obj}{es:WR}{Q:cU}(hv:s.heap.IsValuesView v d)(ho:bB8)(aL0:aKl)(hQ:eVb bZA):cOI cI v:=FI jF ov hov hcv hdv (id hv) aI (wpAny_pyIter_slot dFt dFu aV8 dFu dFt F.entry_dict_values_iter F.args_dict_values_iter_1) aV Builtin.«dict_values.__iter__» gX cND aV Builtin.Dict_items.dictOf gX dHh hov hdv KL cND aV Builtin.Dict_items.newIterator gX aXq bFG ho aL0 (dDB ho aL0 ?_) BB cVw aAH Rf aI (aLX (Cv sS yA bZA pD bL6 F.slot_dict_valueiterator_next.lookup)) aE4 aTR hQ
end
theorem bfw{eJ:aM}{w:aK}{A:cM}(hh:Bk)(I d:aA)(hne:d≠I){od:Obj}{es:WR}{ep:Nat}(hdd:aKl):Walks eJ w A I [I,d] [I] OT eOM vE h (h.IsValIter I d i OT ep∧aIw d od)where
 sub:=JX fC
 bY8:=eLz I (hk d aX _ Da)
 OR:=eZK (bft Cz Da hdd rfl (en:=es[i]) aHB fR h' aqi hs' (hQ _ h' FY GI aHB aT aqi (hs'.extBut d _ hne Da) eN0 hs'.extBut))
 pS:=oW s Q E st hQ (bkw hh Cz Da hdd rfl lB bG h' he' (hQ h' FY eN0 he'))
 AY:=fun _ _ _ _ st hQ=>wpAny_pyIter_valiter Cz hQ
theorem bkx{eJ:aM}{w:aK}{r d:aA}{od:Obj}{es:WR}{ep:Nat}(hdd:aKl):PySem.W.KdlSrc eJ w bZB r d OT eOM wE (h.IsValuesView r d∧aIw d od)where
 type:=wO hm dP8
 Px:=wO hm aT bL3 aAc ho hm.1 ho aPG aUq
 sF:=fun _ _ hm hk=>aT Kw cS o ho x hm.1 o (hk r xR o ho) x (hk d Tj _ aUq)
 notList:=iB
 notTuple:=iB
 hint:=fun _ _ _ _ hm hq=>PySem.W.kdl_hint_values dP8 hq
 TV:=fun _ _ hh hm=>(xY cH AW hq (bfv hm.1 aUq hdd hq) (bfw hh _ d dQe SW aUq hdd) aT aIW PV aUq)
section
variable{X:Cx}{o:bZ}{td:TE}{p CK zT pos:Pos}
inductive bky(Q:VK)(x:V)(H1:Hp):aE|mk a kvs(_:rN)(_:yY H1 ES)(_:JK l Kz l BK Ep l dTw):aEj bky
noncomputable def b6j(td:TE):TE:=Yi aEj bky
theorem a8l(hm:cM6)(hc:KP)(ho:Ni)(hg:autoParam (cNE) EE.autr._auto_1)(aAB:autoParam (bDk bZC) EE.autr._auto_1)(aAC:autoParam (bCY) EE.autr._auto_1)(hs2:autoParam (Sm [bJc dLj [] zT] aBB eP0) EE.autr._auto_1):Uf aBy yI [aYj bZC []] b6j td:=by rw[oR Q h,dZQ,eZC,cMo aBB eP0,dQR,aI (wpAny_Call_method (T:=Qc) (id:=dFv) aAB rfl aAC F.plainAttrs_dict dFw F.type_dict_values aWz),fBI d hd q,bB ex,eEi,bH2 hsm xs (a6n I1.hok hd),by(obtain(⟨od,es,ep,hod,hcx,hdt,hes,_⟩):=id dd),aG hsz (OT=oK) bA EH (size_of_entries hes) cNR,aI pD Jl ?_,qB cY b e HP lH od hod hcx.2.1,aG I2 cIz aF4 s1.heap.push bZB (#[KL]) aYw bTE,bW YI _ _ (callWith zT (.OF dFv) [KL] [] []) _ Cu s1,aI (method_meetsIn dFw F.entry_dict_values rfl (PySem.evalArgs_none aDT Jl (F.args_dict_values_1 _) gJ pD (bfu hsm) Jl)),aYI,gZ (PySem.W.kdl_call (bkx (r:=s1.heap.objs.size) (d:=d) (od:=od) hdt) NH aT aIW PV hod gC bg3 z hsz dAc kp) aCN aQD eXa I2.laid dTw q dR2,dA1 oK Uk aFk bFY hsz,eUS,cVO,cS en h1 rfl cSn,aF kB e1,cNP kv h3 e1,aJ h4 (entry_at hes i),aF h1 h4,kZ hl rel,aJ il iO h3,Sc axc hxi YU xs PR xs i a9k hl il,aF hxi h4,aJ h5 zV h4,aH h5,aG pg Li l jQ m Pm (KT H1 l m) aDG i a bPS b (yU×aVo) cRN UQ a.2 bLV bK iX l m r PQ r Yv h _ rM,aB (pg rel i kv _ h3 hxi)]
end
end L2
end
section
namespace WH
open PySem PySem.Spec PyProof.Rows L2
structure JS where
 y:aA
 dy:aA
 tp:aA
 r:aA
 ps:bM
noncomputable instance:rS JS:=XC
structure JE where
 x:aA
 dx:aA
 hp:aA
 sl:aA
 q:aA
 num:Nat
 ps:bM
 ss:iU JS
noncomputable instance:rS JE:=XC
noncomputable def JS.is(CS:aA)(H:Hp)(s:JS):aE:=oM s.y UG CS s.dy (ak8 cI s.tp cI s.r)∧vW s.r (s.ps.map qI)
noncomputable def JE.is(CE CS:aA)(H:Hp)(j:JE):aE:=dZ oM j.x cJh fT aFM vW j.q (j.ps.map qI) FS vW Jq dMp s aUr eEW
noncomputable def JE.cells(j:JE):bM:=eK2 bSl
noncomputable def ahe(CP:aA)(Hb H:Hp)(p:aA)(l:lF):aE:=∃dp hp,MQ UG CP dp cZw∧NL Hb hp aFG
noncomputable def bkz(CP:aA)(Hb H:Hp)(s:JS)(t:HZ):aE:=NL Hb s.tp aTE∧bUi ahe s.ps t.links
noncomputable def atx(CP:aA)(Hb H:Hp)(j:JE)(e:dI):aE:=jU dM4 (aFM=yL) bUi ahe aMh XX bUi bkz aUr qL
structure um(CE CS CP:aA)(Hb H:Hp)(js:jE)(E:fK):aE where
 same:bBb
 is:∀j∈js,eMK
 nd:mV aBc
 new:∀c∈aBc,aQN c
 rep:bUi atx js E
section
variable{CE CS CP:aA}{Hb H H':Hp}{js:jE}{E:fK}
theorem JS.is.mono{s:JS}(e:eW)(h:eEW):s.is CS H':=aT Sy h.1 Sy h.2
theorem JE.is.mono{j:JE}(e:eW)(h:eMK):j.is CE CS H':=(gY Sy h.1 Sy aQv Sy aQ5 bLd ((h.2.2.2 s hs).mono e))
theorem ahe.mono{p:aA}{l:lF}(e:eW)(h:aZw l):cDw l:=bUR dp bKE h2
theorem ahe.put{p c:aA}{l:lF}{o:HO}{xs:aN}(hl:aGC c)(h:aZw l):ahe CP Hb Br p l:=bUR dp bA cPG h2
theorem ahe.at(s:bBb){p:aA}{l:lF}(h:aZw l):aMV p l:=bUR dp h1 Vt
theorem bkz.map{s:JS}{t:HZ}(m:eTl)(h:bkz CP Hb H s t):bkz CP Hb H' s t:=aT h.1 eJ8 h.2
theorem atx.map{j:JE}{e:dI}(m:eTl)(h:cXo):atx CP Hb H' j e:=(gY h.1 aQv eJ8 aQ5 xS cF3 (z.map m))
theorem um.mono(e:eW)(h:wI):bHj H':=qY (h.same.trans e) bG j hj ((aRu hj).mono e) Ck bZE cIB (y.mono e)
theorem um.bou:∀{CE:aA}{CS:aA}{CP:aA}{Hb:Hp}{H:Hp}{js:jE}{E:fK}(h:wI){k:Nat}{j:JE}{e:dI}(hj:RZ)(he:Of),cHg j.x e:=FI (by intro CE CS CP Hb H js E h k j e hj he) _ nQ h1 h2 h3 h4 cPB SU r1 r2 r3 r4 bSe dJ AN aFL j.hp Jq j.q gY fD cB h.same r1 bR aMh h2 xS r3 (z.at bZF) jA (j.ss.map bZD) h3 vI sg eDy r4 iC i y s hy hs Mg hy t ht eP g1 g2 mC h4 t ht eP w1 w2 (bo r4 ht hs) aB kF t.dy t.tp t.r cH g1 cB h.same w1 bR t.ps g2 xS w2 (z.at bZF)
theorem um.ents(h:wI):Paired aU8 (bZG UC) E:=cN aI (sg eDy aUs oW i y e hy he ?_) aF kB hy cNP j hj hy aB (h.bou hj he)
theorem axo{α β:cJ}{f:aRa}:eNm (∀{i k:Nat}{a b:α},cA cEz GL l b zQ cHd c (f b) (c∉f a)):=by
 intros l
 induction l with
 |nil=>intros _ i _ _ _ h _ _ _ _;cases h
 |cons x l ih=>
  intros nd i k a b hi hk ne c hc
  rw[List.flatMap_cons,List.nodup_append]at nd
  rcases nd with⟨n1,n2,n3⟩
  cases i with
  |zero=>
   cases k with
   |zero=>exact absurd rfl ne
   |succ k=>
    intros z
    have e:=Option.some.inj hi
    subst e
    exact n3 c z c (List.mem_flatMap.mpr ⟨b,List.mem_of_getElem? hk,hc⟩) rfl
  |succ i=>
   cases k with
   |zero=>
    intros z
    have e:=Option.some.inj hk
    subst e
    exact n3 c hc c (List.mem_flatMap.mpr ⟨a,List.mem_of_getElem? hi,z⟩) rfl
   |succ k=>exact ih n2 hi hk (fun z=>ne (congrArg (·+1) z)) c hc
theorem axp{α β:cJ}{f:aRa}{a':α}:Zw l eK k Nat a α qQ mV aYX bR3 mV (f a') kJ c (f a') (c∈f a∨c∉aYX) mV ((dYe).flatMap f)|[],_,_,_,h,_,_=>vN|HS,0,a,nd,h,n',hs=>Am|HS,zE,a,nd,h,n',hs=>kK eM h dA SX SY nd eSO cE List.set_cons_succ SX SY aI cH n1 (axp n2 h n' cQW) aBF c hc d hd e dU fO fO
theorem ank{α β:cJ}{F:tZ}{l:eK}{m:DM}(h:Ys){a:α}{b:β}(f:Ov):∀k:Nat,Ei (l.set k a) (m.set k b):=bA Vo h bY k aB eF r t [bY k,bME k RU f t RU r (ih k)]
theorem r8{k:Nat}{j:JE}(hj:RZ){c:aA}(hc:cNZ):bQo:=bKG j Oh hj hc
theorem um.cell(h:wI){k:Nat}{j:JE}(hj:RZ){c:aA}(hc:cNZ){xs:aN}(hl:aGC c){o:HO}{j':JE}{e':dI}(hj':j'.is CE CS Br)(hn:j'.cells.Nodup)(hs:∀a∈bZH,JB (a∈Rp) aHU aQN a)(hr:atx CP Hb Br j' e'):PM Br cQZ aO7 e':=cN eN cb bUu c hc kl cLH Wv qY cG1 mR j2 hj2 (axp Ck hj hn dUr) dUr ?_ jV MY cb cNA e bBC i hi hj2 vL i k bOm aZ aF dMv hi aJ ap eWP e c jF g1 g2 g3 g4 eML cXZ j2.cells aJT (ap fC) aA5 cSB cPG cX5 eUv kG aQe mY tH dH aB bLW jK dH cS b hb ha2 (List.mem_flatMap.mp ha) bQP hb xG ePf ha2 aF z ha2 iA (hs a ha2) y y dU aB bUu a y bS dU aB (ank dXt hr k)
noncomputable def aty(js:jE):aE:=∀j∈js,cVG
theorem atx.bare:∀{CP:aA}{Hb:Hp}{H:Hp}{j:JE}{e:dI}(b:cVG)(h:cXo),eUZ:=jX xN CP Hb H j e b h _ bDq h aF b.1 r3 aF b.2 r4 Fw bKW r1 r2 aMi XX l r3 bX r3 (by rfl) aMi qL l r4 bX r4 (by rfl)
theorem atx.bcr{j:JE}{e:dI}(b:cVG)(h:eUZ):cXo:=(gY aQ5 cF3 Mc b.1 h.1 eF Mc b.2 aQv eF)
theorem um.number:∀{CE:aA}{CS:aA}{CP:aA}{Hb:Hp}{H:Hp}{js:jE}{E:fK}(h:wI)(hb:aSl){k n:Nat}{j:JE}{e:dI}(hj:RZ)(he:Of),PM eBV cEb Vy n aO7 cN0 n∧ePh:=FI (by intro CE CS CP Hb H js E h hb k n j e hj he) _ aG hc (j.x∈Rp) aCr CA cb bUu j.x hc kl cLH bare' ePh bL dD j2 hj2 bQP hj2 jB aB (hb j2 z) aH z aB (hb j Oh hj) gO bj aX6 hb ndj j.cells.Nodup bK eV (∀{l:jE},zQ mV (aK3 tH) x l x.cells.Nodup) Fv l PQ l dH y l dH aB (aP Ck j (Qn hj)) aJ ndx ndj cV tH ndx aF aAb ndx bD nq (j.q≠j.x) dUs nsl (Jq≠j.x) dUs aIC aT qY ?_ ?_ (axp Ck hj ndj bG a ha gB ha) ?_ ?_ bare' lM b u ee _ jV (ay ee cb) cNA ee dD j2 hj2 NK i hi hj2 bQ ei (i=k) Nn bB ei cGv kl hi bX hi aKD cPB MT aWC ah ?_ VQ fE VQ fE aKe aZ [aF bMH ei hi,eN ap eWP ei j.x b2 mC hb j2 hi,aKD eML,cXZ j2.cells (a≠j.x) (ap cTH),Gp bSN aQe aCr aB g1 cX5,kG aQe aCr aB g3,aKe,aZ] Ae dD a ha bOD b hb' ha ha bQP hb' jB ePf ha bB z aB bUu a ha aJ r aUs dR r2 sJ (atx CP Hb eBV) js E (sg (bWU r) oW i a b ha hb2 (atx.bcr eI9 ((bo r ha hb2).bare eI9))) (ank r2 ?_ k) nQ z1 z2 z3 z4 ((cDk r).bare bj) aB (atx.bcr bj gY z1 z2 z3 rfl)
end
end WH
end
section
namespace WH
open PySem PySem.Spec PyProof.Rows L2
noncomputable def qw(f:Nw)(js:jE):jE:=js.mapIdx bG k j Vy (f k)
noncomputable def wx(f:Nw)(E:fK):fK:=E.mapIdx bG k e cN0 (f k)
theorem vb(f:Nw)(js:jE)(k:Nat):dXJ aG7 f ((js[k]?).map):=zK qw
theorem zn(f:Nw)(E:fK)(k:Nat):dXJ (wx f E) ((aDj).map):=zK wx
theorem a8m(f:Nw)(js:jE):eRs aG7 f:=jX aQ aUt aUt pB kW IM bY k eQf (by rfl)
theorem bfx{f g:Nw}{js:jE}{k:Nat}{j:JE}(hj:RZ)(hk:g k=n)(ho:eF7):(aG7 f).set k Vy n=aG7 g:=fBY vb qw
theorem bam{f g:Nw}{js:fK}{k:Nat}{j:dI}(hj:RZ)(hk:g k=n)(ho:eF7):(wx f js).set k Vy n=dYu:=fBY zn wx
theorem a0w:eZn jE (qw f js=aG7 g):=eYL aQ vb vb rM
theorem axq:eZn fK (wx f js=dYu):=eYL aQ zn zn dH
noncomputable def nD(hs:aDK)(D:aR)(k:Nat):Nat:=fZ (k∈D) dWh 0
theorem a35(hs:aDK)(D:aR)(k i:Nat)(h:cHd):nD hs aHM D i=cPz:=GU nD
theorem a36(hs:aDK)(D:aR)(k:Nat):nD hs aHM D k=dWh:=iF aX
noncomputable def hIx(hs:aDK)(h:PB):Ds PB:=nM hs.zipIdx.filter tK x.1 h
theorem a8n{α:cJ}(p:bO7):∀(l:eK)(n t:Nat)(x:α)(k:Nat),kC cNB bO1 (p y.1) t (x,k)→wF j (k=n+j) bRv (gD ((l.take jP).filter) p=t+1):=cQC eUO eM h a eUO aF XQ h bQ q (p a=aY) An aF (dCb lC q) h dMN t aZ cJe (ih mI t x k fE) eQu aF (List.filter_cons_of_neg lC q) h cJe (ih mI t x k h) eQu bS
theorem bov(a b:PB):(a==b)=aKa:=cKi
theorem ban(hs:aDK)(h:PB):bV aBL=bV nM hs.filter (x==h):=aO3 eV (hs=hs.zipIdx.map wL) aX (by conv=>rhs;rw[aP,Qo,cK]) aV hIx pB List.filter_congr LR x oU (bov x.1 h)
theorem bk0:∀{hs:aDK}{h x:PB}{t k:Nat}(e:kC aBL t (x,k)),dZ (x=h) GL hs h (bEV hs k=jI cJ5 1 0 (t+1)):=FI sY hs h x t k e _ bNF j (a8n bT y tK y h hs 0 t x k e) NN xh x h (aLF (List.mem_filter.mp (Qn e)).2) eV (k=j) dO bz5 h1 bB aP aI pD rfl h2 aG hg (hs.getD k []=x) bA2 h2 aV bEV aQ hg ban aQQ
noncomputable def gEv(xs:bM)(x:BP PB):bBS:=(x.1,cI (bGn x.2 0))
theorem bk1(hs:aDK)(xs:bM)(h:PB):afi (hs.zipIdx.map (gEv xs)) h=aQ1 aBL (V.ref (bGn x.2 0)):=aJm mW afi hIx aQ Qo mL
theorem a8o{hs:aDK}{xs:bM}{h:PB}:h∈z6 (hs.zipIdx.map (gEv xs))↔h∈hs:=bL aQ aq9 mL eV ((hs.zipIdx.map (cLV∘gEv xs))=hs) JT eV (((Ew bBS x.1)∘gEv xs)=cLV) rfl aP cG aH aP
theorem ahf:DX [xL,dFp,lK,bD0,xK] xL adv:=dW
inductive mo(CE CS CP:aA)(vs:aN)(H:Hp)(Q:VK)(XE:XK):aE|mk(a:aA)(Hb:Hp)(js:jE)(E:fK)(_:pM)(_:cMF)(_:wI)(_:aSl)(_:eLi)(_:cTc)(_:cZS):El mo
theorem mo.out{CE CS CP:aA}{vs:aN}{H:Hp}{Q:VK}{XE:XK}:Oi mo eZR eX pM cMF wI aSl dZ eNq cTc cZS:=Pp mo.rec eZR Et pM cMF wI aSl eNq cTc cZS dKo
section
variable{Pr:aM}{w:aK}{K:aL}{mg:bF}{aW:aU}{CE CS CP:aA}
theorem atz:∀{Pr:aM}{w:aK}{K:aL}{mg:bF}{aW:aU}{CE:aA}{CS:aA}{CP:aA}(F:eGh)(B:fQ)(TE:xI),dZB:=Ap bDm Pr CE CS CP F B TE ahf a Hb js E [aOV a Hb js E rfl ha hJ hB h0 hn,HF ahf.nd,kZ jl aFN,dP oF VF 1 aan cHf RY bCj aq6 fU We KN jC bBe (a8l bGc rfl (pv 1)) DU Sf aIS gK bQs gK aDX AI (im jC oG rfl) c hc,eSJ,UA aCK H1 k1,oQ hsl (gD E.map aFc=Jr) vJ cK jl hsE ZK k e dI (Of→GL cRC pA) bK lM k e h bS hsX ZK k h PB (GL cRC h→pL e j Of (pA=h) RZ) Gv k h hh aF kB hh bIZ e he q hh aJ kl iO he aZ,by(generalize hhs:cRC=hs at hsl hsE hsX k),Vj Ld a gJ VU k1.1 aZm jo cEn Xa cX1 cUL v3 (apn H c iM (hs.zipIdx.take i) dNO H') aT Bp fE bNP i ha [by rintro i v σ H3 hv⟨⟨v2,v3,v4,rfl⟩,hI⟩,EO x hx e_ hv,Mg hx j hj,aJ il iO hj,Ek e he E PR E i a9k jl il,SU g1 g2 g3 g4 aX6 hJ.is,gQ r1 cB aMj ((cDk aFN).1),bD hzi gH hs.zipIdx (pA,i) cDa (hsE i e he) hcI MF kvs H3 c ES eZs,fFJ ⟨_,rfl,c,rfl,aJt hc3,_,rfl,j.x,CE,aFL,_,_,rfl,cOD,iZ,jD,rfl,j.hp,_,rfl,aNu cLD r1⟩ YZ pA yW j.x,aG eev (gEv (bZG UC) (pA,i)=(pA,yW j.x)) Ed gEv cWd,by rw[rO,hzi,lN,aFO,bZI,eev],fDS Bp] [by rintro σ H2⟨⟨v2,v3,v4,rfl⟩,hI⟩,_,uB cK cK (bYy (l:=hs.zipIdx) fC) hI,FV s2 ys c2 B2 nb2 hb2 hI,DF bl2 B2,dP Oe c c2 l hl,aG ev ((gKv eHs ys).map xP=FC) jX aV gKv aH mL eV (((Ew bPS x.2)∘Ew (aR×aA) cVh amc)=qI∘(tL x.2)) rfl EH aP mL pB aB (List.map_snd_zip dO bp4 bl2),aH ev,Kp s3 gW FC hl l3 BT H2 l FC l FC,cKD hlH hl,vU QK l FC H3 s3 l3,Gd B3 xS B2 kE z s3 aAP s3,by(generalize hks:eHs=ks at B3),sX cju b aBc aIV vM aSb bOD j hj hbj hb aKD (hJ.is j hj) cV tH hbj eLp fAM bRX dUm,zG b6k JY b aA xB (b∉aBc) Go h z dH OL aFS bHj H' cUq [] bL dD H' h aDm (qw eCr js=js) cRQ aH vb RG rW js j [bN mC h0 j e,aSU aHL aO Vy eFb eQJ aFM] (wx eCr E=E) cRQ aH zn RG rW E x [cHu il,bQK cqh hj js jl,bVx mC h0 _ hj vY (bo aFN hj e),aJh aO uT x num eFb x,aH eQJ Zy] bS Pz (∀f,dJr f) Gv f j hj NK i hi hj aF vb hi cAn j2 hj2 hi aB (hB j2 Oh hj2) one (∀(H':Hp)(D:aR)(i:Nat)(j:JE)(e:dI),jW gH js j gH E e cUq D PM ZL j.x cJh fT cH6 cFb cHx dJh cHx) vG BD H' D i j e hj he hJ' bN ((hJ'.number (Pz _) (k:=i) (n:=cH6) (j:=Vy cPz) (e:=cN0 cPz) eCO zB zn he).1) eN e1 eZt bfx hj e2 eZt bam he aZ,Vj bPD l l3 (jo (K:=K) (a:=l) (xs:=FC) Gb cX1 cUL v3 dJc eRm dUG cH Bp (OL _ (hJ.mono s3)) Je h h eTZ i (b6k hlH) l3 ?_ ?_) [by rintro i v σ H4 hv⟨⟨v2,v3,v4,rfl⟩,hJ4,fr4⟩,Yz,GW h hh y3 B3 hy,OC y3 y3 bk1 y3,bDH nyc b6k mC hb2 y hy y4 lW fr4 nyc y3,AZ rO hh XY aFO List.flatMap_singleton,UA ((ks.take i).flatMap wE bMl) D hJ4,NO bJB oP y4 lZ [bE cc,Wh cc (1<cJ5) VG bNY cc cK JN b1t Oe y gN y4 cTm al3 aQ1 aBL dYO x.2 JC t dZ aIt v2 v4 cUL Vd cUq bSo dUG cH AU aEi fr4 eTZ t nyc y3,[cZ4 t H5 v2 v4 hJ5 fr5,_,aF kB hv,by(obtain⟨⟨hx,m⟩,hm,rfl⟩:=dCw hv),_,by(obtain⟨_,q2,q3⟩:=bk0 hm),_,aF eC dO b14 cc q3,by(obtain⟨e,j,he,_,hj⟩:=hsX m h q2),_,bD exj ((js.map UC).getD m 0=j.x) vC cWd exj (qI ((js.map UC).getD (hx,m).2 0)=qI j.x) bA hM exj,aDy exj NX,bNV s6 fT (t+1) bKm H5 H6,aJ hJ6 (hJ5.mono s6),aG hjr Be cFb bSo Vy (nD hs bSo m) eCO,bEy g1 mC hJ6.is _ hjr,_,Bi PP _ rfl j.x CE aFL _ rfl g1 iZ jD aXH AU ?_ ?_ bN (one H6 _ m j e hj he hJ6) dA q3 EG aP cE rO hm lN aB aP qW b o nb ho eRu hj aB AK tJ fr5 nb ho],dH] bE cc bD cc (¬1<cJ5) Tw cc aU9 aWM eD eUt (D++bMl) (nD hs D kk) kX aUb kk cTf eh aBL cG p r eLC r p2 r2 aZ [cX hx m p,bW7 q3 (bk0 (hs:=hs) (h:=h) (t:=0) (x:=hx) (k:=m) fD),dA eh iF Ub (bV [(hx,m)]=1) q3,bW (nD hs (D++[m]) kk=_),vL kk m,bDL bB e aQ a36 q3 aV nD bS aB (a35 hs D m kk e)] aI cH Bp ?_ fr4 aQ (a0w eD) (axq eO1) aB hJ4] [by rintro σ H4⟨⟨v2,v3,v4,rfl⟩,hJ4,fr4⟩,_,Jn cK bl2 hks OM hJ4,aG eD eUt (ks.flatMap bT h bMl) (bEV hs kk) SI dD kk hk nD aH bEc HK bKG eVu ?_ aOW MZ (eVu,kk) ?_ FU hks a8o cG aI (List.mem_filter.mpr Wm aX) dH,dA (a0w eD) (axq eO1) hJ4,KI]]]
end
end WH
end
section
namespace WH
open PySem PySem.Spec PyProof.Rows L2
theorem bcs{α β:cJ}{f:aRa}:eNm JY a α (a∈l) mV (f a)|[],_,_,h=>bA DT|HS,nd,a,h=>tX
theorem bfz{js:jE}{k:Nat}{j':JE}{c:aA}(h:c∈(cQZ).flatMap tH):bQo∨c∈bZH:=tX
theorem map_set{α β:cJ}{f:aJC}{l:eK}{k:Nat}{a a':α}(h:bR3)(e:f a'=f a):eOI dYe:=eF9 cE List.map_set e dFx CC k i KO bB z jS tU iF gG cK aR2 kB h (by rfl) jJ z
theorem axr{js:jE}{k:Nat}{j j':JE}(h:RZ)(e:bZH=Rp):eRs cQZ:=Uk aUt aUt (map_set h e)
section
variable{CE CS CP:aA}{Hb H H':Hp}{js:jE}{E:fK}
theorem um.has:∀{CE:aA}{CS:aA}{CP:aA}{Hb:Hp}{H:Hp}{js:jE}{E:fK}(h:wI){c:aA}(hc:bQo),aG1 aIc o:=qF yN CE CS CP Hb H js E h c hc _ bOD j hj hbj hc aKD aRu hj cV tH hbj eLp fAM bRX dUm
theorem um.out(h:wI){c:aA}(hc:aO1):Eg c:=lV NI cX o ho (h.has z)
theorem um.sense:∀{CE:aA}{CS:aA}{CP:aA}{Hb:Hp}{H:Hp}{js:jE}{E:fK}(h:wI){k:Nat}{j:JE}{e:dI}(hj:RZ)(he:Of){y dy tp r:aA}{t:aR}(hy:bMQ BM)(hr:vW r [])(nr:Eg r)(hbr:Hb r=aS)(ht:NL Hb tp t),PM EU Jq eDx cEb aRD eWu aO7 cVd:=Gf (by intro CE CS CP Hb H js E h k j e hj he y dy tp r t hy hr nr hbr ht) eNA aKD aRu hm eV0 cV tH nd' eSY fBK _ oQ nrj (r∉Rp) lV (nr (r8 hj z)) hcs (bZJ (aRD eWu:JE)=Rp++[r]) zK tH hsl (Jq∈Rp) aCr gO yc AL hy g3 rc (r≠Jq) aYM nrj Gp (h.cell hj hsl g3 ?_ ?_ ?_ ?_) MT bSN VQ fE VQ fE jK Kf aKe vK hs z jK HK NR jV AL ((cT9).1) g3 aB ((cT9).1) jV JP q n6 fC aB ((cT9).2) eM z bB z dL Av Av fO jB fO bDq iM bSe YN aWm bZq eDx g3 aB gY r1 r2 r3 (r4.snoc aT ht eF)
end
noncomputable def ajb(n:Nat)(E:fK):aE:=∀e∈E,IH≤n
theorem ajb.put{n m:Nat}{E:fK}{k:Nat}{e:dI}(h:bML)(nm:n≤m)(he:IH≤m):ajb m (E.set k e):=AO bL bQP hx dU aB (aS6 (h x z) nm) tI aTe FT
theorem azc(ss es:NY)(s:HZ):lj ss aYA s=s_ (lj ss es) uX:=zK lj
theorem bao:qG ss NY t aR tR (s_ ss t) (aFa+1):=Vc dD ss t aV s_
theorem alg:bS9 NY tR (lj ss es) (aFa+SV):=aCx es bY ss mF lj e es bY ss aJ h1 (ih cVN) aJ h2 (bao ss Cs) bW tR (lj (s_ ss Cs) es) _ bO
theorem uo{α:cJ}{l:eK}{k:Nat}{a:α}(f:cLZ)(h:bR3):l.modify k f=l.set k (f a):=eF9 aQ bEP dFx vL k i FJ bB e cE tU iF aR2 h WD uQ tU jJ e bQd rW l b WD uQ WE
theorem ahg{α:cJ}{l:eK}{k:Nat}{a:α}(h:bR3):l.set k a=l:=NI kW IM
theorem bf0(ss:NY)(t:aR):(Og ss.any t)=lT (bQ1 t≠0):=Wq IR BB Cg bYh LS aV vi cG
noncomputable def tgV(js:jE)(T:aR):aN:=T.map bT k dYO k
theorem bk2:∀{js:jE}{T:aR}{i:Nat}{v:V}(hT:∀k∈T,aBv)(h:YU aM3),pL k j bKH RZ (v=qI j.x):=wA sY js T i v hT h cV tgV h dH
theorem x_{js js':jE}(h:eTs)(T:aR):tgV js' T=aM3:=Oq tgV h
structure Later(H H':Hp)(js js':jE):aE where
 xs:eTs
 aAE:∀c∈js'.flatMap tH,bQo∨aO1
 fr:cDe DI
theorem Later.refl(H:Hp)(js:jE):Later H H js js:=kM rfl wO h aXt Je h h
theorem Later.same{H H' H'':Hp}{js js':jE}(h:My)(s:Ti H''):aMN H'' js':=kM h.xs h.cells UM n rH JJ h.fr n
theorem Later.len{H H':Hp}{js js':jE}(h:My):js'.length=Jr:=xX Ya h.xs GX
theorem Later.trans{H H1 H2:Hp}{js js1 js2:jE}(hn:RA c Kz c Eg c aO1)(h:eDB)(g:eVO):eDC:=bA Fw kM (g.xs.trans h.xs) cQW aCJ tJ g.fr Nq JJ h.fr nb zI (g.cells c hc) bOE h.cells c bO iA (h.cells b z) y y aDU nb y bO
theorem Later.free{H H':Hp}{js js':jE}(h:My){c:aA}(hc:aQM c)(nc:Eg c):aO1:=dAX (H c) aF (h.fr c o nc e) hc bX hc
theorem Later.and{H H1 H2:Hp}{js js1 js2:jE}(h:eDB)(g:eVO):eDC:=h.trans aAu z n (h.free z n) g
theorem alh:Vq [qJ,IB,lK,bZK,qH] IB ahv:=dW
inductive qr(Pr:aM)(w:aK)(CH CL CE CS CP:aA)(vs:aN)(H:Hp)(Q:VK)(XE:XK):aE|mk(x a:aA)(L:fY)(d:cQ)(Hb:Hp)(js:jE)(E:fK)(T:aR)(n:Nat)(_:QP)(_:Ve)(_:uK)(_:wI)(_:aCO)(_:bUr)(_:Vf)(_:aHU)(_:bML)(_:vZ n)(_:eN7 vy):wB qr
theorem qr.out{Pr:aM}{w:aK}{CH CL CE CS CP:aA}{vs:aN}{H:Hp}{Q:VK}{XE:XK}:BV qr (∃(x:aA)(a:aA)(L:fY)(d:cQ)(Hb:Hp)(js:jE)(E:fK)(T:aR)(n:Nat),fCL):=BX qr.rec (∃(x:aA)(a:aA)(L:fY)(d:cQ)(Hb:Hp)(js:jE)(E:fK)(T:aR)(n:Nat),fCL) (fun a0 a1 a2 a3 a4 a5 a6 a7 a8 a9 w_ a11 a12 a13 a14 a15 a16 a17 a18 a19=>ePD Nl a9 w_ a11 a12 a13 a14 a15 a16 a17 aT a18 a19)
section
variable{Pr:aM}{w:aK}{K:aL}{mg:bF}{aW:aU}{CH CL CE CS CP:aA}
theorem azd:∀{Pr:aM}{w:aK}{K:aL}{mg:bF}{aW:aU}{CH:aA}{CL:aA}{CE:aA}{CS:aA}{CP:aA}(F:eHU)(B:fQ)(TH:zL)(TE:xI)(TS:Bv)(dq:bCI)(ae8:eOf CS),eOQ:=fDg ae8 alh (by obtain⟨x,a,L,d,Hb,js,E,T,n,rfl,_⟩:=h) pW E (by obtain⟨x,a,L,d,Hb,js,E,T,n,rfl,hX,hGd,hJ,hTl,hT,ha,nac,hS,hn,k⟩:=h) [gQ nd alh.nd,aMT bZz] ZH dZk Lr AI DU bBe KN aDX Ke yX qt eJa aw RY At aXy ae8 CU aPM ⟨_,rfl,x,CH,dx,_,_,rfl,dSf,pV,qE,rfl,_,rfl,e,a,_,_,rfl,dTg,He,?_⟩ Xa cX1 aGu sO rY v2 v3 wF js' bIu cPJ My cVg i cPJ bR Bp js cH hJ eDM hS mY tgV Oo [by rintro i v tv σ H1 U hv htv⟨⟨v2,v3,v4,rfl⟩,js1,hJ1,hL1,hS1⟩hU,ZT,fCg en hen aPn,fEh,aJ hse Cr bCA hGd.ok.each,fFH,vU cPJ E1 hJ1 hS1,fEQ,aDy (uo _ he1) NX,fAx,eHw,fFn fAv dTn bZL eRS (∃v4:bJ,aGu sO rY RO iL j.x) cPu aAn bUv m My aT rK bR js1 sR aH aAi bW cBP um aXU e1 aH (ahg he1) hJ2 (hL1.same s2) [by rintro m v σ H3 hv⟨⟨v4,rfl⟩,js3,hJ3,hL3⟩,Yz,by(obtain⟨se,bk3,dy,tp,rr,q1,q2,_⟩:=cHe),_,aG tk (bUv (m+1)=s_ bUv m yQ) Mc rO bk3 HG azc,eN le3 (alg (en.senses.take m) aMk) le4 cW5,aF sZ le3,aH tk,vU bUv m ss hJ3 le3,CA j3l hL3.len cqm dFA hxj aPK (js3.map UC) j.x eMx hL3.xs,fFz j3 hj3 ej3 he3 cPu aAn ss uT e1 aAn ss hE3 hJ3.bou,aF ej3 hE3,Bb ⟨_,rfl,_,rfl,y,CS,dy,_,_,rfl,aC8 hJ3.same,GD,HR,rfl,j.x,tp,_,yQ,rfl,hE3.texts,cB hJ3.same q2,?_⟩ H4 s4 cLy,uL hJ4 hJ3.mono s4 hL4 hL3.same s4,aJ ean (bf0 ss yQ),JU lZ [bE c,bD c0 (vi Ow yQ=0) iV eV (cZ bQ1 yQ=0) eA8 c bpt aP bk4 (s_ ss yQ=bAk BI yQ) Ed s_ aQ ean c0,aH bk4,nQ b1 b2 b3 b4 mC hJ4.is j3 hj3,aF ej3 b1,kZ ssl ((bo hJ4.rep hj3 he3).2.2.2),aG ssl (j3.ss.length=aFa) ssl,aYp ⟨_,rfl,j.x,CE,j3.dx,_,_,rfl,b1,iZ,jD,rfl,rL b3,_,rfl,y,CS,dy,_,_,rfl,dTx,GD,HR,rfl,?_⟩ Y dY nY ndY nYd ePd Y dY,sY H5 r5 s5 nr5 hY5 hr5,dJ QT,aPy H4 aBN dY EY Y Y aIy CS dY nY ndY s45 (ag H4 H5) aHu s5 nY,bDJ fr5 sI.free nr5 nrc hJ4.out fr5 hJ5 hJ4.mono s45,OC hJ6 (hJ5.sense hj3 he3 hY5 hr5 nrc (hJ4.same.free fr5) q2) bGA hJ6,Gp OD j3.sl _ _ rfl rfl cB s45 b3 ?_ rK _ hJ6 (hL4.and aZj) cE cK cK ssl bQc aFa 200000 aB (b93 hn dl il hse le4 le3) aB (map_set hj3 rfl),wH dD c hc aH0 bfz hc jB qK eV (bZJ (uT j3 ss (j3.ss++[qY Y dY tp r5 []]):JE)=j3.cells++[r5]) zK tH Oo qW b o nb ho eRu hj3 aB cB s45 ho] bE c bD c0 (bQ1 yQ≠0) dUy bk4 (s_ ss yQ=ss) Ed s_ aQ ean (Iw c0) aH bk4 dL rK bR js3 hJ4 hL4] (by rintro σ H3⟨⟨v4,rfl⟩,js3,hJ3,hL3⟩) bDG yl hJ3 aI bR Bp js3 cH hJ3 hL3 (hS1.put lC bzq ?_) bN (alg Dg aMk) bN cW5 bW tR (lj aMk Dg) _ rF] Oo
end
end WH
end
section
namespace WH
open PySem PySem.Spec PyProof.Rows L2
theorem ali:qG ss NY t aR ((ePv (ss.findIdx? aWe))=bQ1 t):=Wr dD ss t aV vi AT h t Ow [[qX h,dG s hs e cK0,aG hlt (aR1<aFa) eKq,eV (ss.findIdx? aWe=aO dT5) gG dCz NP hlt,aH aP,bW (_+1=_),pB,aSU (_=(Ow).findIdx bQj) dFB,by rfl]]
theorem bf1:Vk d cQ T aR E fK x lF cUS (bRC=x):=aJF d T E x aV b8 RG aKw i [fH i,aJ il (ad7 e),Ek cqs he d (d[i]),aF aHO axf h,aQQ]
theorem bf2:∀{d:cQ}{T:aR}{E:fK}{x:lF}{i k:Nat}{e t:dI}(h:dYY)(he:gH d e)(hk:bKH)(ht:GL E t),dZ (CO≤IH) RA s (CO≠0) kC qL aYJ s (bRC=bUU (vi (t.senses.map vS) uX)) (CO=0→bRC=bUU 0):=kX XZ d T E x i k e t h he hk ht DL q aKw aF (a70 q) h DT i' [aJ il (ad7 q),aG he' kC d i' (d[i']) Al il,aF (axf q he') h,bQ c (CO≤aTk (d[i'])),Wn aIg c DT aF he he' aJ ee zV he' zP ee c aGA aRd c [iX s h0 hs,aV b8,aH q,LQ he hk Zz ht,cE eC dO b07 c eC h0 hs,wP IK bEZ,aB (congrArg bT n (bUU n:lF) (ali dFC uX))] bY h0 aV b8 bS,aZ]
noncomputable def aav(E:fK):aF1 fB:=YR E.map e yL dRy
theorem bf3:∀{d:cQ}{T:aR}{E F:fK}(h:aOe E F)(x:lF),bRC=aVJ F x:=wA sY d T E F h x aV b8 aGV aKw i [fH i,Cl,aGV aBZ e [fH e,aGV rW T k [fH k,lO Zz,aG hk ((aav E)[k]?=(aav F)[k]?) bA aH h,cV aav hk,dA kB kB hk,aPZ a aDj aF a hk bBk b (F[k]?) u fH u aF b hk bX hk t fH t aF a hk vB b (F[k]?) aZ u [fH u,aF b hk,bN zV hk,bD h1 (t.num=u.num) IY bEO aP h2 (t.senses.map vS=u.senses.map vS) IY aTA aP,Cl,eN e1 eLR dFC e2 eLR u.senses,aH h1,WD bT n eO3 ({mK:=x.kind,head:=aK8,num:=u.num,bXr:=aWA 0 n}:lF) (e1.trans ((IY aHx (vi l _) h2).trans bXE))]]]]
theorem aeg{α β:cJ}{F:tZ}{l:eK}{m:DM}(h:Ys){i:Nat}{b:β}(hb:gH m b):bNG Ov:=sR kZ hl h aJ il iO hb bQK cqt ha l hl rP ha (bo h ha hb)
theorem amq:mP [xM,qJ,IB,jZ,bZK,qH] dNF akb:=dW
inductive yd(Pr:aM)(w:aK)(CH CL CE CS CP:aA)(vs:aN)(H:Hp)(Q:VK)(XE:XK):aE|mk(z x a:aA)(L:fY)(d:cQ)(Hb:Hp)(js:jE)(E:fK)(T:aR)(ln:lF)(_:vs=[JG,yT,jT])(_:Ve)(_:dOk)(_:wI)(_:aCO)(_:bUr)(_:Vf)(_:dN4):wB yd
theorem yd.out{Pr:aM}{w:aK}{CH CL CE CS CP:aA}{vs:aN}{H:Hp}{Q:VK}{XE:XK}:BV yd (∃(z:aA)(x:aA)(a:aA)(L:fY)(d:cQ)(Hb:Hp)(js:jE)(E:fK)(T:aR)(ln:lF),fCV):=BX yd.rec (∃(z:aA)(x:aA)(a:aA)(L:fY)(d:cQ)(Hb:Hp)(js:jE)(E:fK)(T:aR)(ln:lF),fCV) (fun a0 a1 a2 a3 a4 a5 a6 a7 a8 a9 w_ a11 a12 a13 a14 a15 a16 a17=>cJI EE.a4s (EE.anr w_ a11 a12 a13 a14 a15 a16 a17))
section
variable{Pr:aM}{w:aK}{K:aL}{mg:bF}{aW:aU}{CH CL CE CS CP:aA}
theorem a39:∀{Pr:aM}{w:aK}{K:aL}{mg:bF}{aW:aU}{CH:aA}{CL:aA}{CE:aA}{CS:aA}{CP:aA}(F:eXK)(TH:zL)(TE:xI)(TS:Bv)(TP:Pl)(fb:bDl)(dq:bCI)(zu:eOg CP),ePm:=eCa (by intro Pr w K mg aW CH CL CE CS CP F TH TE TS TP fb dq zu) amq (by obtain⟨z,x,a,L,d,Hb,js,E,T,ln,rfl,_⟩:=h) (by obtain⟨z,x,a,L,d,Hb,js,E,T,ln,rfl,hX,hZ,hJ,hTl,hT,ha,k⟩:=h) cSZ amq.nd Ms SU dz hpz z1 z2 (id hZ) dJ ZQ BW CY fb fU rR PH VB Od 3 rR Hl aGU 2 gK Hq 5 aw Sf yX awk jY aw Ws CY dq oG (bg aG9 (bg aG9 NU gK) bBB jY) aXy zu aIe jY jY aPM rZ dP cV7 z (hX.mono aMj) (hZ.mono aMj) H1 s1 aJ hJ1 (hJ.mono s1) aNJ hs aYY aI aJJ wX (k H1 z s1 ?_) aH (bf1 hs) aB uJ dz hpz bBH z2 i [aJ il (ap_ hs),bBW en hen d,bQK kk hk T hTl,kZ jl aFN,dS1 kl mC hT kk hk hj,aMi (js[kk]) j hj,Sc t ht kC E kk v PR E kk a9k jl kl,cS c1 c2 c3 (bf2 hs hen hk ht),aG hta gH aM3 yW j.x eBF aQ kB hk bW (aO (qI _)=_) cWd,jF b1 b2 b3 b4 aX6 hJ1.is,eN hnum vY (bo aFN hj ht) hEt ((hJ1.bou hj ht).texts),fFn aIj bU0 rfl _ rfl a _ bAm aCp hta eRL z dz bBH [bY c,aG c0 (Jp≠0) bL bY z aF z c eM c,by(obtain(⟨zz,hzz,de,hp,sl,q,g1,g2,_,ys,g4,g5⟩):=aeg hes hen),aG sl1 (Jp-1<aMg) gC b0m c1 c0,bOk hse sl1,aMi (Dg[Jp-1]) se hse,by(obtain(⟨yy,hyy,dy,tp,rr,q1,q2,_⟩):=aeg g5 hse),aG bvu (aDd Jp=cZ (Jp-1)) dO bql c0,aI ⟨_,rfl,_,rfl,x,CH,dx,_,_,rfl,Lj hJ1.same,pV,qE,rfl,_,rfl,e,_,_,_,rfl,rfl,aCH hJ1.same,aCp pP,zz,CE,de,_,_,rfl,aHK hJ1.same,iZ,jD,rfl,_,rfl,z,CP,dz,_,_,rfl,bBH,uY,zJ,rfl,_,_,rfl,rfl,sl,_,_,_,rfl,rfl,sM hJ1.same g4,gG bvu aUD (Jp-1) fD,yy,CS,dy,_,_,rfl,aC8 hJ1.same,GD,HR,rfl,j.x,tp,_,yQ,rfl,hEt,cB hJ1.same q2,?_⟩,cY H2 s2,eHw,fDZ ⟨_,rfl,z,CP,dz,_,_,rfl,dS4,uY,zJ,rfl,_,rfl,z,CP,dz,_,_,rfl,dS4,uY,zJ,rfl,_,rfl,j.x,CE,aFL,_,_,rfl,mU b1,iZ,jD,rfl,_,rfl,?_⟩,fFm,cZP H2 FG dy bA7 CP s23 cGP s3,oE (k H3 y pZ HD s23 ?_) (c2 se c0 hse),fEI] bY c aG c0 (Jp=0) cX4 bY z kW c aC3 Jp rX fDZ ⟨_,rfl,z,CP,dz,_,_,rfl,bBH,uY,zJ,rfl,_,rfl,z,CP,dz,_,_,rfl,bBH,uY,zJ,rfl,_,rfl,j.x,CE,aFL,_,_,rfl,b1,iZ,jD,rfl,_,rfl,?_⟩ fFm cZP H1 KB dy bA7 CP s23 aB6 H3 s3 [aI (k H3 y (s1.trans s23) ?_),aH (c3 c0)] fEI]
end
end WH
end
section
namespace WH
open PySem PySem.Spec PyProof.Rows L2
noncomputable def JE.alj(j:JE):aAW oC (aA×bM)|aS=>EX j.q aMh|lI=>YR ((rW aUr).map) s s.r s.ps
noncomputable def JE.putL(j:JE)(ps:bM):oC→JE|aS=>uT j ps ps|lI=>aRD dQG bRD ps
noncomputable def afk(e:dI):aAW oC xE|aS=>aO XX|lI=>iM rW qL (·.links)
noncomputable def j9(e:dI)(l:xE):oC→dI|aS=>uT e aAo l|lI=>aPi (e.senses.modify i cPy l)
theorem ait{α β:cJ}{f:aJC}{g:cLZ}(h:∀a,f (g a)=f a)(l:eK)(i:Nat):eOI dQF g:=bL eLc cE kB bEP kB aGV (l[j]?) a [CC i j,dE WD uQ ((bAh f bEc z).trans (h a)) aB (aLi uQ (aLi f bAu))]
theorem aiu(j:JE)(ps:bM)(o:oC):bZJ cQb=Rp:=fEC [dAK eK2 iM aJ3 (·.r) cTo AV s JS s.r bRD ps,by rfl]
theorem bk5(j:JE)(ps:bM)(o:oC):(cQb).x=j.x:=bA Hv o
theorem bk6(j:JE)(ps qs:bM)(o:oC):(cQb).putL qs o=bKR qs:=eP8 bW ((aRD dSJ aJ3:JE)=aRD aJ3) bEl
theorem a3_(e:dI)(l m:xE)(o:oC):j9 bSS m o=aCQ m:=eP8 bW ((aPi dSJ aRG:dI)=aPi aRG) bO
theorem axs:∀{j:JE}{ps qs:bM}{c:aA}{o:oC}(h:aQq),(bKR qs).alj o=aO (c,qs):=kX sY j ps qs c o h eWI dVr aJ3 bS
theorem asm{e:dI}{l m:xE}{o:oC}(h:cCA l):afk aCQ m o=aO m:=cEX [IP s hs aYC,dVr aRG,bS]
theorem a0x:Vk j JE ps bM c aA o oC aQq (j.putL ps o=j):=kX XO j ps c o h eWI bW ((aRD aJ3:JE)=j) aQ (uo _ hs) (ahg hs)
theorem aze{e:dI}{l:xE}{o:oC}(h:cCA l):j9 e l o=e:=bA Kd o [DT,by rfl] i [cS s hs q aYC,bX q,bW ((aPi aRG:dI)=e),aQ (uo _ hs) (ahg hs)]
theorem azf(e:dI)(l:xE)(o:oC):eKX bSS eFZ:=fEC dAK (yL,aYD aRG) cTo cIt cPy l
theorem bk7{E:fK}{k:Nat}{e:dI}(h:Of)(l:xE)(o:oC):aOe aO7 bSS E:=map_set h (azf e l o)
section
variable{CE CS CP:aA}{Hb H H':Hp}{js:jE}{E:fK}
theorem um.alj:∀{CE:aA}{CS:aA}{CP:aA}{Hb:Hp}{H:Hp}{js:jE}{E:fK}(h:wI){k:Nat}{j:JE}{e:dI}(hj:RZ)(he:Of){o:oC}{c:aA}{ps:bM}{ls:xE}(hp:aQq)(hl:bM1),dZ cNZ aO5 c Tp (ahe CP Hb H) ls:=fN (by intro CE CS CP Hb H js E h k j e hj he o c ps ls hp hl) _ aKD cPB bDq bSe fDN aB cH aCr g2 r3 [dAN s hs,fEV t ht,aI cH ?_ ((mC g4 s hs).2) ((bo r4 hs ht).2),bDE tH]
theorem um.link:∀{CE:aA}{CS:aA}{CP:aA}{Hb:Hp}{H:Hp}{js:jE}{E:fK}(h:wI){k:Nat}{j:JE}{e:dI}(hj:RZ)(he:Of){o:oC}{c p:aA}{ps:bM}{ls:xE}{ln:lF}(hp:aQq)(hl:bM1)(hq:aZw ln),PM eCL aVA k aBP p aO7 aCQ (ls++[ln]):=FI (by intro CE CS CP Hb H js E h k j e hj he o c p ps ls ln hp hl hq) eNA aKD aRu hm dG hc hcl hpr (h.alj hj he hp hl) eV0 cV tH nd' eSY fBK RJ rep ((bSe).map) YN eLx bZq gO hq' eLx hq.put b6o Tp (ahe CP Hb eCL) ls Fj hpr hcl aPU (h.cell hj hc hcl ?_ gG aiu nd bG a ha gB dB aF aiu ha ha ?_) Kd o [bX hp,aQ6 cSB HM H j.q _ j.x jV n1 aB g1 HM H j.q _ j.q aH ah aJh _ (HO.lst ((aMh++[p]).map qI)) cG,FJ HM H j.q _ Jq aH aMQ n4 aB g3 jV AL bKh g2 aB bKh,kG jV JP q n5 iV hM q aTm MZ s hs aB bLW] i [dAN s0 hs0,bX q,aG mr (aMl∈bSl) aOW MZ s0 Oh hs0,Fw bSN HM H aMl _ j.x jV aYM n3 aB g1 HM H aMl _ j.q jV aYM n5 aB g2,bOL bW En aMl _ Jq gW aVq iM aJ3 bZD aQ (aq aYM n6) cTo AV s JS s.y bRD cPP aB g3 aKe aG hs (s∈dQG bRD cPP) hs aF bQS hs NK m hm hs WP m i Gi bB q cGv iO hs0 hm bX hm yG b mC g4 s0 hs0 NR qB HM H aMl _ s0.y eE5 aB b.1 aB aUd [aF bMH q hm,aJ b mC g4 s hm,Wv NR eE5 aB b.1 bD hr1 Be bSl s.r Wz hm hr2 gH bSl aMl Wz hs0 jV oO q (aws n7 hr1 vJ hr2 z) aB b.2]] bDq rep fDN aB gY r1 r2 eAa r4 [dAN s0 hs0,fEV t0 ht0,aI gY r1 r2 r3 ?_,bW sJ _ aJ3 aRG,aQ bQS (uo _ ht0),aB (ank r4 (a:=uT s0 ps cPP) (b:=uT t0 Qm (t0.links++[ln])) Uh (bo r4 hs0 ht0) eAa i)]
end
theorem azg(a b:xE)(l:lF):dk a (b++[l])=vk yZ dk l:=zK dk
theorem afl:∀(b a:xE),tR yZ dk (BA+b.length):=aCx b bY a mF dk l b bY a aJ h1 (ih cTT) aG h2 tR cTT (BA+1) qS vk oY dE aB b2j cG bW tR (dk cTT b) _ dH
theorem afm:mP [XH,dBi,qJ,IB,xM,aS2,aFE] cFy acl:=dW
inductive om(Pr:aM)(w:aK)(CH CL CE CS CP:aA)(vs:aN)(H:Hp)(Q:VK)(XE:XK):aE|mk(c ad x a:aA)(L:fY)(d:cQ)(Hb:Hp)(js:jE)(E G0:fK)(T:aR)(k:Nat)(j:JE)(e:dI)(o:oC)(ps:bM)(ls lns:xE)(_:cZg)(_:Ve)(_:cXO)(_:wI)(_:aCO)(_:bUr)(_:Vf)(_:aHU)(_:RZ)(_:Of)(_:aQq)(_:bM1)(_:bGh≤IG)(_:dKQ)(_:bK2)(_:aNP ps' dN1 dK7):wB om
theorem om.out{Pr:aM}{w:aK}{CH CL CE CS CP:aA}{vs:aN}{H:Hp}{Q:VK}{XE:XK}:BV om (∃(c:aA)(ad:aA)(x:aA)(a:aA)(L:fY)(d:cQ)(Hb:Hp)(js:jE)(E:fK)(G0:fK)(T:aR)(k:Nat)(j:JE)(e:dI)(o:oC)(ps:bM)(ls:xE)(lns:xE),eX cZg Ve cXO wI ZY dFy iH aXh Vf fDb):=BX om.rec (∃(c:aA)(ad:aA)(x:aA)(a:aA)(L:fY)(d:cQ)(Hb:Hp)(js:jE)(E:fK)(G0:fK)(T:aR)(k:Nat)(j:JE)(e:dI)(o:oC)(ps:bM)(ls:xE)(lns:xE),jU cZg Ve cXO eX wI aCO aXh Vf fDb) (fun a0 a1 a2 a3 a4 a5 a6 a7 a8 a9 w_ a11 a12 a13 a14 a15 a16 a17 a18 a19 a20 a21 a22 a23 a24 a25 a26 a27 a28 a29 a30 a31 a32 a33=>(dXB (_root_.EE.bsn w_ a11 a12 a13 a14 a15 a16 a17 Nl a18 a19 a20 a21 a22 a23 a24 a25 a26 bN1 a27 a28 a29 a30 a31 a32 a33)))
section
variable{Pr:aM}{w:aK}{K:aL}{mg:bF}{aW:aU}{CH CL CE CS CP:aA}
theorem ara:∀{Pr:aM}{w:aK}{K:aL}{mg:bF}{aW:aU}{CH:aA}{CL:aA}{CE:aA}{CS:aA}{CP:aA}(F:eMa)(B:fQ)(afn:ePm)(lq:EM bD4 VY (ic CP)),eQq:=UL aQs F B afn lq afm (by obtain⟨c,ad,x,a,L,d,Hb,js,E,G0,T,k,j,e,o,ps,ls,lns,rfl,_⟩:=h) [pW EE,by(obtain⟨c,ad,x,a,L,d,Hb,js,E,G0,T,kk,j,e,o,ps,ls,lns,rfl,hX,⟨zs,hz1,hz2⟩,hJ,hTl,hT,ha,nac,hj,he,hp,hl,hln,b6p,hsk,k⟩:=h),aEG afm.nd hzl hz2,eN kl cLH kl2 iO he,gZ oN (am JH KC 1 aDX FL Xu 5 Ez afn oG jC gK Ke Tg aZG KC 0 aFE 6 Nu CY lq HI rZ RY rR rZ) Ld ad aDa aMj hz1,aIG (jo (K:=K) (a:=ad) (xs:=aDN) NV ((∃v4 v5 v6:bJ,aNw wZ iL ad sO rY v4 v5)∧eY ps' PM H' dTS cGF aCQ cCh ((lns.take m).map) aMN H' dTS) aT Bp jA ps ?_ dO6 ps' hz1 ?_ ?_) bW PM H aVA kk ps cGF aCQ ls jS (a0x hp) (aze hl) (ahg hj) (ahg he) aB hJ aQ (a0x hp) (ahg hj) aB (Later.refl H js),[by rintro m v σ H1 hv⟨⟨v4,v5,v6,rfl⟩,ps1,hJ1,hL1⟩,cCG ln b6q hzp hz2,aJ ml iO b6q,aG etk (cPv (m+1)=vk cPv m cSk) dB cE rO b6q lN HG azg,aJ lle (afl iM (lns.take m) Kq ls),dA cK sZ lle,aH etk,vU cPv m l1 hJ1 lle,bD esk (aVJ dWF ln=cSk) (bf3 bJJ bk7 he AQ ln) hj1 aPK cSi bKR ps1 aXo kl,bD he1 aPK dWF aCQ l1 aXo kl2 ha1 yY H1 cKx cSi cUG bGz hL1.fr,aST ⟨_,rfl,_,rfl,_,rfl,z,x,a,L,d,Hb,cSi,_,T,ln,rfl,hX,hzp,hJ1,hTl,pP,ha1,?_⟩ H2 p s2 hpp,aF esk hpp,UA cSk tl hpp,eWi,aDz hc2 bvv b6r (hJ2.alj hj1 he1 (axs hp) (asm hl)) hpl,HE WI c bvv,fCQ (ajn 6) 5 cKM l1 dLq bvv aBn bIk dFD bWZ eXr EO q hq e_ hv GW m hm hpm b6r hq q p tl cMT hpm.at bZL cMT hpp.at bZL Ty H3 vs s3 bL5 aDn ePE ?_ aH hv bNM aP0 bKb vs h2 cIM hpl v [fH v,dG m hm rfl dMT,bS] aG e2 ((ePE).any id=lT (tl∈l1)) bL aQ OI IR LQ Cg bET id LS dL dB bZy a h1 h2 (h2▸h1) wE GI h aH e2 uL hJ3 hJ2.mono s3 hL3 hL2.same s3 GZ AT hin tl l1 PF aQ iR (vk l1 tl=l1) iF hin (Iw hin) WM aT Bp bR ps1 hJ3 hL3 [aQ iR (vk l1 tl=l1++[tl]) eC hin (aKJ hin),eN b6s kE bvv hJ4 (hJ3.link hj1 he1 (axs hp) (asm hl) (hpp.mono s3)),Jn bk6 a3_ bGA bGA hJ4,Gp (f_ PP rL b6s _ rfl c _ _ rfl rfl b6s ?_ Bp _ hJ4 (hL3.and aZj)) aH cK bQc dFD bWZ eXr aQ eJU eJU,qB aSb aF (axr hj HG aiu) hb sQ gG (axr hj HG aiu) hb,qN rD (by grind-abstractProof-ring-linarith-order-ac-mbtc-lia-ext-funext(ematch:=2)(splits:=3)(gen:=3) [aAJ,aL1]) wT]],aQQ]
end
end WH
end
section
namespace WH
open PySem PySem.Spec PyProof.Rows L2
noncomputable def aiv(n:Nat)(E:fK):aE:=∀e∈E,FS (aAl≤n) s qL cN7
noncomputable def afo(c:aKk)(es ss:NY):NY:=eJO ss dY9
theorem bap(c:aKk)(es ss:NY)(s:HZ):afo c aYA s ss=aah cSy uX aHx dM5:=zK afo
theorem alk(c:aKk):bS9 NY dZH cSy:=bBN es bY ss e bY ss Fq ((afo c es (aah ss Cs _)).map) vS aQ ih aoc
theorem a3'(c:aKk)(e x:dI):eKX cWX (Zy,x.senses.map vS):=YL ((Zy,aYD (afo c qL bER))=_) aH alk
theorem anm{α:cJ}{l:eK}{i:Nat}{f:cLZ}{x:α}(h:x∈dQF f):cL5∨∃y∈l,x=f y:=NI cX k hk (List.getElem?_of_mem h)
theorem a0y{ss:NY}{t:aR}{ls:xE}{n:Nat}(h:∀s∈ss,cN7)(hl:qC bGh):∀s∈aah ss t aHx (dk l ls),aE6≤n+12:=bL cY s hs Io (anm hs) z y hy rfl jB bO eN h1 Fe h h2 (afl ls y.links) bO
theorem bf4{ss:NY}{t:aR}(h:t∈Ow):eY s (vi Ow t=aR1+1) kC ss aR1 s:=vM cS s hs e cK0 dR hlt (aR1<aFa) eKq bR (ss[aR1]) ?_ Al hlt aV vi qX h pB Fq ((Ow).findIdx) bQj aH dFB (by rfl)
theorem ahh:Vq [qJ,IB,lK,bZK,qH,"twin"] IB adw:=dW
inductive pk(Pr:aM)(w:aK)(CH CL CE CS CP:aA)(vs:aN)(H:Hp)(Q:VK)(XE:XK):aE|mk(x a:aA)(L:fY)(d:cQ)(Hb:Hp)(js:jE)(E G0:fK)(T:aR)(n:Nat)(_:QP)(_:Ve)(_:uK)(_:wI)(_:aCO)(_:bUr)(_:Vf)(_:aHU)(_:cG2)(_:vZ n)(_:bK2)(_:dPl)(_:eN7 cCn):wB pk
theorem pk.out{Pr:aM}{w:aK}{CH CL CE CS CP:aA}{vs:aN}{H:Hp}{Q:VK}{XE:XK}:BV pk (∃(x:aA)(a:aA)(L:fY)(d:cQ)(Hb:Hp)(js:jE)(E:fK)(G0:fK)(T:aR)(n:Nat),fCO):=BX pk.rec (∃(x:aA)(a:aA)(L:fY)(d:cQ)(Hb:Hp)(js:jE)(E:fK)(G0:fK)(T:aR)(n:Nat),fCO) (fun a0 a1 a2 a3 a4 a5 a6 a7 a8 a9 w_ a11 a12 a13 a14 a15 a16 a17 a18 a19 a20 a21 a22=>cJI EE.a4s Nl w_ a11 a12 a13 a14 a15 a16 a17 a18 gY a19 a20 a21 a22)
section
variable{Pr:aM}{w:aK}{K:aL}{mg:bF}{aW:aU}{CH CL CE CS CP:aA}
theorem at1:∀{Pr:aM}{w:aK}{K:aL}{mg:bF}{aW:aU}{CH:aA}{CL:aA}{CE:aA}{CS:aA}{CP:aA}(F:eHT)(B:fQ)(TH:zL)(TE:xI)(TS:Bv)(dq:bCI)(ut:eQq),eQx:=fDg ut ahh (by obtain⟨x,a,L,d,Hb,js,E,G0,T,n,rfl,_⟩:=h) pW EE (by obtain⟨x,a,L,d,Hb,js,E,G0,T,n,rfl,hX,hGd,hJ,hTl,hT,ha,nac,hS,hn,hsk,htx,k⟩:=h) cSZ ahh.nd JH dZk Lr AI DU FL (cq eRr At KN) JH (dm KN) aDX (ai Ws aG9 At bBB eJa aUR eRr UJ 5 aPM) ⟨_,rfl,x,CH,dx,_,_,rfl,dSf,pV,qE,rfl,_,rfl,e,a,_,_,rfl,dTg,He,?_⟩ Xa dH4 rY eY js' bIu bRN dZ My cSt i bRN aOe G0 bRN bR WZ js gY hJ eDM hS hsk mY tgV dH [by rintro i v tv σ H1 U hv htv⟨⟨v2,v3,v4,v5,rfl⟩,js1,hJ1,hL1,hS1,bo0⟩hU,fD6 de,fEh,bDI hsm bCA hGd.ok.each cfa dEV hsn hsm.senses,fFH,OX bRN E1 hJ1 hS1 bo0,fEQ,sX tx1 s Dg (uX∈e1.senses.map vS) fN aKe aG h1 aPK (aav E1) (e1.num,e1.senses.map vS) cGw aav he1 zP bo0 h1 cV aav h1 dH,aH (uo _ he1),dR cfb qG ss xE tt NY (tt.map vS=e1.senses.map vS→aOe aXU eEV E1) fR ss tt htt (map_set (l:=E1) (a':=eEV) he1 bA AQ) NX,fAx,eWi,bD ha2 yY H2 cKx js1 cUG bGz hL2.fr cfc (a∉js1.flatMap tH) cN bE z iA (hL2.cells a z) y y aDU nac y dH,SU b1 b2 b3 b4 aX6 hJ2.is,gQ cfd cW5,gZ ⟨_,rfl,j.x,CE,aFL,_,_,rfl,b1,iZ,jD,rfl,_,rfl,z,CE,de,_,_,rfl,dTn,iZ,jD,rfl,_,rfl,_,rfl,?_⟩ ⟨j.q,q,x,a,L,d,Hb,js1,E1,G0,T,kk,j,e1,aS,aMh,bZM,en.sees,rfl,hX,g3,hJ2,hTl,dLP,ha2,cfc,hj,he1,rfl,rfl,?_,dO bg9 cfa,bo0,?_⟩,dU dH,qW H3 ps3 hJ3 hL3,aJ hL3 (hL2.and hL3),aS8 (js1.set kk (j.putL ps3 aS)) js3 hJ3 hL3,aG hJ3 PM H3 js3 cPu aAo cUJ hJ3,OC sle (afl (en.sees.map Kq) bZM) cK sle,bW _,aMO bk4 (ku Kq en e1) aOr cUJ (afo Kq Dg aMk),aH bk4,vU cUJ S hJ3 sle,aKF fAv aHK hJ3.same hJ3.same eRS aIt v4 v5 aGE sO rY RO iL j.x aXU aOr S bCK FS My s bCK (aE6≤n+200*i+12*m) bR AU js3 cH gG aAi hJ3 hL3 gG aAi cfd.2 [by rintro m v σ H4 hv⟨⟨v4,v5,rfl⟩,js4,hJ4,hL4,bk8⟩,Yz,aFI se bk3 dy tp rr q1 q2 q3 cHe,aJb ml iO bk3 hsl eCn bk3,bD tk (dHC (m+1)=aah bCK yQ aHx cN5 l) Mc rO bk3 Dr bap _ txm ((bCK).map vS=e1.senses.map vS) HG alk,aH tk,OX bCK ss hJ4 txm bk8,aG hxj aPK (js4.map UC) j.x eMx hL4.xs,fFz j4 hj4 ej4 he4 aXU bRG bRG hE4 hJ4.bou,aF ej4 hE4,nQ c1 c2 c3 c4 mC hJ4.is j4 hj4,aF ej4 c1,dP ⟨_,rfl,j.x,CE,j4.dx,_,_,rfl,c1,iZ,jD,rfl,_,rfl,_,rfl,y,CS,dy,_,_,rfl,dTx,GD,HR,rfl,j.x,tp,_,yQ,rfl,hE4.texts,cB hJ4.same q2,?_⟩ H5 s5,uL hJ5 hJ4.mono s5 hL5 hL4.same s5,dG s0 en0 hs0 (bf4 (ss:=ss) (t:=se.text) FH),bDq (bo hJ5.rep hj4 he4),aSS r4 sJ (bkz CP Hb H5) j4.ss ss r4 t0 ht0 rep0 (aeg r4 hs0),aJ cff mC bk8 s0 hs0,aG eat ((aOr S bM0 yQ cN5 l:dI)=j9 bRG cN5 dFE aO Og bXn yQ) cN bW (_=(aOr S qR ss.modify:dI)) pB aV aah aQ bQS bQS,aJ hlA (a0y (t:=se.text) (ls:=se.links.map Kq) bk8 aYf),aH eat,OX (bXn JO s uX yQ) ix en0 hs0 ht0,aG en1 (vi cJW cIt Cr (bRG:dI) yQ=ix+1) en0,aH en1,nQ d1 d2 d3 d4 mC hJ5.is j4 hj4,eP f1 f2 mC d4 t0 ht0,bD bvu (aDd (ix+1)=cZ ix) lC b1c ha5 yY H5 cKx js4 cUG hL4.xs hL5.fr,Wh cfg (a∉js4.flatMap tH) cN bE z iA (hL5.cells a z) y y aDU nac y dH bU0 _ rfl rfl j4.sl _ gN d3 gG bvu (bf (j:=ix) eCe ht0) ⟨_,rfl,t0.y,CS,t0.dy,_,_,rfl,f1,GD,HR,rfl,_,rfl,y,CS,dy,_,_,rfl,aC8 hJ5.same,GD,HR,rfl,_,rfl,_,rfl,?_⟩,HK ⟨t0.r,rr,x,a,L,d,Hb,js4,_,G0,T,kk,j4,_,aO ix,t0.ps,dFE,bGi,rfl,hX,q3,hJ5,hTl,gG hL5.len hT,ha5,cfg,hj4,he4,?_,?_,?_,dO bg9 hsl,?_,?_⟩ dVs j4.ss bS dVs ss bS,dE aB (b95 hn dl il hsn ml cff) dH,[qW H6 ps6 hJ6 hL6,aF bGA hJ6,lH AU _ cH hJ6 (hL5.and hL6) bL Zq s hs bN (hlA s hs) JN b_3]] (by rintro σ H4⟨⟨v4,v5,rfl⟩,js4,hJ4,hL4,bk8⟩) (by rw[cK,yl,OM]at hJ4 bk8) zX bR WZ js4 aWC hJ4 hL4 aKo iA (List.mem_or_eq_of_mem_set hy) w w kG bN (hS1 y w) dH dH DS (cfb S _ HG alk) bo0] dH
end
end WH
end
section
namespace WH
open PySem PySem.Spec PyProof.Rows L2
noncomputable def ye(e:dI):gE:=mQ 9 yL||(mQ 12 aAl||(mQ 12 IH||eEz))
theorem baq(d:cQ):dFF d=(mQ 300 iH||d.any ye):=rfl
theorem aaw:DX cGD lK vm:=dW
inductive f7(CE CS CP:aA)(vs:aN)(H:Hp)(Q:VK)(XE:XK):aE|mk(x:aA)(e:dI)(_:JW)(_:Aj)(_:dK1):El f7
theorem f7.out{CE CS CP:aA}{vs:aN}{H:Hp}{Q:VK}{XE:XK}:Oi f7 eUn:=Pp f7.rec eUn aYn
theorem ahi:DX [xL,lK] xL adx:=dW
inductive px(CE CS CP:aA)(vs:aN)(H:Hp)(Q:VK)(XE:XK):aE|mk(a:aA)(xs:bM)(E:fK)(_:pM)(_:aHS)(_:cGx E)(_:dK3):El px
theorem px.out{CE CS CP:aA}{vs:aN}{H:Hp}{Q:VK}{XE:XK}:Oi px bU3 E eTt:=Pp px.rec bU3 E eTt aKE
section
variable{Pr:aM}{w:aK}{K:aL}{mg:bF}{aW:aU}{CE CS CP:aA}
theorem ajs:∀{Pr:aM}{w:aK}{K:aL}{mg:bF}{aW:aU}{CE:aA}{CS:aA}{CP:aA}(F:eGn)(B:fQ)(T2:Xv)(TE:xI)(TS:Bv),dZd:=Ts aHw Pr CE CS CP F B T2 TE TS aaw x e [pW E,by(obtain⟨x,e,rfl,⟨dx,hp,sl,q,g1,g2,⟨ps,g3,g3'⟩,ys,g4,g5⟩,k⟩:=h),aEG aaw.nd yl g5,kZ pl g3',aI oN aD3 VB (PW.pt (ai3 yX zr jY (ck T2.ars) (ai3 bKD zr jY bY6 (ad8 bKD zr jY bZb)))) agp aZG Yo qH 1 aJy bKL zr cTV aCI fU bZb,dR yes (ye e=aY→JY G aE (BR aY→G) G) fR h G f (f aZ6) ⟨_,rfl,x,CE,dx,_,_,rfl,g1,iZ,jD,rfl,_,_,rfl,rfl,_,rfl,lZ⟩,cJR aG c (9<yL) Gx bMf b1w aB (yes GU ye lV z),fEu c1 9 yL Tw c bA pH b1_ ⟨_,rfl,x,CE,dx,_,_,rfl,g1,iZ,jD,rfl,_,_,rfl,bO9,_,_,rfl,rfl,_,rfl,lZ⟩ IH yl,fEu c2 12 IH cP7 ⟨_,rfl,x,CE,dx,_,_,rfl,g1,iZ,jD,rfl,_,_,rfl,oP g3,_,_,rfl,rfl,_,rfl,lZ⟩ aAl pl,bD c3 (¬12<aAl) cP7 ek (ye e=eEz) Ed ye cE Wi c1 Wi c2 Wi c3,aF ek k,HE aOO x CE dx g1 iZ jD sl g4,bPN bDe xu FC aPq t qL pI dWb aDr gN g4 Vi qC wQ b0b yl c2 aC5 s1 ZT aAQ t ht dz tp r n1 n2 zs n3 n4 aVC g5 DF zl n4 aI kD ⟨_,rfl,z,CS,dz,_,_,rfl,kY n1,GD,HR,rfl,_,_,rfl,oP kY n3,_,_,rfl,rfl,Mf jA t ht⟩ WD Cw aJc aU9 bS aR0 vs aF (ak' (f:=AV t HZ cHv (12<dFG)) (l:=e.senses) aKt yl M.2) hv aI aDn (e.senses.map bT t dWb) zB hv mL Mz k H' DS OI k]
theorem at2:∀{Pr:aM}{w:aK}{K:aL}{mg:bF}{aW:aU}{CE:aA}{CS:aA}{CP:aA}(F:eGi)(B:fQ)(T2:Xv)(qg:dZd),eG0 Mb px:=aHZ aIq Pr CE CS CP F B T2 qg ahi a xs E [pW EE,Db a xs E rfl ha hxs k h,aEG ahi.nd xl hxs,aI oF IX (b3i bKL zr Ng T2.anv (am7 aZG KC 0 lK 1 aJy wV qg fU)),aF baq k,aI bCq,kG bE c wT,bE c,AR c1 (300<aAp) cP7,dA Wi c1 dDu k,HE WI a ha,JU eLD xu bNE cN6 atb aA3 f7 vs H1 Q E0 PU aPq t E pI (ye t) aDr He Vi MO dF b0c xl c1 [aC5 s1,cCG t ht he hxs,Nf cAs z t (he.mono s1) bG H2 s2 ZC s2 MZ t ht] aR0 vs aF (ak' (f:=AV t dI (V.bl (ye t))) (l:=E) aKt xl M.2) hv aI aDn (E.map ye) fC aZ]
end
end WH
end
section
namespace L2
open PySem PySem.Spec PyProof.Rows
theorem bvx:∀{K:aL}{a D:aA}{xs:aN}{g:TG}{tt:TT}{te:TE}{σ:St}{vs:aR}{H1:Hp}{Qd:NB}(Pv:bOG)(h0:Pv 0 aVu)(hq:xT i H aO9 cMg DQ)(hs:Dz i x H VI cMg (g x Ki H bG σ2 H2 cAQ cAZ (Pv eG aVL) (Pv eG H3)))(hd:iJ H (Pv dF H) (Qd H)),bVi WY aZu:=jX (by intro K a D xs g tt te σ vs H1 Qd Pv h0 hq hs hd) dJ jA fR i m H AG m (dF-i) aO9 cMg gJ uN mJ h0 (by rintro i m H⟨rfl,hi,p⟩) gQ sq (hq i H hi p) bQ e (i<dF) SJ aI KQ bJw sq aIz jA aM0 aXM h (dF-eG) QZ bA GG a9l e h bF1 x H' rfl y _ bO eV (i=dF) gC bdd hi e bB aP sQ aT bJV sq (hd H p)
end L2
namespace WH
open PySem PySem.Spec PyProof.Rows L2
section
variable{CE CS CP:aA}{Hb H H':Hp}{js:jE}{E:fK}
theorem um.off(h:wI){c:aA}{xs:aN}(hl:aGC c)(nc:Eg c)(hb:aQN c)(o:HO):bHj Br:=bA BH qY ?_ ?_ Ck bZE dXt iX b u e jV MY hb cNA e [cY j hj,jF g1 g2 g3 g4 aRu hj,cXZ Rp aJT (nc fC),aA5 cSB cPG cX5,eUv,kG aQe mY tH bO aB bLW]
noncomputable def axt(e:dI):dI:=Yt pA 0
theorem um.more:∀{CE:aA}{CS:aA}{CP:aA}{Hb:Hp}{H:Hp}{js:jE}{E:fK}(h:wI){H5:Hp}(s5:rJ H5){x dx hp sl q:aA}{t:aR}(hx:rT H5 aWH aNG VN)(hs:H5 sl=aO sK)(hq:H5 q=aO sK)(nx:aQR)(ns:nZ sl)(nq:aGJ)(nsq:bBt)(ht:NL Hb hp t),PM H5 aXu CG x dx hp sl q 0 [] [] (E++[Yt t 0]):=vG (by intro CE CS CP Hb H js E h H5 s5 x dx hp sl q t hx hs hq nx ns nq nsq ht) eN xs AL hx hs xq AL hx hq aIG qY (h.same.trans s5) ?_ ?_ ?_ aZV cIB (y.mono s5) QZ ht eF eF dD j hj vK hj z jK aB ((aRu z).mono s5) eM z bB z aB gY hx hq hs Kh s hs bX hs aQ XY SY aA5 aRd Ck (by simp[tH,xs,xq,KJ nsq]) [qW a ha b hb,bE e,bB e,Iu tH hb,aKC hb,dE aB (h.out nx ha) aB (h.out nq ha),dU aB (h.out ns ha)] wY dD c hc aF XY hc vK hc z xG aB (bZE c z) Iu tH z aKC z aDc aB (h.same.free nx) h.same.free nq aDU h.same.free ns
end
theorem aiw(k:Nat):eH1 (fw n bBv=aHM aQf)|n,[]=>rfl|n,bBw=>bBO cS7 bBv (aiw k n ps)|n,aJ2=>bBO cPN bBv (aiw k mI ps)
theorem aix:aDG n ps RC l fK (pF=iS→fw n bBu=aQf++[n+bV Yr])|n,[],[],_=>rfl|n,bBw,bAV,h=>bBO cS7 bBu dXs n|n,aJ2,bAV,h=>cN bW (cPN bBu=_) aH dXs mI bW (_=n::(fw mI ps++[n+bV (e::Yr)])) bO
theorem aeh(k:Nat)(e:dI):eKx bBv Yr|[],[],_=>rfl|bBw,HS,h=>eYu|aJ2,HS,h=>bBO (x::restOf bBv aPY) eYu
theorem aei(e:dI):eKx bBu (Yr++[e])|[],[],_=>rfl|bBw,HS,h=>eID|aJ2,HS,h=>bBO (x::restOf bBu aPY) eID
theorem au_:dNw tR Yr iS|[],l=>fW aLx|uP,[]=>fW aLx|aO _::ps,_::l=>eOO Yr qK|aJ2,HS=>eOO (x::Yr) Gu
theorem bct:∀(n m:Nat)(ps:RC)(l:fK),cA (pF=iS) (m≤n) zQ iJ i (lI∈ps) (i<m) k aQf (k<n+bV Yr)|n,m,[],[],_,_,_,k,hk=>bA bX hk|n,m,bBw,bAV,h,hm,hi,k,hk=>bK VM hk z z dE bO aB fAw n hm|n,m,aJ2,bAV,h,hm,hi,k,hk=>cN bW (k<n+bV (e::Yr)) aH qZ VM hk z z jB pH byh bN fAw mI aQS hm JN bye
theorem a8p{js:jE}{j:JE}{T:aR}(h:∀k∈T,aBv):tgV aXu j T=aM3:=qS tgV aQP mR k hk KZ
theorem bo1:LO js jE (cA8 tgV js Jr=cEn):=fN bE js kW IM bE i aV tgV dH
theorem a8q:∀(d g:cQ),wx dTh bCJ ((bCJ).map axt)=cLe:=KW dD d g bD e1 Ft bL4 bCJ aFc iM aIB (Si33.headAt d g) vC cE bdu mL lN el (bV bCJ=bV aIB) Tl Ya e1 aH e1 aV aoe kW IM bE k aQ zn kB bQ h dRB wY aG hl (k<bV bCJ) gC xf el h cE kB dQA (FW hl) aJh aO (Yt _ _:dI) Yt _ _ KZ bS
theorem bar:eYS qC aTk b.1 bML cVg Ji aJ7 vy:=fCs (ajb (n+12) (dCv b.2 (vy b.1))) An bN (h x z) JN b0n eN h1 Fe h h2 (alg cJ8 bEY) aJ h3 dV4 bW tR (lj bEY cJ8) _ aB (cai h1 h2 h3) bN (ih _ (n+12) eDA h1) cVg (Ji+1) (m_ vy (dCv b.2 (vy b.1)) bs)
theorem bk9(c:aKk):∀(es ss:NY)(n:Nat),kJ s ss cN7→zQ kJ s es qC aE6 s cSy (aE6≤n+12*SV):=GO es vR ss n h _ aB h e es [vR ss n h he,aJ h1 (a0y (t:=e.text) (ls:=e.links.map c) h fD),bN (ih _ (n+12) h1 bLd (he s fW hs)),cY s hs,bN (aP s hs),bO]
theorem a8r(c:aKk):eYS (yh b.1) cG2 cSt Ji aJ7 (ku c):=fCs (aiv (n+200) dOY) PF bN (h x z) bO [eN h1 Fe h h3 dV4,OC h2 (afl ((b.1).sees.map c) y.sees) cK h2,eN h4 h3.sees h5 h3.senses,HK Wm mR s hs bW tR Lf y.sees ((b.1).sees.map) c _ rF bN (bk9 c cJ8 bEY n h1.2 h3.links s hs) NQ by8 h5] bN (ih _ (n+200) eDA h1) cSt (Ji+1) eH2
theorem bf5(c:aKk):qG bs Ds dI E fK aOe aJ7 (ku c) E:=bBN bs bY E b bY E Fq aav eH2 DS ih (ait (f:=cG3 eFZ) (a3' c b.1) E b.2)
theorem bas{d g:cQ}(hd:Hk)(hg:Pd):aiv 0 (ajl d g):=aEl cN bBC k hk he aG kl dRB fN bN iO hk cV ajl aP dA xn xn aP cV aoe aP XU aP aF cRz hk bTh
theorem bat{d g:cQ}(hd:Hk)(hg:Pd)(i:Nat)(en:dI)(k:Nat)(t:dI)(h1:Vg)(h2:gH Vx k)(h3:dUt):∀s∈Dg,cEQ:=bN2 cY s hs aJ il iO h1 aF (dCx il) h2 bX h2 OC kl (aai (g:=g) i il) cRz h3 bX h3 aH mL ePZ aQ aP bEr aG hb gH aIB ((aIB)[i]' kl) PL aF (tj il) hb bS8 eAE bO
theorem a8s{d g:cQ}(hd:Hk)(hg:Pd)(i:Nat)(en:dI)(k:Nat)(t:dI)(h1:gH g en)(h2:gH Nc k)(h3:dUt):∀s∈Dg,cEQ:=Zd cY s hs aJ il iO h1 jF k' y q1 q2 aZ3 il aF h2 q1 bX q1 aJ kl iO q2 aF cRz h3 bX h3 aH mL ePZ aQ aP bEr aG hb GL aIB ((aIB)[k]' kl) PL aF q2 hb bS8 eAE KZ
end WH
end
section
namespace WH
open PySem PySem.Spec PyProof.Rows L2
theorem ahj:mP [Cb,XJ,lK,IB,"first_joined","second_joined","partner"] VY ady:=dW
inductive p9(Pr:aM)(w:aK)(CH CL CE CS CP:aA)(vs:aN)(H:Hp)(Q:VK)(XE:XK):aE|mk(x z:aA)(L L2:fY)(d g:cQ)(_:ZJ)(_:nE)(_:bLI)(_:uK)(_:aPa)(_:dO4):wB p9
theorem p9.out{Pr:aM}{w:aK}{CH CL CE CS CP:aA}{vs:aN}{H:Hp}{Q:VK}{XE:XK}:BV p9 bVp eOo:=BX p9.rec bVp eOo dAe
structure JL(CE CS CP:aA)(Hb H:Hp)(D fj sj:aA)(d:cQ)(js:jE)(E:fK)(S:aR):aE where
 at_:wI
 Pz:aSl
 aTf:∀j∈js,aFM=0
 hD:vW D aVw
 hfj:vW fj eFx
 hsj:vW sj (tgV js S)
 nD:Eg D
 nfj:Eg fj
 nsj:Eg sj
theorem JL.mono{CE CS CP:aA}{Hb H H':Hp}{D fj sj:aA}{d:cQ}{js:jE}{E:fK}{S:aR}(s:eW)(h:eR1 H):eR1 H':=SL (h.at_.mono s) h.bare h.zero rH h.hD rH h.hfj rH h.hsj h.nD h.nfj h.nsj
section
variable{Pr:aM}{w:aK}{K:aL}{mg:bF}{aW:aU}{CH CL CE CS CP:aA}
theorem at3:∀{Pr:aM}{w:aK}{K:aL}{mg:bF}{aW:aU}{CH:aA}{CL:aA}{CE:aA}{CS:aA}{CP:aA}(F:eFy)(B:fQ)(TH:zL)(TE:xI)(ac6:eOe CE)(aiy:ePk)(aax:dZB)(aay:eOQ)(wz:eQx),Kj bWq 6 VY p9:=aU1 (by intro Pr w K mg aW CH CL CE CS CP F B TH TE ac6 aiy aax aay wz) ahj x z L L2 d g [fDh,cSZ ahj.nd,fFU (id hZ.ex),aI oN (ai bDB 3 Yo lK 2 AI oy cVk bQy aw AA 4 bNa gK Ws NM PH ZH cIC NU Pc aiy Lr AI Nu aQg Od 6 (ai (cq bHl gK cVk KN aw) RY rZ bSJ) Hx rZ aGU 3 HI (cq wV aax gK) Hn (cq zD aay oG) eDo aay (cq zD wz oG) eDo wz UZ 3),bUQ hx e he,fEc cIN bvx vE H' (∃js,eX cFl bL4 (bZg i) aSl eLi DB D aVw Eg D) aYs nP qY pK hD aX aX aX eF Kh j hj bX hj aX ah aX (fun i H' _⟨js,h,_⟩=>aCH bZF) (by rintro i v H1 hv⟨js,hJ,hB,h0,hD1,nD1⟩) Yz dAY (bu hes hy) kZ jl aFN dA cK sZ jl dA4 kD eXu CE de aHK aMj iZ jD X dX nX ndX nXd H5 qn s5 hX5 hs5 hq5 aPy H1 KB dX EY X X aIy CE dX nX ndX s15 aB6 H5 aHu s5 nX CA hJ5 eWR hJ.more s15 hX5 hs5 hq5 hD5 cB s15 hD1 nD5 (D∉(cPi).flatMap tH) Wq XY bE z vK z z xG pH nD1 Iu tH z Iv z z z eTD eTL HK gJ cH hD5 ?_ aT aXu bLK nP ?_ ?_ ?_ ?_ nD5 bMq Nz MO Jr b_7 dl jl cE rO hen lN aB (hJ5.off hD5 nD5 hD _) bDL dD j hj vK hj z bOE hB j aZ fO kG cE ah lN lN (by rfl) [by rintro H1⟨js0,hJ0,hB0,hN0,hD1,nD1⟩,bDG hxl hJ0,kZ j0l hJ0.rep,aF cK j0l,dP Oe D gB gN hD1 fj hfj,Kp s2 gW bTv hfj fj2 BT H1 fj bTv fj bTv,aJ Dfj (ay hD1 hfj),aSp Ep fj bTv fj2,dP eO aX sj hsj,Kp s3 sK hsj sj3 Pj H2 sj,aKq Dsj mU hD1 hsj b6v fj2 hsj,cKD b6w hsj,vU DA H2 sj H3 s3 sj3,bDJ s13 aAP s3 crj hJ0.same.free hfj b6x hJ0.same.free b6w,aG JL3 cJG H H3 js0 (bXk axt) [] SL (hJ0.mono s13) hB0 hN0 cB s13 hD1 dB FU j0l bo1 kE fj2 sj3 nD1 (hJ0.out hfj) (hJ0.out b6w),aFs pl pf aZq,dJ ⟨_,rfl,z,CH,dz,_,_,rfl,cB bZN hz,pV,qE,rfl,_,rfl,_,rfl,x,z,L,L2,d,g,rfl,hX.mono bZN,hZ.mono bZN,hGd,hGg,?_⟩,iC H4 yl s4 nyl hyl,aJ JL4 (JL3.mono s4),aKq Dyl JL3.hD nyl b6y JL3.hsj nyl,aJ cfm (JL3.at_.out nyl),aG hT0 Vl js jE E fK H' Hp cFl E zQ (iH≤aAp) k Vx aBv kI h h2 k hk xX Ff aUs fO,by(generalize hps:cBi=ps at hyl pl pf),Vj CG e2 yl _ _ rfl sM JL4.at_.same he2 gN hyl ?_ (au8 (K:=K) (a:=e2) (b:=yl) (xs:=aDN) (ys:=cNS) Xa aIt v2 v6 aNw sO RO v2 iL D iL fj iL sj wF js cJG H H' js bL4 (d++dZC) bLb DB yl cNS Eg yl bR AU js0 cH bA (by simpa[aLx,fw]using JL4) hyl cfm fD (fun i σ H' _⟨_,js,h1,h2,_⟩=>aT sM h1.at_.same he2 gN h2) ?_ ?_) [by rintro i v pv σ H5 U hv hpv⟨⟨v2,v6,rfl⟩,js,hJL,cfn,b6z⟩hU,Yz,dAY (bu bkv hy),Mg hpv po hpo,aG aUu (bV bIs=bV dQv) Uk sZ sZ pl,OC rle dMr au_ sZ rle,fEJ,fE0 hS bLb (bct iH iH bIs dQv aUu lB vE hi ((pf i (List.mem_of_mem_take hi)).1) k hk) hR,OC sjl cBO yj iH sZ sjl,by rw[rO,hpo,rO (l:=g),hen,aFO,aFO],aI NX,bNV s6 qO (oV po) H5 H6,aJ hJL (hJL.mono s6),aJ bv0 AK cfn,fD2 po [dA4 aJJ PP rL aFP _ rfl y CE de _ _ rfl aHK hJL.at_.same iZ jD rfl ?_ X dX nX ndX nXd H7 qn s7 hX7 hs7 hq7,aPy H6 kP H6 dX EY X X aIy CE dX nX ndX s67 eBD aHu s7 nX,gO hJ7 eWR hJL.at_.more s67 hX7 hs7 hq7 bcu Xf bOJ (b∉aBc) (b∉(cPi).flatMap tH) QS hb nb bL aF XY z vK z z xG pH nb Iu tH z Iv z z z eTD eTL,ZZ D7 bOf aFP sj7 bOf aMm nD7 (bcu aFP bGB) bk_ (bcu aMm aUv),eN bv1 (bcu bGC bGD) cfq (bcu bv0 b6z),aI cIH D D7 ?_,kG bMq bMa qP Jr aB (b97 dl gl rle jl),zG D8 bTV D bJY ah sj8 bTV sj cFC NZ Dsj sj7 fj8 bTV fj eFx NZ Dfj bOf bGC yl8 bTV yl cNS NZ Dyl bOf bv0,aJ hJ8 (hJ7.off D7 nD7 hD gW bJY),aUn sG H7 D bJY H8 D8 sj8 fj8 yl8 hJ8,Fw ⟨_,rfl,rL sj8,_,rfl,_,rfl,D,_,_,_,rfl,rfl,gN D8,qR a6b,sj,_,_,rfl,rfl,sj8,?_,AU,aXu bLK,SL ?_ ?_ ?_ ?_ ?_ ?_ nD7 bv1 bk_,?_,cfq⟩ aV tgV aH cK eVc bN (hJ8.off sj8 bk_ b6x gW dTE) (by rw[aei en _ _ aUu,←EG,lN]) aB aP,Ae dD j hj vK hj z bOE bZO j fO dD j hj vK hj z bOE bZP j fO,oS jS (aq Dsj) D8 lN lN (by rfl) cE (aq b6v) fj8 (a8p hR),eWa Dr aix aUu cPi (iH+bV dZC) dTE jX hM (a8p (j:=(bLK:JE)) hS) aV tgV aH lN pB (by rw[←jl,bZI,aLB,lN,List.getElem?_append_right aX,cK,bEz]) (by rfl) yl8] kx Ch kx [gQ kxl ((mC pf kx hpo).1),bD kj (kx<Jr) gC bx2 jl kxl hkx kC aVw kx yW dL5 eCe Al kj] aIG aIj ⟨_,rfl,rL aMm,_,rfl,_,rfl,D,_,_,_,rfl,rfl,gN aFP,bf (j:=kx) hkx,sj,_,_,rfl,rfl,aMm,?_,AU,js,SL ?_ bZO bZP ?_ ?_ ?_ bGB bGD aUv,?_,b6z⟩ aV tgV aH cK eVc bN (hJL.at_.off aMm aUv b6x gW eDw) DS (aeh kx en _ _ aUu) aP fP jV Dsj aB aFP jV b6v aB bGC eWa aiw js kx eDw eBF aH lN pB jS bZI aLB kB Al kj bv0] [by rintro σ H5⟨⟨v2,v6,rfl⟩,js,hJL,_,_⟩,_,Jn cK hzl (bYy (l:=ps) dO bp4 pl) OM hJL,aJ rle (au_ ps g),fEJ,aI aP7 D H js _ aFP hJL.at_ bZO bZP lC (b9_ dl gl rle jl),jG H6 hJ6 hB6 fr6,gQ eB (a8q d g),aF hps eB,aF eB hJ6,aS8 dTh dHy ps fn hJ6 hB6,aDx ex6 eFl UC cN kW IM bE m eQf (by rfl) ec6 a8m fn js,aG el6 (bV bMA=Jr) zK qw,ZZ D6 lW fr6 bGB aFP fj6 lW fr6 bGD bGC sj6 lW fr6 aUv aMm nD6 bGB,eN bo2 bGD bv3 aUv,by rw[←ec6]at nD6 bo2 bv3,cJ9 ex6 fj6 sj6,bD D6 aVn H6 aVq iM bMA aAT gG iR eFl aAT ex6 D6 hSl (bV dYG=Cp) vJ yj pl,fE0 a8t dYG (bct iH iH ps g pl lB vE hi ((pf i hi).1) k hk) hRl,cTj el6,by(generalize bMA=js6 at hJ6 hB6 D6 fj6 sj6 nD6 bo2 bv3 a8t hRl),aG esj (fw iH ps=Nc) Oq akn hps,by rw[esj]at hSl a8t sj6,sX sm0 b aSz (yh b.1) JX (hGd.ok.each b.1 (List.of_mem_zip (a:=b.1) (b:=b.2) hb).1),bD onl (bV aSz=iH) gT aV onT aQ dFz aLA b_q le0 (ajb 0 (aoe d g)) ZB bK cV aoe hy fO,aI ⟨_,rfl,_,rfl,x,fj,L,d,H,js6,_,Vx,0,rfl,hX,hGd,hJ6,aLA,hRl,fj6,bo2,le0,lC om2,?_⟩,jG H7 js7 hJ7 hL7,gQ le7 (bar _ _ 0 JX Cr uI sm0 le0),aG sF (∀{Ha Hc:Hp}{ja jc:jE}{b:aA}{o:HO},jW (Later Ha Hc ja jc) uF Ha (b∉ja.flatMap tH) (uF Hc∧b∉jc.flatMap tH)) fR h hb nb aT aDQ h.fr hb lV bL iA (h.cells _ z) y y aDU nb y fO,aEm D7 nD7 hL7 D6 nD6,aEm fj7 bv1 hL7 fj6 bo2,aEm sj7 bk_ hL7 sj6 bv3,cJ9 hL7.xs fj7 sj7,cTj hL7.len,aST ⟨_,rfl,_,rfl,z,sj,L2,g,H,js7,_,Nc,_,rfl,hZ,hGg,hJ7,hSl,a8t,sj7,bk_,le7,gC b_b dl onl,?_⟩ H8 js8 hJ8 hL8,aEm D8 nD8 hL8 D7 nD7,aEm fj8 cft hL8 fj7 bv1,aEm sj8 cfu hL8 sj7 bk_,cJ9 hL8.xs fj8 sj8,cTj hL8.len,bDD hJ8 aA3 um H H8 js8 Au hJ8 tD hGd.texts tG hGg.texts,aJ ll8 (bas tD tG),aST ⟨_,rfl,_,rfl,x,fj,L,d,H,js8,Au,Au,Vx,0,rfl,hX,hGd,hJ8,aLA,hRl,fj8,cft,ll8,lC om2,rfl,bat tD tG,?_⟩ H9 js9 hJ9 hL9,aEm D9 nD9 hL9 D8 nD8,aEm sj9 cfv hL9 sj8 cfu,zP (x_ hL9.xs) sj9,zP hL9.len a8t,yG ll9 (a8r eDd aSz _ 0 sm0 ll8) ⟨_,rfl,_,rfl,z,sj,L2,g,H,js9,_,Au,Nc,_,rfl,hZ,hGg,hJ9,hSl,a8t,sj9,cfv,ll9,gC b_c dl onl,oU HG bf5,a8s tD tG,?_⟩,qW H10 b64 cfw b65,bEy D10 (sF b65 D9 nD9),dJ wX (k H10 D b64 hD ?_ cfw),aH D10,aJa ex (b64.map aAT=js6.map aAT) (b65.xs.trans (hL9.xs.trans (hL8.xs.trans hL7.xs))) ex]]]
end
end WH
end
section
namespace L2
open PySem PySem.Spec PyProof.Rows
section
open PySem.SeqAt
open PySem.AutoSeq1(wpAny_loadPart')
open PySem.MeetsSeq PySem.MeetsSeq2 PySem.MeetsSeq3
theorem bau(l b:aA)(iK pU:qA)(n n2:Nat)(dd:yH)(sl:FR)(hs0:dM6 items.isEmpty xQ IS)(hs1:cKV)(hs2:xQ+IS≤vO+1):bNz Builtin.«list.extend» bLi dZ GS l cBK aOm bIF cHo dd dMm Eo aEJ GM eDI tL (x++pU):=aZ1 kK (by rintro(eJ)w A R s⟨hl,hb,h⟩) aI7 eN k1 bYY k2 bYW eN k3 AutoSeq1.sub_tuple_list k4 AutoSeq1.sub_list_tuple aG hz' ((iK++pU).size≤vO+1) gG Array.size_append hs2 (by wp_walk using(wpAny_updateSeq hl rfl (hz:=hs1) (_hz':=hz')),dKY,cAy) Gu
end
variable{X:Cx}
inductive a0z(K:aL)(x:V)(vs:aN)(H:Hp)(Q:VK):aE|mk l b xs zs(_:Nt)(_:IV vF)(_:Ia)(_:cOS zs)(_:cSx)(_:dWR):eD3
noncomputable def bk'(K:aL):FP:=aUJ vs eD3
theorem bav:MtM X dDh (bk' X.K):=by rw[bUC,dAx,bX rx,cXe,bX ru,bDz,by(obtain(⟨YE,r2,⟨o2,e2,c2,n2,d2⟩,z2⟩):=aFm hB),Zc hl2 bFl hsz eGb Mc zO zO (b_l hz hl hl2) bib eSd eUf,jF oc od odt osl o2,bX c2,bX d2,fAz (bau l b uS aAD n n2 od osl bib dO byb hsz dO bya hsz),Gu]
end L2
end
section
namespace WH
open PySem PySem.Spec PyProof.Rows L2
structure agh where
 a:Nat
 b:Nat
 s:mX
noncomputable instance:rS agh:=XC
noncomputable def agh.row(k:agh):fB:=[[k.a],[k.b],[k.s.1,k.s.2]]
noncomputable def agi(H:Hp)(v:V)(k:agh):aE:=eI8 y vV [fT k.a,fT k.b,qO] Ss y k.s
theorem agi.mono{H H':Hp}{v:V}{k:agh}(e:eW)(h:agi H v k):agi H' v k:=dB qM t y h1 h2 h3 h bTQ t y Sy h2 e
theorem a8u(A:cM)(s:bC)(a b:Nat)(t u:Tok):aDo tE dQ5 dSW xZ ND:=cN aJ O (abq A s a b t u) aDm (∀x y:Nat,tE [x] [y]=cCt) YW y cN aV tE CC x y kG bB z mF tE bS NE (xZ=ND) aKa dSw Gp aZj aH e2 aB O.eq DS e1 bGa kG aH e1 aB dEC
section
variable{X:Cx}{bH:dM}{σ:cO}{H:Hp}{s:bC}{A:cM}
theorem bla:∀{X:Cx}{bH:dM}{σ:cO}{H:Hp}{s:bC}{A:cM}(I:LI){p q:aA}{a b:mX}(hp:Ss p a)(hq:Ss q b)(hu:SD),aDo tE iW tM eAr eAs:=Ze bVs a b _ bUM hp _ bUN hq _ aNs r1 rva rv r2 rvb aOH rvb aNs r3 cfx rv2 r4 bks aOH bks bU6 cYW bTJ aif aH e dAM (au5 (xs:=eAr) (ys:=eAs) pl pl2 hu aIh ?_ ?_) xN j h1 h2 x y hx hy (by match j,h1 with|0,_=>rw[bDK]|1,_=>rw[bDK]) dAL aG hq (H p=_) hq aF iR bM6 hp hq bO
theorem blb:∀{X:Cx}{bH:dM}{σ:cO}{H:Hp}{s:bC}{A:cM}(I:LI){v w:V}{u z:bU}{a b:agh}(ha:agi H v a)(hb:agi H w b)(ru:CF)(rz:UQ w z)(hu:SF),aDo ij u z a.row b.row:=by rw[by intro X bH σ H s A I v w u z a b ha hb ru rz hu,_,AM p y rfl hp hy ha,AM q y2 rfl hq hy2 hb,fEf,bUM hp,_,bUN hq,_,dAu r5,fCT,bU6,cYW,bX r5,bX r6,bTJ ak7,aH e,BH (au5 (xs:=a.row) (ys:=b.row) pl pl2 bRW aIh ?_ ?_) xN j h1 h2 c d hx hy' _ fEE fED [dPG,aB (bla I hy hy2 fE)] [dAL,aF hp hq,fE3 hq,dG e1 e2 rfl aP,aG hy2 (H y=_) hy2,aF iR (H y=_) hy hy2,fE3 hy2,bDE dFH]]
theorem blc:∀{X:Cx}{bH:dM}{σ:cO}{R:bAy}{f la It S:aA}{ps:bM}{iT:iU agh}{H0:Hp}(hh:dRk)(hu:aRU)(J:NB)(hl:iJ H (J H) Tn bi la tN)(hIt:Tq H0 It)(hS:Tq H0 S)(hlI:la≠It)(hSI:S≠It)(hkl:bGd=pF)(IQ:dAk p aA k agh VH aPp aXL (J H1) dSV bH bSf eSq dLN H2 aRJ)(hR:∀(i:Nat)(p:aA)(k:agh)(H1:Hp)(s1:bC),VH aPp aXL dNJ (J H1) dYp Eo iW s1),∀(r j i:Nat)(p:aA)(k:agh)(H1:Hp)(s1:bC)(kb:bU)(kv:V)(c:Nat)(oI:Obj),cA (pF-jP=r) (jP≤pF) qQ cDl bO8 S bNI It oI eR8 oI jP (J H1) aPp qQ aXL (agi H1 kv k) UQ kv kb ZK j' k' agh cA (j'≤j) kC iT j' k' dJx aH5 aCz X.A (.OF bZQ BI [cI It,xW,aC7]) R s1:=QJ (by intro X bH σ R f la It S ps iT H0 hh hu J hl hIt hS hlI hSI hkl IQ hR) HJ aMo eVS bZQ iB hsz dP9 pF aX gO W eXb hh isl Zw v_ dM H Hp s bC cA aCe v_ H s (J H) (s.heap.IsList la Jh Vz) (fun{v_ H s}I j=>gT aI2 pl (aLO (hl H j)) hM (ag' rv) FZ) bE r aCc r [by intro j i p k H1 s1 kb kv c oI hr hj I hit jH hp hk hkv rk hb,_,aG hin (jP=pF) gC by1 hr hj,fFP Dq W.done eKS fC ?_,lJ h' tk' hk',eN I1 fAk aNz hk' pP hS' (hk' S _ pP nS.1),gO sb aYa h' S aGQ I2 Kt H1 cMr s1 Sz h'.update S aGQ cJg I1.turned aKb fS.1 fS.2,fEU cJ7,gZ eFH hS' bAa wpAny_letGo ?_ (hR i p k H1 _ hp hk mR k' hk' jH I2),NK j' hj' hk',dH] r [pE r ih,by intro j i p k H1 s1 kb kv c oI hr hj I hit jH hp hk hkv rk hb,_,aG hlt (jP<pF) dO caf hr,fFP (W.item jP _ _ _ gC b_5 hsz hr eKS (hit _ nI.1) ?_),fFQ p2 hpj jP k2 hkj b_9 hkl hlt,CA I1 fAk dWG hS' dZt nS.1 I2 aCe bO8 S bNI It oI' H1 cMr s1 h' aSx aV0 I1 bv5 fI.1 fI.2.1 vY fI.2 fC hS' fS.1 fS.2,fFK dUc aCm (turn jP p2 k2 _ H1 _ hpj hkj jH AO cRd hx I2) pX x s2 he hF bYG H2 I3 Mp I3.pin S bNI Mp I3.pin It oI',bD fI2 Tq H2 It Uh nI2.2 hIt.2 fS2 Tq H2 S Uh nS2.2 hS.2,aJ O (blb (A:=X.A.in1) I3 bo3 eAb rk2 rk FH),dKv (tryCatch (holding [cI p2,x] (richCompare .Lt x kb>>=_)) _) (aFv (aLQ GP bGa ?_)),gX (aFv (aTP ?_)),cRh wpAny_letGo,aG buv eR8 oI' (jP+1) eUc,Uq hc (ij k2.row k.row) [dAU sb bXL S cVc Sz s2.heap.update S cVc aBE (#[cI p2,x]) c2 bGE,lO aAj,gX ?_,oE eFH bGE (wpAny_letGo ?_) aMo,aJ I4 ((Inv.ae5 (Inv.ae5 I3)).turned (t':=s2.toks) aKb bGF dPX dSc dSN dSI),fEK (ih jP jP p2 k2 H2 _ x kv2 c2 oI' dXX hlt aSx aV0 I4 eTF fI2.1 dPY dQ4 fC hc2 bGF fS2.2 buv jH2 hpj hkj bo3 rk2 ?_),vL j' jP,aD2 bB e aF hkj hk' bX hk' YX uv aJ h1 (hb j' k' gC b0e hj' e hk') bKK h2 (ij k'.row k2.row) (by rfl) [aF Dq ah3 h2 hc h1,bX h1]] [wP aAH Rf,oE aHD wpAny_letGo aMo,fEK (ih jP i p k H2 _ kb kv c oI' dXX hlt I3 buv jH2 hp hk eAb rk ?_),dH]]
end
section
variable{X:Cx}{a sV:bZ}{ta:TE}{tb:TE}{p pos aie aAA:Pos}{CQ:Ik}{gM:oX}{x q:Str}{j k:Nat}{P:aA}
noncomputable def bv8(K:aL)(ta:TE)(P:aA)(q:Str)(aie:Pos)(j:Nat)(tb:TE):TE:=JD ta v fBn NC H1 la tN NC H3 la tN
theorem bld:∀{X:Cx}{a:bZ}{sV:bZ}{ta:TE}{tb:TE}{p:Pos}{pos:Pos}{aie:Pos}{aAA:Pos}{CQ:Ik}{gM:oX}{x:Str}{q:Str}{j:Nat}{k:Nat}{P:aA}(hr:eEF)(hN:YB)(hm2:aBt aEQ)(T:cZu)(hq:cYG)(ok:cWv)(ha:HV)(hb:fBG)(OS:fDr)(aAL:autoParam (cW9) EE.autr._auto_1)(hg2:autoParam (aGL aEQ) EE.autr._auto_1)(hs:autoParam (aEz) EE.autr._auto_1),fAT aEQ xZ (bv8 X.K ta P q aie j tb):=eYf (by intro X a sV ta tb p pos aie aAA CQ gM x q j k P hr hN hm2 T hq ok ha hb OS aAL hg2 hs) dEw aJ ha' (aa ha ak hs) (callWith_kw (he:=cMw) (hplain:=cMw) JF eWD fBn (bi X.K H1 la tN) (bi X.K H3 la tN)) [fFW la ps hla hne,Db iT J hkl j0 jl jt jf eUl,_,eRg I2.list,RJ ei ag' rv,bB ei,aJ hls FZ,aFs ol hol (id hls),RJ hll Heap.lt_size hol,aG aMo (eVS=bZQ) iB,aI (kmk_tree PySem.F.kind_min PySem.F.plain_min PySem.F.entry_min qR kmk_min_key ?_),ZG aMn (eWN>>=_) s2,Nr wpAny_of_eq Ub (eWN=pure [aXw,aS]),aW3,Nr wpAny_pyIter_list hls,eTo,aH aMo,oQ hSz (aZZ=aFt+1) (size_push' ..) hlI (la≠aFt) (SW hll) hSI (aZZ≠aFt) DR hSz aLh (Nat.lt_succ_self _),Wp eO cGW,Zc I3 (I2.kept (h':=bRm) (t':=s2.toks) eCz) gI aJj bRm aFt EL bYd Zh bHr cAI dMZ gS aJj bRm aZZ cOW GR,gO fIt dP4 lB dR2 fS (aaj X _ H3 aZZ) dP4 dO ba8 hSz (I2.hok.fresh dO ba8 hSz),by(generalize hS:aZZ=S at gS fS hSI⊢),OX bRm h3 I3 gI gS,by(generalize hIt:aFt=It at gI fIt hlI hSI⊢),aG hsz (dP9=pF) aX,eN W eXb aTW rm ((hr.mono (lC b1z:k+2≤k+4)).in1),dR IQ dAk p aA kk agh VH aPp gH iT kk (J H1) dSV cIm bSf eSq dZ (J H2) aRJ (agi H2 v kk) vG (by intro i p kk v_ H1 s1 hp hk jH sub I5) aJ pf (I5.pin _ cNC sub bN6) aG hcd (s1.heap.CodeRec DG q) eSy ((jl H1 jH).1) fC1 iW rfl (jt i p kk H1 hp hk jH) dLD,aH aWx bZR,dPO aQD gS (W.item 0 _ _ _ gC bpn hne hsz aT gJ aGw gI wA eRg I3.list hM (ag' rv) aB FZ ?_),fFQ p0 hp0 0 k0 hk0 bpn hne hkl,bDD I4 aCe _ H3 cMr s2 h' cJg I3.turned dWG fIt.1 fIt.2 hS' dZt gS I5 aSx (Inv.pinned I4 bv5 fIt.1 fIt.2.1 vY fIt.2 Kh v z fO) hS' fS.1 fS.2,fFK dUb aCm (turn 0 p0 k0 _ H3 _ hp0 hk0 j0 AO cRd hx I5) pX y s3 he hF bYG H4 I6 Mp I6.pin S cOW Mp I6.pin It oI',bD fI2 eMB It Uh nI2.2 fIt.2 fS2 eMB S Uh nS2.2 fS.2,dAU sb bYk S bNt eJv aBE (#[cI p0,y]) c2 bGE,fEU bNt,oE (wpAny_updateSeq bGE rfl ?_) aMo,aJ I7 ((Inv.ae5 (Inv.ae5 I6)).turned (h':=eJv) (t':=s3.toks) aKb bGF dPX dSc dSN dSI),BH (Cv aT cGW (blc aTW Gx hr.un cam J bG H j ((jl H j).2) fIt fS hlI hSI hkl IQ ?_ _ 0 0 p0 k0 H4 _ y kv2 c2 oI' rfl hne aSx (Inv.pinned I7 eTF fI2.1 dPY dQ4 Kh v z fO) hc2 bGF fS2.2 eUc jH2 hp0 hk0 bo3 rk2 ?_)) yN i p k H1 s1 hp hk hb jH I8 _ aB Fh iW H1 (dEc I8) (jf i p k H1 hp hk hb jH) [dOz,pO j' 0 dO bqm hj',bB e,aF hk0 hk',bX hk',YX uv]]
end
end WH
end
section
namespace WH
open PySem PySem.Spec PyProof.Rows L2
noncomputable def ac0(d:cQ)(s t:mX):GH mX Dm:=eB1 Km s t
noncomputable def blg(x:aIZ):agh:=kM bCO VS x.1
noncomputable def amr(x y:aIZ):gE:=mQ bCO bS6||(bCO==bS6&&(mQ VS aWO||(VS==aWO&&Si33.spotLe x.1 y.1)))
theorem ahk(x y:aIZ):cQs↔bBr bCO bS6 bBr VS aWO (aHl<cDP∨(aHl=cDP∧aNY≤cDR)):=HB amr Si33.spotLe
theorem cfz(s1 s2 p1 p2 q1 q2 r1 r2:Nat)(h:(jI [s1] [s2] jI [p1] [p2] jI [q1,r1] [q2,r2] bI jI q1 q2 jI r1 r2 bI mQ r1 r2 mQ q1 q2 jI p1 p2 bI mQ p1 p2 jI s1 s2 bI mQ s1 s2)=bI):s2<s1∨s2=s1∧(p2<p1∨p2=p1∧(q2<q1∨q2=q1∧r2≤r1)):=bL dLn s2 s1 eZZ p2 p1 eZZ q2 q1 xG pH (.inl) bB z aI fF kD (Nat.le_of_not_lt bT z ?_) Jn dI7 dKH ((List.cons.inj e).2) tU dJv cEh h DT kG dOR DT
theorem bo4(x y:aIZ)(h:ij (blg y).row (blg x).row=bI):cQs:=sR aH ahk aLd dFH blg h ON ij tE h (cfz _ _ _ _ _ _ _ _ h)
theorem blh:∀{d:cQ}{s t:mX}{x:aIZ}(hx:x∈aOL)(h:∀y∈aOL,cQs),bI9=aO x:=cN Ge d s t x hx h aJh aLo bUf x gO hp (List.mergeSort_perm aOL amr) hs dXn bUf Eb amr dXG bL XO a b c h1 h2 aLv ahk aB (b94 h1 h2) gT Zq a b cE aEY ahk ahk b98 cTf e bUf [aF e hp,BJ (hp.symm.subset hx) aLa] y l [pE y l,vQ e hp hs,aDx hy xA aOL (hp.subset XN) h1 h y hy,zI (bEh (hp.symm.subset hx)),PF aH z (by rfl) [aJ h2 ((List.pairwise_cons.mp hs).1 _ z),vQ ahk h1 h2,bCZ e1,bCZ e2,bCZ e3,aF e2 e1,WD uQ oU (Prod.ext eTd e3 (Prod.ext e2 (Nat.add_left_cancel e1)))]]
theorem bli{d:cQ}{s t:mX}(h:aOL=[]):bI9=aS:=JT bW (aLo bUf=aS) h cG
theorem aaz:mP [qJ,Cb,XJ,"from_first","from_second",qH,"shared","best"] bCR vo:=dW
noncomputable def jg:Str:="nearest_above_both.<locals>.<lambda>"
noncomputable def iq:Pos:=sC 506 27 506 107
inductive iz(Pr:aM)(w:aK)(CH CL CE CS CP P:aA)(vs:aN)(H:Hp)(Q:VK)(XE:XK):aE|mk(x z1 z2:aA)(L:fY)(d:cQ)(s t:mX)(_:dNb)(_:nE)(_:dK6)(_:dLT)(_:uK)(_:aCa)(_:aGo t)(_:dMD)(_:dNB)(_:dPg):aSR iz
theorem iz.out{Pr:aM}{w:aK}{CH CL CE CS CP P:aA}{vs:aN}{H:Hp}{Q:VK}{XE:XK}:aSR iz→fDA:=dAr iz.rec fDA (fun a0 a1 a2 a3 a4 a5 a6 a7 a8 a9 w_ a11 a12 a13 a14 a15 a16=>aXZ (EE.aca a7 a8 a9 w_ a11 a12 a13 a14 a15 a16))
section
variable{Pr:aM}{w:aK}{K:aL}{mg:bF}{aW:aU}{CH CL CE CS CP P:aA}
theorem ajt:∀{Pr:aM}{w:aK}{K:aL}{mg:bF}{aW:aU}{CH:aA}{CL:aA}{CE:aA}{CS:aA}{CP:aA}{P:aA}(F:aI6 bD8 vo bCR P)(B:fQ)(ip:cYR),dAb bD8 bCR iz:=bCS aQs P F B ip aaz x z1 z2 L d s t [dAA,_,by(obtain⟨x,z1,z2,L,d,sa,sb,rfl,hH,hz1,hz2,hG,hsa,hsb,a7w,k0,k1⟩:=h),HF aaz.nd,gZ ZQ Xu 3 Pc ip Hn Xu 4 zD ip jC (aum bDB 6 aYB 3 qH 5 aJz (aam (abd bQN rZ 4)) rZ) Gw aJ0 HI MC 7 (bld (k:=4) (q:=jg) (x:=qH) (j:=5) (P:=P) hr nd B.min hT rfl cS1 HI cKc cKd aEb (h_ vf cZJ 3 cZJ 4) cZJ 3 rZ) bAX aIe Dx 7 Dx 7 Gy 3 Gk Gy 4 Gk bU8 z1 sa hH hz1 hsa,QR H1 c1 s1 nc1 hc1 bU8 z2 sb dR0 dRZ hsb,aI5 c2 nc2 hc2,aJ rl (a0s hG hsa),uL rn1 axh hsa rn2 axh hsb,aJ c12 (ay hc1 nc2),bNp,Gd cf0 mU hc1 cr0 dEJ nc2,QW aKh c1 cf0 od,cR6 c1,bD cD (c1≠D) bBx hcf cVv c1 bKP ah,fCG bv9 cVv c2 aVe sb NZ c12 hc2 Vv c1 bOI cVv b o H2 c1 bKP Sv H2 FG c1 bKP H3,aMO b69 aQr eB1 Km sa sb,FX hra Km sa ra,FX hrb Km sb rb,cIP cWB a2g (a_c c1 od (iy ra)) ra.length rl bTs ra ((rb.find? dZx=aS∧r=aS)∨(QG e2 y (rb.find? dZx=aO e2) aJk qO aRx UT dw e.1)) cSI e bBG dV9 dWa KI (by rcases h2 with h2|⟨e2,y,h2,h3,h4,h5⟩) (by delta e2 y h2 h3 h4 h5) nF Us e2 y h2 h3 h4 dLG dAC cFM aas hei ra eOv (iy ra) bLP ekv eXk kD Xj c2 Ab (ug aFJ) aNH bv9 hqs aH axg bON ef (rb.find? JO y y.1 aFJ) KI e2 fH e2 HC bA0 rP hei fF jO e2 q QZ ef Nq hqs aZ,fD0 Ty H4 ps s4 cI7 (lc (m:=Ew aYU dN7 rb.find?) (F:=fun v(t:aIZ)=>aOM (dw H4 y t.1)) (rs:=ps) (l:=ra) M.1) j hj e zP b69 M3 cJu kZ hql hq yG cf1 zC hcf eO cf1 bD c15 cU5 c1 cCd ah c25 cU5 c2 Kl rb NZ c12 zC bv9 [oQ D5 cU5 D cKy dB EH aMQ cD e1 hv q5 eZy cUx bTl hq hp (hp.put HU) s5 rJ cUx cB8 KI,aUn cUx H5 c15 c25 D5 q5 s5] aG bv_ (TabOk P jg iq H5) bK Io a7w z c' y1 y2 jK sQ wJ z Qi c' y1 y2 _ nF bR c' wJ y1 wJ y2 sX bsf t aQr (aWI ra t.1=aO bKB∧aWI rb t.1=aO fT t.2.2) jX dD t ht aF b69 ht dG x0 hx0 e0 (List.mem_filterMap.mp ht) cAn y0 hy0 e0 HY dX6 aQ axg (bci rn1 hx0) aQ axg hy0 bNU cFD oP D5 hql bQ hc0 (aQr=[]) PF aH hc0 MU (k0 (bli hc0) H5 s5.x bv_) [dQk hl0 hc0,eV aPO aC3 bV aQr Wi cKq dH,aH aP,uM aGf D qs rfl gN D5 gC bz8 hql hl0 bv_,qW c H6 sp ti,aG P5 cWZ H5 bK aL7 bv_ t c' jK Lz Qh c' t _ Lz,eP tps P5 P5,aG up Xf uF H5 aZA bOJ aI3 z no tJ sp Fv y dH z,eN c16 (up c15 Ef) c26 (up c25 Ef),gO D6 (up D5 Ef) q6 eZy H6 bTl q5 hp (up hp Ef),dQm jO iM aQr blg bT H7 eBD aZf FH aBp bG H7 s7 aT KG aMf sM s7 D6 aKG i p kk H7 hp hk s7 Mg hk t ht eU9 eP v1 v2 mC bsf t ht eTj bQR ra v1 g1 bQR rb v2 g2 dP ⟨_,rfl,_,rfl,c1,_,rfl,g1,_,rfl,_,rfl,c2,_,rfl,g2,_,_,rfl,rfl,_,rfl,_,rfl,c1,_,rfl,g1,_,rfl,Ba,?_⟩ y hy oE cH aBW s7.trans bAJ bMI y p ?_ hpt.mono bAJ ah (by rfl) [BD i p kk H7 hp hk hmin s7,_,Mg hk t ht,aJ htm (Qn ht),aJ cf2 (blh htm ZB (bo4 t y (hmin (blg y) (aTm MZ y hy)))),eU9,eP v1 v2 (bsf t htm),eTj,bQR ra v1 g1,bQR rb v2 g2,dP ⟨_,rfl,p,_,_,_,rfl,rfl,wU hpt,nR,_,rfl,p,_,_,_,rfl,rfl,wU hpt,LD,_,rfl,_,rfl,c1,_,rfl,g1,_,rfl,_,rfl,c2,_,rfl,g2,bAF,?_⟩ y hy,aEg (k1 t cf2 _ y ?_ fF aDL aIK KG aUk aIK KG aMf ?_ ah) bTT aB aIK KG tJ sp nb wJ eo bBk e0 (H y) o fH o bQ hP (y=P) fP dA hP KG aUk hy bX hy aF KG (sp y o hP wJ e0) hy bX hy]]]
end
end WH
end
section
namespace WH
open PySem PySem.Spec PyProof.Rows L2
noncomputable instance:rS Ad:=XC
noncomputable def Tbl(o:HO):aE:=∃t,o=Sj t
structure HIn(Pr:aM)(w:aK)(a:Ad)(H:Hp)(x:aA)(s:IA):aE where
 hou:fAR H s.letters s.dict
 good:Good s.dict
 t1:cIS
 t2:cIT
 t3:cIU
theorem TabOk.tbl{P:aA}{q:Str}{p:Pos}{H:Hp}(h:aQh):∃t,dU6:=gT aL7 h h c dU Lz gJ fE
theorem TabOk.keep{P:aA}{q:Str}{p:Pos}{H H':Hp}{M:bM}(h:aQh)(s:aGn M)(n:P∉M)(n2:iJ c (c∈M) eFh):eEg:=bK eW0 Hz lW s n h aDL lW s n h1 lW s lV (n2 c z h2) h2
theorem qh{H H':Hp}{M:bM}(s:eW):aGn M:=dTu
theorem TabOk.mono{P:aA}{q:Str}{p:Pos}{H H':Hp}(s:eW)(h:aQh):eEg:=h.keep (M:=[]) (qh s) aX aX
section
variable{Pr:aM}{w:aK}{a:Ad}{H H':Hp}{x:aA}{s:IA}
theorem HIn.mono(e:eW)(h:Xd):cNX:=qY (h.hou.mono e) h.good (h.t1.mono e) (h.t2.mono e) (h.t3.mono e)
theorem a4a:∀{Pr:aM}{w:aK}{H:Hp}{H':Hp}{x:aA}{CH CL CE CS CP P:aA}{L:fY}{d:cQ}{t:qA}(hP:dU6)(e:Sa P)(h:nE),dQU:=WG cDK H H' x P L d t hP e h bD o (aeb H [P] Tbl) fDO u P hP aB rK sD Rq aA9 [P] RM b u e2 bQ q yC [P] fP cV del e2 aZ aF (ub q) e2 aB (e b u rX e2) (by obtain⟨dx,l,ee,r,p,xs,rs,hx,hL,he,hes,hr,hrs,h1,h2,zs,h3,h4⟩:=aMa) _ bD nI eWY bBa aM5 C Lw (by rintro _ _ _⟨_,z⟩) nL aNX bBa Ln bPU dR nT aNX bBa MJ bPU (ci.mono sD ⟨dx,l,ee,r,p,xs,rs,ePF,eQL bPU,dXa,eYF,dW9,eV3,h1,h2,zs,eIS dQa,eKg⟩)
theorem aiz{P:aA}{q q2:Str}{p:Pos}{c:aA}(h:aQh)(hc:aIc (ak2 c q2)):c≠P:=lV bL cX t ht h.tbl dA z ht hc bX hc
theorem HIn.cf3(ap:Ot)(e:Sa Il)(t:dJK)(h:Xd):cNX:=eZx h.t2.tbl Il bZS h.t2 t cI6 h.t3.keep KJ ap.p23 h.t2
theorem HIn.b6'(ap:Ot)(e:Sa Ca)(t:cFq)(h:Xd):cNX:=eZx h.t3.tbl Ca bZT h.t3 cI6 h.t2.keep ap.p23 h.t3 t
end
noncomputable def aln(H:Hp)(r:aA)(iI:fB):aE:=GK rs bM dUp sJ (NL H) rs iI
noncomputable def ab_(r:aSV):aN:=Mh r.v::r.l.map SR
inductive o6(Pr:aM)(w:aK)(a:Ad)(ok:Yu)(mk:DY)(vs:aN)(H:Hp)(Q:VK)(XE:XK):aE|mk(x n r:aA)(ns:aR)(iI:fB)(s:IA)(_:dNa)(_:dL6)(_:cHs)(_:dLB)(_:Xd)(_:dMh)(_:dNv):fCi
theorem o6.out{Pr:aM}{w:aK}{a:Ad}{ok:Yu}{mk:DY}{vs:aN}{H:Hp}{Q:VK}{XE:XK}:fCi→fCP:=@o6.rec Pr w a ok mk vs H Q XE eZ fCP fB4
theorem alo:DX [bD2,CM,dEr] bD2 ahx:=dW
noncomputable def baw(H:Hp)(q:aA)(ls:fB):aE:=bLu aO5 q bG p l MQ YZ l ls
inductive lg(vs:aN)(H:Hp)(Q:VK)(XE:XK):aE|mk(q:aA)(ls:fB)(_:bKo)(_:dNS)(_:mT bZU)(_:dLs):BQ lg
theorem lg.out{vs:aN}{H:Hp}{Q:VK}{XE:XK}:KF lg eVx:=RB lg.rec eVx aXj
section
variable{Pr:aM}{w:aK}{K:aL}{mg:bF}{aW:aU}{a:Ad}
theorem azh:fC2 eME bDi:=Ts eZh alo q ls [pW E,by(obtain⟨q,ls,rfl,⟨ps,hq,hps⟩,lP,k⟩:=h),aEG alo.nd hpl hps,aI oF aZs NM cHf aUR bIn bav fU jC,dP eO aX y hy,aKF WI q aIK hq eLF jo tN Gb (∃v2:bJ,σ=[iL q,Vd,v2]) eW aNN Re cKS rK bAJ aN5 HM H y _ y ah aKA i hq [eLB i H1 hv v2 s1 h1,eCU,GW l hl hpl hps hp,bD h1 UO H1 cDW Re cKS h1 lt mT (aFQ cKS+iS) bL aDm (aFQ (dEp eG)≤bZU) eBq (bEI eG ls) bZV (Re [l]=l) aX (by rw[rO,hl,aFO,bZV,fA,e2]at e1) aB (by7 lP e1),HK Lg rL h1 _ rfl y p _ _ rfl rfl h1 wU kY hpl ?_ rK ?_ aC2 cLm lt lJ b o e Ux,qB HM H1 y _ y AZ ah rO hl aFO bZV mF vn] eAZ H1 v2 s1 h1 aCy hpl h1 aB wX (k H1 y s1 hy h1)]
end
end WH
end
section
namespace WH
open PySem PySem.Spec PyProof.Rows L2
theorem a4b(l:aR):(LW l).map SR=vn l:=Fu mW LW vn
theorem a00:Xp H Hp r aA t aR cDi [t] eY r0 vW r [cI r0] Jx r0:=bAN H r t aB3 rs h Oy h2 a b bX b tI bS mG
theorem bsg:∀{H:Hp}{r:aA}{t u:aR}(h:cDi aQc),pL r0 r1 vW r [cI r0,cKn] Jx r0 MB r1 u:=aJF H r t u aB3 rs h aRl h2 a b Oy b c d bX d bO
noncomputable def ok0:Yu:=aQl bK9 ns iI
noncomputable def ok1:Yu:=eWA Ut
noncomputable def ok2:Yu:=aQl (ns=[]∧∃t u:aR,AG iI aQc Ut aXD)
noncomputable def okT:Yu:=eWA cGb
noncomputable def okN(k:Nat):Yu:=aQl (aLS=k∧iI=[])
noncomputable def aqm:DY:=aR9 key
noncomputable def axu:DY:=wO iI (.bXc bIG 0 (rows.getD 1 []))
noncomputable def a4c:DY:=aR9 find
noncomputable def arb:DY:=aR9 starts
noncomputable def a4d:DY:=aR9 ends
theorem ci.arc{Pr:aM}{w:aK}{CH CL CE CS CP:aA}{H:Hp}{x:aA}{L:fY}{d:cQ}(h:nE):∃dx l e r p,eGY∧bNN:=NI (by obtain(⟨dx,l,e,r,p,xs,rs,hx,hL,_⟩):=aMa)
theorem alp:Pn XI ahy:=dW
theorem ahl:aJx aFZ adz:=dW
theorem ajc:aJx aFZ af5:=dW
theorem afp:Pn aKS acm:=dW
theorem ajd:Pn aKS af6:=dW
section
variable{Pr:aM}{w:aK}{K:aL}{mg:bF}{aW:aU}{a:Ad}
theorem azi:∀{Pr:aM}{w:aK}{K:aL}{mg:bF}{aW:aU}{a:Ad}(F:eCY)(B:fQ)(T5:WQ)(TH:Hu)(TW:bRK)(gw:bC4)(ir:cX3),bPY bVX aqm:=aGR aHw Pr a F B T5 TH TW gw ir alp [bLR alp.nd,cIs aqm aT Ul aXV Wk (aXV++(dSX++dSY)),cIw Wt cHr BW dNm cSr cSr cSr (cg aNI At),cIv [dPP ⟨_,rfl,x,uA,dx,_,_,rfl,Ho,pV,qE,rfl,_,rfl,r,_,_,_,rfl,rfl,bOl,nR,l,mO,r0,t,rfl,aJQ,aYG,ht,?_⟩,mN aXV R,mN dSX Va,mN dSY Fo,aG lens mT (bGG+(bZW+dFK)) sR eV dTB (R++(Va++Fo)) lP cV LW aP uB cK fA fA aP aP,Vb ⟨_,rfl,y,XL,dy,_,_,rfl,q1,Df,Hf,rfl,_,_,rfl,oP q2,EV,?_⟩ p1 hp1 s3 gW aVK p13 BT H2 p1 aVK p1 aVK QK p1 aVK H3,aI ⟨_,rfl,y,XL,dy,_,_,rfl,kE q1,Df,Hf,rfl,p1,rr,_,_,rfl,rfl,p13,kE q2,?_,?_⟩,dJ5 bGG bx' lens,Sx s4 gW aXe hp2 p24 BT H3 p2 aXe p2 aXe ZE p2 aXe H4,aJ s24 (s3.trans s4),aI ⟨_,rfl,y,XL,dy,_,_,rfl,aC8 s24,Df,Hf,rfl,p2,vv,_,_,rfl,rfl,p24,cB s24 q3,?_,?_⟩,bJ3 cE fA az az (1+bGG+bZW) bx_ lens,dD p3 hp3,Sx s5 gW bTt hp3 p35 BT H4 p3 bTt p3 bTt Kn p3 bTt H5,aJ s25 (s24.trans s5),aI ⟨_,rfl,y,XL,dy,_,_,rfl,aC8 s25,Df,Hf,rfl,p3,ff,_,_,rfl,rfl,p35,cB s25 q4,?_,?_⟩,bJ3 AZ fA fA az az az (1+bGG+bZW+dFK) bx9 lens,dD p4 hp4,aJ s05 (aMc s25),oE bNK p4 s05.trans hp4 s05.free ah,aV ab_,aQ a4b az,mF vn]]
theorem at5:∀{Pr:aM}{w:aK}{K:aL}{mg:bF}{aW:aU}{a:Ad}(F:eCZ)(T5:WQ)(TH:Hu)(gw:bC4)(zd:wS bWe 5 cVi (n_ zN)),Es bVY ok2 axu:=fEn bDm Pr a F T5 TH gw zd ahl pW E (by obtain⟨x,n,r,ns,iI,st,rfl,hn,hR,⟨rfl,t,u,rfl,ht,hu⟩,hI,lP,k⟩:=h) gQ nd ahl.nd AM r0 r1 hR1 hR0 hRu (bsg hR) aH1 axu [] aQc jI (Rj t&&Rj u) bI bI5 aT 0 [dIS mO] cIw FL bJa Xh bJg gw bJg gw aJH YK aw Ez zd jY Lp Lp bIv hw (Rj t) aCg fD cUa aGy cAB qh dGW (dEJ hy) fFG PP r _ _ _ rfl rfl gN cB9 LD r1 u rfl kY hRu dUj ?_ Rj aCg bA aH hv dOe (bZx (aMc bAJ)) [Gr pP,aQt ⟨_,rfl,x,uA,dx,_,_,rfl,aJX,pV,qE,rfl,_,rfl,r,_,_,_,rfl,rfl,cRT,nR,_,rfl,r,_,_,_,rfl,rfl,cRT,LD,l,mO,r0,t,r1,u,rfl,dT7,cO4,aOZ hRu,ht,hu,?_⟩ H3 s3,fEi]
theorem axv:∀{Pr:aM}{w:aK}{K:aL}{mg:bF}{aW:aU}{a:Ad}(F:eC3)(T5:WQ)(gw:bC4)(ze:ePC)(aa0:eRQ),bPY bV2 a4c:=aZP bDm Pr a F T5 gw ze aa0 ajc bLR ajc.nd bMV cIs a4c aT Ul EN st.dict.filter e pA t [Ul Lo st.dict.filter mQ (dEI mO pA t) 0] aI oN FL cHr aJH YK zD ze Lp zD aa0 Lp cCz av2 cIv [Gr pP,aQt ⟨_,rfl,_,rfl,r,_,_,_,rfl,rfl,bOl,nR,x,r0,mO,lQ,t,rfl,dR1,aYG,aEo,?_⟩ H2 s2,bNp,dP ⟨_,rfl,_,rfl,r,_,_,_,rfl,rfl,cRT,nR,x,r0,mO,lQ,t,rfl,cPK,cO4,ht,aEo,?_⟩ H3 s3,fEi]
end
end WH
end
section
namespace WH
open PySem PySem.Spec PyProof.Rows L2
noncomputable def a4e:DY:=aZ2 said
noncomputable def ard:DY:=aZ2 rhymes
noncomputable def axw:DY:=dVT entry
theorem aje:Pn uV af7:=dW
theorem ahm:Pn bZc ad0:=dW
theorem afq:Pn aKS acn:=dW
theorem blj(l:aR):ab_ aT fM iS dRn=[qT bV (vn l)]++vn l:=Ed ab_ aQ a4b az
theorem ints_length(l:aR):gD LW l=iS:=zK LW
theorem len_cat{K:aL}{σ:cO}{i:Nat}{z:aA}{l:aR}{H:Hp}{Q:VK}(hi:gH σ RO)(hz:vW z (vn l))(ll:dTB l)(k:bHM DB p (ab_ aT fM iS dRn)):tOp b39 (b31 (aex (tB1 aFW xs cY2 K (ajn i)) atb)) (ajn i) σ H Q:=jX aF bZY ll gZ CG _ hi _ _ rfl oP hz EV mR p1 hp1 ⟨_,hi,p1,z,_,_,rfl,rfl,ah,DH hp1 hz,?_,mR p2 hp2⟩ bJ3 aH az (1+iS) ba9 ll aJ s1 oB gW dGc l hp1 aI (k _ p2 cLC hp2 Wj hp2 ?_) aQ ah blj
section
variable{Pr:aM}{w:aK}{K:aL}{mg:bF}{aW:aU}{a:Ad}
theorem are:∀{Pr:aM}{w:aK}{K:aL}{mg:bF}{aW:aU}{a:Ad}(F:eC4)(B:fQ)(T5:WQ)(TH:Hu)(TW:bRK)(gw:bC4)(ir:cX3)(rh:dZF),bPY bV3 arb:=fDt rh afp afp.nd arb dXx ⟨_,rfl,_,rfl,x,uA,dx,_,_,rfl,Ho,pV,qE,rfl,_,rfl,r,_,_,_,rfl,rfl,bOl,nR,l,mO,r0,t,rfl,aJQ,aYG,ht,?_⟩ ⟨y,XL,dy,_,_,rfl,q1,Df,Hf,rfl,x,rr,mO,lQ,_,rfl,cPK,q2,aEo,?_⟩
theorem axx:∀{Pr:aM}{w:aK}{K:aL}{mg:bF}{aW:aU}{a:Ad}(F:eC5)(B:fQ)(T5:WQ)(TH:Hu)(TW:bRK)(gw:bC4)(ir:cX3)(vj:dZE),bPY bV4 a4d:=fDt vj ajd ajd.nd a4d dXy ⟨_,rfl,_,rfl,x,uA,dx,_,_,rfl,Ho,pV,qE,rfl,_,rfl,r,_,_,_,rfl,rfl,bOl,nR,l,mO,r0,t,rfl,aJQ,aYG,ht,?_⟩ ⟨y,XL,dy,_,_,rfl,q1,Df,Hf,rfl,x,rr,mO,lQ,_,rfl,cPK,q2,aEo,?_⟩
theorem arf(F:eC7)(B:fQ)(ap:Ot)(aa1:eUW):bBq bV6 ard:=cV6 afq x n r ns iI st [by(obtain(⟨x,n,r,ns,iI,st,rfl,hn,hR,⟨rfl,rfl⟩,hI,lP,k⟩):=h),eN nd afq.nd dl bZX,aH1 ard [] [] (Si33.listed (Si33.rhymesOf st)),Yq BW Bm aa1 bNA LK _ rfl x mO lQ rfl aAU aEo hI.t2 IF H1 z s1 t1 nz hz ?_,aJ hI1 (hI.cf3 ap s1 t1),dR s1L (oq cAL H H1) aCJ JJ s1 cXj (len_cat rfl hz lP dIm aCJ cB s' JJ s1L nb (hI1.mono s') ?_),RG (H p) o dAV Il t1.tbl aF (s1 p o q e) np bX np]
theorem a_1.of{l:lF}(h:bAQ):aYR:=(cH h.kind eEC h.sense)
theorem a7r.of{e:dI}(h:aoh e):aXx:=kM eEC bG l hl (.of (h.sees l hl)) kI s hs l hl (.of (h.links s hs l hl))
theorem axy:∀{Pr:aM}{w:aK}{K:aL}{mg:bF}{aW:aU}{a:Ad}(F:eC1)(B:fQ)(TH:Hu)(abv:wS bWG 5 [xL] aKB r_),bBq bV0 a4e:=aZP aI9 Pr a F B TH abv aje aQu rfl aje.nd bVt bGH _ aH1 a4e [] [] aT fM gD dEU lQ eGR aI oN aD3 BW wV abv jY bNA eXU ⟨_,rfl,x,uA,dx,_,_,rfl,hx,pV,qE,rfl,e,xs,lQ,rfl,he,hes,ZB (.of Fe hI.good.ent),?_,?_⟩ eGR
theorem at6:∀{Pr:aM}{w:aK}{K:aL}{mg:bF}{aW:aU}{a:Ad}(F:eC2)(B:fQ)(T5:WQ)(TH:Hu)(jz:cXX)(sk:wS bWH 4 [lK] aKB ua),Es bV1 bQt axw:=fEn cYu TH jz sk ahm fEm ahm.nd bVt bGH Ms aH1 axw [i] [] RN rW lQ Uw 6 e aT Ul dIx (LW (aFH e)) cY3 [vX] Wt bP6 eDO BW wV sk aG9 jY aBK bNA ⟨_,rfl,_,rfl,n,_,_,_,rfl,rfl,SA,nR,x,i,mO,lQ,rfl,aAU,_,rfl,?_⟩ bQ hi (i<bZZ) JM Ar hi Ek en hd lQ (lQ[i]) vQ hd k lP dG y hy hye dY3 eXU (f9 ⟨_,rfl,x,uA,dx,_,_,rfl,hx,pV,qE,rfl,_,rfl,n,_,_,_,rfl,rfl,SA,nR,e,_,_,_,rfl,rfl,bAl,aCp pP,y,en,rfl,hye,.of mC hI.good.ent en hd,?_,?_⟩) bLZ aFH en [DO hi,aF (List.getElem?_eq_none dO a49 hi) k,cXh]
end
end WH
end
section
namespace WH
open PySem PySem.Spec PyProof.Rows L2
noncomputable def arg:DY:=aZ2 bXy
noncomputable def alq:DY:=aZ2 sections
noncomputable def arh:DY:=dVT follow
noncomputable def axz:DY:=LR ns (.above aIP 0 (ns.getD 1 0))
noncomputable def ari:DY:=LR ns (.common aIP 0 aIP 1 aIP 2 aIP 3)
theorem ac1:aJx [qJ,aER,Zm,dE3,bF7] aab:=dW
theorem afr:Pn bZo aco:=dW
theorem ahn:aJx [qJ,aER,Zm,"above",bGs,jZ,xK] ad1:=dW
theorem afs:Pn "nearest" acp:=dW
theorem aft:Pn "wrong" acq:=dW
theorem arj{α:cJ}(f:cL0)(l:eK):(aYH (LW (f x)))=LW Re aA8 f:=Ed LW cE List.map_flatten mL aUt
theorem ax0(n:Int)(L:aR):ab_ aT n Wk L=[SR n]++vn L:=aP2 ab_ a4b
theorem bll:∀l:Fz,aFQ bBA=3*iS:=eXW cWL bBA (3*(iS+1))
theorem bo5{l:aR}(h:iS=2):dYC:=bUS Gz
theorem bo6{l:aR}(h:iS=4):dVF:=bUS aZI
section
variable{Pr:aM}{w:aK}{K:aL}{mg:bF}{aW:aU}{a:Ad}
theorem ark:∀{Pr:aM}{w:aK}{K:aL}{mg:bF}{aW:aU}{a:Ad}(F:eDb)(B:fQ)(yf:Wg bWR 5 Mu l_)(i7:bDi),bBq bWa arg:=eJA yf aft [aQu rfl aft.nd,aNc arg [] [] Kx aT fM gD Si33.faults lQ bAE dZ9 Wk dJ1,eS6,Yq BW Bm yf cQy cCj gK eRO aMp,fAI,_,mN dZ9 l,kZ pl hps,aG ll mT aFQ cNV cXy,fEy cNV,dA7 aOc z cNV bR ps cMc (ais bTl hps q mU iR Ay H1 YZ [t.1,bId,cBb,cA9] q) fD H3 s3 kE p12,KM s03 HD s3,fEA bGf s03.free]
theorem at7:∀{Pr:aM}{w:aK}{K:aL}{mg:bF}{aW:aU}{a:Ad}(F:eC9)(B:fQ)(T5:WQ)(qi:eUC)(aa2:Wg bWK 5 IW ST pi)(i7:bDi),Es bV8 (okN 2) axz:=aZP cYu qi aa2 i7 ahn aQu hns ahn.nd aFX i m bo5 hns aNc axz [i,m] [] Kx nN cQK Uw 6 aT Ul cUB bAE cUB Wk dHu eS6 cY3 [vX,fT m] Wt bP6 cYT BW zD aa2 cUH cQy cCj aUV KC 3 aMH [(bGs,4),(jZ,5),(xK,6)] (a3i K 3 rfl (cj aDX cAh aJz Nu)) oy aEb rZ HI oG ⟨_,rfl,_,rfl,n,_,_,_,rfl,rfl,SA,nR,_,rfl,n,_,_,_,rfl,rfl,SA,LD,x,i,m,mO,lQ,rfl,aAU,_,rfl,?_⟩ DL hs aW0 ZS aCg pP cXh se [fH se,vQ eC fD k lP,uM ⟨_,rfl,_,rfl,n,_,_,_,rfl,rfl,SA,nR,_,rfl,n,_,_,_,rfl,rfl,SA,LD,FA,?_⟩,fEe s0,aI OD x q mO lQ ZS rfl (hI.hou.mono s0) ah aMp fD ?_,fAI,RJ s01 s0.trans s1,mN cUB l,kZ pl hps,aF cK pl,bD ll mT aFQ bBA cXy ll3 mT iS iV aF bll ll b0x ll,fEy bBA,HE Ld z aDa s2 hz,bAj bDe xu tN eYn l YZ cWL fB8 aXz hz Vi mT pF bz' pl ll3 BD j v H' hv sH hDs C hC eCU GW t0 ht0 hpt hps hp Mg ht0 y hy aG hpt Ay H1 aGp y.2 aBm y.1 cDR hpt Bb ⟨p,_,rfl,wU aNH mU hpt,rfl,_,_,rfl,_,_,rfl,_,_,rfl,rfl,rfl,_,rfl,_,rfl,_,rfl,Ba,?_⟩ t ht eRV hy bPH [Ty H3 vs s3,fFl (ag5 (F:=cQN aYU Ay H3 YZ cWL) (ys:=vs) (as:=l) aKt pl),dA7 bRP D bBA bR qs hv (ais hq) fD H4 s4 Yh p12,KM s04 pZ (s01.trans s2) s3 s4,fEA aMd s04.free]]
end
end WH
end
section
namespace WH
open PySem PySem.Spec PyProof.Rows L2
theorem blm:∀{d:cQ}{i:Nat}{wy:aR}{p:oC}(h:bKM)(ne:AH wy),pL w l (wy=w++[l]) bLa l (p=aJp l):=kX sY d i wy p h ne bW8 h OL qK zS h bO
theorem a4f(w:aR)(l:Nat):atI Tb w l (-1)=aO qT l:=qS vn aH lN aBJ a6b
section
variable{Pr:aM}{w:aK}{K:aL}{mg:bF}{aW:aU}{a:Ad}
theorem Good.side{d:cQ}(h:uK):aCF:=fR e he ne ((aHO h.ent).ei ne)
theorem arl:∀{Pr:aM}{w:aK}{K:aL}{mg:bF}{aW:aU}{a:Ad}(F:eC8)(B:fQ)(T5:WQ)(TH:Hu)(TE:bHm EC)(jz:cXX)(ai0:Wg bWP 3 IW jZ z5)(gt:Wg bWz 2 IW jZ j5),Es bV7 bQt arh:=dPi TE jz ai0 gt afr [fEm afr.nd,bVt bGH,Ms,bMV,aH1 arh [i] [] fZ wD bZZ Uw 6 aKN (Si33.follow lQ i) (.at_ j n) aT 0 Wk [j,n] aNF Uw 4 bN3 Uw 5,cY3 [vX] Hn bP6 eDO BW zD ai0 aBK aGG yX aew zD gt bSJ gf T5.ahw aGG aJ0 aJ9 bSJ T5.af4 aJH aGa aw bSJ bBB MI gK ⟨_,rfl,_,rfl,n,_,_,_,rfl,rfl,SA,nR,x,i,mO,lQ,rfl,aAU,_,rfl,?_⟩,bQ hi (i<bZZ),bOe Ar hi Gr dO b0u hi uM ⟨_,rfl,_,rfl,n,_,_,_,rfl,rfl,SA,nR,x,i,mO,lQ,rfl,aAU,hi,aEo,dFL,?_⟩ aMy H1 y wy po s1 ny hy hW ndw nw hpo EF wv lw rfl hW2 rfl (blm hW nw) gQ lwl ((hW2.lt hi).2 lw rfl) aG hy UO H1 gW Tb wv lw hy Bb ⟨_,rfl,_,rfl,_,rfl,y,_,_,_,rfl,rfl,gN hy,cWG,x,lw,mO,lQ,rfl,dR1,lwl,dFL,?_⟩ H2 s2 cLy bNp bLg hnx (aLc lQ lw) q [aG hq (q∈wv++[lw]) bK Io hpo z q' hq' z dE dH dH,aF hnx hW,aF (hW.ring hq) k,dZP] [aJ hf (hW2.over hi ndw hnx),aHF en hd lQ lw (lQ[lw]),aXm hen (aTv lQ lw bGI) fZ AH Dg (.at_ lw bGI) bN3 Oq aTv hd hf,fCg z hz dY3,DF yl g5,aJ hy2 mU hy,uM ⟨_,rfl,x,uA,dx,_,_,rfl,aJX,pV,qE,rfl,_,rfl,_,rfl,y,_,_,_,rfl,rfl,gN hy2,cWG,e,_,_,_,rfl,rfl,aCH ux,bf (j:=lw) pP,z,EC,de,_,_,rfl,aHK ux,iZ,jD,rfl,_,_,rfl,Rz sM ux g4,rfl,_,rfl,?_⟩,bQ hse (Dg=[]),JM eV (ys=[]) (aTc fD) bB aP aF eC pP hf aF hf k dZP [aF iF hse hf,aF hf k,AR cf7 aC3 bV FC kX pQ z aZ,DO cf7,aQt ⟨_,rfl,_,rfl,y,_,_,_,rfl,rfl,gN hy2,cWG,_,rfl,_,_,rfl,oP hy2,_,_,rfl,rfl,Ba,?_⟩ y3 hy3,aI bNK y3 aMc hy3 ux.free,cE ah az fA,eV (eE6=cZ bGI) aX,bW (aO bLS [bPt,qT lw,Mh eE6]=_),aH aP,by rfl]] [DO hi,aCg dO a49 hi,cXh]]
theorem arm:∀{Pr:aM}{w:aK}{K:aL}{mg:bF}{aW:aU}{a:Ad}(F:eDa)(B:fQ)(T5:WQ)(ap:Ot)(qi:eUC)(qj:cCE bD8 bCR iz Ca),Es bV9 (okN 4) ari:=aZP cYu ap qi qj afs aQu hns afs.nd AM i m i2 m2 rfl (bo6 hns) aH1 ari [i,m,i2,m2] [] nN (cQK||dU4) Uw 6 RN (Si33.commonOf lQ ZS bNb) Uw 5 x aT 0 Wk [aHl,aNY,VS,aBT] dR hn vW n [vX,fT m,fT i2,fT m2] hn ZQ bP6 Xh cYT cYT Hq 3 Ez qj rR cUH cUH aGG Od 3 T5.asp cDs CU aw bNa gK dR no ((cQK||dU4)=aY→JK y Td qO EU y [Mh (-6)]) fR h y hy dB aF aDR k (k _ y aBW qh dIF hy ah) ⟨_,rfl,_,rfl,n,_,_,_,rfl,rfl,SA,nR,_,rfl,n,_,_,_,rfl,rfl,SA,LD,x,i,m,mO,lQ,rfl,aAU,_,rfl,?_⟩ bON hs aW0 ZS cUa eRD se fH se uM ⟨_,rfl,_,rfl,n,_,_,_,rfl,rfl,SA,bAI,_,rfl,n,_,_,_,rfl,rfl,SA,aUE 3,x,i2,m2,mO,lQ,rfl,aAU,_,rfl,?_⟩ vB hs2 aW0 bNb aNh eRD se2 [fH se2,Gr fD,uM ⟨_,rfl,_,rfl,n,_,_,_,rfl,rfl,SA,nR,_,rfl,n,_,_,_,rfl,rfl,SA,LD,FA,?_⟩,fEe s1,bLA q1 H q cG6,vU rE q cG6 H1 s1 q1,bDF hn1 kY hn ⟨_,rfl,n,_,_,_,rfl,rfl,gN hn1,bAI,_,rfl,n,_,_,_,rfl,rfl,gN hn1,aUE 3,FA,?_⟩ q2 hq2,aJ s2 oB cUy hq2,bLA q22 H1 q2 cUy,aSp KB q2 cUy q22,cJo s1.trans,bD toL bNk eES aCZ oW s b o nb e tJ s cXj aOZ e OE Pq H' Hp p aA jW eES cFq aQM p JV (fun{H' p}s t hp=>dAX (H p) Ch o dAV Ca t.tbl aF (s p o q aOZ e) hp bX hp),zX ⟨x,q,q2,mO,lQ,ZS,bNb,rfl,dFM,mU q1,q22,aMp,fD,fD,hI2.t3,?_,?_⟩ qW hc H3 s3 t3 aF hc k eV8 aB aJJ aT EV eNz eHb (OE s3 t3 hy) [BD rr hc H3 y s3 t3 ny hy,_,aF hc k,eV8,dPN aIj eO EV s4 [bPt] p14 H3 ZE p1 [bPt] H4 Oe y fF wU zC hy,aJ s5 oB gW cZz hp2,bLA p25 H4 p2 gW cZz,vU Kn p2 cZz H5 s5 p25,dP aU4 p1 p2 wJ p14 p25 aFU 5 p3 hp3,dYN,aB (k _ p3 aCJ DH hp3 Le eHb (hI3.mono uG s35.trans hp3) (OE s3 t3 (s35.free hp3)) ah)]]
end
end WH
end
section
namespace WH
open PySem PySem.Spec PyProof.Rows L2
theorem bln:∀l:aF1 Nat,aFQ aB7 bLf=2*iS:=eXW dI6 aB7 bLf (2*(iS+1))
theorem bv':Xp rs aR i Nat y Dm gH bQB y (gH bBR (DP y.1,qT y.2)∧bTo bBR y.1=aO qT y.2):=jX jG rs i y h dJ eO GU l9 cV yq h aF kB h dG r hr rfl aYC aQ a3k iF xX Oh hr aZ
section
variable{Pr:aM}{w:aK}{K:aL}{mg:bF}{aW:aU}{a:Ad}
theorem ann:∀{Pr:aM}{w:aK}{K:aL}{mg:bF}{aW:aU}{a:Ad}(F:eC6)(B:fQ)(o0:dZA)(i7:bDi),bBq bV5 alq:=eJA o0 ac1 [dGR rfl,HF ac1.nd,bMV,bD hst (cAe st alq [] []=Kx aT fM gD bZk st bAE (bZk st) Wk bLf) rfl hse eBW st dYV (bu8 mO lQ),by rw[hst,arj,hse]at k lP,Yq Xu 3 Bm o0 cQy CU bHf bet gK (aun aB1 aYB 3 bF7 4 aDX Fk oG Gy 3 oG) eRO aEo,eR5,mN dYV rs,oQ kvl (gD l9 rs=dUl) mY l9 aH cK ll mT aFQ cSS cXy ll2 mT gD yq rs iV aF bln ll b0w ll,FX hL Re cSS L,bLk aOc c _ hc EV,Kp s2 gW bTr hp1 p12 dNs bTr,aJ cp1 (ay hc hp1),aSp Ep p1 bTr p12,yG c2 mU hc aKh c c2,bE od,HE aMD c od gB oF ah,Ie cD (c≠D) bBx cf aJ5 H2 cGi cGi ah sx (b9 c H2 eDv) OW eDv H3 cf sx hD,bAj (a2i (J:=Itk c od (l9 rs)) dUl Er ll2 eYn bQB cMy fB8 hD cFr sH cN8 fD aXM sH cN8 fD dUe ?_ ?_) (by rintro i H' v H'' hi sH⟨rfl,kk,vv,hkv,rfl⟩hDs C hC) RJ hyi FW hi aMi ((bQB)[i]) y hyi eP q1 q2 (bv' hyi) bLP q1 Bb kD aMC _ rfl _ rfl c _ rfl eXe gB (_root_.EE.ax bBR (aSW cZ y.1) EK KQ od cN8 q2.symm) (kV (aSW cZ y.1)) y.2 FA ?_ t ht eRV hyi bPH [Ty H4 vs s4,fFl (ag5 (F:=cQN Dm Ay H4 cMy) (ys:=vs) (as:=bQB) M.1),yG c4 zC cf eO c4,Ie s5 aCD eEe dYa CC b c zC GT z eo D5 iY H4 c bJe D cKy NZ cD hv Q5 Aa cQN Dm iY H4 c bJe p cMy qs yq rs (Paired.c_ hq<|kX lM p y z bRL) eEe H5 s5 D5 Q5,dA7 bRP D cSS bR qs D5 (ais Q5) fD H6 s6 AK wJ p12,KM s06 pZ HD s5 s6,aI bNK p2 s06.trans hp2 s06.free,cE ah ax0 kvl]]
end
end WH
end
section
namespace WH
open PySem PySem.Spec PyProof.Rows L2
noncomputable def arn:DY:=aZ2 begins
noncomputable def ano:DY:=aQl (.letters (aIP 0==1) bIG 0 bIG 1)
noncomputable def a4g:DY:=aR9 read
noncomputable def a4h:DY:=aR9 join
inductive blo(ns:aR)(iI:fB):aE|mk(b:Nat)(t u:aR)(_:ns=ND)(_:bK5)(_:iI=aQc)(_:cGb)(_:aXD):cQo
theorem blo.out{ns:aR}{iI:fB}:cQo→fAG:=@blo.rec ns iI eZ fAG cZO
noncomputable def okL:Yu:=aQl cQo
theorem afu:aJx aFZ acr:=dW
theorem aej:aJx [qJ,aER,Zm,uV,aS3,bVT,vP] aba:=dW
theorem ajf:Pn Cc af8:=dW
theorem apq:qG L fY t aR (bZ0 L t=aZc (yz t) aHs l (.ok cOn L Zr)):=bL dD L t mW bZ0 yz rM
section
variable{Pr:aM}{w:aK}{a:Ad}{H H':Hp}{x:aA}{s:IA}
theorem HIn.settled(ap:Ot)(h:Xd){C dx:aA}{fs:yF}(hx:cNf)(e:cNi)(t:dJw){L:fY}{d:cQ}(g:uK)(hh:fAR H' L d):aXG aX8:=bK bD nx fAj (P≠x) bG hT z Fu cX u hu hT.tbl nc qG q Str c aA (c∈cEm→eFh) kI q c hc z bK VM hc hc hc oS dA hc hx z aZN aB (aiz h.t1 z rX) aB qY hh g t eQg h.t2.keep h.t2 KJ bZS eQg h.t3.keep h.t3 KJ bZT
theorem al5(e:cNi):aCZ:=eEr oO nb fC h
theorem oq.from{M:bM}{H1:Hp}(s:aCv)(e:oq M H1 H'):aGn M:=eEr nb rH h
theorem bax(L:fY):Si33.sorted L []=[]:=xX aUa (si L []) GX
theorem apr{C dx:aA}{fs:yF}(hx:cNf)(hx':aG1 oA x o)(e:cNi){q:Str}{ps:Pos}(t:aBg OH q ps){p:aA}(hp:aQM p):JV:=dAW h (H p) o AT z p cEm fP VM z z z jK aZ aG z (p=OH) lX z cX u hu t.tbl aZ aF (e p o z h) hp bX hp
end
section
variable{Pr:aM}{w:aK}{K:aL}{mg:bF}{aW:aU}{a:Ad}
theorem aro:∀{Pr:aM}{w:aK}{K:aL}{mg:bF}{aW:aU}{a:Ad}(F:eCW)(ap:Ot)(o8:cV3 zN)(lx:bVb),bBq bVV arn:=aGR aI9 Pr a F ap o8 lx afu [aQu rfl afu.nd,aNc arn [] [] (Js,Si33.ok 0),aF hst k,cCH rr FL bTw cPI NM aJH CU aw,GZ,fFL l1 nld zN,dP eO aX e1 he1,Sx s2 sK he1 e12 Pj H1 e1 DA H1 e1 H2,cJo s01.trans,aST ⟨x,l1,e1,dx,_,aKI,[],[],rfl,aJX,WZ,aT Ua dl fm q [] [] yB mU hl mU hf mU hq eF aT aX eQp mJ eQ8,e12,eF,LN,mJ,aX,bZ1,?_⟩ H3 s3 t3 h3,aF bax h3,bD hI3 ZF H3 Js (hI2.settled ap aJX s3 t3 dFO h3) hx3 aG1 rT H3 o dB dQb h3.arc gJ h,aJ hxl ux,aI aT EV eNz cRA (s3.from ux) (apr hx hx3 (oq.from ux s3) t3 hy)]
end
end WH
end
section
namespace WH
open PySem PySem.Spec PyProof.Rows L2
section
variable{Pr:aM}{w:aK}{K:aL}{mg:bF}{aW:aU}{a:Ad}
theorem Good.heads{d:cQ}(h:uK):∀y∈d,cGn:=ZB Gx aLw Fe h.ent b24
theorem aps:∀{Pr:aM}{w:aK}{K:aL}{mg:bF}{aW:aU}{a:Ad}(F:eCX)(ap:Ot)(T5:WQ)(TH:Hu)(TL:aEx zN)(lm:eI7)(zf:eJo)(aa3:wS bWD 3 cWc (o7 zN))(qk:eNi)(lx:bVb),Es bVW okL ano:=aGR (by intro Pr w K mg aW a F ap T5 TH TL lm zf aa3 qk lx) aej [pW E,by(obtain⟨x,n,r,ns,iI,st,rfl,hn,hR,⟨b,t,u,rfl,hb,rfl,ht,hu⟩,hI,lP,k⟩:=h),gQ nd aej.nd,EF r0 r1 hR1 hR0 hRu (bsg hR),gQ dl bZX,aNc ano ND aQc jI (dIz&&aAO u) bI Kx bI5 dMO Kx aT (-3) [fM q] x dOw dHR ((x.1).any) eOn x.2,aF hst k,aG hn vW n aF5 b hn,bVt (id bGH),Ms,gZ oN AA 3 Lp Hl Lp PH bJa Xh Tg wV lm gK Tg wV lm oG Ws wV zf gK Hn aBi bMw 5 cg aOE T5.a9b rZ MC 6 Ez aa3 aBK gK oG aGG (i8 wV qk HI) T5.a4v bTw HI jY aJH CU UJ 6 ⟨_,rfl,r,_,_,_,rfl,rfl,gN hR1,nR,_,rfl,r,_,_,_,rfl,rfl,gN hR1,LD,?_⟩,dGT eJJ hR0,aG fin aAs H' Hp v V A aSV vs aN jW eW aNq aCZ aXG st aV4 DB y (ab_ A) (vs=ab_ A) JK y aQM y qO aG2 y vs oW s k e y hy dB bB e (k _ y (qh uG s.trans hy) cEj s.trans (s.free hy) ah),bIv hw (aAO t) uB hw bXM tU k cUa bUX s1 fFG aOc r1 u kY hRu dUj aAO dA hv tU k aNh bUX ux [dA hv eC aX k,aQt eJJ cO4 H3 s3,cER,aG hfv (aap t=eSb) rfl,bLh hf aOv q [fH q,fET aJJ aUI _ FA bUX s03] mn [fH mn,eP m nn mn,fET aIj ⟨_,rfl,n,_,_,_,rfl,rfl,sM s03 hn,nR,_,rfl,_,rfl,b,r0,t,r1,u,m,nn,rfl,hb,cB s03 hR0,cB s03 hRu,dLe,hu,hf,?_⟩,iC H4 y s4 ny hLy,aJ s04 (bGf s4),dP Oe y hLy H5 s5,GZ,aJ s05 (aMd s5),aG k qG H' Hp y aA jW aCZ aXG ((eWJ).1) Td (cEv eWJ→UF qO) k,bW aOb cHE,Hd hp cHE,Ru qX hp aCg hp dL EV bUX s05 [jJ hp,Gr hp,uL hI5 bZx s05 hL5 hLy.mono s5,aI ⟨_,rfl,_,rfl,_,rfl,x,uA,dx,_,_,rfl,bPL,pV,qE,rfl,x,y,e,dx,_,cFf,xs,lQ,rfl,bPL,WZ,hL5,cB s05 he,PZ hes s05,hI.good.ok.keys,aEo,hI.good.heads,hI5.t1,?_⟩,eWm (hI5.settled ap bPL s6 t6 (hI.good.perm qR si) h6),aG hx6 aG1 rT H6 o dB dQb h6.arc gJ h,Ro dy fm pq kvs kvp q1 hL5.ex,_,bD ynx cM4 lV aZ6 ynP (y≠OH) lV Fu cX w1 hw1 hI5.t1.tbl,yG q6 (s6 y _ fD q1) Lm y zN dy _ _ rfl q6 TL.cl Jt TL.na rfl EV bG y2 hy2 (k _ y2 cSl cRA dXj dX7 (apr hx hx6 dXj t6 hy2) ah)]]]]
theorem ax1:∀{Pr:aM}{w:aK}{K:aL}{mg:bF}{aW:aU}{a:Ad}(F:eC0)(B:fQ)(ap:Ot)(T5:WQ)(TH:Hu)(TR:cPE)(z7:eFO)(sw:eTm)(lx:bVb),Es bVZ okT a4g:=fDP aOT Pr a F B ap T5 TH TR z7 sw lx ajf ajf.nd a4g d (uT st Pu d,aUO fM iH) Hn dUF eJt eNe bTw jY At aJH aNI jY tX [cJL ll,aF hrd k,fFS,aJ hd4 dFP,gZ cI5 (f9 ⟨_,rfl,_,rfl,x,uA,dx,_,_,rfl,aJX,pV,qE,rfl,_,rfl,rd,Qb,dr,_,_,rfl,q1,OZ,QO,rfl,?_⟩) ⟨x,l,A1,dx,_,mO,xs,_,rfl,aJX,WZ,dT7,q2,q3,dFQ,bIg hd4,dFR,bZ1,?_⟩,eWm (hI2.settled ap aJX s6 t6 g5 h6),by(obtain⟨dx6,l6,e6,r6,p6,xs6,rs6,hx6,_,he6,cf9,_⟩:=id h6.ex),DF hl6 cf9,Bb ⟨_,rfl,x,uA,dx6,_,_,rfl,hx6,pV,qE,rfl,_,_,rfl,oP he6,EV,?_⟩ y2 hy2 (k _ y2 cSl cRA dXi dX7 (apr hx gJ hx6 dXi t6 hy2) ?_),cE ah cK hl6,by rfl]
end
end WH
end
section
namespace WH
open PySem PySem.Spec PyProof.Rows L2
theorem ajg:aJx [qJ,aER,Zm,Cc,XJ,IB] af9:=dW
section
variable{Pr:aM}{w:aK}{K:aL}{mg:bF}{aW:aU}{a:Ad}
theorem ax2:∀{Pr:aM}{w:aK}{K:aL}{mg:bF}{aW:aU}{a:Ad}(F:eDc)(B:fQ)(ap:Ot)(T5:WQ)(TH:Hu)(TR:cPE)(z7:eFO)(sw:eTm)(lx:bVb)(afv:cWA)(aa4:Wg bWq 6 VY p9)(aa5:eG0 aKB px),Es bWb okT a4h:=fDP (by intro Pr w K mg aW a F B ap T5 TH TR z7 sw lx afv aa4 aa5) ajg ajg.nd a4h g cY4 PH dUF eJt PH eNe Hl aYl afv Hn (cq Ez lx oG jY At) Ws zD aa4 oG aGG (i8 wV aa5 rZ) T5.bc1 bTw jY rZ aJH aNI rZ Am [cJL ll,aG hrd (bZ0 mO t= .ok cOn mO ll.map) hrd,aF hrd k,fFS,yG hd4 dFP cI5 (f9 ?_),QR z dz nz ndz nzd Ee z dz ah,lM H3 s3 h3,dJ QT,aPy H2 FG dz EY z z aIy uA dz nz ndz s23 cGP aHu s3 nz,uL s03 aMc s23 hI3 bZx s03,Ro dz3 l3 e3 r3 p3 hz3 h3.arc,dJ ⟨_,rfl,_,rfl,x,uA,dx,_,_,rfl,Lj s03,pV,qE,rfl,_,rfl,rd,Qb,dr,_,_,rfl,aC8 s23,OZ,QO,rfl,?_⟩,aST ⟨z,l,A1,dz3,_,mO,xs,_,rfl,hz3,WZ,dZ3,cB s23 q2,eBY q3 s23,dFQ,bIg hd4,dFR,hI3.t1,?_⟩ H4 s4 t4 h4,aG s24 (b9 OH H2 H4) Wa tJ s4 Am cB s23 eo,eP u1 hu1 hI2.t1.tbl,zG b7b (oq [OH] H2 H4) Wa tJ s24 rX eo hI4 ZF H4 st qY (a4a hu1 s24 dFM) aMp t4 ePc hI2.t2.keep KJ bZS ePc hI2.t3.keep KJ bZT b7c (oq cAL H H4) Wa tJ s24 cXj aOZ eo bsi JY p aA (H4 p=aS) JV (fun{p}hp=>dAW eo (H p) o Ch o dAV OH t4.tbl aF (s24 p o q aOZ eo) hp bX hp),FX hg cOn mO l'.map g,aI PP _ rfl x z mO mO lQ g rfl hI4.hou h4 aMp g5 ?_,sY H5 aj js naj haj hJ,gQ s45 aMj,bDH hI5 hI4.mono s45 bsj hJ.ents,kZ hjl aFN,aG a77 eHG ((bIC).Perm) uE eSA aBJ si,bDF htm oU (a1u a77) aIN aj _ _ haj bsj H6 s6,GZ,uL s46 s45.trans s6 hI6 hI4.mono s46,aG k qG H' Hp y aA cA aCZ aXG ((cY4).1) aV4 cEv cY4 k,Uq hm (dFF (Si33.joined mO lQ g)) [aQ htm hm,aCg hm,aNh aGy aCJ cB aBW s46.trans JJ b7c nb aBW hI6.mono eA9 hy] [aQ htm hm,Gr pP,gO hjp (bbd dFS dFT) hgj eHG Good gG hjp (bdx aMp g5 fC),aJ hjd hgj.ok.len,Db dx6 l6 e6 r6 p6 hx6 hL6 hI6.hou.arc,gQ ha6 AK haj,uM ⟨_,rfl,_,rfl,x,uA,dx6,_,_,rfl,hx6,pV,qE,rfl,_,rfl,x,l6,aj,dx6,_,mO,bZG aAT,awa lQ g,rfl,hx6,WZ,hL6,ha6,eBY bsj s6,hgj.ok.keys,bIg hjd,hgj.heads,hI6.t1,?_⟩,qW H7 s7 t7 h7,zP eSA h7,aJ hI7 (hI6.settled ap hx6 s7 t7 (hgj.perm a77) h7),Ro dx7 l7 e7 r7 p7 hx7 h7.arc,gQ a7 (s7 aj _ cN dOt QW eO AL ha6 hx6 q eP u hu hI6.t1.tbl aZ ha6),Bb bM8 oP a7 EV y2 hy2 (k _ y2 cSl (al5 (a:=a) s7 b o nb cB s46 JJ b7c nb) uG hI7.mono hy2 eA9 (apr (a:=a) hx6 gJ hx7 s7 t7 hy2) ?_),by rw[ah,cK,cK,hjl,←a77.length_eq],by rfl]]
end
end WH
end
section
namespace WH
open PySem PySem.Spec PyProof.Rows L2
section
variable{X:Cx}{o i fe e:bZ}{es:mD}{td ty tf:TE}{t:TA}{pos:Pos}
inductive bcv(P:aM)(w:aK)(K:aL)(Q:VK)(x:V)(y:V)(H2:Hp):aE|mk a kvs k v(_:rN)(_:cVl a kvs)(_:aSh)(_:bBD)(_:RK v):fAU
noncomputable def bwa(P:aM)(w:aK)(K:aL)(td ty:TE):TE:=Yi aHV fAU
theorem a8w:∀{X:Cx}{o:bZ}{i:bZ}{td:TE}{ty:TE}{pos:Pos}(ho:Ni)(hi:aYd)(hs:btu i),Ev aLU o i (bwa pC X.w X.K td ty):=Id yK X o i td ty pos ho hi hs _ KE Q eTq aCn u x H1 rx dJ aDf hi (by rintro iv s2⟨y,H2,I2,ry,a,kvs,k,v,ex,D,ey,l,q2⟩) _ LP ex ey Vh dG vs rel dd (D.of _ bX5) bEp w' hw rw' bN8 bOX vs iV hM l rel.val k dL Jl (wpAny_getItem_of aQk bFD hw VX v H2 (I2.tok _) rw' q2)
inductive bcw(P:aM)(w:aK)(K:aL)(mg:bF)(aW:aU)(k:Nat)(t:TA)(σ:cO)(Q:VK)(fv:V)(H1:Hp):aE|mk f x ps sp(_:fv=xW)(_:eMy k)(_:bQV)(_:MS t vs (sp vs H2 Q E0)):fA8
noncomputable def bwb(P:aM)(w:aK)(K:aL)(mg:bF)(aW:aU)(k:Nat)(tf:TE)(t:TA):TE:=JD tf fv fA8
theorem blp{k:Nat}(hf:pJ fe tf)(hr:bP8)(ha:aEp)(hev:autoParam (eval eNj pR=(do callWith pos (←eval fe X.env) [] (backTo pos (starEach (e::es) X.env)) (backToKw pos (keywordEach [] X.env)))) EE.autr._auto_1)(he:autoParam (Zb) EE.autr._auto_1)(hpl:autoParam (aKd) EE.autr._auto_1):pJ eNj (bwb pC X.w X.K aFg TF k tf t):=KW oR Q h aH hev gX VA hf (by rintro(u)(s1)(⟨fv,H1,I1,rf,f,x,ps,sp,ef,D,hm,q⟩)) bB ef So aBa u f rf vT f' fd F hm' hk hb aTb aF hm hm' bX hm' aB dNL I1.ok.mod.kin hk (j7 (ha pos bH s1 σ H1 _ I1 q)<|QY bFn us s2 vs H2 I2 r q2 bX5 (bh6 F hr hb eF bb0 I2 r pP))
end
end WH
end
section
namespace WH
noncomputable def okP:Rv Yu|0=>ok0|1=>okL|2=>ok1|3=>ok2|4=>okT|5=>ok0|6=>bQt|7=>ok1|8=>ok1|9=>ok1|10=>ok0|11=>ok0|12=>bQt|13=>okN 2|14=>okN 4|15=>ok0|_=>okT
noncomputable def mkP:jW Nat aR fB dFI|0=>arn|1=>ano|2=>aqm|3=>axu|4=>a4g|5=>a4e|6=>axw|7=>a4c|8=>arb|9=>a4d|10=>alq|11=>ard|12=>arh|13=>axz|14=>ari|15=>arg|_=>a4h
theorem agj{hi:Int}{r:mZ}(h:r.all (bGJ 0 hi)=aY):∀z∈r,aRW:=bG z hz YT (List.all_eq_true.mp h z hz) cV bGJ aP aZ
theorem aek{hi z:Int}(h:bGJ 0 hi z=aY):aRW∧z≤hi:=aQE bGJ GX
theorem uu(l:mZ):gD UD l=iS:=zK UD
theorem a01(a b:mZ):Si33Neutral.rowOf (bL0::(a++b))=aO (UD a,UD b):=YL ((fZ (0≤bL0∧LT bL0≤bV Ib) EX eBa ((Ib).take) eBa ((Ib).drop) aS)=_) aZ
structure uq(c:DJ)(p:Nat)(xs:mZ)(iI:DJ):aE where
 lt:p<17
 eq:c=dYf::iI
 n:dF=aSc
 r:Dh=cS5
 nn:∀z∈xs,aRW
 nr:∀r∈iI,∀z∈r,aRW
 ok:eRi okP
 Qa:Si33Neutral.callOf dS8 (aUw c)=aO eRi mkP
theorem nil_of{α:cJ}{l:eK}(h:iS=0):l=[]:=aTc h
theorem ayw{α:cJ}{l:eK}(h:iS=1):∃a,l=xZ:=List.length_eq_one_iff.mp h
theorem bwc{α:cJ}{l:eK}(h:iS=2):dYC:=bUS Gz
theorem cga{α:cJ}{l:eK}(h:iS=4):dVF:=bUS aZI
theorem bwd{a:mZ}{xs:DJ}(h1:aHq)(h2:Yd)(h:Tr 0):Tt 0:=bDw
theorem bwe:bIT (BA=1) (dF=2) 1:=cBA eP x0 rfl (ayw h1) eTv aU7 dOb 1 eQZ cON bIc (by obtain⟨w0,⟨⟨⟨_,l0⟩,m0⟩,⟨_,l1⟩,m1⟩⟩:=h) _ aVc CG _ _ _ rfl iV bN (aek w0) om8 aP rfl aWi aWi aB dO2 dD z hz aB eWv dU aB qF aJ q (aek w0) aG e (aUw eWV=[[1,x0,cKv]++r0++r1]) rfl Fq Si33Neutral.callOf dS8 (aUw eWV) aH e bW ((fZ eT1 ((Si33Neutral.rowOf (cKv::(r0++r1))).map _) aS)=_) aQ iF dTN a01 aJh aO eYD (x0==1) eYD dSD eV ((x0==1)=dSD) bK eV eT1 dTN aJf aP5 aP aH aP
theorem bwf:aSj 2:=bSk
theorem bwg:bIT aHq (dF=2) 3:=dG5 eTv eQZ cCl (by obtain⟨_,⟨⟨_,l0⟩,m0⟩,⟨_,l1⟩,m1⟩:=h) xY uN aWi aWi eWv dU aB aN5 Fq ((Si33Neutral.rowOf (cKv::(r0++r1))).map) _ a01
theorem bwh:aSj 4:=cDL cON
theorem bwi{a:mZ}{xs:DJ}(h1:aHq)(h2:Yd)(h:Tr 5):Tt 5:=bDw
theorem bwj{a:mZ}{xs:DJ}(h1:BA=1)(h2:Yd)(h:Tr 6):Tt 6:=eY8
theorem bwk:aSj 7:=bSk
theorem bwl:aSj 8:=bSk
theorem bwm:aSj 9:=bSk
theorem bo8{a:mZ}{xs:DJ}(h1:aHq)(h2:Yd)(h:Tr 10):Tt 10:=bDw
theorem bo9{a:mZ}{xs:DJ}(h1:aHq)(h2:Yd)(h:Tr 11):Tt 11:=bDw
theorem bo_{a:mZ}{xs:DJ}(h1:BA=1)(h2:Yd)(h:Tr 12):Tt 12:=eY8
theorem bo'{a:mZ}{xs:DJ}(h1:BA=2)(h2:Yd)(h:Tr 13):Tt 13:=dO1 cS x0 x1 rfl (bwc h1) (bZ3 [aRB,aRB] [x0,x1]) cX w0 w1 h cN cY z hz aZD hz aP5 hz eJH
theorem bpa:bIT (BA=4) Yd 14:=cBA EF x0 x1 x2 x3 rfl (cga h1) _ cBu aU7 (bZ3 [aRB,aRB,aRB,aRB] [x0,x1,x2,x3]) cBh bIc nQ w0 w1 w2 w3 h aVc NJ aB fN dD z hz aZD hz bZe hz rfl rfl eJH dE aB aWr w2 aB aWr w3 jL dU MK
theorem bpb{a:mZ}{xs:DJ}(h1:aHq)(h2:Yd)(h:Tr 15):Tt 15:=bDw
theorem bpc:aSj 16:=cDL cON
theorem bf7:∀{c:DJ}(h1:eKR)(h:dF4 c),∃p xs iI,eUm:=Id lJ c h1 h AM p a xs rfl hs h1 cV bZ4 hs aBS e0 0 0 0 bwd e1 1 1 2 bwe aBS e2 2 0 1 bwf e3 3 0 2 bwg aBS e4 4 0 1 bwh e5 5 0 0 bwi aBS e6 6 1 0 bwj e7 7 0 1 bwk aBS e8 8 0 1 bwl e9 9 0 1 bwm aBS e10 10 0 0 bo8 e11 11 0 0 bo9 aBS e12 12 1 0 bo_ e13 13 2 0 bo' aBS e14 14 4 0 bpa e15 15 0 0 bpb cAq e16 16 0 1 bpc aZ
end WH
end
section
namespace WH
noncomputable abbrev CN:=aA0 (aR×fB)
noncomputable def o4(iI:fB):aR:=rows.flatMap bT r (wN::r)
noncomputable def flN(c:CN):aR:=c.1::(c.2.1++o4 c.2.2)
noncomputable def flat(cs:Aq):aR:=cs.flatMap flN
noncomputable def arp(c:CN):aE:=jU (c.1<17) (bV c.2.1=(shP c.1).1) (bV c.2.2=(shP c.1).2) eOA okP
noncomputable def aa6(s:IA)(c:CN):IA×aSV:=Si33.step s eOA mkP
noncomputable def at8(r:aSV):mZ:=r.v::r.l
noncomputable def qx:cA IA Aq DJ|_,[]=>[]|s,c::cs=>cWI cs
noncomputable def ab'(s:IA)(cs:Aq):IA:=cs.foldl bG s c cDQ s
theorem bf8:TB cs Aq s IA c CN (qx s cOQ=cR0++[aXP eJ9]):=GO cs cY s c MK x cs [cY s c,dAK (_::qx (aa6 s x).1 cOQ) ih,by rfl]
theorem blq(cs:Aq)(s:IA)(c:CN):ab' s cOQ=(eJ9).1:=zK ab'
theorem bf9(l:DJ)(a:mZ):aUx aPX=aUx l++dRJ:=zK aUx
theorem a02{l:mZ}(h:∀z∈l,aRW):LW (UD l)=l:=Wr mW LW UD aH mL bEs (bEr l) aQP mR z hz
theorem ints_app(a b:aR):LW Ib=LW a++LW b:=zK LW
theorem bf_:JY iI DJ (∀r∈iI,∀z∈r,aRW) cLn cU3 PyFlat.putRows iI:=dLh iI bY _ r iI bY h bW (Si33.ints (cK1 r::UD r++cU3)=dWl (PyFlat.putRow r)) aQ bZ5 (ih bG q hq (h q fW hq)) pB bW (fM cK1 r::bLZ UD r=fM wN::r) aQ uu (a02 (h r aX))
theorem bf'{c:DJ}{p:Nat}{xs:mZ}{iI:DJ}(h:eUm):dZ cLn (flN bNl) PyFlat.put1 c (arp bNl) (∀s,cX2=((dTr).1,aXP dTr)):=bA Bi cH ?_ gY h.lt aPN cK1 xs aH uu h.n aPN gD rows.map UD aH cK h.r h.ok bT s ?_ aH h.eq bW (fM p::Wk (UD xs++cU3)=dWl dYf) cE bZ5 (a02 h.nn) (bf_ h.nr) (by rfl) aV dFU aH h.call (by rfl)
theorem blr:LO raw iU DJ cA kJ c raw eKR ((raw.all (PyInside.call bZ2))=aY) (∃cs:Aq,jU cLn (flat cs) PyFlat.put raw (dFV=raw.length) cVb (∀s,cYM s=cR0)):=GO raw cY _ _ dL [] QZ rfl aX bKj c raw [cY h1 h2,dA aTY Jc h2,jF p xs iI hc (bf7 (h1 c aX) h2.1),cS b1 b2 b3 (bf' hc),qM cs q1 q2 q3 q4 (ih bG d hd (h1 d cK2) h2.2),Gp aT (bNl::cs) gY ?_ fW q2 mR d hd bT s ?_ bW (Si33.ints (flN _++flat cs)=PyFlat.put1 c++PyFlat.put raw) cE bZ5 b1 q1 bO,qB bW ((cX2).2::cYM ((cX2).1)=_) aQ b3 q4 (by rfl)]
theorem bay:∀{l:mZ}(h:eCc),∃cs:Aq,eX (l=bLZ flat cs) cHO cVb eTr cH4:=bL dD l h cV PySi33.answers_asked h vB hc (PyFlat.calls bZ4 iS l) aZ raw [KS raw hc,aU7 (! raw.isEmpty&&PyFlat.atMost 100 raw&&PyInside.calls bZ2 raw&&Si33Neutral.asked (raw.map aUw)) (PyFlat.short bEj (dBT l)),OJ Jc h,by(obtain⟨⟨⟨⟨_,h2⟩,h3⟩,_⟩,h5⟩:=h),_,eP e1 e2 Dr PyFlat.put_calls hc,AM cs q1 q2 q3 q4 (blr raw e2 h3),dR ea eTr fN mW dBT PySi33.calls aH hc Fq aUx cYM Si33Neutral.start aH q4 (by rfl) aT cs nP fD DR q2 aLF h2 q3 ea ?_,hM ea,aB (aLF h5)]
end WH
end
section
namespace WH
open PySem PySem.Spec PyProof.Rows L2
noncomputable def Frz(o:HO):aE:=∃od u,o=aNf
section
variable{Pr:aM}{w:aK}{a:Ad}{H H':Hp}{x D:aA}{s:IA}
theorem bpd:∀{Pr:aM}{w:aK}{H:Hp}{x:aA}{D:aA}{CH CL CE CS CP:aA}{L:fY}{d:cQ}{od:Obj}{u:HO}(hD:cPQ)(h:nE),aUB aJI d:=kK (by intro Pr w H x D CH CL CE CS CP L d od u hD h) _ aG o (aeb H [D] Frz) fDO v D hD aB AU (by obtain⟨dx,l,ee,r,p,xs,rs,hx,hL,he,hes,hr,hrs,h1,h2,zs,h3,h4⟩:=aMa) _ oQ nI eWY (¬Frz aM5 C) Lw (by rintro _ _ _⟨_,_,z⟩) nL aNX (¬Frz Ln) bPV nT aNX (¬Frz MJ) bPV aB ⟨dx,l,ee,r,p,xs,rs,ePF,eQL bPV,dXa,eYF,dW9,eV3,h1,h2,zs,eIS (by rintro⟨_,_,z⟩),eKg⟩
theorem a4i{P:aA}{q:Str}{p:Pos}{od:Obj}{u:HO}(hD:cPQ)(h:aQh):TabOk P q p aJI:=bL aG nd Xf DI (¬Frz o) dY4 b aI3 e n bK aH ub HQ aB e bY z aG z (b=D) lX z dA z hD e HP aB (n AU) eW0 Hz (nd h<|Lw cKf) aDL (nd h1 Lw cKf) (nd h2 Lw cKf)
theorem HIn.cgc{od:Obj}{u:HO}(hD:cPQ)(h:Xd):ZF aJI s:=qY (bpd hD h.hou) h.good (a4i hD h.t1) (a4i hD h.t2) (a4i hD h.t3)
theorem ax3(e:eW):Xe aJI H' [D]:=aPe h eOj bQ q yC [D] (ub q) aB aXI
theorem ael(o:HO):bSr cPX aJI:=bn3 aX
theorem a8x(h:nZ D):Xe H H [D]:=wC aDM ub dU aB e fO
theorem stays(hI:Xd)(e:aCZ){b:aA}{o:HO}(hb:DI)(n1:bUT)(n2:bBa o):aHg:=kK aI tJ e Nq hb aG tb fAj pY P bG hT z Lx cX t ht hT.tbl (by rw(occs:=aGe) [←z,hb]at ht) bX ht n2 rK (by obtain(⟨dx,l,ee,r,p,hx,_⟩):=dFJ) aZD z bZe z z z dE fO aB (tb hI.t1 z) dE aB (tb hI.t2 z) aB (tb hI.t3 z)
theorem blu{K:aL}{q:aA}{xs:aN}(hI:Xd)(e:aCZ)(h:NC aJI q xs):NC aRN q xs:=cN aG one (∀{o:HO},jW dY4 q bUT bBa o (del H' [D] q=aO o)) (fun{o}h n1 n2=>eOj AT z q [D] (ub z) aB (stays hI e h n1 n2)) cZC dE sQ gB eRf sQ KQ o eRf cLf
end
theorem blv{L A Z:aR}{c:Nat}(h:L=A++c::Z):kC (vn L) bZ6 qT c:=aDM h aV vn cG
theorem blw{L A B Z:aR}(h:L=A++(B++Z)):agb (vn L) aO cZ bZ6 aO cZ (bZ6+B.length)=vn B:=bA AZ ad9 h bXf bXq List.take_left
theorem bcx:∀(f:WV){p:Nat}(h:p<17),bTo (ba2 f) p=aO eA6:=kX lM f p h aJf oT (by rcases bsx h with h|h|h|h|h|h|h|h|h|h|h|h|h|h|h|h|h) bB h
theorem blx:∀(cs ds:Aq)(s:IA),Ey (qx s (cs++ds))=Ey cR0+Ey (qx (ab' s cs) ds):=cLE cs cY ds s bW (_=0+_) aH Jd (by rfl) c [cY ds s,bW (Ey cWI (cs++ds)=Ey cWI cs+Ey (qx (ab' cDQ cs) ds)),aG e qG a mZ l DJ (Ey (a::l)=(BA+1)+Ey l) bG a l YL (bV (dRJ++aUx l)=_) bEl,cE e e (ih ds),aB cap]
theorem aso:DX [bEb,qJ,"answered",jZ,"call","shape",aER,Zm,bY5,"answer"] bEb ap5:=dW
inductive zo(a:Ad)(K:aL)(vs:aN)(H:Hp)(Q:VK)(XE:XK):aE|mk(q:aA)(cs:Aq)(_:bKo)(_:dML)(_:cHO)(_:cVb)(_:cH4)(_:cIS)(_:cIT)(_:cIU)(_:dN8):bUD zo a K
theorem zo.out{a:Ad}{K:aL}{vs:aN}{H:Hp}{Q:VK}{XE:XK}:bUD zo a K→fCr:=@zo.rec a K vs H Q XE eZ fCr cBF aMG (EE.ba0 a2 a3 a4 a5 a6 a7 a8 a9 w_)
section
variable{Pr:aM}{w:aK}{K:aL}{mg:bF}{aW:aU}{a:Ad}{S C:aA}{sh fn:WV}
theorem baz:∀{Pr:aM}{w:aK}{K:aL}{mg:bF}{aW:aU}{a:Ad}{S:aA}{C:aA}{sh:WV}{fn:WV}(F:eMJ)(B:fQ)(T:fA6)(afv:cWA)(bsk:cXi Es cLP (okP p) (mkP p)),eV1:=Ts aOT Pr a S C sh fn F B T afv bsk aso q cs [aOV q cs rfl hq hcl hok htl hT1 hT2 hT3,aDA aso.nd AA 1 aYl afv Hm NM aCk 3 aw (wa Rk cOt Ng AA 4 bRA Ws eSB T.hS AA 6 aBs 0 eKA (f8 (h_ vf bQX Yl)) cRt (h_ vf aw Yl) AA 7 NM (wa Rk yX ar5 MI Gk Yl VF 8 (h_ vf bQX bRA) Hx Gk bKJ eKA 8 BW bAg) AA 9 (aun (blp (k:=12) eSB T.hC (hr.mono iB) aGa fU HI Gk)) Hx jC MI bAf aIM jC bAf) 2,eWH,lM H1 s1 h1,dJ QT,oQ sI rJ dH9 aA1 uA [] (ag.ins nx ndx) s01 aCv aHu s1 nx hI1 ZF H1 Js qY h1 dFO (hT1.mono s01) (hT2.mono s01) (hT3.mono s01),dP eO aX D hD,Ie hI2 ZF aHp aVu Js DR ael hI1.mono (a8x hD) hq2 NC aHp aVu q cEK DR ael ((a8x hD).seq) (s01.seq hq) D2 Pj H1 D ah aVu H2 hI2 hq2 D2,aI jA NV fBL dn jM (cs=dn++jM∧eX (σ=bVm aG8 v4 v5 v6 v7) NC aRN q cEK ZF aRN bS0 dn DB D bLt dn (m=dFW)) (_root_.EE.a88 _ [] cs aS aS aS aS aS aS aCh rfl hq2 hI2 D2 rfl),by rintro m σ H3⟨dn,jM,v4,v5,v6,v7,v8,v9,rfl,rfl,hq3,hI3,D3,rfl⟩,_,dR fl (flat (dn++jM)=aZi dVH) Oq flat XY cUz _ rfl Rz eAc _ _ rfl _ rfl,aGb jM [DO fC,uM wX (k H3 D (hI3.t1.mono sf) (hI3.t2.mono sf) (hI3.t3.mono sf) ?_),Gu] c jM [pE c jM,dG p xs iI c,nQ hp hn hrw cgd (hok bHL aX),bD hp (p<17) hp hn (dF=aSc) hn,bD hrw (Dh=cS5) hrw fl (flat bRR=dJC eGK) aDM fl bW (flat dn++(aZi eOt)=_) aQ Qj EG,Ar dB jS az fl fA qZ bzl,eO7 bV (bJU:Aq) fBL dn' rest' (bRR=dn'++rest'∧eX (σ'=bVm cAr dn' v4 v5 v6 v7) NC aRN q MH flat bRR ZF aRN bS0 dn' DB D bLt dn' (m'=rest'.length)),gZ bU0 rfl _ rfl q _ eAc aUD aG8 (blv fl) Sg _ S _ DP p _ rfl T.dS rfl (bcx sh hp) ?_,aJ hsT bT H' (T.tS p hp H'),FX hLs (flat bRR) Ls,aJ q3' (sf.seq hq3),aG c1 (agb bOu aO fM (UE aG8+1) aO (cZ aG8+1+cZ aSc)=bAr) sR bN (blw (L:=Ls) (A:=dVH++[p]) (B:=xs) (Z:=eGK) pP) hM hn aF fA aP aP,RR ⟨_,rfl,_,rfl,_,_,rfl,rfl,_,rfl,_,rfl,_,_,rfl,rfl,_,rfl,aXB,_,_,_,rfl,rfl,cKF,nR,_,_,rfl,rfl,_,rfl,q,_,rfl,q3',?_⟩ nb hnb c1,aJ s4 oB gW bAr hnb,bD nb4 BT H3 nb bAr nb bAr ah nbD (nb≠D) aKf,vU ZE nb bAr H4 s4 nb4,aI ⟨_,rfl,_,rfl,aXB,_,_,_,rfl,rfl,cKF,nR,_,_,rfl,rfl,_,_,rfl,rfl,?_⟩,dP eO aX R hR,aJ s5 oB sK hR,oQ R5 Pj H4 R ah RD (R≠D) cKq xD Rnb (R≠nb) aKf,vU DA H4 R H5 s5 R5,aG epl (cZ aG8+(1+cZ aSc)=cZ bJo bV (o4 (bZ7 0))) gT aH hn bW (_=cZ (aG8+1+aSc+0)) bzg,yG s34 s4 jA NV eR9 Et (i≤Dh) (σ=bVm bCo KA p cKP cKO iL R) Rq H4 eCE eQA eLj (m=Dh-i) cLv 0 v8 [] bN1 mJ fC s5 R5 eF aX rfl,by rintro m σ H6⟨i,v8,rs,hi,rfl,s46,R6,hrs,hrn,rfl⟩,DF rl hrs,dA sZ (Nat.min_eq_left hi) rl,aJ s36 (s34.trans s46),yG q6 (sf.seq ((ax3 (D:=D) s36).seq hq3)) ⟨_,rfl,_,_,rfl,oP R6,_,rfl,aXB,_,_,_,rfl,rfl,cKF,LD,_,_,rfl,rfl,_,rfl,?_⟩,aQ cK rl,bQ hlt (i<Dh),IU [Ar fC,bOk hri hlt,aMi (iI[i]) r hri,bD cgf (o4 iI=aV5++(wN::(r++cRj))) fN eV (iI=bZ7 i++r::rows.drop eG) cVQ aGX hri bF6 aP aV o4 aQ XY SX cG etk (o4 (bZ7 eG)=aV5++(wN::r)) SI aQ rO hri o4 aH XY cG,HJ fl2 Ls (cSX++wN::(r++(aZi cRj))) aBG aQ fl cgf fl3 Ls ((cSX++[wN])++(r++(aZi cRj))) aCs fl2,aG bfc (bV cSX=bCo) dB cE fA qZ fA bpk,aJ hat (blv fl2),aF bfc hat,aJ bly (blw fl3),dA fA bfc bly,HJ cgg bV dVu (bV aV5+(1+wN)) dB cE etk fA qZ bzr epn bJo bV dVu (bCo+(1+wN)) gG cgg b_x,aAR bCo pl hat bly bfc epn,aG bly (agb bOu aO (cZ pl+1) aO cVP=aQU) bly,eO7 (Dh-i) eR9 eX (i≤Dh) (σ'=bVm bCo KA p cKP cKO iL R) Rq H4 eCE dZ eQA eLj (m'=Dh-i),aI ⟨_,rfl,_,_,rfl,rfl,_,rfl,_,rfl,q,_,_,_,rfl,rfl,q6,bf (j:=pl) hat,_,_,rfl,rfl,?_⟩,RR ⟨_,rfl,rL R6,_,rfl,_,rfl,_,_,rfl,rfl,_,rfl,_,rfl,_,rfl,q,_,rfl,q6,?_⟩ y hy iR (agb bOu _ _=aQU) bly,aJ s7 oB gW aQU hy,bD y7 BT H6 y aQU y aQU ah yR (y≠R) aKf,aJ hy4 (s46.free hy),vU sG H6 y aQU H7 s7 y7,aJ R7 KG R6,Fw ⟨R,_,_,rfl,rfl,R7,?_,_,rfl,Dh-eG,aRF,eG,aO gR cVP,dRW,hlt,?_,?_,?_,?_,?_,rfl⟩ aQ cK rl eV (Dh≤2) aDM hrw bN (bsx hp) oT oT (by rcases aP with h|h|h|h|h|h|h|h|h|h|h|h|h|h|h|h|h) bB h jL Nz (i≤2) b_8 hlt aP aH epn eV (cZ UE (pl+(1+wN))=cVP) lC bzd aZ,KO lM b o e _ xD aB aUd,wY aQ rO hri vI bYn (sg Ff hrs ?_) wY iC j b u hb hu HM H7 R _ b jV ((mC hrn b hb).2) aB KG eHM VQ fE,fO] [NN hie i Dh gC bdd hi hlt,DO fD,yJ OM hrs,bDI D6 cB s36 D3 nb6 cB s46 nb4 D4 cB s34 D3,uM aKh D D6,bE od,by(generalize hto:bLt dn=to at D3 D4 D6⊢),zG D8 iY H6 D aYQ D aYQ ah k8 Vv D bOJ iY H6 D aYQ b o dLY d8 bSr eHv aHp H6 (ael _) n8 iJ b (upd H6 D aYQ b=aS) (Sv H6∧pY D) Go b e xD,aAR eHv H8 D8 k8 d8 n8,Zc hI6 (hI3.mono (ax3 s36)) hI8 ZF H8 bS0 dn iV zP d8 hI6 hI6.mono sf hq8 NC aHp H8 q bOu DR d8 ((ax3 s36).seq) hq3,dR hle mT (cTv+cCT dn+1) cN aJ e1 (blx dn bJU Js) aF e1 htl HJ e2 Ey cAw qx bJU ((cSD+1)+Ey (qx (bLn).1 jM)) YL (bV ((fM cSD::aXP bLn)++dGZ ((bLn).1) jM)=_) aQ fA qZ e3 cSD cTv rfl aB (b_g htl e2 e3) ⟨_,rfl,C,_,DP p,_,rfl,T.dC,rfl,bcx fn hp,fn p,cLP,_,_,rfl,bsk p hp,T.hF p hp,_,rfl,_,rfl,_,rfl,x,nb,R,xs,iI,bS0 dn,rfl,lW k8 nbD nb6,bR rs lW k8 RD R6 (sg rl oW j b u hb hu lW k8 ?_ eHM),cgd,hI8,dO bzf hle,?_⟩,kG bE z fO,sY H9 y s9 hI9 ny hy,gQ D9 (stays hI8 s9 D8 aVY Lw dQa),aI eO D9,eN yD ((n8 y ny).2) hq9 (blu hI8 s9 hq8),aJ csu (hI9.cgc D9),Ie y10 BT H9 D to y (ab_ (aIr).2) vH yD hy D10 BT H9 D to D to ah d10 bSr eE3 aHp H9 (ael _) eE3 H10 y10 D10 d10,HJ tol bZ8 cCT dn aQB hto cK anl gD ab_ ((aIr).2) cTv aJw ab_ qZ cK,FX hst aIr sr,aI Lg rL D10 _ rfl _ _ rfl oP y10 D _ _ rfl rfl D10 ?_,dU Nz mT bZ8 b_0 tol hle,Ie D11 BT H10 D bNq D bNq ah y11 BT H10 D bNq y (ab_ sr.2) vH yD y10 d11 bSr eE4 aHp H9 vJ ael d10 eE4 H11 D11 y11 d11,Wv ⟨_,rfl,rL D11,_,rfl,D,y,_,_,rfl,rfl,D11,y11,?_,dFW,aX,eBs,jM,KA p,cKP,cKO,iL R,v8,Vd,aX,?_,?_,?_,?_,rfl⟩ aH fA Sb Nat.le_trans mT (bZ8+1+bJm) aB (b_1 tol hle anl) eV (cAr eBs=bJo gD o4 iI) Ac aV flat aQ XY fA bW (_+bV (eOt++[])=_) cE Ij qZ fA bpk aH aP (by rfl),SC aQ ael d11 aB hq9 cE ael d11 blq bW ZF _ ((aIr).1) bS,Wn AZ ah bf8 bf9 lN hto aJh aO bLS (to++[qT bJm]++ab_ sr.2) bLS (to++(qT gD at8 ((aIr).2)::iM aXP aIr SR)) aH hst LC bJm gD at8 sr.2 DE anl aQ e1 EG (by rfl)]]]
end
end WH
end
section
namespace WH
open PySem PySem.Spec PyProof.Rows L2
theorem cgk:∀{Pr:aM}{w:aK}{K:aL}{mg:bF}{aW:aU}{a:Ad}{S C kd:aA}{sh fn:WV}(T:b9v Pr w K mg aW a S C kd sh fn),eV1:=by rw[aIq Pr a S C kd sh fn T,_,zG o8 cV3 zN (ate T.bc6 aFR) alx aN7 aKU XL EZ me (ath T.bc9 aMq) abp EM bD1 bTZ (on zN) (awx T.ayh PD gA aFR) ab6 EM bDY bCe (tq XL) (a2o T.a4w aMq),ZZ ir (a7f T.a9i gA aFR alx abp ab6) gu (aw2 T.aym gA aFR aMq ir) lx (bff T.bgz gA T.apc uC zU gu) at9 (aro T.asr aMr o8 lx),oQ lm eI7 (a2m T.a4x PD gA) zf eJo (aqn T.as2 PD gA) ng EM bWN cEr qd (a2n T.a45 gA),gO aa3 (atg T.avq PD gA aFR o8 ng) qk eNi (be0 T.akd gA aFR),ZZ arq (aps T.ap6 aMr YH uC aFR lm zf aa3 qk lx) gw (a_i T.bc4 PD gA lm) a4j (azi T.a0_ gA YH uC aMq gw ir) zd (aqq T.asx gu),eN ax4 (at5 T.avj YH uC gw zd) z7 (a_j T.bc3 PD gA lm),zG al0 aN7 aKT Qb EZ mi (ato T.bc8 aMs) aik EM bWt bMU wo (a7q T.a9d PD gA) ac6 eOe EC (ay1 T.bme zU) aig EM bWm JI wj (a7k T.a9c PD gA),gO alz (a_v T.bc2 PD aAV gA ng) fg VC bWL uV lp (a69 T.a9g gA),eN yp (aw5 T.ayj gA fg) wn (a7l T.a9f PD aAV gA aig alz yp),gO ac7 (ay4 T.a1c ac6 wn) ae8 eOf ID (ay2 T.bmg Di),gO ac8 (ay3 T.a1d aAV gA ae8) zu eOg LM (atj T.bc7 Dj),eN aaq (atk T.avr PD dFX gA zu fg wn) ae_ (a2u T.a41 PD ac7 ac8 aaq),oQ abr EM bWI [lK,qH] aKB oo (aw_ T.ayl aAV aMt gA zU Di) jy VC bWr lK (je EC ID) (aqs T.asz gA zU Di) lq EM bD4 VY (ic LM) (atl T.avs Dj),eN yx (aqu T.as4 aAV aMt gA zU Dj jy lq) ac9 (ay5 T.a1b aAV aMt gA T.ap abr yx),Zc ae' (a2' T.a46 aMt gA T.ap aMs zU ae_ ac9 jy) a3f EM bWi bNd aij (bn2 T.bsy) y6 wS bWu 2 [Cc] dOs kg (aq0 T.as3 aMt gA aMs zU a3f),ZZ sw (a3a T.a42 aMt gA aMs al0 aik ae' y6) azj (ax1 T.ayf gA aMr YH uC aMs z7 sw lx) zw (a_0 T.bc5 gA fg) wq (atn T.avt PD dFX Dj fg zw),eN sk (a2z T.a43 PD zU Di fg zw wq) abv (aw' T.ayk sk),gO azk (axy T.ayg gA uC abv) jz cXX (a3g T.a4z gA uC),Zc ax5 (at6 T.avi gA YH uC jz sk) ze ePC (aq1 T.asy gA uC zU) aa0 eRQ (atp T.avk gA uC gu),gO azl (axv T.ayd YH gw ze aa0) rh dZF (ala T.al7 gA uC),Zc at' (are T.asw gA YH uC aMq gw ir rh) afd cW3 (a3j T.a4y gA) vj dZE (ang T.an1 gA uC afd),Zc azm (axx T.ayc gA YH uC aMq gw ir vj) o0 dZA (ail T.aji uC) i7 bDi (azh T.a1a),gO apt (ann T.an0 gA o0 i7) aa1 eUW (anh T.an2 gA uC),gO aua (arf T.asv gA aMr aa1) fb cDJ bWy xM ie bSO atr T.avo Dj,ZZ gt bSO att T.avp fb ai0 (a72 T.a9h gA gt) aub (arl T.asu gA YH uC zU jz ai0 gt) qi bSO a3h T.a40 jz,ZZ lv (ats T.avu gA uC zU Dj fb) y8 (aq2 T.as5 T.n4 uC zU Di Dj lv) ip (apj T.ap7 gA y8) aa2 (atu T.avw gA ip),ZZ ax6 (at7 T.avh gA YH qi aa2 i7) qj (ajt T.ake gA ip) auc (arm T.ass gA YH aMr qi qj) ab9 (bfp T.bgy Dj lv),Zc zb cYf aq7 T.as0 Dj ab9 aau cVz (atv T.avx) za cVy (aq4 T.as1 gA),eN ac_ (ay' T.a0' gA aau za) ul (amb T.am0 gA uC gt),gO afh (a3x T.a44 T.n4 fb) oz cW4 (aiq T.ajj T.n4),eN yf (apm T.ap8 gA T.n4 uC zU Di Dj zb ac_ ul afh ab9 oz) aud (ark T.ast gA yf i7),zG afv cWA (ay9 T.bmf uC o8) dq dHr (ig EC ID) (atw T.avv gA zU Di) abu wS bWv 2 VY aKB ow (axn T.ayi gA zU Di dq) aiy Wg bWw 3 VY wu bSO a8k T.a9e abu,bD aax VC bWj xL aKB mo (atz T.avl gA zU) aay Wg bWc 3 IW IB qr cYf azd T.a09 dq ae8,eN afn (a39 T.a47 uC zU Di Dj fb dq zu) ut (ara T.asq gA afn lq),CA wz cYf at1 T.avg dq ut aa4 (at3 T.avn gA uC zU ac6 aiy aax aay wz) qg VC bWn lK aKB f7 (ajs T.akc gA aAV zU Di),eN aa5 (at2 T.avm gA aAV qg) azn (ax2 T.aye gA aMr YH uC aMs z7 sw lx afv aa4 aa5),dP (baz T.bc_ gA T.top afv ?_) p hp,by(rcases bsx hp with rfl|rfl|rfl|rfl|rfl|rfl|rfl|rfl|rfl|rfl|rfl|rfl|rfl|rfl|rfl|rfl|rfl),bKe at9 arq a4j ax4,bKe azj azk ax5 azl,bKe at' azm apt aua,bKe aub ax6 auc aud,dU aB azn]
end WH
end
section
namespace WH
open PySem PySem.Spec PyProof.Rows L2
theorem a4k{P:aA}{q:Str}{pos:Pos}{H:Hp}(h:dTG):∃vs,oM P Sj vs:=bK LL h h c h jB Lz cV ar' h bS
theorem cgl(K:aL)(H0 H:Hp)(x:aA)(a:cS0)(hS:aD6)(hT:∀p∈eLf,MQ aYW)(_:PySem.W.Codec.withinAll aTa a=aY)(hA:PySem.W.Codec.app aTa PySem.Challenge.rw_wordhouse_s01_answers.asked a=aY)(s:eJu eAu):zo A0 K [yT] H cYl dZW eLf aJg:=fN cX l u a aG hA eCc hA vT cs e h1 h2 h3 h4 (bay hA) HK OD _ cs rfl ?_ h1 h2 h4 cTw cTw cTw IF H' y t1 t2 t3 hy NR aFq a4b e aB (ag.seq hS s) bW (IL K H' qO dRm) DS h3 sS gN hy Oj cY p hp aZD hp aKC hp aDc aB (a4k t1) a4k t2 aDU a4k t3
end WH
end
end
open PySem PySem.W PyProof.Rows
set_option maxRecDepth 100000 in
set_option maxHeartbeats 0 in
theorem PySem.Challenge.cw_wordhouse_s01_answers_holds : PySem.Challenge.rw_wordhouse_s01_answers.Holds := by
  refine WH.hd ?_
  k_fillS
  refine L2.bwo (r := PySem.Challenge.rw_wordhouse_s01_answers) (k := 13) (p0 := "calls") (sp := fun K => WH.zo WH.A0 K) (ts := [164, 217, 572]) (li := fun a => a.1) (lo := fun a => PySi33.answers a.1) (by decide +kernel) WH.b9y WH.b7j ⟨rfl, by decide +kernel, by decide +kernel⟩ (fun w h Y => ⟨km_in_of Y, km_tabs_of Y, ?kt, ?ct⟩) ?F WH.cgl
  case kt =>
    intro p hp
    simp only [List.mem_cons, List.not_mem_nil, or_false] at hp
    rcases hp with rfl | rfl | rfl <;> kernel_rfl
  case ct =>
    intro p hp
    have tb := km_tabs_of Y p hp
    simp only [List.mem_cons, List.not_mem_nil, or_false] at hp
    rcases hp with rfl | rfl | rfl
    · exact WH.cgy (c := 166) (km_in_of Y) tb (by kernel_rfl)
    · exact WH.cgy (c := 219) (km_in_of Y) tb (by kernel_rfl)
    · exact WH.cgy (c := 574) (km_in_of Y) tb (by kernel_rfl)
  case F => exact fun w mg fa h KX G hfa base XB GB bm => WH.b7k (WH.cgk (WH.allT KX G XB bm)) hfa
#print axioms PySem.Challenge.cw_wordhouse_s01_answers_holds
