import PyProof.Rows.All
import MtSeg
import MtLine
import PyYqmtfa
import PyProof.EqAt
import PyProof.EqKinds
import PyProof.TupleCall
import Wide.All
import OpenK.AllK
import Wide.FinOn
import KE.BitLaws
import PyProof.ListCopy
import PySem.Challenge.RW_brokenlinesdesk_s01_answers
import KE.KBits
import YfSpec
import Open.SpecLaws
import KE.OsHead
import KE.OsGo
import Lean
set_option Elab.async false
set_option linter.all false
set_option maxRecDepth 100000
set_option compiler.extract_closed false
section
open Lean
def Lean.Syntax.ks (x : Syntax) : String := match x.getKind with | .str _ s => s | _ => ""
def kP (a s : String) : Name := .str (.str (.str (.str .anonymous "Lean") "Parser") a) s
def kT : String → Name := kP "Term"
def kM : String → Name := kP "Command"
def kA : String → Name := kP "Tactic"
def mxF (f : Syntax) (as : Array Syntax) : Syntax := if as.size == 0 then f else if f.ks == "app" then f.setArg 1 (f[1].setArgs (f[1].getArgs ++ as)) else mkNode (kT "app") #[f, mkNullNode as]
def mxU (a : Syntax) : Syntax := if a.ks == "paren" then a[1] else a
def mxP (ts : Array Syntax) : Syntax := mkNode (kA "paren") #[mkAtom "(", mkNode (kA "tacticSeq") #[mkNode (kA "tacticSeq1Indented") #[mkNullNode (ts.foldl (fun a t => if a.size == 0 then a.push t else (a.push (mkAtom ";")).push t) #[])]], mkAtom ")"]
def mxG (x : Syntax) : Syntax := if x.ks == "term#[_,]" then mkNode (kT "anonymousCtor") #[mkAtom "⟨", x[1], mkAtom "⟩"] else if x.ks == "term_/\\_" then x.setKind (.mkSimple "term_∧_") else if x.ks == "term_\\/_" then x.setKind (.mkSimple "term_∨_") else if x.ks == "term_<=_" then x.setKind (.mkSimple "term_≤_") else if x.ks == "term_>=_" then x.setKind (.mkSimple "term_≥_") else if x.ks == "app" && x[0].ks == "app" then mxF x[0] x[1].getArgs else if x.ks == "rwSeq" && x[2][1].getSepArgs.any fun r => r[1].ks == "byTactic" then mxP (x[2][1].getSepArgs.map fun r => if r[1].ks == "byTactic" then mkNode (kA "paren") #[mkAtom "(", r[1][1], mkAtom ")"] else if r[0].getNumArgs == 0 then mkNode (kA "exact") #[mkAtom "exact", r[1]] else mkNode (kA "refine") #[mkAtom "refine", r[1]]) else x
def mxX (f : Syntax → Syntax) : Nat → Syntax → Syntax
  | k + 1, .node i n a => f (.node i n (a.map (mxX f k)))
  | _, s => f s
def mxT (f : Syntax → Syntax) : Syntax → Syntax := mxX f 9999
def mxE {α : Type} (f : α → Syntax → α) : α → List Syntax → α
  | a, [] => a
  | a, s :: l => mxE f (f a s) l
def mxI (t : List (Name × Syntax)) (s : Syntax) : Syntax := s |> mxT fun x => if x.isIdent then (t.lookup x.getId).getD x else mxG x
abbrev MxT := NameMap (List Name × Syntax)
def mxA (t : MxT) : Nat → List Syntax → List Syntax
  | 0, as => as
  | n + 1, as => match as with
    | [] => []
    | a :: r =>
      let r := mxA t n r
      match if a.isIdent then t.find? a.getId else none with
      | some (p :: ps, b) => mxI ((p :: ps).zip (r.map mxU)) b :: r.drop (ps.length + 1)
      | _ => a :: r
def mxS (t : MxT) (s : Syntax) : Syntax := s |> mxT fun x =>
  if x.isIdent then match t.find? x.getId with
    | some ([], b) => b
    | _ => x
  else if x.ks == "app" then match mxA t 1000 (x[0] :: x[1].getArgs.toList) with
    | f :: as => mxF f as.toArray
    | _ => x
  else mxG x
def mxN (c : Syntax) : Syntax := c.setArg 0 (c[0].setArg 4 (mkNullNode #[mkNode (kM "noncomputable") #[mkAtom "noncomputable"]]))
def mqA (f : Name) (as : Array Syntax) : Syntax := mkNode (kT "app") #[mkIdent f, mkNullNode as]
def mqN (s : Syntax) : Nat → Syntax
  | 0 => s
  | n + 1 => if s.ks == "paren" then mqN s[1] n else if s.ks == "typeAscription" && s[1].ks == "num" then s[1] else s
def mqZ (z : List Name) : Nat → Syntax → Bool
  | 0, _ => false
  | k + 1, s => if s.isIdent then z.contains s.getId else if s.ks == "typeAscription" then s[3][0].getId == `Int else if s.ks == "app" then s[0].getId != `Int.toNat && s[1].getArgs.any (mqZ z k) else s.getArgs.any (mqZ z k)
def mqT (r z : List Name) : Nat → Syntax → Syntax
  | 0, s => s
  | k + 1, s =>
    let g := mqT r z k
    let s := mqN s 9
    let c := s.ks
    if s.isIdent then mqA `v #[Syntax.mkNumLit (toString ((r.idxOf? s.getId).getD (z.idxOf s.getId)))]
    else if c == "num" then mqA `n #[s]
    else if c == "typeAscription" then if s[3][0].getId == `Int then mqA `c #[g s[1]] else g s[1]
    else if c == "app" then mqA (if s[0].getId == `min then `mi else if s[0].getId == `max then `ma else `o) (s[1].getArgs.map g)
    else if c == "term-_" then mqA `g #[g s[1]]
    else if c == "term_^_" then mqA `p #[mqN s[0] 9, mqN s[2] 9]
    else if c == "term_*_" then if (mqN s[0] 9).ks == "num" then mqA `m #[mqN s[0] 9, g s[2]] else mqA `u #[g s[0], mqN s[2] 9]
    else mqA (if c == "term_+_" then `a else `s) #[g s[0], g s[2]]
def mqF (r z : List Name) : Nat → Syntax → Syntax
  | 0, s => s
  | k + 1, s =>
    let g := mqF r z k
    let t := mqT r z k
    let s := mqN s 9
    let c := s.ks
    let q (a b : Name) := if mqZ z k s then b else a
    if s.isIdent then mkIdent `ff
    else if c == "arrow" then mqA `im #[g s[0], g s[2]]
    else if c == "term¬_" then mqA `no #[g s[1]]
    else if c == "term_∧_" then mqA `an #[g s[0], g s[2]]
    else if c == "term_∨_" then mqA `or #[g s[0], g s[2]]
    else if c == "term_↔_" then mqA `fi #[g s[0], g s[2]]
    else if c == "term_≠_" then mqA `no #[mqA (q `eq `zeq) #[t s[0], t s[2]]]
    else if c == "term_=_" then mqA (q `eq `zeq) #[t s[0], t s[2]]
    else if c == "term_<_" then mqA (q `lt `zlt) #[t s[0], t s[2]]
    else if c == "term_≤_" then mqA (q `le `zle) #[t s[0], t s[2]]
    else if c == "term_>_" then mqA (q `lt `zlt) #[t s[2], t s[0]]
    else mqA (q `le `zle) #[t s[2], t s[0]]
def mqL (l : List Name) : Syntax := mkNode `«term[_]» #[mkAtom "[", mkNullNode (l.foldl (fun a x => (if a.size == 0 then a else a.push (mkAtom ",")).push (mkIdent x)) #[]), mkAtom "]"]
def mqI : Nat → Syntax → List Name
  | 0, _ => []
  | k + 1, s => if s.isIdent then [s.getId] else (s.getArgs.toList.map (mqI k)).flatten
def mqQ (c : Syntax) : Syntax :=
  let d := c[1]
  let p := d[3][1].getId
  if d.ks == "theorem" && (p == `Q || p == `Qw) then
    let y := d[2][1]
    let z := (d[2][0].getArgs.toList.map fun b => b[1].getArgs.toList.map Syntax.getId).flatten
    let r := ((mqI 99 y[1]).filter fun n => n.toString.length == 1 && !z.contains n).eraseDups
    let a := #[mqL r, mqL z, mqF r z 99 y[1]]
    let e := d.setArg 3 (d[3].setArg 1 (mqA `oR (a.push (Syntax.mkNumLit (toString (max r.length z.length))))))
    c.setArg 1 (if p == `Q then e.setArg 2 (d[2].setArg 1 (y.setArg 1 (mqA `D a))) else e)
  else c
def mxH (x : Syntax) : Syntax := if x.ks == "hole" then mkIdent `zZ else if x.ks == "typeAscription" && x[1].ks == "hole" then x.setArg 1 (mkIdent `zZ) else x
def mxB (x : Syntax) : Syntax := x.setArgs (x.getArgs.map mxH)
def mxZ (q : Bool) (s : Syntax) : Syntax := s |> mxT fun x => match x with
  | .atom _ v => .atom .none v
  | .ident _ r v p => .ident .none r v p
  | .node _ k a =>
    let x := .node .none k a
    if !q then x else if x.ks == "arrow" then mkNode (kT "depArrow") #[mkNode (kT "explicitBinder") #[mkAtom "(", mkNullNode #[mkIdent `zZ], mkNullNode #[mkAtom ":", a[0]!], mkNullNode, mkAtom ")"], a[1]!, a[2]!]
    else if x.ks == "basicFun" then x.setArg 0 (mxB a[0]!)
    else if x.ks == "forall" || x.ks == "explicitBinder" then x.setArg 1 (mxB a[1]!)
    else x
  | x => x
def mxR (s : Syntax) : Bool := (s.find? fun x => x.ks == "renameI").isSome
def mxV (x : Syntax) : Option Syntax :=
  let k := x.ks
  if k == "first" || k == "tacticRepeat_" || k == "tacticTry_" then some x
  else if k == "rwSeq" && x[1][0].getNumArgs == 0 && x[3].getNumArgs == 0 then
    let w (a : String) (r : Array Syntax) : Syntax := mkNode (kA (if a == "rw" then "rwSeq" else "rewriteSeq")) #[mkAtom a, x[1], mkNode (kA "rwRuleSeq") #[mkAtom "[", mkNullNode r, mkAtom "]"], mkNullNode]
    let v (t : Syntax) : Syntax := mkNode (kA "tacticSeq") #[mkNode (kA "tacticSeq1Indented") #[mkNullNode #[t]]]
    let q (t : Syntax) : Syntax := mkNode `group #[mkAtom "|", v t]
    some (mxP ((x[2][1].getSepArgs.map fun r => if !r[1].isIdent then w "rewrite" #[r] else (mkNode (kA "first") #[mkAtom "first", mkNullNode #[q (mkNode (kA "withReducible") #[mkAtom "with_reducible", v (mkNode (kA "refine") #[mkAtom "refine", mkNode (kT "app") #[mkIdent (if r[0].getNumArgs == 0 then `rwL else `rwR), mkNullNode #[r[1], mkNode (kT "syntheticHole") #[mkAtom "?", mkAtom "_"]]]])]), q (w "rewrite" #[r])]]).raw).push (w "rw" #[])))
  else none
def mxY (c : Syntax) : Syntax := let c := Id.run (c.replaceM fun y => mxV y); if c[1].ks == "structure" || c[1].ks == "inductive" then mxZ false c else if mxR c then mkNode (kM "in") #[mkNode (kM "set_option") #[mkAtom "set_option", mkIdent `tactic.hygienic, mkNullNode, mkAtom "true"], mkAtom "in", mxZ false c] else mxZ true c
def mxK (c d : Syntax) (p : MxT × Array Syntax) (f : Syntax) : MxT × Array Syntax :=
  let t := p.1
  let n := f[0][0]
  let b := f[1][0]
  let y := f[1][1]
  let v := f[1][2]
  let k := f[0][1][0][1][0].getAtomVal
  if y.getNumArgs == 0 && k == "" then (t.insert n.getId (b.getArgs.toList.map Syntax.getId, mxS t v[2]), p.2)
  else
    let w := if v.ks == "structInstFieldDef" then d[3].setArg 1 v[2] else mkNode (kM "declValEqns") #[mkNode (kT "matchAltsWhereDecls") #[v[1], d[3][2], d[3][3]]]
    let n := mkNode (kM "declId") #[n, mkNullNode]
    let q := mkNode (kM "optDeclSig") #[b, y]
    let e := if k == "" then c.setArg 1 (mkNode (kM "theorem") #[mkAtom "theorem", n, mkNode (kM "declSig") #[b, y[0]], w]) else mxN (c.setArg 1 (if k == "1" then mkNode (kM "definition") #[mkAtom "def", n, q, w, d[4]] else mkNode (kM "abbrev") #[mkAtom "abbrev", n, q, w]))
    (t, p.2.push (mxY (mqQ (mxS t e))))
def mxJ (p : MxT × Array Syntax) (c : Syntax) : MxT × Array Syntax :=
  let d := c[1]
  let t := p.1
  let u (x : Syntax) := (t, p.2.push x)
  if d.ks == "definition" && c[0][4].getNumArgs == 0 then
    if d[3][1].ks == "structInst" then mxE (mxK c d) p d[3][1][2][0].getSepArgs.toList
    else if d[3][1].ks == "term[_]" then
      let s := d[1][0].getId.toString
      let l := d[3][1][1].getSepArgs.toList.map fun n => n[0].getAtomVal
      mxE (fun p n => (p.1, p.2.push (mxZ false (c.setArg 1 (mkNode (kM "theorem") #[mkAtom "theorem", mkNode (kM "declId") #[n, mkNullNode], mkNode (kM "declSig") #[mkNullNode, mkNode (kT "typeSpec") #[mkAtom ":", mkIdent `True]], d[3].setArg 1 (mkIdent `trivial)]))))) p ((if s == "o" then (List.range 1610).map toString else l).map fun n => mkIdent (Name.mkSimple ("tw" ++ if s == "tw" then n else toString (Name.str `_P.headAll (s ++ "_" ++ n)).hash)))
    else u (mxY (mxS t (c.setArg 1 (mkNode (kM "theorem") #[mkAtom "theorem", d[1], mkNode (kM "declSig") #[d[2][0], d[2][1][0]], d[3]]))))
  else if d.ks == "definition" || d.ks == "abbrev" then u (mxY (mxS t (mxN c)))
  else if c.ks == "section" && c[2].getNumArgs == 1 then
    let n := mxS t c[2][0]
    u (mkNode (kM "end") #[mkAtom "end", if n.getId == `z then mkNullNode else mkNullNode #[n, mkNullNode]])
  else u (mxY (mxS t c))
def mxC (cs : Array Syntax) : Syntax := mkNullNode (mxE mxJ ({}, #[]) cs.toList.tail).2
end
@[elab_as_elim] theorem rwL.{u} {α : Sort u} {a : α} {motive : α → Prop} {b : α} (h : a = b) (t : motive b) : motive a := h ▸ t
@[elab_as_elim] theorem rwR.{u} {α : Sort u} {a : α} {motive : α → Prop} {b : α} (h : b = a) (t : motive b) : motive a := h ▸ t
local macro_rules | `(mutual $cs* end) => if cs[0]!.raw.isOfKind ``Lean.Parser.Command.section then return mxC (cs.map (·.raw)) else Lean.Macro.throwUnsupported
set_option bootstrap.genMatcherCode false
set_option genSizeOf false
set_option genSizeOfSpec false
set_option tactic.hygienic false
mutual section
def z:={
aQ:=PySem
cT:=PySem.W
bg:=PyProof.Rows
a6:=Program
jc:=PySem.Challenge.pw_brokenlinesdesk_s01_answers
ad:=true
bZ:=dX.main.body
ak:=none
ax:=Str
jd:=moduleNames
je:=PySem.Challenge.nm_brokenlinesdesk_s01_answers
cm:=Bool.and_eq_true
gN:=looksOpen
J:=top
d9:=Scope
jf:=TablesWhole.Ctx
I:=Stmt
d_:=TablesWhole.wSs
dl:=TablesWhole.holds
ac:=Nat
aS:=this
gO:=Nat.succ_pos
jh:=TablesWhole.gather
bO:=m.scope
jj:=TablesWhole.noTwice
gP:=TablesWhole.wModule
aH:=Bool
cU:=dX.main.scope
au:=rfl
am:=True
fz:=Or.inr
gQ:=Nat.le_of_ble_eq_true
aj:=Int
fA:=Int.ofNat
gR:=List.map_cons
gS:=Int.mul_add
jl:=Int.mul_assoc
jm:=Int.zero_mul
gT:=Int.zero_add
bb:=false
jn:=List.mem_append.mp
jo:=List.mem_map.mpr
bc:=cons
d!:=if_pos
fB:=if_neg
gU:=Nat.zero_add
jp:=Int.add_zero
jq:=Nat.le_of_not_le
js:=Int.mul_comm
jt:=Int.neg_one_mul
ju:=Int.toNat_of_nonneg
gV:=Int.le_of_lt
bh:=False
gX:=Classical.byContradiction
d?:=absurd
ea:=ofNat
gY:=Nat.ble
gZ:=cs.filter
eb:=Bool.and_eq_true_iff.mp
jv:=List.all_cons
jw:=List.mem_map.mp
jx:=Int.mul_nonneg
jy:=List.all_eq_true.mp
bP:=PySem.Spec
ah:=Value
aT:=Shared
a7:=base
ai:=Heap
bi:=outer
aD:=World
cV:=Sum.inl
cW:=Sum.inr
g0:=decide_eq_false
aI:=int
ec:=Array
aa:=Addr
cn:=RelV
g1:=Value.type
bQ:=some
dm:=h.get?
cX:=type
g2:=fs.length
g3:=h'.get?
jz:=h.objs.size
ag:=PySem.W.Frag
fC:=mainGlobals
cp:=K.lookup
ed:=aF.size
cq:=aF.toList
jB:=PySem.W.keepIn
ee:=s'.heap
dn:=FuncData
g4:=vs.length
b0:=args
b3:=init
bR:=qual
jC:=PySem.W.fnOf
jD:=PySem.Challenge.pw_brokenlinesdesk_s01_answers.main.body.getD
cY:=l.map
bv:=WData
ef:=Codec
g5:=OpenSpec
eg:=WellAll
cZ:=bool
cv:=bytes
eh:=tuple
jE:=PySem.W.WRecords
g6:=Dw.reads
g7:=Dw.readsAll
g8:=d.weight
fD:=List.mem_cons.mp
dq:=vs.toArray
b4:=Params
jF:=Nat.le_trans
jG:=vs.toList.map
jH:=vs.toArray.toList.map
jI:=beq_self_eq_true
fE:=Option.some.inj
fG:=us.toArray
fH:=Data.seq
jJ:=Value.type.inj
cw:=s₁
b5:=vals
cy:=s₁.heap
g9:=s₁.heap.Ns
fI:=w.params
fJ:=callerA
g_:=DictEntry
jK:=codeAny_mono
cA:=r.args
g':=PySem.W.mg_of
g!:=decide_eq_true_eq
fK:=Nat.beq
jL:=Nat.eq_of_beq_eq_true
fL:=h.elim
jM:=List.length_cons
ei:=Nat.beq_refl
g?:=List.map_map
jN:=List.map_congr_left
fM:=PySem.Challenge.rw_brokenlinesdesk_s01_answers.args
jO:=Codec.inInt
cB:=PySem.Str
jP:=PySem.Str.ofString
fN:=_P.viewQ
jQ:=PySem.Challenge.rw_brokenlinesdesk_s01_answers.prog
jR:=PySem.Challenge.rw_brokenlinesdesk_s01_answers.name
ao a:=List a
O:=aN K mg
M:=GI mg
Z a:=bQ a
ab a:=a=ad
a8 a b:=a r z b
bk a:=.ref a
ae:=cb K C
aU a:=val w a
bm a:=Option a
b6:=a8 d t
az a b:=ab (a b)
bw a:=inClass a
aY a b:=a b=Z o
av:=ao ah
ap:=ao aa
bE a b:=a->b->Prop
aB:=ao aj
a9 a:=a=ak
ay:=gh K C
du:=a8 d s
b7:=bk f
dv a b c:={a:=b,data:=c}
aL:=by decide+kernel
aE:=ao ac
a' a b c:=λ a b hp hq=>c
aG a:=.a s t
aM:=ao V
a! a b:=(a).map b
dw a:=fA a
aP:=ax->bm ah
aO:=ac->aj
aV:=bw (J 90)
aW a b:=.bc a b
aX a:=a x0 x1 x2
aZ:=b6.2
bF a b:=aJ K H a b
a4:=.nil
fO a b:=a fC b
a5 a:=Hs w a
a?:=b6.1
hh a:=Bool.noConfusion a
bn:=hh (show false=ad from p)
c0 a b:=∀a∈A,b
dy a b:=cp a=Z b
ba:=K.In h
bz a b:=a=Z bk b
bG:=.ak
c1:=K fI
cC a:=decide a
bd:=aU p
be:=ao L
bf a:=λ p q=>a
ek:=.cX "list"
bo a:=(a8 gm a).2
bp a:=(a8 gm a).1
bq:=by rw[hp,hq]
br:=a8 D f
fP:=.cX "tuple"
bt a:=.a f g
bA:=ao bv
bu a:=a x0 x1
bB:=du.2
bC a b:=l_ K H a b
bD:=aU q
c2 a:=d? a (by simp)
bS:=dv cls fP (.seq dq)
bH b:=dm a=Z b
bT:=dv cls ek (.seq dq)
bI a:=by exact .inr a
bJ:=du.1
bK:=a9 (H b)
bL:=mn p q
bU:=c0 a (ni h A a)
bM a c:=∀b a,c
cE a:=d_ dl J cx sc a
bV a:=a x0 x1 x2 x3
c3 a:=a<=sizeLine
bW a c:=a b=Z c
cF:=fO h.Ns mg
b8 a b c:=qH a b a' p q c
b_:=aY dm b
b':=a0->bE a1 a2
b!:=bw (J 362)
b?:=dw k
dz a:=a=ps.length
bY a:=a P w
ca:=ao ax
cc:=.head _
fQ:=PySem.W.nsIn K fC
ce a b:=λ a hb=>b
cg:=tJ K C
ch:=dO K C
ci a b:=(a).mono b
cG a b:=ab (cC (a<=1000)&&b)
fR a b:=Codec.encAll a b
fT b c:=Codec.app b c a
c4:=∀u∈vs,md A u
dA a:=(c1).In a
cj:=i+1
cH:=Z b7
cI:=dw g
cJ a:=by exact .inl a
cK:=al f bb
cL:=ao Env
cM a b:=at_ s t a b
cN a b:=pr a (al g b)
c5:=ab (jB K b7)
cO:=tr t b
cP a:=λ x=>a
cQ a:=tr s a
cR:=mn q p
cS:=x::a
c6 a b c:=by exact #[λ a=>b,λ h=>c]
c7 a b c:=by exact #[λ a=>b,λ k=>c]
c9:=gV (Int.not_le.mp h)
dB:=PySem.W.findIn K bk C
c_ a b c:=by rw[ip];exact yr a b c
dC:=aY dm a
c!:=ao cB
em a b c:=#[a,b,c,[],ak]
c?:=bm aa
da a b:=congrArg a b
db:=bE a0 a1
dc:=al f ad
dd a:=((a:ac):aj)
de:=by cases x
df:=iJ K h A
en a:=o.data=a
dg:=r8 K mg
dh:=zl K as e hi
dD a:=dy a #[.cX "tuple",od,.seq aF n,sl]
di a:=a&&ad
dE a:=#[a,[]]
dj:=.ref a
dF a:=bN xs a
dk:=.aI i
dG b:=#[b,trivial,λ a m=>c2 m]
dH a:=fQ x=Z a
dI a:=List.mem_cons_of_mem _ a
eo:=fO base.Ns mg
dJ a:=List.mem_flatMap.mpr a
dL a b c:=dy a #[oc,od,.func b,c]
dM:=List.mem_cons_self ..
dN:=az (PySem.W.codeIn K aK) bR
dP:=jC x bR (jr st) (cu st) (aA st) bG kV doc pm an aK ct
dQ a b:=jo #[a,b,rfl]
dR a:=Codec.denoteAll a
dU a b c:=∃f fd,a/\b c st f fd
dW b:=fR b a
dY:=eg P h vs ds
er b c d:=∃(a:aa)(b:c),d
dZ:=qO cy H
d1:=a0->a1->bE a2 a3
d2 a b:=by rcases a with b|m
d3:=False.elim x
et a b c:=BindsTo s a b c
fV a:=.tup (a toV)
fW a:=.lst (a toV)
d4 b:=fK a b
d5:=dS P w H h
eu:=az mZ ds
hj a:=a je
d6:=a::as
d7:=wt r z
ew:=ab (PySem.W.isFn K b7)
d8:=a++b
fX a b c:=by obtain⟨a,vs,rfl,ho,b⟩:=c x
ey a b:=by rw[cm,a]at b
eA a:=List.mem_filter.mp a
eB:=g8<=1048576
eC:=g' X G a
fY a b c:=jF (a b) c
eD a:=WData.weightAll a
eF:=g1 "list"
eG:=a9 (cp b)
eH a b c:=(a).b (fA c)
eI a:=List.toArray a
eJ a b c:=∃a:a0,∃x1:b,c
eK a:=a! a ((·.1))
fZ:=ec ah
eM:=ec (Option ah)
eN:=tr t bb
eO a b:=Well P h a b
eP:=fw P w H h
eQ:=vs.map toV
eR:=bm Obj
eS:=oA K xs fs
eT a b c:=λ a b c=>bh
eV:=aj->aH
eW a:=by simp[a]
eX:=ao Key
f0:=ps.zip us
eY:=.cZ b
eZ:=Ok w cs
e6:=.tup xs
e7:=J 371
e8 a:=λ v H'=>a
e9:=bk p
e_:=qO h H
e!:=bk a
e?:=.inr x
fb:=co k c
fc:=hf.2 q
fe:=b∉ex
f1:=YP w h
fg a:=.inr a
fh:=Fp ar q
fj:=f p q
fk:=x::xs
fo:=GA h H
fp:=a::as
fq:=zD h2
fr:=hs.2
ft:=ht.2
fu:=.iV o u
fv:=GO q
fx:=2*i
fy:=a+1
f2 a b c:=by rcases a with⟨b,u,rfl,e⟩|⟨c,u,rfl,e⟩
f3 a b c:=by obtain⟨a,rfl⟩:=b;exact #[_,c]
f4:=eb e
hG:=by apply jN
f5:=aY s₁.heap.get? b
hH a b:=ab (Codec.withinAll a b)
f6:=r.ret.enc fT cA r.f
f7 a b c:=jy a b c
f8 a:=a (jq h)
hI:=dz us.length
f9 a b c:=match s with|a _ _=>b|_=>c
f?:=by rw[jp];rfl
ga:=jq h
gb a b c:=∀(a:aB)(b:ac),c
ge a:=jF a (by decide)
gf:=iJ K cy A b
gg:=fA (gc l.2)
hJ a b c:=∀(a:ac)(b:aa)(n:ax),fs[i]?=Z f->c[i]?=Z n->mg n=Z b7
hL:=.seq aF.toArray n
gi a b c:=a! a λ p=>(p.1,b c p.2)
hN a:=PySem.call a vs
gk:=.FunctionDef
gl:=.Pass #[0,0,0,0]
gn:=.bytearray _
go:=.frozenset _
gp:=b4->Frag
gq:=bX k fJ
hP:=ao String
gr a:=by simp[a,ev]
gs:=λ _ _ _=>bh
gt:=ao I
gu:=tr t ad
gw:=K.In a7
gx:=.eh ds
gy:=nomatch e
gA:=dm b
gB:=.float _
gC:=.cv b
gD:=.obj _ _
gE:=.list ds
gG:=.dict _
gH:=.lst xs
gI a b d:=cD a _ b (Jx l c d)
gJ:=.set _
gK:=.str x
gL:=hf.1 q
gM:=Hx K
hQ a b c:=f1->dA h->cF->mg a=Z bk fa->∃fd:dn,(∀(s:aT)(us:av),hI->et fd dE us f0)/\∀a7:ai,dA a7->eo->ej r.prog w c1 mg a7 b k fa fd ps c
hR b c d:=er b ap (bz (c "RULES") a/\(∀H,bF a (fs.map V.ref))/\g2=28/\hJ i f d)
hT:=hj dX.boundNames.contains
hU:=hj startupNames.contains
hW a b c:=TablesWhole.wS dl J cx a b&&cE c
hX a:=d_ dl cU em cU [] [] cU a
h5 b:=fT fM b
h6 a b c:=d_ dl a em b [] [] bO c
h7:=specDef dX je PySem.Challenge.fa_brokenlinesdesk_s01_answers.length
h8:=PySem.Challenge.fa_brokenlinesdesk_s01_answers.all Codec.fits
h9 a:=a&&PySem.Challenge.fr_brokenlinesdesk_s01_answers.ok
h_ a:=fY PySem.W.length_le_weightAllW a z2
h! b c d:=bz (b "FIRST_NAMES") a/\(∀H,bF a [bk t0,.ref t1,.ref t2])/\(∀H,bF c ([90,122,122,122].map vN))/\(∀H,bF t1 ([90,121,121,121].map vN))/\∀H,bF d ([90,105,110,104].map vN)
h? a:=a! (a:hP) jP
ia:=dB "__init__"
ib a b c:=by cases x with|a ho b=>exact #[_,_,rfl,c,b9]
ic a:=by obtain⟨v,vs,rfl,x1,x2⟩:=Zs x;have q:az ll d/\eu:=eb a
id:=fV jH
ie:=fW jH
ig b c d:=b->hH cA a->ab fT cA r.asked->c->d
ii a:=by have a:=eb e
ij a:=c3 g4/\c4/\a
ik a b c:=by rw[hG];intro a hb;have:=b;rw[c,List.getElem?_cons_succ]
il:=by rw[List.size_toArray];exact h1
io a:=ab (gP dl a)
iq:=by rw[List.length_map];exact h1
ir a:=az jj a
it a:=by rw[e]at q;exact d? a (by decide)
iu a d e:=by obtain⟨a,m,d⟩:=List.any_eq_true.mp h;exact XY b (o c e)
iv b c d:=_R H a b\/∃(c:Obj)(aF:fZ)(n:ac),d
ix:=ab (PySem.W.makesIn K C)
iy:=(fE q).symm
iz b c d:=∃(aF:av)(b:Obj)(c:ac),dF aF/\dC/\o.cls=d/\en hL
iA:=dz r.args.length
iB a b c:=by obtain⟨a,mx,ox⟩:=h;exact #[b,c _ mx,ox]
iC a:=az WData.layableAll a
iD a:=ab (jB K a)
iE a b c:=∀{l:a}{vs:av},ab (b l vs)->bN (cY c) vs
iF a b:=g0 (λ a=>b)
iG a b c:=by intro vs e;cases a with|nil=>exact a4|bc b c=>cases e
iH a b c:=by obtain⟨as,hr⟩:=g7 a b ds _ aF ha rv;exact #[_,c ho hc hd hr]
iI a:=List.mem_append.mpr a
iK a:=jN a
iL:=d.params.defaults=[]
iM:=b4->ag
iN a:=ju a
iO:=c3 xs.length
iP a b c:=PySem.W.WalkOS a loose XP b c d [] (λ f vs=>hN f)
iQ:=Int.ofNat_le.mpr h
iR a b c:=a/\b/\en (.seq aF n)/\c3 ed/\c
iS:=g0 h
iT:=aY cp a
iU a:=fD a
iW:=fV vs.map
iX:=fW vs.map
iY:=iJ K cy A
iZ:=ns.map WData.int
i3 a b c:=∀a:ax,b≠"__name__"->c x=bootBuiltins x
i4:=r.wellSaid=ad
i5:=AllBare s'.gens
i6:=ao g_
i7 a:=(a).map Int.toNat
i9:=gO 1
i_:=Value.int i t
i' a:=by simpa using a
i! a:=autoParam a ZY._auto_1
i? b c d:=by rw[fX a b9 b];obtain⟨h2,hs⟩:=c KX ar hu ho;exact .d hs (Em KX ar ds _ b9 p h2)
ja:=ns.map V.int
jb:=cp b
}
set_option Elab.async false
set_option linter.all false
set_option maxRecDepth 100000
namespace _P
open aQ cT bg
def z:={
dX.2:a6:=jc
alO:az namesResolve dX:=aL
aov:ab (noRoadLSs {strict:=!(importedModules bZ).all cThrough.contains,foot:=ak,bare:=(["vars","dir","locals"]:ca).filter (readsOut dX bZ)} bZ):=aL
aHc:ab (namesMeet dX bZ λ _ n=>attrL n):=aL
aLn:ab (sreFenced dX.main&&((jd bZ).isEmpty||lookedIntoSs (jd bZ) bZ)):=aL
agv:ab (dX.boundNames.all λ n=>!worldNames.contains n):=aL
aD4:ab (hT&&!hU&&h7):=aL
aIK:ab h9 h8:=aL
aD6:PySem.Challenge.rw_brokenlinesdesk_s01_answers.wellSaid=ad:=by have f:=aD4;have g:=aIK;rw[ey cm f];rw[cm]at g;(have h:az gN dX:=by unfold gN;rw[aLn,alO,agv,aov,aHc];rfl);show ab h9 (gN dX&&hT&&!hU&&h7&&h8);rw[h,f.1.1,f.1.2,f.2,g.1,g.2];rfl
}
section _P
namespace _P
open aQ
def z:={
Zc(J:d9)(cx:jf)(sc:d9):∀(a b:gt),cE d8=(cE a&&cE b)|[],b=>rfl|s::a,b=>by have ih:=Zc J cx sc a b;show hW sc s d8=(hW sc s a&&cE b);rw[ih,Bool.and_assoc]
R5(J:d9)(cx:jf)(sc:d9):∀(k:ac)(l:gt),l.length<=47*k->(∀i,i<k->ab cE ((l.drop (47*i)).take 47))->ab cE l|0,l,hl,_=>by have:l=[]:=List.eq_nil_of_length_eq_zero (by omega);rw[aS];rfl|k+1,l,hl,h=>by have h0:=h 0 (gO _);rw[Nat.mul_zero,List.drop_zero]at h0;(have ih:=R5 J cx sc k (l.drop 47) (by rw[List.length_drop];omega) λ i hi=>by have:=h cj (by omega);rw[List.drop_drop,show 47+47*i=47*cj by omega];exact aS);rw[<-List.take_append_drop 47 l,Zc,h0,ih];rfl
amk(m:Module)(h1:d_ jh bO em bO [] [] bO m.body=[])(h2:ir bO)(h3:ab h6 bO bO m.body):io m:=by unfold gP;rw[h1];show ab (ad&&(jj bO&&di h6 bO bO m.body));rw[h2,h3];rfl
aqq(p:a6)(h:io p.main)(h1:p.modules=[])(h2:p.parses=[])(h3:p.harvested=[]):p.tablesWhole=ad:=by unfold Program.tablesWhole TablesWhole.wProgram;rw[h1,h2,h3];show ab di (gP dl p.main);rw[h];rfl
um.2(i:ac):aH:=hX ((dX.main.body.drop (47*i)).take 47)
aLi:d_ jh cU em cU [] [] cU bZ=[]:=aL
aBV:ir cU:=aL
aHV:ab (um 0):=aL
aDc:ab (um 1):=aL
aAO:ab (um 2):=aL
auX:ab (um 3):=aL
as6:ab (um 4):=aL
aGz:ab (um 5):=aL
asF:ab (um 6):=aL
apg:ab (um 7):=aL
arq:dX.main.body.length<=47*8:=aL
aCr:ab hX bZ:=R5 _ _ _ 8 _ arq λ i hi=>match i,hi with|0,_=>aHV|1,_=>aDc|2,_=>aAO|3,_=>auX|4,_=>as6|5,_=>aGz|6,_=>asF|7,_=>apg
aFY:PySem.Challenge.rw_brokenlinesdesk_s01_answers.prog.bare:=#[rfl,rfl,rfl,rfl,rfl,aqq dX (amk dX.main aLi aBV aCr) au au au]
}
section _P
namespace yn
section yn
namespace _B
section _B
namespace Ch
section Ch
namespace _H
section _H
namespace _L
section _L
namespace _M
section _M
namespace _E
section _E
namespace _Z
section _Z
namespace _X
section _X
namespace _P
section _P
namespace aQ
section aQ
namespace _R
section _R
namespace _W
section _W
def z:={
ZY(h:am:=by decide+kernel):am:=h
A7(h:am:=by first|rw[cJ au]|rw[bI au]|assumption):am:=h
c8(h:am:=by decide):am:=h
gv(h:am:=by intro _;rfl):am:=h
aw(h:am:=by rfl):am:=h
Ei(h:am:=by with_unfolding_all rfl):am:=h
wD(h:am:=by first|exact Or.inl au|exact fz (Or.inl au)|exact fz (fz au)):am:=h
kY(h:am:=by exact gQ au):am:=h
oG(h:am:=by intro _ _;rfl):am:=h
sR(h:am:=by first|exact Or.inl au|exact fz au):am:=h
sL(h:am:=by first|rw[cJ au]|rw[bI au]):am:=h
aLF(h:am:=by exact #[rfl,rfl,rfl,rfl]):am:=h
agX(h:am:=by intros;rfl):am:=h
}
namespace _Z
variable{w:aO}{x y:aj}{l q:L}{a b:A}
inductive T
 |v(i:ac)
 |n(k:ac)
 |a(s t:T)
 |s(s t:T)
 |m(k:ac)(t:T)
 |u(t:T)(k:ac)
 |g(t:T)
 |c(t:T)
 |o(t:T)
 |mi(s t:T)
 |ma(s t:T)
 |p(b k:ac)
def z:={
d.1(r:aE)(z:aB):T->ac×aj|.v i=>(r.getD i 0,z.getD i 0)|.n k=>(k,b?)|aG a=>(du.1+a?,bB+aZ)|aG s=>(du.1 - a?,bB - aZ)|.m k t=>(k*a?,b?*aZ)|.u t k=>(b6.1*k,aZ*b?)|.g t=>(0, -b6.2)|.c t=>(0,(b6.1:aj))|.o t=>(b6.2.toNat,0)|aG mi=>(min bJ a?,min bB aZ)|aG ma=>(max bJ a?,max bB aZ)|.p b k=>(b^k,fA b^k)
L.2:=aj×aB
ev.1(w:aO):ac->aB->aj|_,[]=>0|k,c::cs=>c*w k+ev w (k+1) cs
val.1(w:aO)(l:L):aj:=l.1+ev w 0 l.2
add.1:aB->aB->aB|[],b=>b|cS,[]=>cS|cS,y::b=>(x+y)::add a b
pl.1(p q:L):L:=(p.1+q.1,add p.2 q.2)
sc.1(k:aj)(p:L):L:=(k*p.1,a! p.2 ((k * ·)))
mn.1(p q:L):L:=pl p (sc (-1) q)
un.1:ac->aB|0=>[1]|i+1=>0::un i
aar(w:aO):∀(a b:aB)(k:ac),ev w k (add a b)=ev w k a+ev w k b|[],b,k=>gr add|cS,[],k=>gr add|cS,y::b,k=>by rw[add,ev,ev,ev,aar w a b,Int.add_mul];omega
P4(w:aO)(c:aj):gb a k (ev w k (a.map (c * ·))=c*ev w k a)|[],k=>eW ev|cS,k=>by rw[gR,ev,ev,P4 w c a,gS,jl]
HR(w:aO):∀(i k:ac),ev w k (un i)=w (k+i)|0,k=>gr un|i+1,k=>by rw[un,ev,HR w i,jm,gT];congr 1;omega
Dt(w:aO)(p q:L):aU (pl p q)=bd+bD:=by unfold val pl;rw[aar];dsimp only;omega
BL(w:aO)(k:aj)(p:L):aU (sc k p)=k*bd:=by unfold val sc;rw[P4,gS]
ip(w:aO)(p q:L):aU bL=bd - bD:=by rw[mn,Dt,BL];omega
G.2:=ao (be×L)
cr.1(A B:G)(f:L->L->G):G:=A.flatMap λ p=>B.flatMap λ q=>a! (f p.2 q.2) λ r=>(p.1++(q.1++r.1),r.2)
nl.1:L:=(0,[])
tr.1:T->aH->G|.v i,b=>[([],(0,un (bif b then 2*i else 2*i+1)))]|.n k,_=>[([],(b?,[]))]|aG a,b=>cr cQ b cO bf [([],pl p q)]|aG s,ad=>cr cQ ad gu bf [([bL],bL),([cR],nl)]|aG s,false=>cr cQ bb eN bf [([],bL)]|.m k t,b=>gi cO sc b?|.u t k,b=>gi cO sc b?|.g t,ad=>[([],nl)]|.g t,false=>gi eN sc (-1)|.c t,ad=>[([],nl)]|.c t,false=>gu|.o t,ad=>(eN).flatMap λ p=>[(p.2::p.1,p.2),(sc (-1) p.2::p.1,nl)]|.o t,false=>[([],nl)]|aG mi,b=>cr cQ b cO bf [([cR],p),([bL],q)]|aG ma,b=>cr cQ b cO bf [([cR],q),([bL],p)]|.p b k,_=>[([],(dw (b^k),[]))]
Ok.1(w:aO)(cs:be):Prop:=∀c∈cs,0<=aU c
Gd.1(w:aO)(A:G)(x:aj):Prop:=∃p∈A,Ok w p.1/\aU p.2=x
Ok.nil:Ok w []:=λ _ h=>nomatch h
Ok.cons{w:aO}{c:L}{cs:be}(h:0<=aU c)(k:eZ):Ok w (c::cs):=λ x m=>by cases m with|head=>exact h|tail _ m=>exact k x m
Ok.app{a b:be}(h:Ok w a)(k:Ok w b):Ok w d8:=λ x m=>(jn m).elim (h x) (k x)
Rf(w:aO):aU nl=0:=rfl
qH{A B:G}{f:L->L->G}{z:aj}(hA:Gd w A x)(hB:Gd w B y)(h:∀p q:L,bd=x->bD=y->Gd w fj z):Gd w (cr A B f) z:=by obtain⟨p,mp,op,vp⟩:=hA;obtain⟨q,mq,oq,vq⟩:=hB;obtain⟨r,mr,or,vr⟩:=h p.2 q.2 vp vq;exact #[_,dJ #[p,mp,dJ #[q,mq,dQ r mr]],op.app (oq.app or),vr]
Gd.one(h:aU l=x):Gd w [([],l)] x:=#[_,List.mem_singleton.mpr au,a4,h]
Gd.hd{c:L}{B:G}(h:0<=aU c)(h2:aU l=x):Gd w (([c],l)::B) x:=#[_,List.Mem.head _,aW h a4,h2]
Gd.tl{p:be×L}{B:G}(h:Gd w B x):Gd w (p::B) x:=by obtain⟨q,m,o,v⟩:=h;exact #[q,.tail _ m,o,v]
Gd.sc{w:aO}{A:G}{x:aj}(k:aj)(h:Gd w A x):Gd w (A.map λ p=>(p.1,_Z.sc k p.2)) (k*x):=by obtain⟨p,m,o,v⟩:=h;exact #[_,dQ p m,o,by rw[BL,v]]
wt.1(r:aE)(z:aB)(k:ac):aj:=if k%2=0 then dd (r.getD (k/2) 0)else z.getD (k/2) 0
ZJ(r:aE)(z:aB)(i:ac):a8 wt fx=dd (r.getD i 0):=by unfold wt;rw[d! (Nat.mul_mod_right 2 i),Nat.mul_div_cancel_left i i9]
wt1(r:aE)(z:aB)(i:ac):a8 wt (fx+1)=z.getD i 0:=by unfold wt;rw[fB (by rw[Nat.mul_add_mod];decide),Nat.mul_add_div i9];rfl
AM{a b:aj}(hx:x=b)(hy:y=a)(h:a<=b):0<=x - y:=by rw[hx,hy];exact Int.sub_nonneg_of_le h
yr{a b:ac}(hx:x=b)(hy:y=a)(h:a<=b):0<=x - y:=AM hx hy iQ
gm(r:aE)(z:aB)(t:T):Gd d7 gu (b6.1:aj)/\Gd d7 eN aZ:=by induction t with|v i=>exact #[.one (by show 0+ev _ 0 (un fx)=_;rw[HR,gU,ZJ,gT];rfl),.one (by show 0+ev _ 0 (un (fx+1))=_;rw[HR,gU,wt1,gT];rfl)]|n k=>exact #[.one (by show b?+0=_;rw[f?]),.one (by show b?+0=_;rw[f?])]|a s t hs ht=>exact #[b8 hs.1 ht.1 (.one (by rw[Dt,hp,hq];exact(Int.natCast_add _ _).symm)),b8 fr ft (.one (by rw[Dt,hp,hq];rfl))]|s s t hs ht=>refine #[b8 hs.1 ht.1 ?_,b8 fr ft (.one (by rw[ip,hp,hq];rfl))];show Gd _ _ dd (du.1 - a?);by_cases h:a?<=bJ;(.exact .hd (by rw[c_ hp hq h]) (by rw[ip,hp,hq];exact(Int.ofNat_sub h).symm));.exact .tl (.hd (by rw[c_ hq hp ga]) (by rw[Rf,f8 Nat.sub_eq_zero_of_le];rfl))|m k t h=>exact #[by have:=eH h.1 sc k;exact aS,eH h.2 sc k]|u t k h=>refine #[?_,?_];(.have:=eH h.1 sc k;rw[js]at aS;exact aS);.have:=eH h.2 sc k;rw[js]at aS;exact aS|g t h=>exact #[.one au,by have:=h.2.sc (-1);rw[jt]at aS;exact aS]|c t h=>exact #[.one au,h.1]|o t h=>refine #[?_,.one au];obtain⟨p,m,o,v⟩:=h.2;show Gd _ _ dd b6.2.toNat;by_cases h:0<=aZ;(.exact #[_,dJ #[p,m,cc],aW (by rw[v];exact h) o,by rw[v];exact(ju h).symm]);.exact #[_,dJ #[p,m,.tail _ (.head _)],aW (by rw[BL,v,jt];exact Int.neg_nonneg_of_nonpos c9) o,by rw[Rf,Int.toNat_of_nonpos c9];rfl]|mi s t hs ht=>refine #[b8 hs.1 ht.1 ?_,b8 fr ft ?_];(.show Gd _ _ dd (min bJ a?);by_cases h:bJ<=a?;(.exact .hd (by rw[c_ hq hp h]) (by rw[hp,Nat.min_eq_left h]));.exact .tl (.hd (by rw[c_ hp hq ga]) (by rw[hq,f8 Nat.min_eq_right])));.show Gd _ _ (min bB aZ);by_cases h:bB<=aZ;(.exact .hd (by rw[ip];exact AM hq hp h) (by rw[hp,Int.min_eq_left h]));.exact .tl (.hd (by rw[ip];exact AM hp hq c9) (by rw[hq,Int.min_eq_right c9]))|ma s t hs ht=>refine #[b8 hs.1 ht.1 ?_,b8 fr ft ?_];(.show Gd _ _ dd (max bJ a?);by_cases h:bJ<=a?;(.exact .hd (by rw[c_ hq hp h]) (by rw[hq,Nat.max_eq_right h]));.exact .tl (.hd (by rw[c_ hp hq ga]) (by rw[hp,f8 Nat.max_eq_left])));.show Gd _ _ (max bB aZ);by_cases h:bB<=aZ;(.exact .hd (by rw[ip];exact AM hq hp h) (by rw[hq,Int.max_eq_right h]));.exact .tl (.hd (by rw[ip];exact AM hp hq c9) (by rw[hp,Int.max_eq_left c9]))|p b k=>exact #[.one (by show dw (b^k)+0=_;rw[f?]),.one (by show dw (b^k)+0=_;rw[jp];exact Int.natCast_pow b k)]
}
inductive F
 |le(s t:T)
 |lt(s t:T)
 |eq(s t:T)
 |zle(s t:T)
 |zlt(s t:T)
 |zeq(s t:T)
 |no(f:F)
 |an(f g:F)
 |or(f g:F)
 |im(f g:F)
 |fi(f g:F)
 |ff
def z:={
D.1(r:aE)(z:aB):F->Prop|aG le=>bJ<=a?|aG lt=>bJ<a?|aG eq=>bJ=a?|aG zle=>bB<=aZ|aG zlt=>bB<aZ|aG zeq=>bB=aZ|.no f=>¬br|bt an=>br/\a8 D g|bt or=>br\/a8 D g|bt im=>br->a8 D g|bt fi=>br↔a8 D g|.ff=>bh
A.2:=ao be
pr.1(a b:A):A:=a.flatMap λ x=>b.map λ y=>x++y
at_.1(s t:T)(b:aH)(f:L->L->ao be):A:=eK (cr cQ b cO (bf a! fj λ c=>(c,nl)))
m1.1(p:L):L:=(p.1 - 1,p.2)
Gg.1(p q:L):aH->A|ad=>[[cR]]|false=>[[m1 bL]]
rj.1(p q:L):aH->A|ad=>[[m1 cR]]|false=>[[bL]]
DC.1(p q:L):aH->A|ad=>[[cR,bL]]|false=>[[m1 cR],[m1 bL]]
al.1:F->aH->A|aG le,b=>cM ad bf (Gg p q b)|aG lt,b=>cM ad bf (rj p q b)|aG eq,b=>cM ad bf (DC p q b)|aG zle,b=>cM bb bf (Gg p q b)|aG zlt,b=>cM bb bf (rj p q b)|aG zeq,b=>cM bb bf (DC p q b)|.no f,b=>al f (!b)|bt an,ad=>cN dc ad|bt an,false=>cK++al g bb|bt or,ad=>dc++al g ad|bt or,false=>cN cK bb|bt im,ad=>cK++al g ad|bt im,false=>cN dc bb|bt fi,ad=>cN dc ad++cN cK bb|bt fi,false=>cN dc bb++cN cK ad|.ff,ad=>[]|.ff,false=>[[]]
Hs.1(w:aO)(a:A):Prop:=∃cs∈a,eZ
Hs.pr{w:aO}{a b:A}(h:a5 a)(k:a5 b):a5 (_Z.pr a b):=by obtain⟨x,mx,ox⟩:=h;obtain⟨y,my,oy⟩:=k;exact #[_,dJ #[x,mx,dQ y my],ox.app oy]
Hs.inl(h:a5 a):a5 d8:=by rw[iB x x List.mem_append_left]
Hs.inr(h:a5 b):a5 d8:=by rw[iB x x List.mem_append_right]
m6{s t:T}{b:aH}{f:L->L->A}(hA:Gd w cQ b x)(hB:Gd w cO y)(h:∀p q:L,bd=x->bD=y->a5 fj):a5 cM b f:=by obtain⟨p,mp,op,_⟩:=qH (f:=bf a! fj λ c=>(c,nl)) (z:=0) hA hB a' p q (by obtain⟨c,mc,oc⟩:=h p q hp hq;exact #[_,dQ c mc,oc,rfl]);exact #[_,dQ p mp,op]
Gn(w:aO)(p:L):aU (m1 p)=bd - 1:=by unfold val m1;dsimp only;omega
GN{p:L}:(bd<=bD->a5 (Gg p q ad))/\(¬bd<=bD->a5 (Gg p q bb)):=#[λ h=>#[_,cc,aW (by rw[ip];omega) a4],λ h=>#[_,cc,aW (by rw[Gn,ip];omega) a4]]
DQ{p:L}:(bd<bD->a5 (rj p q ad))/\(¬bd<bD->a5 (rj p q bb)):=#[λ h=>#[_,cc,aW (by rw[Gn,ip];omega) a4],λ h=>#[_,cc,aW (by rw[ip];omega) a4]]
FT{p:L}:(bd=bD->a5 (DC p q ad))/\(¬bd=bD->a5 (DC p q bb)):=by refine #[λ h=>#[_,cc,aW (by rw[ip];omega) (.bc (by rw[ip];omega) a4)],λ h=>?_];by_cases k:bd<bD;(.exact #[_,cc,aW (by rw[Gn,ip];omega) a4]);.exact #[_,.tail _ (.head _),aW (by rw[Gn,ip];omega) a4]
aLp(r:aE)(z:aB)(f:F):(br->Hs d7 dc)/\(¬br->Hs d7 cK):=by induction f with|le s t=>rw[c6 h (m6 bp s bp t a' p q (GN.1 (by rw[bq,iQ]))) (m6 bp s bp t a' p q (GN.2 (by rw[bq,λ k=>h (Int.ofNat_le.mp k)])))]|lt s t=>rw[c6 h (m6 bp s bp t a' p q (DQ.1 (by rw[bq,Int.ofNat_lt.mpr h]))) (m6 bp s bp t a' p q (DQ.2 (by rw[bq,λ k=>h (Int.ofNat_lt.mp k)])))]|eq s t=>rw[c6 h (m6 bp s bp t a' p q (FT.1 (by rw[bq,da Nat.cast h]))) (m6 bp s bp t a' p q (FT.2 (by rw[bq,λ k=>h (Int.ofNat.inj k)])))]|zle s t=>rw[c6 h (m6 bo s bo t a' p q (GN.1 (by rw[bq,h]))) (m6 bo s bo t a' p q (GN.2 (by rw[bq,h])))]|zlt s t=>rw[c6 h (m6 bo s bo t a' p q (DQ.1 (by rw[bq,h]))) (m6 bo s bo t a' p q (DQ.2 (by rw[bq,h])))]|zeq s t=>rw[c6 h (m6 bo s bo t a' p q (FT.1 (by rw[bq,h]))) (m6 bo s bo t a' p q (FT.2 (by rw[bq,h])))]|no f h=>rw[c7 k (h.2 k) (h.1 (gX k))]|an f g hf hg=>refine #[λ k=>(hf.1 k.1).pr (hg.1 k.2),λ k=>?_];by_cases q:br;(.exact(hg.2 λ y=>k #[q,y]).inr);.exact(fc).inl|or f g hf hg=>rw[c7 k (k.elim cP (hf.1 x).inl cP (hg.1 x).inr) ((hf.2 λ x=>k (.inl x)).pr (hg.2 λ x=>k fg x))]|im f g hf hg=>by_cases q:br;(.rw[c7 k (hg.1 (k q)).inr ((gL).pr (hg.2 λ y=>k λ _=>y))]);.rw[c7 k (fc).inl (k λ y=>d? y q).elim]|fi f g hf hg=>by_cases q:br;(.rw[c7 k ((gL).pr (hg.1 (k.1 q))).inl ((gL).pr (hg.2 λ y=>k #[λ _=>y,λ _=>q])).inl]);.rw[c7 k ((fc).pr (hg.2 λ y=>q (k.2 y))).inr ((fc).pr (hg.1 (gX λ y=>k #[cP (d? x q),λ x=>d? x y]))).inr]|ff=>exact #[λ k=>k.elim,λ _=>#[_,cc,a4]]
neg.1:eV|.negSucc _=>ad|_=>false
O0.1:eV|.ea 0=>ad|_=>false
azl(h:az O0 x):x=0:=by match x,h with|.ea 0,_=>rfl
bad.1(l:L):aH:=neg l.1&&l.2.all O0
gc.1:aB->ac|[]=>0|cS=>Nat.gcd x.natAbs (gc a)
nm.1(l:L):L:=bif gY 2 (gc l.2)&&l.2.all cP (gg*(x/gg)==x)then(l.1/gg,a! l.2 ((· / Int.ofNat (gc l.2))))else l
co.1(k:ac)(l:L):aj:=l.2.getD k 0
pos.1:eV|.ea (_+1)=>ad|_=>false
el.1(k:ac)(cs:be):be:=gZ (λ c=>!(neg fb||pos fb))++(gZ λ c=>pos fb).flatMap λ p=>a! (gZ λ c=>neg fb) λ q=>nm (pl (sc (-(co k q)) p) (sc (co k p) q))
fm.1:ac->be->aH|0,cs=>cs.any bad|k+1,cs=>cs.any bad||fm k (el k cs)
ab9(h:az neg x):x<0:=by cases x with|ea n=>cases h|negSucc n=>exact Int.negSucc_lt_zero n
aEE(h:az pos x):0<x:=by match x,h with|.ea (n+1),_=>exact Int.natCast_pos.mpr (gO n)
XY(h:az bad l)(k:0<=aU l):bh:=by obtain⟨h1,h2⟩:=eb h;(have h3:gb a i (az a.all O0->ev w i a=0):=by intro a;induction a with|nil=>exact λ _ _=>rfl|bc x a ih=>intro i e;rw[jv]at e;obtain⟨e1,e2⟩:=f4;rw[ev,ih _ e2,azl e1,jm];rfl);have:=ab9 h1;unfold val at k;rw[h3 _ _ h2]at k;omega
Z3(h:0<=aU l):0<=aU (nm l):=by unfold nm;generalize hg:gc l.2=g;cases e:(gY 2 g&&l.2.all cP (cI*(x/cI)==x))with|false=>exact h|ad=>obtain⟨h1,h2⟩:=f4;have h1:=gQ h1;(have h3:gb a i (ab (a.all cP (cI*(x/cI)==x))->ev w i a=cI*ev w i (a.map (· / Int.ofNat g))):=by intro a;induction a with|nil=>intro _ _;exact(Int.mul_zero _).symm|bc x a ih=>intro i e;rw[jv]at e;obtain⟨e1,e2⟩:=f4;rw[gR,ev,ev,ih _ e2,gS,<-jl,eq_of_beq e1]);show 0<=l.1/cI+ev w 0 (l.2.map (· / Int.ofNat g));unfold val at h;rw[h3 _ _ h2]at h;(have hz:cI≠0:=λ e=>by cases e;omega);rw[<-Int.add_mul_ediv_left l.1 _ hz];exact Int.ediv_nonneg h (Int.natCast_nonneg g)
aiv{k:ac}{cs:be}(h:eZ):Ok w (el k cs):=by refine Ok.app (λ c m=>h c (eA m).1) λ c m=>?_;obtain⟨p,mp,m⟩:=List.mem_flatMap.mp m;obtain⟨q,mq,rfl⟩:=jw m;obtain⟨mp,hp⟩:=eA mp;obtain⟨mq,hq⟩:=eA mq;refine Z3 ?_;rw[Dt,BL,BL];have:=jx (gV (Int.neg_pos_of_neg (ab9 hq))) (h p mp);have:=jx (gV (aEE hp)) (h q mq);omega
adN{w:aO}:∀(k:ac){cs:be},ab (fm k cs)->eZ->bh|0,cs,h,o=>by rw[iu c b m]|k+1,cs,h,o=>by cases Bool.or_eq_true_iff.mp h with|inl h=>rw[iu c b m]|inr h=>exact adN k h (aiv o)
bs.1:ac->be|0=>[]|k+1=>(0,un (2*k))::bs k
adR(r:aE)(z:aB):∀k,Ok d7 (bs k)|0=>a4|k+1=>aW (by show 0<=0+ev _ 0 (un (2*k));rw[HR,gU,ZJ];omega) a8 adR k
ck.1(n:ac)(f:F):aH:=(cK).all λ cs=>fm (2*n+1) (bs n++cs.map nm)
ok{r:aE}{z:aB}{f:F}(n:ac)(h:i! (ck n f=ad)):br:=gX λ k=>by obtain⟨cs,m,o⟩:=(a8 aLp f).2 k;exact adN _ f7 h cs m ((a8 adR _).app λ c m=>by obtain⟨b,mb,rfl⟩:=jw m;exact Z3 (o b mb))
oR(r:aE)(z:aB)(f:F)(n:ac)(h:i! (ck n f=ad)):br:=ok n h
}
section _Z
section
open _Z _Z.T _Z.F
variable{x y:ac}
def z:={
aIO:x<=x+1+y:=Qw
}
section z
section
variable{a0 a1 a2 a3:Sort _}{C:db}{E:d1}
def z:={
gF{A:b'}{B:b'}{C:b'}{U:Prop}(h:eJ x0 a1 (∃x2:a2,aX A/\aX B/\aX C))(k:∀x0,∀x1,∀x2,aX A->aX B->aX C->U):U:=by obtain⟨x0,x1,x2,hA,hB,hC⟩:=h;exact k x0 x1 x2 hA hB hC
af{A:a0->Prop}{B:a0->Prop}(x0:a0)(hA:A x0)(hB:B x0):∃x0:a0,A x0/\B x0:=#[x0,hA,hB]
cD{A:db}{B:db}(x0:a0)(x1:a1)(hA:bu A)(hB:bu B):eJ x0 a1 (bu A/\bu B):=#[x0,x1,hA,hB]
jg{A:db}{B:db}{D:db}(x0:a0)(x1:a1)(hA:bu A)(hB:bu B)(hC:bu C)(hD:bu D):eJ x0 a1 (bu A/\bu B/\bu C/\bu D):=#[x0,x1,hA,hB,hC,hD]
oZ{A:b'}{B:b'}{C:b'}{D:b'}{E:b'}(x0:a0)(x1:a1)(x2:a2)(hA:aX A)(hB:aX B)(hC:aX C)(hD:aX D)(hE:aX E):∃x0:a0,∃x1:a1,∃x2:a2,aX A/\aX B/\aX C/\aX D/\aX E:=#[x0,x1,x2,hA,hB,hC,hD,hE]
B0{A:d1}{B:d1}{C:d1}{D:d1}(x0:a0)(x1:a1)(x2:a2)(x3:a3)(hA:bV A)(hB:bV B)(hC:C x0 x1 x2 x3)(hD:bV D)(hE:bV E):eJ x0 a1 (∃x2:a2,∃x3:a3,bV A/\bV B/\bV C/\bV D/\bV E):=#[x0,x1,x2,x3,hA,hB,hC,hD,hE]
}
section z
namespace _L
open aQ bP bg
variable{us:av}{i n j:ac}{Q:bE ah aT}{mg:aP}{a7:ai}{vs:aM}{κ:Type}{lo:aj}{l:Expr}{y:V}{bi:cL}
def z:={
Key.2:=Sum aj ax
qY.1:Key->ah->aH|.inl k,v=>Value.isInt k v|e?,v=>Value.isStrOf x v
aLG.1(w:aD):Key->aj|.inl k=>hashInt k|e?=>hashStr w x
rJ:∀{k:Key}{v:ah},ab (qY k v)->(∃i t,k=cV i/\v=i_)\/(∃x t,k=cW x/\v=Value.str x t)|.inl i,v,h=>by obtain⟨t,e⟩:=Value.isInt_shape (k:=i) (v:=v) h;rw[cJ (cD i t au e)]|e?,v,h=>by obtain⟨t,e⟩:=Value.isStrOf_shape (x:=x) (v:=v) h;rw[bI (cD x t au e)]
ajT(a b:aj):cC ((cV a:Key)=cV b)=(a==b):=by by_cases e:a=b;(.subst e;simp);.have h:¬(cV a:Key)=cV b:=λ q=>e (Sum.inl.inj q);rw[iS];exact(beq_eq_false_iff_ne.mpr e).symm
aEu(a b:ax):cC ((cW a:Key)=cW b)=cC (a=b):=by by_cases e:a=b;(.subst e;simp);.have h:¬(cW a:Key)=cW b:=λ q=>e (Sum.inr.inj q);rw[iS,g0 e]
aun(a:aj)(b:ax):cC ((cV a:Key)=cW b)=false:=iF q (nomatch q)
aBt(a:ax)(b:aj):cC ((cW a:Key)=cV b)=false:=iF q (nomatch q)
}
meta def f_(prog:a6)(w:aD):PySem.KeyKind prog w Key where is:=qY;hash:=aLG w;inj:=(λ v a b ha hb=>by rcases rJ ha with⟨i,t,rfl,rfl⟩|⟨x,t,rfl,rfl⟩;(.rw[f2 (rJ hb) j y];(.injection e with e1 _;rw[e1]);.exact gy);.rw[f2 (rJ hb) j y];(.exact gy);.injection e with e1 _;rw[e1]);byValue:=(λ k v h=>by rcases rJ h with⟨i,t,rfl,rfl⟩|⟨x,t,rfl,rfl⟩<;>rfl);pyHash:=(λ hv h=>by rcases rJ hv with⟨i,t,rfl,rfl⟩|⟨x,t,rfl,rfl⟩;(.exact wpAny_pyHash_int h);.exact wpAny_pyHash_str h);eqBool:=(λ hu hv h=>by rcases rJ hu with⟨i,t,rfl,rfl⟩|⟨x,t,rfl,rfl⟩;(.rcases rJ hv with⟨j,u,rfl,rfl⟩|⟨y,u,rfl,rfl⟩;(.rw[ajT]at h;exact wpAny_eqBool_int h);.rw[aun]at h;exact SeqAt.EqAt.int_str i t y u _ _ _ _ h);.rcases rJ hv with⟨j,u,rfl,rfl⟩|⟨y,u,rfl,rfl⟩;(.rw[aBt]at h;exact SeqAt.EqAt.str_int x t j u _ _ _ _ h);.rw[aEu]at h;exact wpAny_eqBool_str h);«strs»:=λ k x t v h=>by rw[f2 (rJ h) i y];(.exact gy);.injection e with e1 _;subst e1;cases v<;>rfl
inductive V where
 |cz
 |bl(b:aH)
 |aI(i:aj)
 |str(x:ax)
 |ji(b:ec UInt8)
 |rj(b:UInt64)
 |ref(a:aa)
 |ty(n:String)deriving DecidableEq
def z:={
cn.1:bE V ah|.cz,u=>u=Value.none|.bl b,u=>u=Value.bool b|dk,u=>∃t,u=i_|gK,u=>∃t,u=Value.str x t|.ji b,u=>∃t,u=Value.bytes b t|.rj b,u=>∃t,u=Value.float b t|dj,u=>u=Value.ref a|.ty n,u=>u=g1 n
bN.2:aM->av->Prop:=Paired cn
i8.1:bm V->bm ah->Prop|Z v,Z u=>cn v u|ak,ak=>am|_,_=>bh
KV.1:ao (κ×V)->ao (κ×ah)->Prop:=Paired λ(p:κ×V)(q:κ×ah)=>p.1=q.1/\cn p.2 q.2
kV.1:Key->V|.inl i=>dk|e?=>gK
}
inductive HO where
 |lst(xs:aM)
 |tup(xs:aM)
 |dK(aq:ao (Key×V))
 |dT(aq:ao (eX×V))
 |set(S:eV)(n:ac)
 |ins(C dx:aa)(fs:ao (ax×V))
 |own(x:aa)
 |xd(fs:ao (ax×V))
 |met(f x:aa)
 |hZ(lo hi:aj)
 |iV(o:Obj)(u:HO)
 |vD(ps:fZ)
 |ext(φ:ai->Prop)
def z:={
Hp.2:=aa->bm HO
}
section
variable(P:a6)(w:aD)
def z:={
fw.1(H:Hp)(h:ai)(a:aa):HO->Prop|.lst xs=>iO/\∃(aF:av)(n:ac),dF aF/\bH dv cls ek hL|.tup xs=>iO/\∃aF:av,dF aF/\IsTup h a aF.toArray|.dK aq=>c3 aq.length/\(a==sysModules)=false/\∃vs,KV aq vs/\h.DictOf bY f_ a vs|.dT aq=>c3 aq.length/\(a==sysModules)=false/\∃xs:ao (eX×aa×ah),Paired (λ(p:eX×V)(q:eX×aa×ah)=>p.1=q.1/\H q.2.1=Z (.tup (p.1.map kV))/\cn p.2 q.2.2) aq xs/\∃o es ep,dC/\o.ExactDict/\en (.dict es ep)/\es.toList=xs.map (entryOfKey (tupleKind bY f_))/\(xs.map (·.1)).Nodup|.set S n=>h.SetOf bY intKind a S n|.ins C dx fs=>H dx=Z (.own a)/\g2<=1000/\dx≠a/\bH (PySem.W.instObj C dx)/\∃mA,h.Ns1 dx mA/\(∀f,i8 (fs.lookup f) (mA f))/\PySem.Within mA (fs.map (·.1))|.own _=>∃o,dC|.xd fs=>∃mA,h.Ns1 a mA/\∀f,i8 (fs.lookup f) (mA f)|.hZ lo hi=>∃t u v,bH dv cls (.cX "range") (.fields eI [.aI lo t,.aI hi u,.aI 1 v])|.iV o u=>dC/\fw H h a u|.vD ps=>bH dv cls bG (.fields ps)|.met f x=>bH (PySem.W.methodObj b7 bk x)|.ext φ=>φ h/\(∃o,dC)/\∀h1 h2:ai,φ h1->(∀o,aY h1.get? a->aY h2.get? a)->φ h2
dS.1(H:Hp)(h:ai):Prop:=∀a o,aY H a->eP a o
}
section z
def z:={
_R.1(H:Hp)(a:aa)(u:HO):Prop:=H a=Z u\/∃o,H a=Z fu
_R.ok{P:a6}{w:aD}{H:Hp}{h:ai}{a:aa}{u:HO}(r:_R H a u)(x:d5):eP a u:=by rcases r with r|⟨o,r⟩;(.exact x a u r);.obtain⟨_,q⟩:=x a _ r;exact q
}
structure Un(fs ex:ap)(H H':Hp)(h h':ai):Prop where
 keep:bM o (b_->bK->b∉fs->fe->aY g3 b)
 slot:bM o (b_->bK->b∈fs->fe->∃sl,bW g3 {o with slots:=sl})
 free:bM o (b_->bK->fe->a9 (H' b))
 there:bM o (b_->fe->∃o',bW g3 o')
 oQ:bM xs (bW H e6->bW H' e6)
 oe:∀b o u,bW H fu->bW H' fu
 oU:bM ps (bW H (.vD ps)->∃more,bW H' (.vD (ps++more)))
def z:={
GA.1(h:ai)(H:Hp):ap:=(List.range jz).filter λ a=>(H a).isSome
qO.1(h:ai)(H:Hp):ai:=PySem.W.hideAll h fo
aCB(h:ai)(H:Hp):(e_).objs.size=jz:=PySem.W.hideAll_size _ _
avA{h:ai}{H:Hp}{b:aa}{o:Obj}(e:b_)(n:bK):aY (e_).get? b:=PySem.W.hideAll_get _ e λ hm=>by have q:ab (H b).isSome:=(eA hm).2;rw[n]at q;simp at q
amR{h:ai}{H:Hp}{b:aa}{o:Obj}(e:aY (e_).get? b):b_/\bK:=by have e':b_:=PySem.W.of_hideAll fo e;refine #[e',?_];cases q:H b with|ak=>rfl|bQ x=>have hm:b∈fo:=List.mem_filter.mpr #[List.mem_range.mpr (Heap.lt_size e'),eW q];have z:a9 ((e_).get? b):=PySem.W.hideAll_none fo hm;rw[z]at e;cases e
}
structure Mod(K:ag)(mg:aP)(a7:ai):Prop where
 zP:gw
 glob:eo
 blt:∃mb,base.Ns builtinsNs mb/\i3 x x mb
 nolimit:base.NoLimit
def z:={
nN.1(l:cL):ap:=l.filterMap (·.frame)
XK.2:=ah->c?->Hp->Prop
VK.2:=bE V Hp
aC.1(K:ag)(H:Hp)(a:aa)(xs:aM):Prop:=iv gH o (iT/\iR (o.cls=ek) (o.dict=ak) dF cq)
aJ.1(K:ag)(H:Hp)(a:aa)(xs:aM):Prop:=iv e6 o iR iT (o.cls=fP) dF cq
}
section
variable{H:Hp}{a:aa}{xs:aM}
def z:={
aC.of{K:ag}(h:H a=Z gH):aC K H a xs:=.inl (.inl h)
}
section z
structure dO(K:ag)(C:aa):Prop where
 pg:az (PySem.W.plainGet K C) Str.empty
 hd:ab (PySem.W.hasDictIn K C)
 po:ab (PySem.W.plainOver K C)
 sa:dB "__setattr__"=Z Z (.builtin "object.__setattr__")
def z:={
cb.1(K:ag)(C:aa)(f:ax):Prop:=dB f=Z ak
}
structure mY(K:ag)(C:aa)(m:ax)(f:aa):Prop where
 at_:dB m=Z cH
 fn:ew
 kp:c5
structure bX(k:ac)(A:Around):Prop where
 hd:A.handled=ak
 dp:A.depth+3*k+5<recursionLimit
 un:A.units+16*k+200<cLine
def z:={
Sp.2:=aM->Hp->bE VK XK
mE.2:=cL->Hp->aT->XK->bE ah aT
}
structure xl(P:a6)(w:aD)(K:ag)(mg:aP)(a7:ai)(A:Around)(bi:cL)(s:aT)(H:Hp):Prop where
 frames:A.frames=Z bi
 mod:Mod K mg a7
 bs:bM o (aY base.get? b->aY s.heap.get? b/\bK)
 pM:base.objs.size<=s.heap.objs.size
 lB:s.heap.FunFrames a7 bi
 tZ:∀b∈nN bi,bK
 aR:dS P w H s.heap
 bare:AllBare s.gens
def z:={
CE.1(bi:cL)(P:a6)(w:aD)(H:Hp)(s:aT)(Q:VK)(u:ah)(s':aT):Prop:=∃v H',s'.os=s.os/\i5/\Un (nN bi) [] H H' s.heap ee/\dS P w H' ee/\cn v u/\Q v H'
CR.1(CX:mE)(bi:cL)(P:a6)(w:aD)(H:Hp)(s:aT)(Q:VK)(E:XK)(r:Result)(s':aT):Prop:=match r with|.ok (.ret u)=>CE bi P w H s Q u s'|.ok _=>bh|.error e=>CX bi H s E e s'
}
structure ej(P:a6)(w:aD)(K:ag)(mg:aP)(a7:ai)(CX:mE)(k:ac)(f:aa)(fd:dn)(ps:ca)(sp:Sp):Prop where
 len:∀vs H Q E,sp vs H Q E->dz g4
 run:∀(A:Around)(bi:cL)(s:aT)(H:Hp)(b0:Args)(us:av)(vs:aM)(Q:VK)(E:XK),bX k A->bY xl K mg a7 A bi s H->et fd b0 f0->bN vs us->sp vs H Q E->codeAny bY model A (.call b7 b0) (CR CX bi P w H s Q E) s
section
variable{f C:aa}
structure Mk(K:ag)(C f:aa):Prop where
 makes:ix
 b3:ia=Z cH
 fn:ew
 kp:iD bk C
section z
section _L
namespace _L
open aQ bP bg
variable{x bR:ax}{st:I}{f:aa}{fd:dn}
def z:={
inClass.1(s:I)(j:ac):I:=match s with|.ClassDef _ _ _ body _ _ _ _ _ _ _=>body.getD j gl|_=>.Pass #[0,0,0,0]
jr.1(s:I):Arguments:=f9 (gk _ a _ _ _ _ _ _) a {posonlyargs:=[],b0:=[],vararg:=ak,kwonlyargs:=[],kw_defaults:=[],kwarg:=ak,defaults:=[]}
cu.1(s:I):gt:=f9 (gk _ _ b _ _ _ _ _) b []
aA.1(s:I):d9:=f9 (gk _ _ _ _ _ _ sc _) sc {kind:=.function,names:=[],isGenerator:=false,isCoroutine:=false}
eL.2:mE:=λ _ _ _ _ _ _=>bh
}
structure gd(K:ag)(x bR:ax)(st:I)(f:aa)(fd:dn):Prop where
 ex:∃(oc:ah)(od:c?)(kV doc pm:ah)(an:c?)(aK ct:ah)(rW:eM),fd=dP/\dL f fd rW/\dN
 kp:c5
section
variable{K:ag}
def z:={
Jx{oc:ah}{od an:c?}{rW:eM}{kV doc pm aK ct:ah}(l:dL f dP rW)(c:dN)(k:c5):gd K x bR st f dP:=#[#[oc,od,kV,doc,pm,an,aK,ct,rW,rfl,l,c],k]
}
section z
section _L
namespace _M
open aQ bP bg _L
def z:={
GI.1(mg:aP)(x:ax)(n:aj):Prop:=∃t,mg x=Z (.aI n t)
}
section _M
namespace _P
open aQ bP bg _L _M
def z:={
J.1(i:ac):I:=jD i gl
aN.2(K:ag)(mg:aP)(x:ax)(st:I):Prop:=∃f fd,mg x=Z b7/\gd K x x st f fd
gh.2(K:ag)(C:aa)(x q:ax)(st:I):Prop:=dU (mY K C x f) (gd K x) q
tJ.2(K:ag)(C:aa)(q:ax)(st:I):Prop:=dU (Mk K C f) (gd K "__init__") q
}
structure Gs(mg:aP):Prop where
 Xq:M "PROPERTIES" 0
 MAPS:M "MAPS" 1
 Rm:M "SEQUENCES" 2
 v7:M "COMBINING" 0
 Pk:M "GENERAL" 1
 tw:M "CLUSTER" 2
 sI:M "CONJUNCT" 3
 aKP:M "LINE" 6
 ab7:M "WIDTH" 7
 aCz:M "DIRECTION" 8
 Fw:M "BRACKET" 9
 aIB:M "SCRIPT" 10
 XI:M "DIGIT" 11
 MP:M "FLAGS" 13
 GH:M "CANONICAL" 0
 Ky:M "COMPATIBILITY" 1
 aip:M "UPPER" 2
 aDV:M "LOWER" 3
 aC7:M "TITLE" 4
 C2:M "FOLD" 5
 Tn:M "SIMPLE_FOLD" 6
 T5:M "MIRROR" 7
 OD:M "PARTNER" 8
 UQ:M "PROTOTYPE" 9
 MT:M "EXTENSIONS" 10
 N2:M "WEIGHTS" 11
 aLA:M "CONTRACTIONS" 0
 aDY:M "WORDS" 1
 aAR:M "WHOLES" 2
 CN:M "CN" 0
 MN:M "MN" 6
 MC:M "MC" 7
 ME:M "ME" 8
 PI:M "PI" 16
 PF:M "PF" 17
 CC:M "CC" 26
 CF:M "CF" 27
 Gf:M "LINKER" 1
 Cu:M "CONSONANT" 2
 DD:M "CONJUNCT_EXTEND" 3
 aHD:M "AMBIGUOUS" 1
 aMl:M "HALF" 2
 Tq:M "WIDE" 3
 Vw:M "FULL" 4
 aAo:M "NEUTRAL" 13
 aEr:M "UPPERCASE" 0
 ajk:M "LOWERCASE" 1
 aba:M "CASED" 2
 amD:M "ID_START" 7
 aLD:M "ID_PART" 8
 adj:M "IGNORABLE" 11
 yc:M "PICTOGRAPHIC" 12
 amd:M "MIRRORED" 13
 Ur:M "NEVER_COMPOSED" 15
 alS:M "SPARE" 16
 azF:M "LAST_SCALAR" 1114111
 Z6:M "FIRST_SURROGATE" 55296
 Q5:M "LAST_SURROGATE" 57343
 acy:M "FIRST_LEADING" 4352
 aLz:M "LAST_LEADING" 4370
 adb:M "FIRST_VOWEL" 4449
 ax3:M "LAST_VOWEL" 4469
 VU:M "BEFORE_TRAILING" 4519
 alY:M "LAST_TRAILING" 4546
 N5:M "FIRST_SYLLABLE" 44032
 aIM:M "LAST_SYLLABLE" 55203
 Pt:M "SYLLABLES_OF_VOWEL" 28
 Wq:M "SYLLABLES_OF_LEADING" 588
 ahC:M "PROPERTY_COUNT" 14
 aqY:M "MAP_COUNT" 15
 arT:M "SEQUENCE_COUNT" 3
 Nw:M "STEPS_MOST" 8
 VX:M "SCALARS_MOST" 18
 XX:M "XX" 0
 AI:M "AI" 1
 AK:M "AK" 2
 AL:M "AL" 3
 AP:M "AP" 4
 AS:M "AS" 5
 B2:M "B2" 6
 BA:M "BA" 7
 BB:M "BB" 8
 BK:M "BK" 9
 CB:M "CB" 10
 CJ:M "CJ" 11
 CL:M "CL" 12
 CM:M "CM" 13
 CP:M "CP" 14
 qM:M "CR_classes" 15
 EB:M "EB" 16
 EM:M "EM" 17
 EX:M "EX" 18
 GL:M "GL" 19
 H2:M "H2" 20
 H3:M "H3" 21
 HL:M "HL" 22
 HY:M "HY" 23
 ID:M "ID" 24
 IN:M "IN" 25
 IS:M "IS" 26
 JL:M "JL" 27
 JT:M "JT" 28
 JV:M "JV" 29
 qw:M "LF_classes" 30
 NL:M "NL" 31
 NS:M "NS" 32
 NU:M "NU" 33
 OP:M "OP" 34
 PO:M "PO" 35
 PR:M "PR" 36
 QU:M "QU" 37
 Vu:M "RI_classes" 38
 SA:M "SA" 39
 SG:M "SG" 40
 SP:M "SP" 41
 SY:M "SY" 42
 VF:M "VF" 43
 VI:M "VI" 44
 WJ:M "WJ" 45
 ZW:M "ZW" 46
 Eo:M "ZWJ_classes" 47
 jk:M "NONE" 0
 xP:M "CHANCE" 1
 zA:M "MUST" 2
 aAw:M "RING" 9676
 ajH:M "SOFT" 8208
 D2:M "NOTHING" (-1)
 agu:M "UNKNOWN_COST" 65536
 OL:M "NO_PIECE" (-1)
 uc:M "SILENT" (-1)
 Kd:M "CR_clusters" 1
 OW:M "LF_clusters" 2
 adf:M "CONTROL" 3
 acG:M "EXTEND_clusters" 4
 Tr:M "ZWJ_clusters" 5
 O_:M "RI_clusters" 6
 aj9:M "PREPEND" 7
 ap2:M "SPACING_MARK_clusters" 8
 L:M "L" 9
 V:M "V" 10
 T:M "T" 11
 LV:M "LV" 12
 Nn:M "LVT" 13
 TAB:M "TAB" 9
 DW:M "NOWHERE" (-1)
 af4:M "UNNAMED_SCRIPTS" 3
 JN:M "OTHER" 0
 EI:M "EXTEND_rules_31_to_41" 4
 aiV:M "ZWJ_rules_31_to_41" 5
 av8:M "SPACING_MARK_rules_31_to_41" 8
 MM:M "VOWEL" 10
 LR:M "VARIABLE" 31
 amM:M "SCRIPTS_END" 256
 aCe:M "NUMBERS_END" 65536
 aji:M "WALKED_MOST" 4096
 aAx:M "NAMES_MOST" 64
 adi:M "BREAK_ALL" 2
 UZ:M "KEEP_ALL" 3
 aH8:M "WORDS_ASKED" 4
 al3:M "EASTERN" 5
 ahP:M "SPLIT" 6
 aGY:M "STRICT" 0
 U7:M "LOOSE" 2
 Z_:M "KNOWN_BITS" 16255
 Mh:M "TOO_MUCH" (-6)
 ae0:M "BROKEN" (-5)
 Wp:M "WRONG" (-1)
 asO:M "BOOK_MOST" 8192
 P8:M "TEXT_MOST" 64
 awn:M "COLUMNS_MOST" 65535
 OJ:M "BOOK_CALL" 1
 Np:M "CHANCES_CALL" 2
 Js:M "WIDTH_CALL" 3
 Rt:M "FILL_CALL" 4
 awx:M "RAGGED_CALL" 5
 acb:M "MEASURE_CALL" 6
 xo:a9 (mg "all")
 zx:a9 (mg "any")
 Ye:a9 (mg "dict")
 cf:a9 (mg "len")
 azg:a9 (mg "list")
 LC:a9 (mg "max")
 gW:a9 (mg "range")
 ajG:a9 (mg "sum")
 xM:a9 (mg "tuple")
def z:={
acE.2:I:=J 1
X_.2:I:=J 71
Dy.2:I:=J 72
aaR.2:I:=J 73
Z5.2:I:=J 74
abD.2:I:=J 75
ZI.2:I:=J 76
RH.2:I:=J 77
acY.2:I:=J 78
Qp.2:I:=J 79
Fy.2:I:=J 86
Hq.2:I:=J 87
Ib.2:I:=J 88
xB.2:I:=J 89
zC.2:I:=aV 0
adS.2:I:=aV 1
WM.2:I:=aV 2
UB.2:I:=aV 3
n8.2:I:=aV 4
Tg.2:I:=aV 5
XO.2:I:=aV 6
RN.2:I:=aV 7
aeD.2:I:=aV 8
W'.2:I:=aV 9
Xe.2:I:=aV 10
TQ.2:I:=aV 11
FF.2:I:=aV 12
Ym.2:I:=aV 13
S2.2:I:=aV 14
aa8.2:I:=aV 15
Qh.2:I:=J 140
WU.2:I:=J 141
U6.2:I:=J 142
ZP.2:I:=J 143
Ha.2:I:=J 148
acQ.2:I:=J 149
E8.2:I:=J 150
Vn.2:I:=bw (J 155) 0
QT.2:I:=J 156
aa1.2:I:=J 157
aas.2:I:=J 158
Qs.2:I:=J 159
Hg.2:I:=J 160
acJ.2:I:=J 164
Vv.2:I:=J 165
V2.2:I:=J 166
T1.2:I:=J 167
Yy.2:I:=J 168
SR.2:I:=J 171
ZS.2:I:=J 172
SU.2:I:=J 173
abY.2:I:=J 174
RV.2:I:=J 175
aaE.2:I:=bw (J 176) 0
QW.2:I:=J 177
Zb.2:I:=J 178
aci.2:I:=J 179
VD.2:I:=J 180
aaH.2:I:=J 181
VR.2:I:=J 182
Wo.2:I:=J 183
aaC.2:I:=J 184
Uq.2:I:=J 185
RG.2:I:=J 186
WK.2:I:=J 187
aef.2:I:=J 188
X6.2:I:=J 189
TB.2:I:=J 190
Tv.2:I:=J 191
aa4.2:I:=J 192
U3.2:I:=J 193
Rx.2:I:=J 194
So.2:I:=J 195
WC.2:I:=J 196
Uc.2:I:=J 197
adC.2:I:=J 198
abL.2:I:=J 199
U9.2:I:=J 200
TU.2:I:=J 201
aei.2:I:=J 202
ZT.2:I:=J 203
aaJ.2:I:=J 204
Zl.2:I:=J 205
Vm.2:I:=J 206
V5.2:I:=J 207
UR.2:I:=J 208
Wj.2:I:=J 209
abb.2:I:=J 210
Yv.2:I:=J 212
Ff.2:I:=J 213
Yk.2:I:=J 228
T9.2:I:=J 229
acC.2:I:=J 230
qR.2:I:=bw (J 231) 0
WW.2:I:=J 232
UP.2:I:=J 233
VW.2:I:=J 234
YZ.2:I:=J 235
Xc.2:I:=J 236
D0.2:I:=J 237
ae6.2:I:=J 240
wg.2:I:=bw (J 241) 0
YD.2:I:=J 242
ZC.2:I:=J 243
aaM.2:I:=J 244
Gk.2:I:=J 247
Y2.2:I:=J 248
Xw.2:I:=J 249
Vs.2:I:=J 252
L5.2:I:=J 253
Kp.2:I:=J 254
T_.2:I:=J 255
JO.2:I:=J 256
Rr.2:I:=J 257
aff.2:I:=J 258
Xt.2:I:=J 259
Zx.2:I:=J 260
aa3.2:I:=J 261
abl.2:I:=J 262
Sq.2:I:=J 263
U4.2:I:=J 264
Uy.2:I:=J 265
Ul.2:I:=J 266
M_.2:I:=J 267
Zt.2:I:=J 268
ac5.2:I:=J 269
J5.2:I:=J 270
aeg.2:I:=J 271
Ht.2:I:=J 272
FJ.2:I:=J 280
acv.2:I:=J 281
T7.2:I:=J 282
ab2.2:I:=J 283
Wf.2:I:=J 284
Q1.2:I:=J 285
YK.2:I:=J 286
aaf.2:I:=J 287
P6.2:I:=J 288
UM.2:I:=J 289
abj.2:I:=J 290
YT.2:I:=J 291
adK.2:I:=J 292
acW.2:I:=J 293
PM.2:I:=J 294
Tj.2:I:=J 295
YE.2:I:=J 296
Tu.2:I:=J 297
YR.2:I:=J 298
RO.2:I:=J 299
aee.2:I:=J 300
IP.2:I:=J 301
PB.2:I:=J 302
FR.2:I:=J 303
afd.2:I:=J 305
Qk.2:I:=J 307
abS.2:I:=J 308
WG.2:I:=J 309
Z7.2:I:=J 310
ac6.2:I:=J 322
ae5.2:I:=J 323
acS.2:I:=J 324
Zy.2:I:=J 325
acT.2:I:=J 326
aeF.2:I:=J 327
Vc.2:I:=J 328
W1.2:I:=J 329
UW.2:I:=J 330
aaL.2:I:=J 331
WR.2:I:=J 332
UA.2:I:=J 333
Wt.2:I:=J 334
Ql.2:I:=J 335
F8.2:I:=J 336
ab1.2:I:=J 337
adO.2:I:=J 338
W6.2:I:=J 339
P5.2:I:=J 340
aai.2:I:=J 341
V1.2:I:=J 351
abm.2:I:=bw (J 352) 0
Zd.2:I:=J 360
Zq.2:I:=J 361
aaN.2:I:=b! 0
MJ.2:I:=b! 1
Zf.2:I:=b! 2
RB.2:I:=b! 3
Ro.2:I:=b! 4
QQ.2:I:=b! 5
US.2:I:=b! 6
W4.2:I:=b! 7
Td.2:I:=bw e7 0
adQ.2:I:=bw e7 1
ZO.2:I:=bw e7 2
Rb.2:I:=bw e7 3
Vk.2:I:=J 372
afm.2:I:=J 373
Oc.2:I:=J 374
Ov.2:I:=J 375
}
structure atq(K:ag)(C:aa):Prop where
 cl:ch
 wW:ae "parts"
 LZ:ae "map_rows"
 LD:ae "sequence_rows"
 P2:ae "name_count"
 ad6:ae "composing"
 Dc:ae "known_by_k"
 b3:cg "Book.__init__" zC
 MG:ay "records" "Book.records" adS
 ahR:ay "value" "Book.value" WM
 aDb:ay "has_flag" "Book.has_flag" UB
 aEf:ay "in_order" "Book.in_order" n8
 ayf:ay "row" "Book.row" Tg
 azC:ay "has_row" "Book.has_row" XO
 alN:ay "number_of" "Book.number_of" RN
 aMd:ay "canonical_step" "Book.canonical_step" aeD
 aBO:ay "taken_apart" "Book.taken_apart" W'
 aLq:ay "k_step" "Book.k_step" Xe
 ah4:ay "stepped_by_k" "Book.stepped_by_k" TQ
 aIw:ay "has_k_step" "Book.has_k_step" FF
 apX:ay "find_by_k" "Book.find_by_k" Ym
 aEo:ay "by_k" "Book.by_k" S2
 aIW:ay "composing_counts" "Book.composing_counts" aa8
structure aiQ(K:ag)(C:aa):Prop where
 cl:ch
 Kb:ae "kind"
 Ta:ae "begin"
 NP:ae "end"
 OZ:ae "joined"
 H_:ae "spaceless"
 O9:ae "east"
 Jr:ae "initial"
 Ks:ae "final"
 LP:ae "ring"
 Ox:ae "soft"
 M':ae "unassigned"
 b3:cg "Unit.__init__" Vn
structure aJz(K:ag)(C:aa):Prop where
 cl:ch
 afk:ae "units"
 ads:ae "place"
 afi:ae "is_cut"
 aa9:ae "xx"
 VG:ae "x"
 VJ:ae "y"
 Ua:ae "yy"
 afh:ae "yyy"
 n_z:ae "z"
 T8:ae "zz"
 b3:cg "Place.__init__" aaE
structure aGP(K:ag)(C:aa):Prop where
 cl:ch
 Kx:ae "kinds"
 Xk:ae "conjuncts"
 UX:ae "pictures"
 b3:cg "Signs.__init__" qR
structure atG(K:ag)(C:aa):Prop where
 cl:ch
 yO:ae "book"
 ac7:ae "text"
 vT:ae "tab"
 Dn:ae "signs"
 acd:ae "widths"
 X3:ae "alone"
 b3:cg "Sheet.__init__" wg
structure auy(K:ag)(C:aa):Prop where
 cl:ch
 XC:ae "strict"
 Sl:ae "loose"
 Jj:ae "break_all"
 abX:ae "keep_all"
 abi:ae "by_words"
 IX:ae "eastern"
 Qj:ae "splits"
 vT:ae "tab"
 b3:cg "Ways.__init__" abm
structure ano(K:ag)(C:aa):Prop where
 cl:ch
 yO:ae "book"
 b3:cg "Desk.__init__" aaN
 axx:ay "hand_over" "Desk.hand_over" MJ
 ayr:ay "sheet_of" "Desk.sheet_of" Zf
 av4:ay "chances" "Desk.chances" RB
 am0:ay "width" "Desk.width" Ro
 apV:ay "fill" "Desk.fill" QQ
 aDE:ay "ragged" "Desk.ragged" US
 amZ:ay "measure" "Desk.measure" W4
structure aLJ(K:ag)(C:aa):Prop where
 cl:ch
 ae1:ae "numbers"
 DM:ae "at"
 b3:cg "Reader.__init__" Td
 ak2:ay "is_done" "Reader.is_done" adQ
 aE6:ay "take_number" "Reader.take_number" ZO
 aCP:ay "take_row" "Reader.take_row" Rb
structure Cs where
 Book:aa
 Unit:aa
 Place:aa
 k5:aa
 zy:aa
 Ways:aa
 jZ:aa
 Reader:aa
structure Fs(K:ag)(mg:aP)(c:Cs):Prop where
 g:Gs mg
 aoR:O "has_bit" acE
 aGQ:O "is_scalar" X_
 aAX:O "all_scalars" Dy
 aLj:O "is_leading" aaR
 apO:O "is_vowel" Z5
 amb:O "is_trailing" abD
 afs:O "is_syllable" ZI
 apS:O "is_lv_syllable" RH
 aKd:O "is_hangul" acY
 aol:O "syllable_step" Qp
 ars:O "range_records" Fy
 aG7:O "map_records" Hq
 aI3:O "sequence_records" Ib
 lookup:O "lookup" xB
 ail:O "first_class" Qh
 aDL:O "resolved_class" WU
 an8:O "line_class" U6
 akl:O "stands_alone" ZP
 aie:O "are_marks" Ha
 aC1:O "first_must" acQ
 afy:O "chances_behind" E8
 atE:O "no_unit" QT
 aKA:O "is_east" aa1
 anp:O "make_unit" aas
 asq:O "unit_end" Qs
 api:O "units_of" Hg
 apD:O "in_row" acJ
 agL:O "piece_cost" Vv
 aB6:O "least_pieces" V2
 am3:O "row_cuts" T1
 aL3:O "word_cuts" Yy
 aks:O "is_letter" SR
 afD:O "is_ideograph" ZS
 anA:O "is_korean" SU
 aH5:O "unit_at" abY
 ao5:O "last_no_space" RV
 aAU:O "none_if" QW
 agA:O "rule_1" Zb
 aDZ:O "rule_2" aci
 as1:O "rule_3" VD
 aoz:O "rule_4" aaH
 axt:O "rule_5" VR
 aKJ:O "rule_6" Wo
 aGh:O "rule_7" aaC
 ayt:O "rule_8" Uq
 af5:O "rule_9" RG
 asS:O "rule_10" WK
 ahB:O "rule_11" aef
 arx:O "rule_12" X6
 aHq:O "rule_13" TB
 azU:O "rule_14" Tv
 aiW:O "rule_15" aa4
 arc:O "rule_16" U3
 as7:O "rule_17" Rx
 arX:O "rule_18" So
 azx:O "rule_19" WC
 ak7:O "rule_20" Uc
 anx:O "digits_before" adC
 aCk:O "digits_end" abL
 aIb:O "rule_21" U9
 aLy:O "syllable_goes_on" TU
 aJb:O "rule_22" aei
 aiF:O "rule_23" ZT
 age:O "is_kernel" aaJ
 asE:O "rule_24" Zl
 anS:O "rule_25" Vm
 aD3:O "rule_26" V5
 ar8:O "indicators_up_to" UR
 asV:O "rule_27" Wj
 aFl:O "rule_28" abb
 verdict:O "verdict" Yv
 ao9:O "marks_of" Ff
 au6:O "cluster_class" Yk
 aDB:O "conjunct_class" T9
 aAz:O "is_pictographic" acC
 alZ:O "syllable_joins" WW
 afq:O "conjunct_joins" UP
 aqb:O "picture_joins" VW
 aAL:O "indicator_joins" YZ
 aKK:O "is_joined" Xc
 ayC:O "cluster_ends" D0
 aIr:O "scalar_width" ae6
 aJS:O "cluster_width" YD
 ajJ:O "row_width" ZC
 axU:O "line_measure" aaM
 amW:O "farthest_fit" Gk
 asa:O "line_end" Y2
 aFO:O "filled_lines" Xw
 aCl:O "firsts_end" Vs
 aIq:O "canonical_steps_end" L5
 auD:O "canonical_row_without_hangul" Kp
 avk:O "scalar_is_no_hangul" T_
 anK:O "range_without_hangul" JO
 aqI:O "taken_apart_in_order" Rr
 anP:O "has_no_canonical_row" aff
 aJd:O "ends_by_k" Xt
 azi:O "composes_alone" Zx
 aCO:O "folded_stays" aa3
 aqy:O "simply_folded_stays" abl
 ak3:O "goes_both_ways" Sq
 agI:O "mirror_holds" U4
 ahJ:O "partner_holds" Uy
 axm:O "brackets_have_partners" Ul
 an9:O "digits_stand_in_tens" M_
 al6:O "script_count" Zt
 aCI:O "script_is_named" ac5
 aku:O "scripts_are_named" J5
 aFc:O "prototype_stays" aeg
 aI4:O "clauses_20_to_30" Ht
 at1:O "scalars_of" FJ
 asr:O "flags_agree" acv
 ak0:O "combining_extends" T7
 aKV:O "as_the_first" ab2
 aoK:O "conjuncts_follow" Wf
 aCv:O "second_follows" Q1
 aJK:O "canonical_row_stays_cluster" YK
 ar4:O "first_weight" aaf
 aIL:O "second_weight" P6
 aFF:O "third_weight" UM
 aER:O "is_first_weight_alone" abj
 aIR:O "weights_fit" YT
 atr:O "variable_fits" adK
 aL4:O "weights_hold" acW
 asW:O "contraction_holds" PM
 aK2:O "weighed_has_no_step" Tj
 ahN:O "scalar_is_cased" YE
 aGd:O "letter_case_is_cased" Tu
 ag2:O "scalar_has_no_class" YR
 axh:O "folded_by_k" RO
 ai6:O "folding_settles" aee
 aB2:O "conjuncts_hold" IP
 atd:O "pictures_hold" PB
 avQ:O "clauses_31_to_41" FR
 ale:O "broken_clause" afd
 aDk:O "line_badness" Qk
 ap5:O "summed" abS
 auN:O "least_ends" WG
 aD7:O "ragged_lines" Z7
 aGB:O "touch" ac6
 agg:O "range_rule" ae5
 aL1:O "broken_range" acS
 aKH:O "rises" Zy
 aGV:O "row_fits" acT
 alW:O "map_rule" aeF
 arp:O "map_end" Vc
 auT:O "key_at" W1
 aEN:O "comes_to_rule" UW
 akH:O "sequence_rule" aaL
 ay5:O "sequence_end" WR
 aLW:O "broken_among" UA
 akg:O "is_capital" Wt
 awN:O "is_small" Ql
 ak8:O "is_name" F8
 aFX:O "name_fits" ab1
 aoM:O "broken_name" adO
 aiZ:O "is_walked" W6
 aG1:O "broken_walk" P5
 aKE:O "broken_record" aai
 aMm:O "is_ways" V1
 refusal:O "refusal" Zd
 aHG:O "lines_refusal" Zq
 aE3:O "text_answer" Vk
 af7:O "lines_answer" afm
 anY:O "answer_of" Oc
 answers:O "answers" Ov
 Book:bz (mg "Book") c.Book
 bj:atq K c.Book
 Unit:bz (mg "Unit") c.Unit
 dr:aiQ K c.Unit
 Place:bz (mg "Place") c.Place
 eE:aJz K c.Place
 k5:bz (mg "Signs") c.k5
 mz:aGP K c.k5
 zy:bz (mg "Sheet") c.zy
 fF:atG K c.zy
 Ways:bz (mg "Ways") c.Ways
 eU:auy K c.Ways
 jZ:bz (mg "Desk") c.jZ
 gz:ano K c.jZ
 Reader:bz (mg "Reader") c.Reader
 fS:aLJ K c.Reader
section _P
namespace _P
open aQ bP bg _L _M
def z:={
vN.2(n:ac):V:=.aI n
}
section _P
namespace _P
open aQ bP bg _L _M
variable{K:ag}{mg:aP}
variable{x:ax}
def z:={
Au.1:ca:=a! (["rule_1","rule_2","rule_3","rule_4","rule_5","rule_6","rule_7","rule_8","rule_9","rule_10","rule_11","rule_12","rule_13","rule_14","rule_15","rule_16","rule_17","rule_18","rule_19","rule_20","rule_21","rule_22","rule_23","rule_24","rule_25","rule_26","rule_27","rule_28"]:hP) Str.ofString
r8.1(K:ag)(mg:aP)(x:ax)(l:aE):Prop:=∃a,mg x=Z e!/\∀H,bF a (cY vN)
}
structure Ts(K:ag)(mg:aP):Prop where
 rules:hR fs mg Au
 Z':dg "VALUE_MOST" [254,28,13,3,18,14,47,5,22,2,255,10,8191,1048575]
 Vz:dg "ROW_MOST" [2,18,3,3,3,3,1,1,1,18,32,18,1,1,1]
 aoS:dg "KEY_LEAST" [2,1,2]
 QI:dg "KEY_MOST" [18,32,32]
 aJ0:dg "COMES_TO_MOST" [18,1,1]
 X5:∃a t0 t1 t2,h! mg t0 t2
section _P
namespace _P
open aQ bP bg _L _M
variable{K:ag}
variable{H H':Hp}{α:Type}{a:aa}{l:ao α}{x:ac×Mt.Row}
def z:={
zs.2(l:aE):aB:=cY λ x:ac=>(x:aj)
HU.1(K:ag):Sp:=λ vs H Q _=>er nl aE (vs=[e!]/\aC K H a (nl.map vN)/\ab (PyYqmtfa.answers_asked (zs nl))/\∀(H':Hp)(p:aa),H' p=Z (.lst ((PyYqmtfa.answers (zs nl)).map V.int))->Q e9 H')
}
section _P
section
set_option maxHeartbeats 2000000
namespace _L
open aQ bP bg
open cT(bv ef g5 Well eg ReadsW ReadsAllW)
variable{a b:aa}{ds:bA}{vs us:av}{ps loose:ca}{XP:(ax->bm ah)->ai->Prop}{xs:aM}{YP:bE aD ai}{q:a6}{CX:mE}{u:HO}{r:g5}
mutual inductive Dw(K:ag)(H:Hp):bE V bv
 |cz:Dw K H .cz bG
 |bl(b:aH):Dw K H (.bl b) (.cZ b)
 |aI(i:aj):Dw K H (.aI i) (.aI i)
 |str(x:ax):Dw K H (.str x) (.str x)
 |ji(b:ec UInt8):Dw K H (.ji b) (.cv b.toList)
 |lst{a:aa}{xs:aM}{ds:bA}:aC K H a xs->bC xs ds->Dw K H e! (.list ds)
 |tup{a:aa}{xs:aM}{ds:bA}:bF a xs->bC xs ds->Dw K H e! (.eh ds)inductive l_(K:ag)(H:Hp):aM->bA->Prop
 |nil:bC [] []
 |bc{v:V}{vs:aM}{d:bv}{ds:bA}:Dw K H v d->bC vs ds->bC (v::vs) (d::ds)end
def z:={
aaA{K:ag}{H:Hp}:∀ns:aB,bC ja iZ|[]=>a4|n::r=>aW (.aI n) (aaA r)
Xg{K:ag}{H:Hp}:∀(ns:aB)(xs:aM),bC xs iZ->xs=ja|[],xs,h=>by cases h;rfl|n::r,xs,h=>by cases h with|bc h1 h2=>cases h1;rw[Xg r _ h2]<;>rfl
}
section
variable{P:a6}{w:aD}{K:ag}{H:Hp}{h:ai}{R:jE}{cl:ax->bm aa}
def z:={
apk(aR:d5)(KX:ba)(q:aC K H a xs):iz o n ek:=by rcases q with q|⟨o,aF,n,e,hc,_,hd,_,hv⟩;(.obtain⟨_,aF,n,hv,e⟩:=(show eP a gH from q.ok aR);exact #[aF,_,n,hv,e,rfl,rfl]);.exact #[cq,o,n,hv,KX _ _ e,hc,eW hd]
apw(aR:d5)(KX:ba)(q:bF a xs):iz o n fP:=by rcases q with q|⟨o,aF,n,e,hc,hd,_,hv⟩;(.obtain⟨_,aF,hv,o,e,hc,n,hd⟩:=(show eP a e6 from q.ok aR);exact #[aF,o,n,hv,e,hc,hd]);.exact #[cq,o,n,hv,KX _ _ e,hc,eW hd]
}
mutual theorem g6(aR:d5)(KX:ba):∀(d:bv)(v:V)(u:ah),Dw K H v d->cn v u->∃as,ReadsW R cl h u d as|bG,_,_,x,r=>by cases x;cases r;exact #[_,ReadsW.none]|eY,_,_,x,r=>by cases x;cases r;exact #[_,ReadsW.bool b]|dk,_,_,x,r=>by cases x;rw[f3 t r (ReadsW.int i t)]|.str s,_,_,x,r=>by cases x;rw[f3 t r (ReadsW.str s t)]|gC,_,_,x,r=>by cases x;rw[f3 t r (ReadsW.bytes _ t)]|gE,_,_,x,r=>(by cases x with|lst hs ha=>cases r;obtain⟨aF,o,n,rv,ho,hc,hd⟩:=apk aR KX hs;rw[iH aR KX ReadsW.list])|gx,_,_,x,r=>(by cases x with|tup hs ha=>cases r;obtain⟨aF,o,n,rv,ho,hc,hd⟩:=apw aR KX hs;rw[iH aR KX ReadsW.tuple])|gB,_,_,x,_=>de|gG,_,_,x,_=>de|gn,_,_,x,_=>de|gJ,_,_,x,_=>de|go,_,_,x,_=>de|gD,_,_,x,_=>de theorem g7(aR:d5)(KX:ba):∀(ds:bA)(vs:aM)(us:av),bC vs ds->bN vs us->∃as,ReadsAllW R cl h us ds as|[],_,_,x,r=>by cases x;cases r;exact #[_,ReadsAllW.nil]|d::ds,_,_,x,r=>by cases x with|bc h1 h2=>cases r with|bc r1 r2=>obtain⟨as,q1⟩:=g6 aR KX d _ _ h1 r1;obtain⟨bs,q2⟩:=g7 aR KX ds _ _ h2 r2;exact #[_,ReadsAllW.cons q1 q2]end
section z
mutual noncomputable def ll:bv->aH|bG=>ad|.cZ _=>ad|.aI _=>ad|.str _=>ad|.cv _=>ad|.list xs=>mZ xs|.eh xs=>mZ xs|_=>false noncomputable def mZ:bA->aH|[]=>ad|x::r=>ll x&&mZ r end
def z:={
SV{α:Type}{f:α->bv}(h:∀a,ab (ll (f a))):∀l:ao α,ab (mZ (cY f))|[]=>rfl|x::r=>by show ab (ll (f x)&&mZ (r.map f));rw[h x,SV h r]<;>rfl
r9:∀(c:ef)(a:c.denote),ab (ll (c.enc a))|.unit,_=>rfl|.cZ,_=>rfl|.aI _ _,_=>rfl|.nat _ _,_=>rfl|.u8,_=>rfl|.cv _ _,_=>rfl|.text _ _ _ _,_=>rfl|.list _ _ c,a=>SV cP (r9 c x) a|.pair c d,a=>by show ab (ll (c.enc a.1)&&di (ll (d.enc a.2)));rw[r9 c a.1,r9 d a.2]<;>rfl|.triple c d e,a=>by show ab (ll (c.enc a.1)&&(ll (d.enc a.2.1)&&di (ll (e.enc a.2.2))));rw[r9 c a.1,r9 d a.2.1,r9 e a.2.2]<;>rfl|.option c,ak=>rfl|.option c,Z x=>r9 c x
Q7:∀(cs:ao ef)(a:dR cs),az mZ dW cs|[],_=>rfl|c::cs,a=>by show ab (ll (c.enc a.1)&&mZ fR cs a.2);rw[r9 c a.1,Q7 cs a.2]<;>rfl
NC:∀{xs:bA}{d:bv},d∈xs->g8<=eD xs|[],d,h=>c2 h|x::r,d,h=>by show g8<=x.weight+1+eD r;rw[d2 (fD h) e];(.rw[e];exact aIO);.have z:=NC m;exact Nat.le_add_left_of_le z
toV.1:ah->V|bG=>.cz|eY=>.bl b|.aI i _=>dk|.str x _=>gK|.cv b _=>.ji b|dj=>dj|_=>.cz
md.1(A:ap):ah->Prop|bG=>am|.cZ _=>am|.aI _ _=>am|.str _ _=>am|.cv _ _=>am|dj=>a∈A|_=>bh
md.mono{A B:ap}(h:c0 a (a∈B)):∀{u:ah},md A u->md B u:=λ{u}x=>by cases u with|ref a=>exact h a x|ak=>trivial|cZ b=>trivial|aI i t=>trivial|str s t=>trivial|cv b t=>trivial|_=>exact d3
aqB{A:ap}{u:ah}(x:md A u):cn (toV u) u:=by cases u with|ref a=>rfl|ak=>rfl|cZ b=>rfl|aI i t=>exact #[t,rfl]|str s t=>exact #[t,rfl]|cv b t=>exact #[t,rfl]|_=>exact d3
zD{A:ap}:∀{vs:av},c4->bN eQ vs|[],_=>a4|u::r,h=>aW (aqB (h u dM)) (zD λ x hx=>h x dI hx)
ni.1(h:ai)(A:ap)(a:aa):Prop:=∃vs:av,ij (dm a=Z bT\/bH bS)
ni.mono{h:ai}{A B:ap}(k:c0 a (a∈B))(x:ni h A a):ni h B a:=by obtain⟨vs,h1,h2,h3⟩:=x;exact #[vs,h1,λ u hu=>ci (h2 u hu) k,h3]
FV{P:b4}{h:ai}{vs:av}{ds:bA}(w:dY):g4=ds.length:=by cases w with|nil=>rfl|bc _ b=>show _+1=_+1;rw[FV b]
afn{P:b4}{h:ai}{v:ah}(x:eO v (.list ds)):er vs av (v=dj/\bH bT/\dY):=ib list b9 ho
acL{P:b4}{h:ai}{v:ah}(x:eO v (.eh ds)):er vs av (v=dj/\bH bS/\dY):=ib eh b9 ho
Zs{P:b4}{h:ai}{d:bv}(x:eg P h us (d::ds)):∃(v:ah)(vs:av),us=v::vs/\eO v d/\dY:=by cases x with|bc a b=>exact #[_,_,rfl,a,b]
afe{n:ac}(h:n<=1048576):c3 n:=ge h
}
section
variable{P:b4}{h:ai}
mutual theorem awZ:∀(d:bv)(v:ah),eO v d->az ll d->eB->∃A:ap,md A v/\bU|bG,_,x,_,_=>by cases x;exact dG []|eY,_,x,_,_=>by cases x;exact dG []|dk,_,x,_,_=>by cases x;exact dG []|.str s,_,x,_,_=>by cases x;exact dG []|gC,_,x,_,_=>by cases x;exact dG []|gE,_,x,p,z=>by rw[fX a b9 afn];have z2:eD ds<=1048576:=z;obtain⟨A,h1,h2⟩:=HZ ds _ b9 p λ d hd=>fY NC hd z2;have k:c0 b (b∈a::A):=ce b dI hb;rw[<-#[a::A,dM,ce b ?_],d2 (fD hb) e];(.rw[e];exact #[vs,afe (by rw[FV b9];exact h_ ds),λ u hu=>ci (h1 u hu) k,.inl ho]);.exact ci (h2 b m) k|gx,_,x,p,z=>by rw[fX a b9 acL];have z2:eD ds<=1048576:=z;obtain⟨A,h1,h2⟩:=HZ ds _ b9 p λ d hd=>fY NC hd z2;have k:c0 b (b∈a::A):=ce b dI hb;rw[<-#[a::A,dM,ce b ?_],d2 (fD hb) e];(.rw[e];exact #[vs,afe (by rw[FV b9];exact h_ ds),λ u hu=>ci (h1 u hu) k,.inr ho]);.exact ci (h2 b m) k|gB,_,_,p,_=>bn|gG,_,_,p,_=>bn|gn,_,_,p,_=>bn|gJ,_,_,p,_=>bn|go,_,_,p,_=>bn|gD,_,_,p,_=>bn theorem HZ:∀(ds:bA)(vs:av),dY->eu->(∀d∈ds,eB)->∃A:ap,c4/\bU|[],_,x,_,_=>by cases x;exact #[[],λ u m=>c2 m,λ a m=>c2 m]|d::ds,_,x,p,z=>by rw[ic p];obtain⟨A,a1,a2⟩:=awZ d v x1 q.1 (z d dM);obtain⟨B,b1,b2⟩:=HZ ds vs x2 q.2 λ e he=>z e dI he;have kA:c0 b (b∈A++B):=ce b iI (.inl hb);have kB:∀b∈B,b∈A++B:=ce b iI fg hb;refine #[A++B,λ u hu=>?_,ce b ?_];(.rw[d2 iU hu e];(.rw[e];exact a1.mono kA);.exact ci (b1 u m) kB);.rw[d2 (jn hb) m];(.exact ci (a2 b m) kA);.exact ci (b2 b m) kB end
section z
def z:={
G4.1(o:Obj):bm HO:=match o.data with|.seq vs _=>if ab (o.cls==eF)then Z (.iV o fW jG)else Z (.iV o fV jG)|_=>ak
iJ.1(K:ag)(h:ai)(A:ap):Hp:=λ b=>if b∈A then(if ab (jb).isNone then(gA).bind G4 else ak)else ak
zE.1(H:Hp):Prop:=∀b,bK\/∃o u,bW H fu
aeQ(vs:av):G4 bT=Z (.iV bT iX):=by show(if ab (eF==eF)then Z (HO.iV bT ie)else Z (HO.iV bT id))=_;rw[d! (jI _)]
QG(vs:av):G4 bS=Z (.iV bS iW):=by show(if ab (g1 "tuple"==eF)then Z (HO.iV bS ie)else Z (HO.iV bS id))=_;rw[fB (by decide)]
}
section
variable{P:a6}{w:aD}{K:ag}{h:ai}{A:ap}
def z:={
F1{o:Obj}(hb:b∈A)(hk:eG)(e:b_):iJ K h A b=G4 o:=by unfold iJ;rw[d! hb,hk,d! (show ab (ak:eR).isNone from rfl),e]<;>rfl
aKl(q:iJ K h A b=Z u):b∈A/\eG:=by unfold iJ at q;by_cases hb:b∈A;(.rw[d! hb]at q;cases hk:jb with|ak=>exact #[hb,rfl]|bQ o=>rw[hk,fB (by simp)]at q;cases q);.rw[fB hb]at q;cases q
Fp(ar:bU)(q:iJ K h A b=Z u):eG/\∃vs:av,ij ((gA=Z bT/\u=.iV bT iX)\/(gA=Z bS/\u=.iV bS iW)):=by obtain⟨hb,hk⟩:=aKl q;obtain⟨vs,h1,h2,h3⟩:=ar b hb;refine #[hk,vs,h1,h2,?_];rcases h3 with e|e;(.rw[F1 hb hk e,aeQ]at q;rw[cJ #[e,iy]]);.rw[F1 hb hk e,QG]at q;rw[bI #[e,iy]]
aDl(ar:bU):zE (iJ K h A):=λ b=>by cases q:iJ K h A b with|ak=>rw[cJ au]|bQ u=>obtain⟨_,vs,_,_,⟨_,e⟩|⟨_,e⟩⟩:=fh;(.rw[bI #[_,_,by rw[e]]]);.rw[bI #[_,_,by rw[e]]]
ahf(ar:bU):dS P w df h:=λ b u q=>by obtain⟨_,vs,h1,h2,⟨e,rfl⟩|⟨e,rfl⟩⟩:=fh;(.exact #[e,by rw[iq],vs,_,fq,e]);.exact #[e,by rw[iq],vs,fq,_,e,rfl,_,rfl]
GO{c c':ah}(e:(Z {cls:=c,data:=.seq dq}:eR)=Z {cls:=c',data:=.seq fG}):c=c'/\vs=us:=by have e1:=fE e;have e2:c=c':=da Obj.cls e1;have e3:fH dq=fH fG:=da Obj.data e1;injection e3 with e4;refine #[e2,?_];have e5:=da Array.toList e4;simpa using e5
axK(KX:ba)(ar:bU)(ha:a∈A)(e:bH bT):c4/\aC K df a eQ:=by obtain⟨us,h1,h2,h3⟩:=ar a ha;(have hu:us=vs:=by rcases h3 with q|q;(.rw[e]at q;exact fv.2.symm);.rw[it (jJ fv.1)]);subst hu;refine #[h2,?_];cases hk:cp a with|ak=>rw[cJ fg #[_,by rw[F1 ha hk e,aeQ]]]|bQ o=>have e2:=KX a o hk;rw[e]at e2;obtain rfl:=fE e2;rw[bI #[_,fG,_,hk,rfl,rfl,rfl,by rw[il],by simpa using fq]]
aBh(KX:ba)(ar:bU)(ha:a∈A)(e:bH bS):c4/\aJ K df a eQ:=by obtain⟨us,h1,h2,h3⟩:=ar a ha;(have hu:us=vs:=by rcases h3 with q|q;(.rw[it (jJ fv.1)]);.rw[e]at q;exact fv.2.symm);subst hu;refine #[h2,?_];cases hk:cp a with|ak=>rw[cJ fg #[_,by rw[F1 ha hk e,QG]]]|bQ o=>have e2:=KX a o hk;rw[e]at e2;obtain rfl:=fE e2;rw[bI #[_,fG,_,hk,rfl,rfl,by rw[il],by simpa using fq]]
}
mutual theorem aJo{Pm:b4}(KX:ba)(ar:bU):∀(d:bv)(v:ah),Well Pm h v d->az ll d->md A v->Dw K df (toV v) d|bG,_,x,_,_=>by cases x;exact .cz|eY,_,x,_,_=>by cases x;exact .bl b|dk,_,x,_,_=>by cases x;exact .aI i|.str s,_,x,_,_=>by cases x;exact .str s|gC,_,x,_,_=>by cases x;have z:=Dw.ji (K:=K) (H:=df) b.toArray;exact z|gE,_,x,p,hu=>by rw[i? afn axK lst]|gx,_,x,p,hu=>by rw[i? acL aBh tup]|gB,_,_,p,_=>bn|gG,_,_,p,_=>bn|gn,_,_,p,_=>bn|gJ,_,_,p,_=>bn|go,_,_,p,_=>bn|gD,_,_,p,_=>bn theorem Em{Pm:b4}(KX:ba)(ar:bU):∀(ds:bA)(vs:av),eg Pm h vs ds->eu->c4->l_ K df eQ ds|[],_,x,_,_=>by cases x;exact a4|d::ds,_,x,p,hu=>by rw[ic p,aW (aJo KX ar d v x1 q.1 (hu _ dM)) (Em KX ar ds vs x2 q.2 λ u m=>hu u dI m)]end
section z
def z:={
ajC{P:a6}{w:aD}{K:ag}{mg mb:aP}{k:ac}{fa:aa}{fd:dn}{sp:Sp}{cw:aT}{b5:av}{R:jE}{cl:ax->bm aa}{d0:bv}(KX:K.In cy)(qN:fO g9 mg)(hb:g9 builtinsNs mb)(IT:i3 x x mb)(atZ:s₁.heap.NoLimit)(hg:s₁.gens=eI [])(CA:eg fI cy b5 ds)(a_:eu)(hwt:∀d∈ds,eB)(hr:gq)(F:∀a7:ai,gw->eo->bY ej K mg a7 CX k fa fd ps sp)(asB:∀(s:aT)(us:av),hI->et fd dE us f0)(hlen:dz ds.length)(jA:∀(H:Hp)(xs:aM),zE H->bC xs ds->sp xs H e8 (Dw K H' v d0) eT _ _ _)(BR:∀H e s',CX [] H cw gs e s'->bh):codeAny bY model fJ (.call bk fa dE b5) (λ r s'=>∃u as,r=.ok (.ret u)/\ReadsW R cl ee u d0 as/\OldK cy ee/\s'.os=s₁.os/\i5) cw:=by obtain⟨A,ho,ar⟩:=HZ ds b5 CA a_ hwt;have hO:zE (iJ K cy A):=aDl ar;have aR:dS P w iY cy:=ahf ar;have hS:=Em KX ar ds b5 CA a_ ho;have hV:=zD ho;(have hK:bM u (gf=Z u->eG):=λ b u q=>fh.1;have xD:∀{b:aa}{o:Obj}{es:ec g_}{ep:ac},f5->en (.dict es ep)->a9 gf:=λ{b o es ep}e d=>by cases q:gf with|ak=>rfl|bQ u=>obtain⟨_,vs,_,_,⟨e2,_⟩|⟨e2,_⟩⟩:=fh;(.rw[e2]at e;cases e;have d':fH dq _=Data.dict es ep:=d;cases d');.rw[e2]at e;cases e;have d':fH dq _=Data.dict es ep:=d;cases d');generalize iY=H at hO aR hS hK xD;have Qm:∀{b:aa}{o:Obj},f5->bK->aY (dZ).get? b:=λ e n=>avA e n;(have Ea:∀{b:aa}{m:aP},g9 b m->(dZ).Ns b m:=λ{b m}bx=>gF bx λ o es ep e d r=>#[o,es,ep,Qm e (xD e d),d,r];have nK:bM o (aY cp b->bK):=λ b o e=>by cases q:H b with|ak=>rfl|bQ u=>rw[hK b u q]at e;cases e);have Qy:K.In dZ:=λ b o e=>Qm (KX b o e) (nK b o e);have hM:Mod K mg dZ:=#[Qy,Ea qN,#[mb,Ea hb,IT],let#[mc,h1,h2]:=atZ;#[mc,Ea h1,h2]];(have e0:bY xl K mg dZ fJ [] cw H:=#[rfl,hM,λ b o e=>amR e,Nat.le_of_eq (aCB _ _),trivial,ce b c2 (show b∈([]:ap)from hb),aR,.of_eq hg];have hl:dz vals.length:=by rw[FV CA];exact hlen);refine jK ((F _ Qy (Ea qN)).run fJ [] cw H dE b5 b5 (vals.map toV) _ _ hr e0 (asB cw b5 hl) hV (jA H _ hO hS)) λ r s' x=>?_;cases r with|error e=>exact(BR H e s' x).elim|ok fl=>cases fl with|next=>exact d3|brk=>exact d3|cont=>exact d3|ret u=>obtain⟨v,H',os,bare,un,X7,r',q⟩:=x;(have kept:bM o (f5->aY s'.heap.get? b):=λ b o e=>by cases q2:H b with|ak=>exact un.keep b o e q2 (by intro z;exact c2 (show b∈([]:ap)from z)) (by simp)|bQ u2=>rcases hO b with z|⟨ob,u3,z⟩;(.rw[q2]at z;cases z);.have z2:=un.oe b ob _ z;obtain⟨e1,_⟩:=aR b _ z;obtain⟨e2,_⟩:=X7 b _ z2;rw[e]at e1;cases e1;exact e2);have KX':K.In ee:=λ b o e=>kept b o (KX b o e);obtain⟨as,hrd⟩:=g6 (R:=R) (cl:=cl) X7 KX' d0 v u q r';exact #[u,as,rfl,hrd,OldK.of_keep kept,os,bare]
aLk(h:iC ds):∀d∈ds,eB:=λ d hd=>(PySem.W.layableW_iff.mp f7 h d hd).2.2
WY:∀(cs:ao ef)(a:dR cs),(dW cs).length=cs.length|[],_=>rfl|c::cs,a=>by show(fR cs a.2).length+1=cs.length+1;rw[WY cs a.2]
arl{k:ac}{d:DefRec}{K:iM}{CX:aD->mE}{sp:aD->Sp}(Ot:i4)(hdf:iL)(hlen:iA)(hr:gq)(hY:∀(w:aD)(h:ai),f1->dA h)(F:∀(w:aD)(mg:aP)(fa:aa)(h:ai),hQ d.name (CX w) (sp w))(jA:∀(w:aD)(H:Hp)(xs:aM)(a:dR cA),ig (zE H) (l_ c1 H xs dW cA) (sp w xs H e8 (Dw c1 H' v f6) eT _ _ _))(BR:∀(w:aD)(H:Hp)(s:aT)(e:ah)(s':aT),CX w [] H s gs e s'->bh):iP q YP r:=by intro w iw cw mg mb G Y fa o pm cd doc dV kV ho hd gj hD PJ hg b0 b5 as n9 ayk hrd CA pf;obtain⟨a,e1,e2⟩:=PySem.W.os_pre_some n9;obtain⟨e3,HE⟩:=Codec.encAll_of_decAll cA b0 a e1;subst e3;have KX:=hY w _ Y;obtain⟨fd,hb,hF⟩:=F w mg fa _ Y KX G.T.g PJ;refine PySem.W.enter_call (jK (ajC (R:=[]) (cl:=classAt iw.heap) (d0:=f6) KX G.T.g G.T.b G.T.builtins G.T.nolimit hg CA (Q7 _ _) (aLk ayk) hr hF hb (by rw[WY];exact hlen) (λ H xs hO hS=>jA w H xs a hO HE e2 hS) λ H e s'=>BR w H cw e s') λ r' s' hq=>?_);obtain⟨u,as',rfl,h1,h2,h3,h4⟩:=hq;exact #[.inl #[u,_,as',rfl,λ _=>rfl,h1,(OpenSpec.post_iff Ot HE _ _).mpr au,λ z=>hh (show false=ad from z)],h2,h3,h4]
aM7{k:ac}{d:DefRec}{K:iM}{sp:ag->Sp}(Ot:i4)(hdf:iL)(hlen:iA)(hr:gq)(hY:∀(w:aD)(h:ai),f1->dA h)(F:∀(w:aD)(mg:aP)(fa:aa)(h:ai),hQ d.name CX (sp (K fI)))(jA:∀(K:ag)(H:Hp)(xs:aM)(a:dR cA),ig (zE H) bC xs dW cA (sp K xs H e8 (Dw K H' v f6) eT _ _ _))(BR:∀(H:Hp)(s:aT)(e:ah)(s':aT),CX [] H s gs e s'->bh):iP q YP r:=arl (K:=K) (CX:=λ _=>CX) (sp:=λ w=>sp (K fI)) Ot hdf hlen hr hY F (λ w H xs a h1 h2 h3 h4=>jA c1 H xs a h1 h2 h3 h4) λ _ H s e s'=>BR H s e s'
}
section _L
section z
namespace _P
open aQ bP bg _L _M
section
variable{K:ag}{h:ai}{mg:aP}
variable{od an:c?}{sl:eM}{x bR:ax}{n:ac}{f C:aa}{pm doc oc aK ct:ah}{st:I}{l:aE}
def z:={
aMx(X:ba)(G:cF){n:aj}{t:Tok}(e:dH Z (.aI n t)):GI mg x n:=#[t,g' X G e]
aMV(X:ba)(G:cF){kV:ah}(a:dH cH)(l:dL f dP sl)(c:dN)(k:c5):dU (mg x=Z b7) (gd K x) bR:=gI f eC k
aMN{kV:ah}(a:dB x=Z cH)(i:ew)(l:dL f dP sl)(c:dN)(k:c5):dU (mY K C x f) (gd K x) bR:=gI f #[a,i,k] k
aM2{kV:ah}(m:ix)(kc:iD bk C)(a:ia=Z cH)(i:ew)(l:dL f (jC "__init__" bR (jr st) (cu st) (aA st) bG kV doc pm an aK ct) sl)(c:dN)(k:c5):dU (Mk K C f) (gd K "__init__") bR:=gI f #[m,a,i,kc] k
}
section z
section
variable{K:ag}{h:ai}{mg:aP}
def z:={
vM.1:aE->av->aH|[],[]=>ad|n::l,.aI i _::r=>cC (i=(n:aj))&&vM l r|_,_=>false
ai4:iE aE vM vN:=by intro l;induction l with|nil=>rw[iG vs _ _]|bc a l ih=>(intro vs e;rcases vs with _|⟨v,r⟩;.cases e);cases v with|aI i t=>rw[ii e];have q:=of_decide_eq_true e.1;subst q;exact aW #[t,rfl] (ih e.2)|_=>cases e
Hv{p:aa}(lk:dD p)(hv:cG ed (vM l cq))(H:Hp):bF p (cY vN):=by rw[ey g! hv,bI (oZ _ aF n lk au au ge hv.1 (ai4 hv.2))]
aMK(X:ba)(G:cF){p:aa}(a:dH Z e9)(lk:dD p)(hv:cG ed (vM l cq)):dg x l:=(af p eC (Hv lk hv))
Hh.1:ap->av->aH|[],[]=>ad|a::l,.ref b::r=>d4 b&&Hh l r|_,_=>false
avE:iE ap Hh V.ref:=by intro l;induction l with|nil=>rw[iG vs _ _]|bc a l ih=>(intro vs e;rcases vs with _|⟨v,r⟩;.cases e);cases v with|ref b=>rw[ii e];have q:=jL e.1;subst q;exact aW au (ih e.2)|_=>cases e
ad5{p:aa}{l:ap}(lk:dD p)(hv:cG ed (Hh l cq))(H:Hp):bF p (cY V.ref):=by rw[ey g! hv,bI (oZ _ aF n lk au au ge hv.1 (avE hv.2))]
oA.1(K:ag):ca->ap->Prop|[],[]=>am|fk,f::fs=>dH cH/\eS|_,_=>bh
aMs:oA K [] []:=trivial
aMR{xs:ca}{fs:ap}(h:dH cH)(r:eS):oA K (x::xs) (f::fs):=#[h,r]
oA.at_(X:ba)(G:cF):∀{xs:ca}{fs:ap},eS->hJ i f xs|[],[],_,i,f,n,e,_=>by simp at e|[],_::_,h,_,_,_,_,_=>fL|_::_,[],h,_,_,_,_,_=>fL|fk,f'::fs,h,0,f,n,e,e'=>by cases e;cases e';exact g' X G h.1|fk,f'::fs,h,i+1,f,n,e,e'=>oA.at_ X G h.2 i f n i' e i' e'
oA.len:∀{xs:ca}{fs:ap},eS->g2=xs.length|[],[],_=>rfl|[],_::_,h=>fL|_::_,[],h=>fL|fk,f::fs,h=>by rw[jM,jM,oA.len h.2]
aM3(X:ba)(G:cF){p:aa}{fs:ap}(hn:oA K Au fs)(a:fQ "RULES"=Z Z e9)(lk:dD p)(hv:cG ed (Hh fs cq)):hR fs mg Au:=(jg p fs eC (ad5 lk hv) hn.len (hn.at_ X G))
aMt(X:ba)(G:cF){p t0 t1 t2:aa}{od0 od1 od2:c?}{i0 i1 i2:fZ}{n0 n1 n2:ac}{s0 s1 s2:eM}(a:fQ "FIRST_NAMES"=Z Z e9)(lk:dD p)(hi:aF=eI [bk t0,.ref t1,.ref t2])(l0:dy t0 #[.cX "tuple",od0,.seq i0 n0,s0])(v0:cG i0.size (vM [90,122,122,122] i0.toList))(l1:dy t1 #[.cX "tuple",od1,.seq i1 n1,s1])(v1:cG i1.size (vM [90,121,121,121] i1.toList))(l2:dy t2 #[.cX "tuple",od2,.seq i2 n2,s2])(v2:cG i2.size (vM [90,105,110,104] i2.toList)):∃a t0 t1 t2,h! mg t0 t2:=by subst hi;exact(B0 p t0 t1 t2 eC (ad5 (l:=[t0,t1,t2]) lk (by show ab (_&&(fK t0 t0&&(fK t1 t1&&di (fK t2 t2))));rw[ei,ei,ei];rfl)) (Hv l0 v0) (Hv l1 v1) (Hv l2 v2))
}
section z
section _P
namespace _P
open aQ bP bg _L _M
open cT(g5 ef)
def z:={
al9{l:aB}(h:∀x∈l,0<=x):zs (cY Int.toNat)=l:=by unfold zs;rw[g?];exact(iK λ x hx=>iN (h x hx)).trans (List.map_id l)
aNc(K:ag)(H:Hp)(xs:aM)(a:dR fM)(hO:zE H)(HE:hH fM a)(Oe:ab h5 PySem.Challenge.rw_brokenlinesdesk_s01_answers.asked)(hx:bC xs dW fM):HU K xs H e8 (Dw K H' v (PySem.Challenge.rw_brokenlinesdesk_s01_answers.ret.enc h5 PySem.Challenge.rw_brokenlinesdesk_s01_answers.f)) eT _ _ _:=by cases hx with|bc h1 h2=>cases h2;cases h1 with|lst hs ha=>have e:=_L.Xg a.1 _ ha;subst e;have q:ab di (Codec.inLen 0 31700 a.1&&a.1.all (jO 0 4294967295)):=HE;rw[ey cm q];(have hp:∀x∈a.1,0<=x:=λ x hx=>by have:=f7 q.1.2 x hx;unfold jO at aS;simp only[cm,g!]at aS;exact aS.1);have ez:=al9 hp;refine(jg _ i7 a.1 au ?_ ?_ (λ H' p oB=>.lst (_L.aC.of oB) ?_));(. (have:a! i7 a.1 vN=a! a.1 V.int:=by rw[g?];exact iK λ x hx=>da V.int iN (hp x hx));rw[aS];exact hs);(.rw[ez];exact Oe);.rw[ez];exact _L.aaA _
}
section _P
namespace cT
open aQ PySem.Calls bg
def z:={
Ey.1:Obj->bm Obj|#[_,_,.freed,_]=>ak|o=>Z o
zK.1:ap->ac->ao Obj->ao eR|[],_,_=>[]|d6,_,[]=>ak::as.map λ _=>ak|d6,i,o::os=>match d4 i with|ad=>Ey o::zK as cj os|false=>zK fp cj os
nA.1:ac->aE->aH|_,[]=>ad|i,d6=>gY i a&&nA fy as
EF:∀{as:aE}{i:ac},ab (nA i as)->∀a∈as,i<=a|[],_,_,a,h=>by cases h|b::as,i,h,a,ha=>by unfold nA at h;rw[cm]at h;have h1:=gQ h.1;rcases iU ha with rfl|ha;(.exact h1);.have:=EF h.2 a ha;omega
Wn{a b:ac}(h:a+1<=b):b - a=(b - fy)+1:=(Nat.succ_pred_eq_of_pos (Nat.sub_pos_of_lt h)).symm
Jz:∀(os:ao Obj)(as:aE)(i:ac),ab (nA i as)->zK as i os=as.map λ a=>(os[a - i]?).bind Ey|os,[],i,_=>by cases os<;>rfl|[],d6,i,_=>by show ak::as.map _=_;simp|o::os,d6,i,h=>by have fU:=EF h a (by simp);show(match d4 i with|ad=>Ey o::zK as cj os|false=>zK fp cj os)=_;cases e:d4 i with|ad=>have e':a=i:=jL e;subst e';(have h2:ab (nA fy as):=by unfold nA at h;rw[cm]at h;exact h.2);dsimp only;rw[Jz os as fy h2,gR];congr 1;(.simp);.rw[ik b (EF h2 b hb) (Wn aS)]|false=>((have e':a≠i:=λ q=>by subst q;rw[ei]at e;cases e);have h2:ab (nA cj fp):=by unfold nA at h⊢;rw[cm]at h⊢;exact #[Nat.ble_eq_true_of_le (Nat.lt_of_le_of_ne fU (Ne.symm e')),h.2]);dsimp only;rw[Jz os fp cj h2];rw[ik b (EF h2 b hb) (Wn aS)]
ant(h:ai)(a:aa):dm a=(h.objs.toList[a]?).bind Ey:=by unfold Heap.get?;rw[Array.getElem?_toList];cases e:h.objs[a]? with|ak=>rfl|bQ o=>obtain⟨c,d,dt,sl⟩:=o;cases dt<;>rfl
zl.1(K:gp)(as:ap)(e:∀P,as=eK (K P))(hi:az (nA 0) as):Hook:=#[ao eR,λ s=>zK as 0 s.heap.objs.toList,λ w=>a! c1 λ p=>Z p.2,InK K,λ w s x=>InK.of e w s (by rw[<-x,Jz _ _ _ hi];rw[hG];intro a _;rw[ant];rfl),InK.keeps]
}
section cT
namespace _P
open aQ cT
def z:={
kS.1:ah->cB|.str s _=>s|_=>#[(eI [])]
kC.1(s:cB):ac:=s.cps.toList.foldl (λ a c=>a*256+c) 1
nd.1:aE->aH|[]=>ad|a::l=>l.all (λ b=>!d4 b)&&nd l
aaI{v:ah}{n:cB}(h:az v.isStr n):kS v=n:=by cases v with|str s t=>exact eq_of_beq h|_=>cases h
avH{a:ac}{l:aE}(h:az nd (a::l)):a∉l/\az nd l:=by have h:=eb h;refine #[λ m=>?_,h.2];have:=jy h.1 a m;rw[ei]at aS;cases aS
VS{n:cB}{e:g_}(he:az e.key.isStr n):∀{L:i6}{i:ac},ab (nd (L.map λ e=>kC (kS e.key)))->L[i]?=Z e->L.find? (·.key.isStr n)=Z e|[],_,_,h=>by cases h|x::L,0,_,h=>by cases h;exact List.find?_cons_of_pos he|x::L,i+1,hd,h=>by have hd:=avH hd;have hm:e∈L:=List.mem_of_getElem? h;refine(List.find?_cons_of_neg λ q=>hd.1 (jo #[e,hm,?_])).trans (VS he hd.2 h);exact da kC ((aaI he).trans (aaI q).symm)
Hx.1(K:Frag):i6:=match cp fC with|Z #[_,_,.dict es _,_]=>es.toList|_=>[]
Nq.1(K:Frag):Prop:=∀(i:ac){h:aj}{t:Tok}{v:ah}{n:cB},gM[i]?=Z #[h,.str n t,v]->nsIn K fC n=Z Z v
aNf{K:Frag}{hp:ai}(_:K.In hp)(ks:c!)(hn:ab (nd (ks.map kC)))(hk:ks=a! gM λ e=>kS e.key):Nq K:=by intro i h t v n hi;have hf:=VS (n:=n) (e:=#[h,.str n t,v]) (jI n) (L:=gM) (i:=i) (by rw[<-hn,hk,g?];rfl) hi;unfold Hx at hf;unfold nsIn;split at hf;(.rename_i es _ _ e;rw[e];show(match es.toList.find? (·.key.isStr n)with|Z e=>Z Z e.val|ak=>if es.toList.any (·.refKey)then ak else Z ak)=_;rw[hf]);.cases hf
}
section _P
namespace _P
open aQ
def z:={
viewQ.1:a6:={jc with main:={PySem.Challenge.pw_brokenlinesdesk_s01_answers.main with body:=[jD 375 gl]}}
looseL.1:c!:=h? ["__name__","has_bit","PROPERTIES","MAPS","SEQUENCES","COMBINING","GENERAL","CLUSTER","CONJUNCT","LINE","WIDTH","DIRECTION","BRACKET","SCRIPT","DIGIT","FLAGS","CANONICAL","COMPATIBILITY","UPPER","LOWER","TITLE","FOLD","SIMPLE_FOLD","MIRROR","PARTNER","PROTOTYPE","EXTENSIONS","WEIGHTS","CONTRACTIONS","WORDS","WHOLES","CN","MN","MC","ME","PI","PF","CC","CF","LINKER","CONSONANT","CONJUNCT_EXTEND","AMBIGUOUS","HALF","WIDE","FULL","NEUTRAL","UPPERCASE","LOWERCASE","CASED","ID_START","ID_PART","IGNORABLE","PICTOGRAPHIC","MIRRORED","NEVER_COMPOSED","SPARE","LAST_SCALAR","FIRST_SURROGATE","LAST_SURROGATE","FIRST_LEADING","LAST_LEADING","FIRST_VOWEL","LAST_VOWEL","BEFORE_TRAILING","LAST_TRAILING","FIRST_SYLLABLE","LAST_SYLLABLE","SYLLABLES_OF_VOWEL","SYLLABLES_OF_LEADING","is_scalar","all_scalars","is_leading","is_vowel","is_trailing","is_syllable","is_lv_syllable","is_hangul","syllable_step","PROPERTY_COUNT","MAP_COUNT","SEQUENCE_COUNT","STEPS_MOST","SCALARS_MOST","range_records","map_records","sequence_records","lookup","Book","XX","AI","AK","AL","AP","AS","B2","BA","BB","BK","CB","CJ","CL","CM","CP","CR_classes","EB","EM","EX","GL","H2","H3","HL","HY","ID","IN","IS","JL","JT","JV","LF_classes","NL","NS","NU","OP","PO","PR","QU","RI_classes","SA","SG","SP","SY","VF","VI","WJ","ZW","ZWJ_classes","first_class","resolved_class","line_class","stands_alone","NONE","CHANCE","MUST","are_marks","first_must","chances_behind","RING","SOFT","NOTHING","Unit","no_unit","is_east","make_unit","unit_end","units_of","UNKNOWN_COST","NO_PIECE","in_row","piece_cost","least_pieces","row_cuts","word_cuts","SILENT","is_letter","is_ideograph","is_korean","unit_at","last_no_space","Place","none_if","rule_1","rule_2","rule_3","rule_4","rule_5","rule_6","rule_7","rule_8","rule_9","rule_10","rule_11","rule_12","rule_13","rule_14","rule_15","rule_16","rule_17","rule_18","rule_19","rule_20","digits_before","digits_end","rule_21","syllable_goes_on","rule_22","rule_23","is_kernel","rule_24","rule_25","rule_26","indicators_up_to","rule_27","rule_28","RULES","verdict","marks_of","CR_clusters","LF_clusters","CONTROL","EXTEND_clusters","ZWJ_clusters","RI_clusters","PREPEND","SPACING_MARK_clusters","L","V","T","LV","LVT","cluster_class","conjunct_class","is_pictographic","Signs","syllable_joins","conjunct_joins","picture_joins","indicator_joins","is_joined","cluster_ends","TAB","scalar_width","Sheet","cluster_width","row_width","line_measure","NOWHERE","farthest_fit","line_end","filled_lines","UNNAMED_SCRIPTS","firsts_end","canonical_steps_end","canonical_row_without_hangul","scalar_is_no_hangul","range_without_hangul","taken_apart_in_order","has_no_canonical_row","ends_by_k","composes_alone","folded_stays","simply_folded_stays","goes_both_ways","mirror_holds","partner_holds","brackets_have_partners","digits_stand_in_tens","script_count","script_is_named","scripts_are_named","prototype_stays","clauses_20_to_30","OTHER","EXTEND_rules_31_to_41","ZWJ_rules_31_to_41","SPACING_MARK_rules_31_to_41","VOWEL","VARIABLE","scalars_of","flags_agree","combining_extends","as_the_first","conjuncts_follow","second_follows","canonical_row_stays_cluster","first_weight","second_weight","third_weight","is_first_weight_alone","weights_fit","variable_fits","weights_hold","contraction_holds","weighed_has_no_step","scalar_is_cased","letter_case_is_cased","scalar_has_no_class","folded_by_k","folding_settles","conjuncts_hold","pictures_hold","clauses_31_to_41","broken_clause","line_badness","summed","least_ends","ragged_lines","VALUE_MOST","ROW_MOST","KEY_LEAST","KEY_MOST","COMES_TO_MOST","SCRIPTS_END","NUMBERS_END","WALKED_MOST","NAMES_MOST","FIRST_NAMES","touch","range_rule","broken_range","rises","row_fits","map_rule","map_end","key_at","comes_to_rule","sequence_rule","sequence_end","broken_among","is_capital","is_small","is_name","name_fits","broken_name","is_walked","broken_walk","broken_record","BREAK_ALL","KEEP_ALL","WORDS_ASKED","EASTERN","SPLIT","STRICT","LOOSE","KNOWN_BITS","is_ways","Ways","TOO_MUCH","BROKEN","WRONG","BOOK_MOST","TEXT_MOST","COLUMNS_MOST","refusal","lines_refusal","Desk","BOOK_CALL","CHANCES_CALL","WIDTH_CALL","FILL_CALL","RAGGED_CALL","MEASURE_CALL","UnknownCall","Reader","text_answer","lines_answer","answer_of"]
}
open cT bg
def z:={
aEF.1:c!:=_P.looseL.take 1++h? ["__doc__","__package__","__loader__","__spec__","__annotations__","__builtins__","__file__","__cached__"]++_P.looseL.drop 1++([jP "answers"]:c!)
aMz:ab (_P.nd (_P.aEF.map _P.kC)):=aL
aNd{K:gp}{as:ap}{e:∀P,as=eK (K P)}{hi:az (nA 0) as}{w:aD}{h:ai}(Y:(dh).says w h):dA h:=Y
okV:ab (chainsOk fN&&opensWell jQ):=aL
SF.1:Prop:=∀(P:a6)(w:aD)(K:Frag)(mg:cB->bm ah)(c:_P.Cs)(fa:aa),_P.Fs K mg c->_P.Ts K mg->bz (mg "answers") fa->∃fd:dn,(∀(s:aT)(us:av),us.length=(["calls"]:c!).length->et fd dE us ((["calls"]:c!).zip us))/\∀a7:ai,gw->eo->bY _L.ej K mg a7 _L.eL 13 fa fd ["calls"] (_P.HU K)
Wr.1(_:_P.SF)(p:Prop):Prop:=p
hd(hF:_P.SF){K:gp}{as:ap}(e:∀P,as=eK (K P))(hi:az (nA 0) as){N:ac}{d:DefRec}{pG:ao (cB×PySem.Expr)}(l:LeftO jQ fN _P.looseL (λ s=>recOk [] s) (Hook.obs dh) (Hook.val dh) N)(h1:defOf fN jR=Z (d,pG))(h2:PySem.Challenge.rw_brokenlinesdesk_s01_answers.prog.theDef jR=Z (d.params,d.body,d.scope))(h3:kwWritten? d.params.kwonlyargs d.params.kw_defaults=Z pG)(hw:∃b0,az PySem.Challenge.rw_brokenlinesdesk_s01_answers.pre b0/\iC b0)(hc:_P.Wr hF (WalkOS fN _P.looseL (λ _ _=>am) (Hook.says dh) PySem.Challenge.rw_brokenlinesdesk_s01_answers d pG λ f vs=>hN f)):PySem.Challenge.rw_brokenlinesdesk_s01_answers.Holds:=holds_os l (Hook.of dh) (Hook.keeps dh) (λ _ _=>trivial) (λ _ _ _ _ _=>trivial) h1 h2 h3 (λ s e=>recFacts_of e) os_shapes _P.aD6 _P.okV _P.aFY hw hc
}
section _P
end
namespace PySem.W.Fast
mutual section
def o:=[0]
def tree:=[7,17,45,102,224,305,309,357,413,485,543,636,729,779,835,889,967,1056,1133,1220,1273,1359,1415,1452,1522,1537,1595,1609]
def sts:=[9,18,46,103,309,311,358,414,486,544,637,730,780,836,890,968,1057,1134,1221,1274,1360,1416,1453,1523,1538,1596]
def heap:=[1,6,1610]
def env:=[1]
def tw:=[8114352165496834386,2279190212139269565,10235684441971954998]
end
end PySem.W.Fast
section
set_option tactic.hygienic true
set_option bootstrap.genMatcherCode true
set_option genSizeOf true
set_option genSizeOfSpec true
set_option maxHeartbeats 0
open PySem PySem.W PyProof.Rows
local macro_rules
  | `(tactic| refine $t) => let a := t.raw[1].getArgs; if a.size < 20 then Lean.Macro.throwUnsupported else let g (x : Lean.Syntax) : Lean.TSyntax `term := ⟨x⟩; let h := a[4]![3][1][0][1][1]; `(tactic| refine' _P.hd $(Lean.mkIdent `hF) (K := $(g h[0])) (as := $(g h[1])) $(g h[2]) (by decide +kernel) (N := $(g a[7]![3])) $(g a[8]!) (by rfl) (by rfl) (by rfl) $(g a[21]!) $(g a[22]!))
local macro_rules | `(-$n:num) => `(_P.aMx $(Lean.mkIdent `KX) $(Lean.mkIdent `G) ($(Lean.mkIdent `nq) $n rfl)) | `(-$s:str) => do
  let k ← `(by k_is)
  match s.getString with | "z" => `(PySem.W.mg_none_of $(Lean.mkIdent `KX) $(Lean.mkIdent `G) $k) | "c" => `(⟨$k, $k, $k, $k⟩) | "n" => `(by ((show PySem.W.findIn _ _ _ = _); k_is)) | "i" => `(_P.aM2 $k $k $k $k $k $k $k) | _ => `(_P.aMN $k $k $k $k $k)
local macro_rules | `(!$n:num) => do
  let k ← `(by k_is)
  `(by as_aux_lemma=>exact _P.aMV $(Lean.mkIdent `KX) $(Lean.mkIdent `G) ($(Lean.mkIdent `nq) $n rfl) $k $k $k)
local macro_rules | `(~~~$n:num) => `(by as_aux_lemma=>exact PySem.W.mg_of $(Lean.mkIdent `KX) $(Lean.mkIdent `G) ($(Lean.mkIdent `nq) $n rfl))
set_option maxHeartbeats 0 in
theorem _P.headAll (hF : _P.SF) : PySem.Challenge.rw_brokenlinesdesk_s01_answers.Holds := by
  w_on; k_headS; (case hw => exact ⟨[.list [.int 3, .int 0, .int 0]], by decide +kernel, by decide +kernel⟩)
  k_fillS
  unfold _P.Wr
  refine _L.aM7 (r := PySem.Challenge.rw_brokenlinesdesk_s01_answers) (k := 13) (CX := _L.eL) (ps := ["calls"]) (sp := _P.HU) _P.aD6 rfl rfl ⟨rfl, by decide, by decide⟩ (fun w h Y => _P.aNd Y) ?F _P.aNc (fun _ _ _ _ z => z)
  case F =>
    intro w mg fa h Y KX G PJ
    have nq := _P.aNf KX _P.aEF _P.aMz rfl
    refine hF _ _ _ _ ⟨218, 284, 408, 699, 765, 1312, 1394, 1449⟩ _ ?_ ?_ PJ
    · exact ⟨(by as_aux_lemma=>exact⟨-10,-11,-12,-13,-14,-15,-16,-17,-18,-19,-20,-21,-22,-23,-24,-25,-26,-27,-28,-29,-30,-31,-32,-33,-34,-35,-36,-37,-38,-39,-40,-41,-42,-43,-44,-45,-46,-47,-48,-49,-50,-51,-52,-53,-54,-55,-56,-57,-58,-59,-60,-61,-62,-63,-64,-65,-66,-67,-68,-69,-70,-71,-72,-73,-74,-75,-76,-77,-87,-88,-89,-90,-91,-97,-98,-99,-100,-101,-102,-103,-104,-105,-106,-107,-108,-109,-110,-111,-112,-113,-114,-115,-116,-117,-118,-119,-120,-121,-122,-123,-124,-125,-126,-127,-128,-129,-130,-131,-132,-133,-134,-135,-136,-137,-138,-139,-140,-141,-142,-143,-144,-149,-150,-151,-155,-156,-157,-164,-165,-171,-215,-216,-217,-218,-219,-220,-221,-222,-223,-224,-225,-226,-227,-238,-244,-248,-270,-271,-272,-273,-274,-275,-310,-311,-312,-313,-335,-336,-337,-338,-339,-340,-341,-342,-345,-346,-347,-348,-349,-350,-354,-355,-356,-357,-358,-359,-"z",-"z",-"z",-"z",-"z",-"z",-"z",-"z",-"z"⟩),!9,!78,!79,!80,!81,!82,!83,!84,!85,!86,!92,!93,!94,!95,!145,!146,!147,!148,!152,!153,!154,!159,!160,!161,!162,!163,!166,!167,!168,!169,!170,!172,!173,!174,!175,!176,!178,!179,!180,!181,!182,!183,!184,!185,!186,!187,!188,!189,!190,!191,!192,!193,!194,!195,!196,!197,!198,!199,!200,!201,!202,!203,!204,!205,!206,!207,!208,!209,!210,!211,!213,!214,!228,!229,!230,!232,!233,!234,!235,!236,!237,!239,!241,!242,!243,!245,!246,!247,!249,!250,!251,!252,!253,!254,!255,!256,!257,!258,!259,!260,!261,!262,!263,!264,!265,!266,!267,!268,!269,!276,!277,!278,!279,!280,!281,!282,!283,!284,!285,!286,!287,!288,!289,!290,!291,!292,!293,!294,!295,!296,!297,!298,!299,!300,!301,!302,!303,!304,!315,!316,!317,!318,!319,!320,!321,!322,!323,!324,!325,!326,!327,!328,!329,!330,!331,!332,!333,!334,!343,!351,!352,!362,!363,!364,!365,~~~96,(by as_aux_lemma=>exact⟨-"c",-"n",-"n",-"n",-"n",-"n",-"n",-"i",-"m",-"m",-"m",-"m",-"m",-"m",-"m",-"m",-"m",-"m",-"m",-"m",-"m",-"m",-"m"⟩),~~~158,(by as_aux_lemma=>exact⟨-"c",-"n",-"n",-"n",-"n",-"n",-"n",-"n",-"n",-"n",-"n",-"n",-"i"⟩),~~~177,(by as_aux_lemma=>exact⟨-"c",-"n",-"n",-"n",-"n",-"n",-"n",-"n",-"n",-"n",-"n",-"i"⟩),~~~231,(by as_aux_lemma=>exact⟨-"c",-"n",-"n",-"n",-"i"⟩),~~~240,(by as_aux_lemma=>exact⟨-"c",-"n",-"n",-"n",-"n",-"n",-"n",-"i"⟩),~~~344,(by as_aux_lemma=>exact⟨-"c",-"n",-"n",-"n",-"n",-"n",-"n",-"n",-"n",-"i"⟩),~~~353,(by as_aux_lemma=>exact⟨-"c",-"n",-"i",-"m",-"m",-"m",-"m",-"m",-"m",-"m"⟩),~~~361,(by as_aux_lemma=>exact⟨-"c",-"n",-"n",-"i",-"m",-"m",-"m"⟩)⟩
    · exact ⟨by as_aux_lemma=>exact _P.aM3 KX G (_P.aMR (nq 179 rfl) (_P.aMR (nq 180 rfl) (_P.aMR (nq 181 rfl) (_P.aMR (nq 182 rfl) (_P.aMR (nq 183 rfl) (_P.aMR (nq 184 rfl) (_P.aMR (nq 185 rfl) (_P.aMR (nq 186 rfl) (_P.aMR (nq 187 rfl) (_P.aMR (nq 188 rfl) (_P.aMR (nq 189 rfl) (_P.aMR (nq 190 rfl) (_P.aMR (nq 191 rfl) (_P.aMR (nq 192 rfl) (_P.aMR (nq 193 rfl) (_P.aMR (nq 194 rfl) (_P.aMR (nq 195 rfl) (_P.aMR (nq 196 rfl) (_P.aMR (nq 197 rfl) (_P.aMR (nq 198 rfl) (_P.aMR (nq 201 rfl) (_P.aMR (nq 203 rfl) (_P.aMR (nq 204 rfl) (_P.aMR (nq 206 rfl) (_P.aMR (nq 207 rfl) (_P.aMR (nq 208 rfl) (_P.aMR (nq 210 rfl) (_P.aMR (nq 211 rfl) _P.aMs)))))))))))))))))))))))))))) (nq 212 rfl) (by k_is) rfl,by as_aux_lemma=>exact _P.aMK KX G (nq 305 rfl) (by k_is) rfl,by as_aux_lemma=>exact _P.aMK KX G (nq 306 rfl) (by k_is) rfl,by as_aux_lemma=>exact _P.aMK KX G (nq 307 rfl) (by k_is) rfl,by as_aux_lemma=>exact _P.aMK KX G (nq 308 rfl) (by k_is) rfl,by as_aux_lemma=>exact _P.aMK KX G (nq 309 rfl) (by k_is) rfl,by as_aux_lemma=>exact _P.aMt KX G (nq 314 rfl) (by k_is) rfl (by k_is) rfl (by k_is) rfl (by k_is) rfl⟩
end
mutual section
def z:={
Y:=Nat
ad:=Int
kH:=False
uO:=Int.toNat
gx:=us.length
ol:=congrFun
uQ:=congrArg
bG:=last
kI:=Range
qI:=Fault
b?:=some
gy:=l.drop
yY:=List.getElem?_eq_some_iff.mp
lO:=error
ak:=none
kK:=firstOf
om:=needs
yZ:=PROPS
eO:=scalar
y4:=q.last
qJ:=most
iq:=next
oo:=propsIn
Up:=Except.error
y6:=Option.some.inj
kL:=List.range
bz:=map
uR:=List.range_succ
dj:=List.map_append
uS:=p.length
qL:=p.drop
kM:=List.getD_eq_getElem?_getD
Nc:=List.getElem?_eq_getElem
Uq:=Nat.lt_of_add_right_lt
Ur:=Nat.lt_of_succ_lt
Uu:=Nat.lt_of_succ_le
Uv:=Nat.zero_le
fP:=hlen
Fd:=length
iu:=List.length_drop
Ux:=Nat.zero_lt_sub_of_lt
Uy:=Nat.lt_irrefl
Nd:=Nat.not_lt.mpr
UA:=Nat.le_add_left
bP:=l.length
UB:=Nat.succ_le_of_lt
uT:=List.drop_eq_nil_of_le
uU:=l.take
Ff:=mapMost
Fg:=mapFine
gz:=mapsIn
kN:=r.drop
d0:=take
Nf:=keyLeast
Fj:=keyMost
ix:=before
y7:=toMost
lR:=r.length
gA:=seqsIn
kP:=drop
oq:=headD
aL:=Bool
au:=true
ae:=rfl
ba:=pos
qM:=value
fb:=Bool.and_eq_true
i!:=decide_eq_true_eq
lS:=Option.all_some
uV:=Option.bind_some
i?:=if_pos
y8:=Nat.lt_of_le_of_ne
al:=this
bt:=nil
aN:=cons
Ng:=List.mem_cons.mp
uX:=trans
or:=List.length_take
Fk:=Nat.min_eq_left
y9:=le_of_eq_of_le
UC:=ms.Pairwise
cp:=zero
cq:=succ
Fl:=Bool.or_eq_true
lT:=beq_iff_eq
Fm:=Nat.lt_trans
Nk:=Nat.lt_of_lt_of_eq
UF:=lt_of_eq_of_lt
ot:=least
Fp:=Nat.le_of_lt
uY:=List.all_eq_true
qN:=absurd
lU:=pick
UG:=List.zipIdx_append
Nm:=List.filterMap_append
y':=List.filterMap_cons
Nn:=List.filterMap_nil
Fs:=Nat.zero_add
ow:=if_neg
No:=snoc_ind
Np:=List.reverse_cons
qO:=List.length_map
u0:=byKind
ox:=getD
qP:=List.getElem?_map
Ft:=List.getElem?_set_self
Nq:=List.getElem?_set_ne
oy:=List.append_nil
iy:=List.getElem?_eq_none
gB:=Nat.le_of_not_lt
Nr:=List.length_set
qR:=sumTo
lV:=sum_append
Nt:=List.cons_append
iD:=List.sum_cons
ja:=List.length_append
gC:=List.length_cons
u1:=List.length_nil
Fu:=l.Pairwise
UJ:=List.pairwise_cons.mp
Nu:=l.find?
UM:=List.find?_cons_of_pos
UN:=List.find?_cons_of_neg
Fv:=Nat.succ_pos
ai:=Book
UO:=B.props.getD
oz:=r.first
kQ:=prop
lW:=r.value
Nw:=List.find?_eq_none.mpr
Nx:=List.mem_of_find?_eq_some
Nz:=List.find?_some
bc:=row
NC:=B.maps.getD
Fw:=map_none
qS:=r.scalar
Fy:=map_some
u2:=canon
qT:=syllable
UP:=List.append_assoc
iE:=apart
FA:=l.flatMap
qU:=compat
eP:=List.flatMap_cons
UQ:=List.flatMap_nil
u3:=Nat.le_refl
y!:=List.all_cons
y?:=Nat.lt_of_lt_of_le
u4:=shortK
lY:=l.foldl
oA:=y.length
NE:=z.length
za:=List.foldl_cons
FB:=Bool.true_and
FC:=List.all_nil
FD:=Bool.and_true
zb:=List.nil_append
UR:=List.flatMap
US:=Nat.succ_eq_add_one
oC:=Nat.le_trans
u5:=STEPS
FF:=elementsFine
UV:=Bool.and_assoc
UW:=Nat.succ_ne_zero
FG:=sorted
u6:=valAt
NF:=z.toNat
UX:=Bool.not_eq_true'
zc:=Bool.eq_iff_iff
UY:=List.mem_range.mpr
UZ:=Int.toNat_natCast
l0:=isSyllable
NH:=List.mem_cons
U1:=List.not_mem_nil
U2:=List.all_eq_true.mp
NJ:=List.mem_append.mp
kR:=isJamo
zd:=decide_eq_true
gD:=Unit_
bj:=Text
dk:=Ways
fS:=Sort_
u7:=isMark
iF:=s.cls
l3:=alone
FH:=u.is.cls
ze:=unitsFrom
dJ:=units
zf:=joins
qV:=size
d9:=u.size
u8:=begin_
U3:=Nat.add_sub_cancel
qW:=List.drop_succ_cons
U4:=Nat.add_assoc
U5:=Nat.add_comm
eR:=words
FI:=acc.set
aB:=bef
U6:=Option.none
qX:=marked
U7:=List.find?_append
l4:=total
zi:=l.map
jb:=rest
U9:=Nat.le_of_add_right_le
NK:=Nat.lt_add_of_pos_right
U_:=List.replicate
NL:=List.getElem?_replicate
l5:=speaks
fT:=word
zk:=head?
fe:=false
zl:=isEast
u9:=kernel
NN:=cheapest
kS:=row.length
NP:=row.drop
U':=List.getElem?_cons_succ
zn:=foldl
zp:=flatten
NQ:=Nat.le_of_succ_le
U!:=Option.map_some
zq:=Nat.lt_succ_self
NR:=Nat.strongRecOn
FJ:=Nat.add_sub_of_le
zr:=ns.sum
FK:=List.getElem?_append_left
NS:=List.getElem?_append_right
U?:=Nat.sub_self
zs:=r.sum
Va:=List.drop_append
Vb:=Nat.succ_pred_eq_of_ne_zero
l6:=texts
oF:=List.getElem?_drop
Vc:=List.mem_cons_of_mem
FL:=List.mem_cons_self
FM:=cutText
qZ:=t.drop
NT:=us.take
zt:=List.take_add_one
dL:=List.map_cons
FO:=List.drop_zero
jc:=List.drop_drop
Vd:=List.take_add
NU:=Nat.sub_add_comm
FP:=resolve
Ve:=List.mem_of_mem_drop
Vg:=List.head?_drop
q8:=reverse
NV:=us.drop
u_:=Nat.add_zero
FQ:=List.drop_eq_getElem_cons
Vh:=List.map_fst_zip
Vj:=Nat.le_of_eq
Vk:=List.map_drop
cO:=t.length
FR:=List.zip_cons_cons
NW:=List.map_map
Vm:=List.mem_map.mpr
u!:=l.headD
l7:=b.cls
q9:=Rules.none
u?:=closed
Vn:=clusterSays
Vo:=Bool.or_assoc
FS:=isBreak
zx:=List.range'
oG:=filter
NX:=List.range_eq_range'
FT:=List.range'_succ
vb:=List.filter_cons_of_pos
oH:=List.filter_append
Vq:=List.filter_congr
NY:=List.filter_nil
Vr:=List.getElem?_take_of_lt
N0:=List.headD_cons
kT:=ends
Vs:=List.map_add_range'
N1:=List.filter_map
N2:=List.mem_filter.mp
N3:=List.mem_singleton
N4:=clusterWidth
N5:=l.getLast?.getD
Vt:=getLast?.getD
FU:=MtLine.measure
Vu:=List.reverse_append
N8:=sequence
zy:=w.tab
N_:=foldl_max
q_:=unmarked
cP:=m.length
Vv:=List.filter_cons
Vw:=List.range'_append
N':=beq_eq_false_iff_ne
FV:=List.mem_map.mp
Vx:=List.filter_cons_of_neg
Vy:=Nat.not_le_of_lt
zz:=rowsOf
FW:=List.map_nil
N!:=beq_iff_eq.mpr
FX:=hk.symm
F1:=beq_eq_false_iff_ne.mpr
zA:=e.symm
vd:=m.drop
jf:=s.drop
gI:=s.length
ve:=UInt8.ofNat
oI:=isName
Vz:=hv.contains
N?:=UInt8.toNat_ofNat'
VB:=Nat.mod_eq_of_lt
F2:=contains
VC:=List.contains_iff_mem
Oa:=capital
F3:=small_
VD:=decide_eq_false
VE:=Bool.false_or
VF:=List.mem_of_getElem?
VG:=Bool.eq_false_iff
Oc:=Bool.false_and
vf:=n.length
l9:=namesIn
VI:=hv.reverse.map
q!:=gone
vg:=Nat.ne_of_lt
VJ:=PyYqmtfa.whole
VO:=PyYqmtfa.calls
F4:=PyFlat.calls
q?:=PyYqmtfa.shape
Od:=x.length
Oe:=PyFlat.row
vj:=PyFlat.rows
VP:=Option.map_eq_some_iff.mp
ra:=text
vk:=lines
VQ:=Nat.not_succ_le_zero
Og:=PyFlat.call
VR:=PyProof.Rows
rb:=lexLe
c3:=Around
az:=Shared
cQ:=int
d!:=prog
dM:=Program
dN:=World
a!:=Value
rc:=bool
iG:=wpAny
vl:=compareOp
VS:=wpAny_loadPart'
aI:=Addr
zB:=IntsAre
cr:=ref
re:=s.heap.get?
oK:=dict
fW:=data
kU:=slots
jj:=xa.size
Oi:=ns.length
oM:=xb.size
rf:=wpAny_bind
zC:=rawInt
rg:=stop
VU:=plainId_quiet
VV:=codeAny_builtin
VW:=entry_eq_loop
aQ:=Str
eS:=base
dP:=Heap
oP:=body
bH:=Expr
l_:=scope
vm:=Scope
d?:=outer
oR:=qual
ff:=xs.length
VX:=Paired.length
VY:=h.objs.size
Oj:=Heap.lt_size
kY:=h.get?
rh:=h'.get?
zD:=fields
oS:=True
F6:=Un.kept
On:=List.toArray
l!:=keep
jk:=free
ca:=PySem.W.Frag
vo:=X.outer
VZ:=sc.names.lookup
Oo:=env.kindOf
bQ:=X.K
oT:=X.mg
jl:=X.base
V0:=X.env.scope.kind
V1:=X.env.globals
V2:=X.iw.heap.objs.size
fX:=X.env.locals
V4:=X.env.cells.lookup
Op:=X.env.kindOf
kZ:=X.stack
c4:=X.env
oV:=X.ex
jm:=X.fs
V5:=X.iw.heap.FunFrames
ag:=pins
dl:=s.heap
oY:=X.prog
Oq:=σ.length
V7:=I.base.keep
F7:=I.base.free
fg:=I.loc
vp:=I.ok.above
ed:=s.heap.objs.size
V9:=I.ok.lB.mem
oZ:=I.cell
V_:=s.heap.FunFrames
V':=I.base.slot
jo:=I.ok.kind
jp:=I.free
l?:=heap
o0:=toks
o1:=I.k6
ri:=I.os
o2:=I.len
zE:=I.pin
ma:=I.bare
F8:=Ne.symm
fY:=I.aR
Os:=I.aR.fresh
bI:=σ'
F9:=I.base
zF:=X.N.Nodup
Ot:=Heap.SameBut
F_:=s'.heap
V!:=X.env.scope.names.lookup
Ov:=storeName
Ow:=tracked
mc:=Ends
rk:=D.nx
md:=cont
o3:=X.xe
F':=isTrue
rl:=whole
c5:=Pos
Ox:=wpAny_mono
V?:=wpAny_loadName_local
Wa:=wpAny_loadName_cell
Wb:=Calls.Name_function_global
Wc:=I.mod.glob.keeps
Wd:=behindInMarks
We:=wpAny_Compare1
Wf:=wpAny_isTrue_Compare1
Oy:=wpAny_truthy_bool
OA:=standAt
zG:=holding
Wi:=isTrue_plain
OC:=aF.toArray
F!:=sizeLine
me:=I.jL
zH:=I.list
vq:=I.tuple
Wj:=wpAny_execs_nil
Wk:=wpAny_execs_cons
Wn:=interactive
OD:=swapsWith
F?:=assign
zI:=Operator
OE:=inplaceOp
OF:=rv.length
vt:=s.toks
OG:=wpAny_holding
OJ:=wpAny_passesOwn
OK:=Bool.false_ne_true
Wo:=letOwnedTupleGo
Gb:=wpAny_pure
OL:=p.isList
Wp:=IsRangeIter
mf:=s1.heap.objs.size
ON:=I1.kept
Gd:=Heap.get?_push_size
vu:=s.heap.push
Wq:=PyProof.Rows.callWith_type1
OP:=binaryOp
o4:=rule
Wr:=Int.le_of_lt
Gf:=y.size
OQ:=sizeLine_eq
zJ:=vs.length
c6:=name
OR:=PySem.W.lookIn
Wt:=es.toList.any
Wu:=PySem.W.plainGet
OT:=PySem.W.findIn
OU:=getAttr
Wv:=PySem.W.plainGet_of
OW:=getMethod
OX:=PySem.W.takerIn
Wy:=PySem.Within
vv:=PySem.W.emptyDict
Gg:=lookup
Gh:=fs.lookup
Gk:=List.lookup
OZ:=fs.length
WA:=Heap.size_push
WB:=attributeBase
O0:=Attribute
k0:=args
O1:=A.depth
O3:=A.units
O4:=Around.under
WC:=Code.frames
O5:=Code.isFrame
zK:=FuncData
vx:=ps.length
WD:=PySem.W.callWith_K
WE:=I.ok.mod.zP
O7:=PySem.W.callWith_K0
O8:=sc.names
o5:=kindOf
o7:=bindL
o!:=bindC
WF:=List.nodup_cons.mp
zL:=start
O9:=N.length
WG:=PySem.W.cellsFrom_some
WH:=e0.aR.fresh
WI:=PySem.mem_of_lookup
O_:=scope.names.lookup
WJ:=PySem.W.fnOf
bA a:=List a
Z a:=b? a
o? a:=(a:ad)
cA a b:=a->b->Prop
aa:=o? x
cR a:=a x0 x1 x2 x3
ac:=bA Y
jr a b:=bA (a×b)
pa a:=a x0 x1
ap a:=a=au
mh a b c:=Inv X ag a b c
f6 a b:=mh σ a b
aG:=x+1
aj a:=ow a
cB a:=Option a
ao a:=i? a
bm a b:=by exact a b
ar a b c:=λ a b c=>?_
ax:=o? y
aA a:=((a:Y):ad)
aM:=by simp
iI a:=f6 H a
cc a b c:=∀a,∀b,c
bn a:=decide a
jt a:=a x0 x1 x2 x3 x4
av:=iI s
am:=x<=y
pb a:=a x0 x1 x2
gJ a b c:=a ag b σ c
cC:=by decide
cE a c:=a b=Z c
bg:=x.1
ce a:=a B w n t
bh a b:=PE X a b
rm a:=jr Y a
mi a b:=a b c4
ef a:=cR a x4 x5
ay:=x<y
aH:=cA a0 a1
eT a:=a=ak
bo:=by cases h
aW a b c:=af a b c
pc a:=gy a
a?:=jr aI Obj
bp a:=(a).Fd
aT:=a0->Prop
dn:=Nat.div_add_mod _ _
bR:=pa B
aY:=x+y
k1:=.ak
dq a:=.cr a
bb:=a0->a1->cA a2 a3
bB:=(x:ad)
dr:=Nat.mod_lt _ cC
cH:=x+1
bC:=i+1
dt:=4*t
br:=k+1
k3 a b:=is (a aB) b
fh:=(4:Y)
bv:=y+1
pd:=model oY X.w
bd a:=a->kH
iJ:=(44032:Y)
cf a b:=eT (a b)
gK a b:=a σ H b
vy a b:=autoParam a b
bi:=x - y
fi a:=gJ a s H
cl a:=is (gY bL) a
eg a:=m.getD a 0
ju a b c:=by intro ag s σ H a b c
f8 a b:=by exact qN a b
du:=x.2
bD:=a0->a1->a2->cA a3 a4
dv a:=by simpa using a
c9:=pa A
zM a:=cA a az
mj:=(28:Y)
cL:=a+1
cg a b:=a[i]?=Z b
bE:=a0->cA a1 a2
cM a:=k3 gX a
fj a:=∃x0:a0,∃x1:a1,a
gN a:=s.getD a 0
eh:=y+1
bF:=x=y
fk a:=p.getD a 0
f9 a:=∃x0:a0,a
eu g h:=g a b c d e f h
ml a b c:=gK a λ b H1=>c
mm b:=b - a
bO a b c:=by rw[a]at b;cases c
bU:=zM a!
pe a b c:=iG pd X.A a b c s
dw a b:=(a b).Fd
jy a b c:=by exact a (eW b q c)
f' a:=a::r
b7:=a0->a1->a2->a3->cA a4 a5
eU a:=mi eval a
mn a:=Y×a
bZ:=by lia
eV a:=.cQ a
mo:=a-iJ
b6:=A x0
fo a b:=be (fi a _ I h) b
b_:=pa C
cm:=bA a!
ew a:=bm a h
cn a b:=λ a b=>?_
f? a:=.inl a
ez:=x - 1
Gm a b:=marksFrom B a b
cJ:=bA ad
gO:=(1:ad)
fq a b:=pe a b o3
ei a:=by exact a al
mq a:=cA a Hp
b!:=0<x
cu:=bA V
cv:=cR D
cw:=cR C
fv:=u2 B c
ci:=C x0
ck:=B x0
dz:=((a:Y):ad)
zN a:=by obtain⟨t',rfl⟩:=a
jz a:=by obtain⟨t,rfl⟩:=a
ek:=aG - y
gP:=(2:ad)
cx:=o? z
iK:=.cQ
jB a b:=de X a b
mr a:=cE a u
rn a:=((a:Y):ad)
dA a b:=by refine a;subst b
c_ a:=a dn dr h0
el a:=uO a
ro:=(588:Y)
cS:=rm α
zR a:=vy a aw._auto_1
cN a:=(a,k1)
iL a:=(a,k1)
c! a:=λ x=>a
em:=(y:ad)
gR a b c:=.a b c ba
Gn a:=qU B a c
fx:=by rw[ju Q I h]
pf a:=mi starEach a
cT a:=by unfold a at h
dD a b:=by rw[a];exact b
jH:=by rw[zN ry]
dQ:=p.1
eX:=a+n
en:=bA α
eA a:=Ng a
c?:=bA gD
da:=pb C
cY a b:=¬a->¬b
k4 a b c:=λ σ H Q=>ml a b c
iM:=dy s a
eo:=bA fS
iO a:=Gm [] a
cZ:=z+1
c0:=y<x
iP a b c:=by refine bM (a b) c
fy:=((b:Y):ad)
dR:=cR E
k5 a c:=a b o e c
iQ a:=(du).a
db:=x<=z
ga a b:=(a,b)::r
dU:=pb D
gc:=aa - 1
eB:=z+1
dc:=i+1
gd:=q+1
mt:=a+2
eC a b:=a _ _ b
eE a c d:=λ b a c=>d
ge a b:=cM a&&cl b
gT:=mo%mj
dX:=.bt
dE:=z<=y
eY:=cH - y
dF:=y<=z
dH:=y<=x
mv a:=∃x2:a2,∃x3:a3,a
fA a:=((a:Y):ad)
jM:=ed+1
gU:=rm kI
er:=bA bj
vz a:=l.getD a 0
pi:=pc n
pj a:=gJ a s1 H1
gg a:=Nc a
eG:=cR B
eH:=cR A
et:=(0:Y)
eZ:=(1:Y)
k7 a:=.lO a
e6 a b c:=Q (.a b) c
rp a:=RelV a u
iS a b:=a b=false
k8 a:=ap (eO a)
jN a b:=zR (a=b)
mw a:=λ i j=>a
e7:=Z b
rs a:=a X ag σ Q
eK:=pb B
e9 a b:=by unfold a;rw[b]
k9 a b c:=a oY X.w b c
dY:=[c]
dZ:=z<y
gV a:=a<2^62
eL a b c:=by exact a b c
vA:=c - 0xAC00
rA:=f? ae
gW:=d8 m a q
O! a:=V4 x=Z a
e_:=cB gD
mx:=mq St
jO a:=Vc _ a
g0:=cB Y
eM:=.aN
gh a b:=bn a&&b
vB a:=qX n a
Go a:=VS a
fB:=jt D
e!:=bA aQ
vC a:=λ a H1 I1 r1 q1=>?_
e?:=bc t a b
iT a c d:=∀b a,c->d
gi:=u3 _
iW:=O! c
rB:=ee [a,b,c,d]
fC:=by simp
g4:=t+1
Gq a b c:=y? (a b) c
g5:=by rw[jz rx]
gk a b:=by simp;exact a b
vE a:=.ins C dx a
gl a:=λ z=>a
fa:=aG+y
gm:=bg=k
g6:=aQ->cB a!
Gs a b:=vy (a=false) b
jP:=#[_,rfl]
fF a:=by simp[a]
g7:=e::es
k_:=(2:Y)
fH:=pa D
fJ a b:=a σ H1 b
jQ a:=-2^62<=a
gn a b c:=iG a A b c E s
g8:=by rw[f8 (show false=au from hs) OK]
g_ a:=by cases ry;rw[jy a I aM]
g! a:=fj (c9/\bR/\a)
jT a:=(a:ad)
vF a:=bS us a
g? a:=om a
my a b:=λ a H2=>b
jU:=x - 1
Gv:=.Name
hM a b:=(a).bz b
vI a:=l++[a]
vJ a:=(a).kP
fK a:=(a).elim
gp:=k x0 x1 hA hB
gq a:=cc x0 x1 a
pk:=oz+1 - lW
gr:=eg a
pp:=vz k
gs:=by simp at h
rC a b:=¬(55296<=a/\b<57344)
fN:=D x0
fO:=f' u
pr a b d:=((a-b)+(((c:Y):ad)*(-gO)))=rn d
hO a:=by exact Oj a
jV a:=by simp[a]
hR:=jt F
hT:=jt C
hV:=jt E
hW:=by rw[ju D I h]
vK:=(3:Y)
rD a:=RelV x a
k!:=I.tok _
gt a:=by exact a
rE a b:=Gq Oj a b
hY a b:=.Call a b [] ba
h_ a b c:=λ a b c=>?_
pt a b:=af _ a b
mz:=dq C
rH:=fI s r
pu a:=cst B a
h! a:=by rw[a]at h;rw[bo]
h?:=cR F
iX a:=f9 (∃x1:a1,∃x2:a2,a)
zV:=.type
jW:=by simpa using h
jX:=vA%28
mB a b:=a i bG (k::b)
ia a b:=f9 (a/\b)
ib:=pb A
vL a b:=uQ a b
ie a:=[iL a]
rJ a b:=a<1114112/\b
k? a:=by rw[List.mem_range'_1]at a
ii:=bA Info
ik:=bh a ta
pv:=.cQ
rL a:=ce lb e pc a
im:=rp v
rM a:=Gv x a
iY:=jr gD bj
i0:=k _ _ rA e
jY a:=by rw[jH,jy a I aM]
ld:=UO k []
zW:=x - 44032
zX a b c:=a b CX c f fd ps sp
gw:=x=0
pw:=vC x
px:=bA s
jZ a:=fj mv a
rN a b:=gR BoolOp a b
mC:=eU e
z3:=begins B bc
io a:=a x4 x5 x6
z4 a:=.own a
Gw:=bz B
j2 a:=a b hb
rO:=gN cL
i4:=vB cs
mD:=(4352:Y)
mG:=(4449:Y)
lf a:=by exact .inl a
ip:=di B
i5:=a%fh
j4:=aa+1
j5 a:=cc x0 x1 (c9->bR->a)
j6 a c:=∀b∈a,c
vM a:=rk σ a
j7:=ef F
j8:=ef E
j9:=n+1
mH a:=bK f v a
j':=jt B
j!:=jt A
z5:=mr rh
i7 a b c:=a j0 j1 b c
i9:=dI B c
i_ a:=∀x0,a
j?:=cU k l
rP a:=(a).toNat
mI:=Uv _
lh a:=λ z=>a
li a b c:=λ a b H Q=>c
i':=g i j
ka:=Gn n
kb:=model d! w
kc a b:=uO a=b
mJ a b:=((a).bz b).sum
O? a:=Gs a c8._auto_1
rT:=(4519:Y)
rV a:=a<=F!
kd a:=ap (gu B a)
mK a:=a (gX aB)
ke a b:=bn (a<=b)
vN a:=Heap.get?_push_of_some _ a
lj a:=a dn dr
ll a:=k4 ta x a
kh a b:=∀y∈a,b
kj:=pc a
kl:=lU k l
ko:=cf H b
kq:=uU n
ks:=p - 1
mM:=x<=8192
py b:=b a=Z vE fs
mN:=x<4371
pz a b:=λ a b=>?_
vP:=dq a
mO:=Z v
kt:=vI x
vQ a:=vJ a 1
ku a:=a->Prop
lm a b:=by obtain⟨a,e1⟩:=b
ln:=cB (Y×Y)
mP a:=fq a rs EP
lp a:=by rw[f8 ae a]
lq a b:=by have:=a;rw[ei b]
z7 a:=seg aB bL fT a
lr:=aa - ax
mQ:=O? (x==("__debug__":aQ))
kv a b c:=λ a b _=>c
ky a:=.inr a
z8 b:=zx a b
Gy a:=a x=Z .local
rX a b c:=.O0 a b c
pA:=t.map (inf B)
pB:=fv=[]
mS:=ig r
rZ a b c:=fo ha λ v s1 a=>aO b c
mU:=zX k9 ej bQ oT jl k
r8 a b c:=iG pd X.A a b o3 c
ls:=fk dt
lu:=uO x
lv a b c:=∀(a b:Y),c
vT:=a%mj
mV a:=a i bG l
vU a b c:=aE a H b c q
kz:=y - 1
kA:=y - 1
kB:=x - z
vW:=mm q
kC:=y - z
kF:=x=y
kG:=x<y
r9 a b:=a bm gB b
lw:=lH m a q
lz:=Hp->Prop
Pa b:=FU B w t a b
Pb a b c:=envOfC a b ed f c
r_ a:=V2<=a
mW a b c:=∀(a:ac)(b:Y),c
r!:=FL ..
mX:=cE re o
lC:=dq f
lF:=n4 n t
mZ:=ef G
m3 a b c:=by have:=a;exact b al c
lG:=x≠0
lJ:=x<=64
z9:=dt+1
m4 a:=by exact False.elim a
m6:=rm aL
r?:=pj hb
sd:=b≠fX
z_ a:=a (u3 _)
GA a b c:=if a then Z b else c
z!:=rm Y
m9:=aA cH
se a b:=if a then b else ak
z? a b:=if a then ak else b
m_:=gN iM
Aa a:=a X.env.scope x
m? b c d:=ce b e a c d
lK a b:=¬a\/¬b
lN:=z<28
Ad:=Pv bC
nb a:=∃x3:a3,∃x4:a4,a
vY a b c:=a b (by simp[c])
ni:=Gn j
Ae a:=a (t':=vt)
nk:=Binds bQ fd ps ds
nl:=FM t us
nn:=(57344:Y)
np a:=bp a<=18
nq:=eg mt
nr a b c:=a o5 b m c
sf:=Pb oR l_ cd
nt:=cB (Y×ac)
nu:=mn kI
nv a:=by exact .inr a
nw a:=cc x2 x3 a
sg:=kQ B k c
Af:=f+1
Ag:=oz+1
nA a:=show a from r
nB:=bA aI
nC:=bA bH
Aj:=Sem a!
nE:=x<=10000
Pc:=(62:Y)
vZ a b:=∀x∈a,b
nF a b:=∀x∈a,b
nG:=.cluster
nK a:=n.getD a 0
pC a b:=(a b).elim
nL:=bN xs us
nM:=rD u
sh:=rH - 1
nO a:=a (gY bL)
nP b:=bc t a b
Ak b c:=lineBad n Pa b c
nQ:=(0:ad)
nR:=pa E
nT a b:=(a).uX b
nU:=.tup xs
Am a:=a bI H'
v0:=ew Uu
An a:=FQ a
pD a:=List.mem_append_right _ a
si:=x<4470
nV:=4519+z
nX:=#[6,i]
nZ a b:=(a).kP b
Ao:=Pv i σ H
n0:=aG<=y
n1:=bN gb ds
n5:=.str _
n6 a:=max m a
sj:=x::aB
GC a:=(a).oq
n8 a b:=λ _ a=>b
n9:=qQ CX X E
sk a:=a x hx
Aq:=dt+3
n_:=ez+1
n!:=x - eh
n? a:=A/\B/\a
oa:=bg<k
GD a:=ce leastBad e a
pF:=Go h2
GE a b:=re a=Z b
GF a b:=PySem.W.instObj a b
pG a b:=by unfold a;rw[ao b]
pH a:=by exact pt ae a
og:=64*y
v1:=.seq
pL:=vs++gb
GG a b c:={a with l?:=b,o0:=c}
pO a:=by unfold a;dsimp only
pR a b c:=if a=au then b else c
pS:=cg X.N x
pT:=28*y+z=zW
v2 a b:=my σ2 (a b σ2 H2)
v3 a b c:=by have:=a;rw[b,c]at al
pU:=x<44032+11172
pW:=dv h
pX a b:=zx a b
sm:=cg xs x
sn:=k8 x
p0:=jr aQ V
p3 a:=by cases a<;>rfl
p4:={s with o0:=vt+1}
p6 a:=((a:Y):ad)
oh:=_::_
oi:=x - y
oj:=y - x
At:=(a%ro)/mj
Au:=Value.ref a
Av:=a/ro
p7:=Gw 1 c=[]
p9:=pc cL
p! a:=λ x H1 I1 r1 q1=>a
p?:=q_ m
so a:=one a l7
qa:=by rename_i h
Aw a:=∀b∈fp,a
qb:=gN a
v4 c:=kT c a b
v5:=vF eX
Ax:=vM H
qc:=bh b tb
qd:=bh e te
GH:=qU B 8
sq a:=hs.2 b (vg rE e a)
qe:=44032<=x
GI:=.builtin
qf:=pc b
qh:=fh*a
Ay:=x=.cr a
Pd:=sort B w
sr a:=by rw[kM,a];rfl
qi:=(1:ad)
qj:=4352<=x
qk:=.chance
su a b c:=a I hg hm b c
ql a:=∃x1:a1,a
qm a:=∃x2:a2,a
sv:=mn α
qo a:=ga u a
qp:=4*y+z=x
sw a:=by wp_walk using Go h1,a
sx a b:=by simp only[a,i!]at b
sy:=rJ x rC x x
v6 a b:=by(have e:a=b:=by simpa using hb);subst e
v7:=x<4547
qq:=4352+y
qr:=4449+w
GK a:=(a).toNat
qs:=e8 B c
qt:=us++ds
sA:=by exact uQ Up (y6 h)
v8 a b:=by rw[iu];exact a b
sB a b:=∃bI a,mh bI H' s'/\b
v9 a b c:=by rw[iP a hq λ aF b c hz=>?_]
GL a b c:=be (a ba ag s σ H _ I b) c
sD:=gc=aA jU
qu:=z<=64
v!:=bS us a
AA:=dt+2
qv:=x+eh
qw:=ez<y
qz:=4*x+4
qA:=Gl X x
qB:=aG<y
qC:=x<bv
sE a:=(N2 a).1
sF a b:=(o.map λ a=>b).ox fe
sH a:=cR a x4 x5 x6 x7
AB a b c:=says a b GA (eR=au) m c
sI:=a0->a1->a2->a3->a4->cA a5 a6
v? a b c:=by refine ah h.eq ar a b c
sJ:=by rw[iu]
GM:=[a,b,c,d].all λ(x:Y)=>bn (x<128)
sK:=a<((b+vK)/fh)
sL:=ef C
sM:=ef D
qD:=max 0
qG:=y<=w
qH:=a::l
sN a b c:=by refine ah a ar b c hl
wa a b c:=by refine lM (hf it aM) λ f0 f1 f2 a b c=>?_
sO a b:=jB (vl a) b
sP a b c:=PW X rN .a b c
sQ a:=z7 (1+a)
AC a:=mi assignEach a
GN:=z8 vW
sR:=dJ (t.map Pd)
sX a:=ap (l0 a)
sY:=dw uU n
sZ:=eu F us=eu G us
s0:=jr aL Say
s8 a b:=by obtain⟨a,e⟩:=b
GO b c:=.Compare a b c ba
s9:=On []
AD:=GC pi 0
AF:=mm k
s_ a b:=rf (a b)
s?:=V->V->cA Hp VK
td a b c:=zx a b=c
th:=ce filled
tj:=mt+rO
AH:=vQ pi
tp a b:=by unfold a;rw[b];rfl
tt:=fk z9
tu:=cR G
tw a b c:=a Af i bG b=c
tx:={s with l?:=h'}
AI:=gP^(62:Y)
tz:=cB qI
tD a:=oT x=Z a
tE:=gV aa
tF a:=ap (a).isSome
tG:=(a+b)/k_
Pf:=(44032:ad)
tH a b:=show a by exact b
AJ a b c:=a _ (show b from c)
tI:=eg cL
wb:=X.calm=au
tJ:=el y
tL:=zV "list"
tM:=aJ K H a xs
tN a b:=show a by exact b
tO:=K.In dl
wc a:=pr fy gP a
tP:=Y×ac
tR a:=bm a h1
tS:=pb E
wd a b:=(a).Pairwise b
tV:=l6 l a b
tW:=t1->t2->t3->t4->t5->t6->px->r
tX:=bG=Z x
tY a:=by unfold a;simp
t0:=dS P w H h
t7:=rP l[a]
Pg:=sort B w c
t8:=ao ae
t9:=a/(256:Y)
AK a b:=∀a∈X.pn++ag,b
AL:=qU B n
t_:=mn aL
we:=qR k l
wg a b c:=a (i:=i) (b:=c)
GP:=a/fh
AM:=cf H' b
t! b c d:=b c a i aB d
GQ:=(64:Y)
t?:=(64:Y)
ua a b:=(a==b)=false
uc:=bA Env
ue:=mn Y
uf:=k7 f
ug:=ao h
uh:=[vP]
ui:=dO bQ C
GR a:=zE p a
AO:=iK i t
wj a b c:=by obtain⟨a,b⟩:=yY c
uj:=x<=1000
uk:=by omega
GS:=(2:ad)
AR:=4352<=x
AS:=4449<=x
AT:=4520<=x
wl:=p+d9
GT:=bc++[t]
ul a:=ap (a x)
um a:=PA X a t
GW a:=(a).oG
uo:=c::n::l
wm a:=Ae I.turned (λ b o hb e=>a) f0 f1 f3 f4 f5
wn:=vy (X.fn x=au\/Gy V!) A7._auto_1
up:=(0,[])
GX:=P.zip vs
uq:=x<=bv
ur:=eV _
AV:=eV j
ut a:=a+200<z
uu:=z4 x
A0:=GF C ed
wo a b d:=((a-b)+(d*(-gO)))=rn c
wp a:=vU (.cQ a) k! jP
GY:=588*y
uv:=z<588
uw a:=λ q=>a
ux a:=(a).ox
uy:=.bl _
uC:=(k,x)
uD a:=(a).d0
uE a b:=a - 1=b - 1
wq a b c:=by exact Oy aW a b c
wr:=Except qI gU
GZ:=backTo ba pf es
G1:=Value.ref jM
wt a:=by rw[f8 a (Uy _)]
wv a:=by exact Vc _ a
A1:=z_ I1.aR.fresh
ww a:=by apply List.ext_getElem?;intro a
wx:=a-gT
uG:=x::l
uH:=n::r
A2:=b::r
wy a:=a h1 h2
uI:=w<=z
Pi a:=VZ x=Z .a
wA:=GG s h' t'
wC a b:=by refine OJ a b
Pk:=GI "type.__call__"
wD:=cE X.base.get? o
wE:=Except qI en
wG:=GD l
wH:=cB (Y×kI)
wI:=f6 H' s'
G2 a b c:=∃a:mx,(∀bI H',Am N->∃m',m'<m/\b)/\c
wJ:=ce nI a gW
wK:=bp z3
uL:=mm p
uM:=b - a
G4 a b c:={a with nx:=b,ct:=c,bk:=rk}
Pm a:=F4 q? f a
wL:=zM Unit
wM a b c:=λ D σ H=>ml a b c
wN:=r.value.testBit 12
A4 a:=iS l0 a
A6:=jr aQ a!
wP:=Bad×z!
wQ:=Aa Loc
wR:=ap (u7 iF)
wS a b:=by obtain⟨a,b⟩:=h
G5 a b:=U_ a b
wT:=iO l
wV:=jr aL Y
Po a:=Wd a b
wW a:=by rw[show a from rfl]
Pp:=ce lineEnd
wZ b:=b<=(rT+vT)
w5:=aA (4*x)
w6 a b c:=if(ap a)then b else c
w8:=aa=ax
A8:=dv h1
w9:=jQ aa
w!:=(Pg).cls
w?:=aa<=4546
xf:=a!->a!->Aj
xg:=fk Aq
xh a b:=λ(a:kI)=>b
xj:=by dsimp only at h
xk:=4519<aa
xo a b c:=∃a:a4,∃x5:b,c
xp:=by split<;>simp
xq a b c:=show a by exact b c
xr:=GK ((i:Y):ad)
xv:=(11172:Y)
G7:=!xs.isEmpty
xw:=b<=bP
xx:=rM ba
xz:=ej P w K mg
xA:=GH c
xB a:=by unfold a at hx
xE a:=bm a hp
G8 a b c:=iC CX a w b mg eS N oR l_ f c A d? s H E
xF:=Ag - lW
xG:=jS m a aB
xH:=j_ s a aB
xI a b c:=Un fs a H b h c
xJ a:=width B w a
xK:=∀k∈ns,0<k
xL:=qL dt
xM a:=bg<y.1\/(x.1=y.1/\a)
xN:=I.ok.hd hc
G_:=vu {cls:=zV "range",fW:=.zD (On [iK lo t,pv hi u,pv 1 v])}
xO:=bA Stmt
xP:=em - 1
A9:=model P w
xQ a b c:=aE a H b c h
xS:=max y eB
xT:=upd H a o
xU:=(28:ad)
xV:=oo 0
xX:=bN vs us
xY:=Sem aL
x' a:=(pu a).2
A_ a:=(a b o e).1
x!:=bX k X.A
x?:=by rw[bo]
G' a b c:=λ a H2 I2 b q2=>c
ya:=4449<=x
yb a b:=(a).uX b
yc:=dJ l
ye:=zi f
yf:=h1 y hy
yg:=us.zip ms
G!:=Z ((Ak pp (pp==e)).plus (rL k).1,k)
yi:=x<=200
yj a:=λ a=>?_
yk:=il s r
yl:=.cQ i
ym:=b∉ch
yn:=uB K a
yp:=uN K a
yq:=Z e
yr a:=(a).zk
yt a:=#[a,?_]
G? c d e:=by rcases c with _|⟨a,_|⟨b,_|⟨d,_|⟨e,l⟩⟩⟩⟩
yv:=x<=18
yy:=x<128
yz:=y<=18
yA:=x+2+y
yC:=x+3+y
yE:=4*g4
yG a:=a r hr
yH:=c7 q hn
yI:=x+(y+z)
yN:=n - gd
Pq e f g:=GM&&((match rB with|c::r=>Oa c&&e|[]=>false)&&(!f (ee [a,b,c,d])&&(bn (t<NAMES)&&((firstNames[g]?).all λ(x:Bytes)=>rB==x))))
A':=jN pf g7 ((false,mC)::pf es)
A!:=A.under (Pk #[mz::us,kw])
Ha b c d:=by refine b c d;subst ex;obtain rfl:u=Au:=rx
Hb a:=by rw[fx,<-wpAny_Call_Name_kw a]
A?:=iT u mr kY z5
Ba a b c:=by obtain⟨hp,g,d,tk,os⟩:=s;refine bW a ar b h2 c
yO:=b.2+1
yQ:=f' b
yR a:=x - (a+z)
Bd a b c:=fo he λ v s1 a=>aO b c
Hc a b c:=GL ha h λ us s1 a=>aO b c
Be:=if u.sa=au then Gm GT r else z3++false::iO r
Pr a b c:=callWith ba a b (backTo ba pf c) (backToKw ba mi keywordEach [])
Bf:=eE o e vN e
Bg:=GW GN (nz m)
Bh:=Pm c.2
Bi a:=ge a [3,22]
Bk a b c:=jB (vl .a) (jx mw (.b (decide c)))
Bm a b:=jB (OP .a) (jx mw b)
Bp:=An ha
Bq:=Pi cell
Ps a c d:=GE l a/\cE re c/\R (.ok (.ret (.rc d))) s
yS:=x - 0
Hd:=n - 1
yU:=k+2
yW:=a+3
yX:=f x
Hf:=mm b
Bs b:=b<=(mG+At)
Bt a b:=by rw[a];exact gB b
Bu:=by refine Oy ?_
Bv e g i:=by rcases us with _|⟨x0,us⟩;(.cases hl);.exact e vL g h a b c d i f us (Nat.succ.inj hl)
Bw:=uT hl
By:=Gd _ ae
BA:=mB mL (a::z::v::l)
BB a b c:=jB (OP .a) (rI b mw eV c)
Hg a:=bm gB a
Hh a:=dw l.takeWhile a
BF:=k5 I.base.there hx
BG a:=N4 B w col a
Hi a b c:=λ σ H R=>ml a b c
BH:=aQ->cB NameKind
Hj b e f:=b A.in1 #[hp,g,d,tk,os] a e c f d! w
BI a b:=Pp (q_ a) b
BJ:=ef A
BK:=ef B
Hk:=rV ff
BL:=(a+vK)/fh
BM:=eu F (x0::l)
BO:=eu G (x0::l)
BQ a:=NJ a
BR:=GO [op] [b]
BS:=jr gD aL
BT a b c:=by show ly eR a b c _=_
BW:=rX o m apos
BY a:=λ z hz=>vY a z hz
BZ:=Y->mx
B0 a b:=by obtain⟨h1,a⟩:=b
B2:=vj k p.2
B3:=fh*GP
B4 a:=by exact Gb a
B5 a:=qN a aM
B6:=NC k []
B8 b:=measure B w t a b
B9 b:=b<=(mD+Av)
Hn a:=a plain_eq_loop _
B_:=g0->aL
B':=rm Row
B!:=rm Seq
B?:=aA eh
Ca:=fA cH
Cb a:=zd a
Cc a b:=(qZ a).d0 b
Cd:=aa+ax
Ce:=aa<ax
Cf a:=(gy a).oq
Ci:=(z:ad) - aa
Cl:=V->cA Hp VK
Ho:=Uy 0
Hq:=by simpa using al
Cn:=dv hy
Cp:=dv hx
Cq:=mq aL
Cs b:=kY a=Z b
Pt:=jT oz - lW
Ct:=rs EP
Cu a b c:=a f i bG b=.ok c
Hr a b:=Fm a b
Cw a b c:=a (by exact b hz c)
Cy a b:=rh a=Z b
CA:=bn (a<bg)
CB a b c:=x=24\/a=20\/x=21\/x=27\/b\/c
CC:=4449<=aa
CD:=aa<=4469
CF:=bA ac
CG a b:=pieceCost B a b
CJ:=bA cJ
CK:=iQ to.length
CL a:=k7 #[16,a]
Hs a:=a (t':=s1.toks)
CM a:=vL not a
CN:=fk AA
CP:=aj aM
Ht a:=a x=Z .jk
CQ:=((0:Y):ad)
CR:=b-iJ
Hu a b c:=∃W:Y->Y->cA St Hp,(∃m,W 0 m σ H)/\∀i m σ H,W i m σ H->((a).rg i H/\Ax)\/((b).go i H/\G2 N (W bC m' bI H') (∀x H',(c).pK i H x H'->g x σ H' v2 tb G4 D N N))
CS a b:=if a then b else[]
CT:=iJ+(11172:Y)
CU:=oZ x c e
CV:=weight1 e !=0
Hv:=by simpa using hx
CZ:=i<=ff
C0:=wf B w t col
C1:=(k,#[a,z,v])
C2:=NN B r
Hw:=Pq (r.all F3) Vz t
C4:=a<=(10000:Y)
C5:=(55296:Y)
C_:=(55295:Y)
C':=cB aI
C!:=cB aL
C?:=b<=cO
Da b:=b bQ H a xs
Db:=cO<=a
Dc:=aC K H a xs
Dd:=k5 E5 hx
De:=iE B n c
Dg:=u4 B u5 c
Di a:=by simp[a]at h
Dk a b c:=2*z+w=a->w<2->b->c
Dl:=Array a!
Pu:=oA+1
Dm:=0<cO
Dn:=cO - 1
Do:=bA Bytes
Dp:=Array (Option a!)
Dr a b:=(u8 a).b
Ds:=mm cP
Dt:=a<bP
Dv:=a<cP
Dw:=mF.getD t []
Dx:=((0:Y):ad)
Dy:=lY max k
DC:=Gp eR n r u
DD:=GR hp
DE:=hX B bc k
DG:=(p,w)::GX
DH:=nN kZ
DI a:=A.deeper a
DK a b c:=a aB bL fT b c
DM:=aa - 2
DN:=cst B bc
Hx:=vF br
DO:=bz B k c
DP:=mH fs
DQ:=cX us br
DS:=gP^Pc
DT:=GS^Pc
DU a:=vZ l a
DV a:=a=bP
DW:=GQ*c
DX:=GY+z=x
DZ:=zL N vs
D0:=cn x hx
D1 b:=back I a b
D2:=44032<=x
D3 a:=a<=r.last
D4 a:=AllBare a
D5 a b:=(a).oG b
D6 a b c:=λ a es ep b c=>?_
D!:=iQ bG
D?:=Gw 1 c
Ea:=b∉jm
Eb:=pz b hb
Ec:=v1 xb n2
Ed:=z.1.qV
Ee:=4520<=x
Ej:=gD×bj
Ek a b c:=λ i j a b c=>?_
El:=eC D' hi
Em:=cX us n
Hz:=(u,m)::r
En a:=ps.zip a
Eo:=b::jb
Er:=g9 a ns
Es:=a::b::jb
Et:=64*eh
Ev:=AU p t
Ew:=i6 p t
Ex:=z4 a
Ey:=Z u
Ez:=aY<=z
EB:=sU B t
ED:=o9 lo n
EE:=y<=64
EF:=.must
EG a:=λ x=>a
EH a:=λ i=>a
EI a:=λ p=>a
EJ:=k==13
EK:=-(2^62)
EL:=[op,lP]
EM:=bi - 1
EN:=x+2+z
EQ:=y+3+z
ES:=.cell
ET:=gd - a
EV:=bC - a
EW a:=(a).ox
HA a b c:=do let ov<-a;OA apos.atName;let(f,first)<-zG [ov] (OW ov b pl);Pr f first c
EX:=0<=x
EY:=x=29
EZ:=x=28
E0:=[b,c]
E1:=f' s
HB:=AB sj (u::r.map gl z.1) U6
HC:=jO jO r!
HD a b d:=by rw[fx,<-a rZ b d pw];obtain⟨c,rfl,q1⟩:=q1;cases r1
HE a b c:=by refine be (fi a _ I h) λ v s1 b=>aO c pw
E2:=x+3
E4:=8 - x
E8:=x=2
E9:=l++m
E_:=f - 1
E':=hi - lo
E!:=mm i
E?:=z - y
Fa:=x<=y
HG a b:=by rcases eA hx with rfl|hx;(.exact a);.exact b x hx
HH:=G8 P K aK
HJ a b c:=by obtain⟨u,hu⟩:∃a,b:=#[c,gg v0]
HK a b:=by have hb:a:=N! h;simp only[Gk,hb,b]
HL a:=r9 uT a
HM a b:=by have cj:a:=F1 b;simp only[cj,Option.all_none];rfl
HN a b c:=by simp only[a,b,fb,i!]at c
HP b c d:=Ay/\py b/\dO K C/\cb K C f/\c/\d
HQ:=(b∈oV\/r_ b)/\sd/\(∀x c,iW->c≠b)/\AK p (dQ≠b)
HR a b:=by obtain⟨a,b,h⟩:=Option.bind_eq_some_iff.mp h
HS a b:=by have cj:a:=N! b;simp only[cj,lS];rfl
HT a:=∀b u,a->mr kY->z5
HU a b c:=by rcases l with _|⟨a,_|⟨b,_|⟨c,l⟩⟩⟩
HW:=zR ((GZ).any (·.1)=false)
HX a b c:=be (r? _ I1 q1) λ u s2 a=>aO b G' y r2 (be (gJ ho s2 H2 x y v u _ I2 r1 r2 q2) c)
HY a:=last.bind λ(x:a)=>se gm Z du
Fc:=a-b
HZ a:=by rw[v3 a ja ja]
H0 a b c:=by refine df a λ bI H' b q=>?_;exact(cD bI H' I.sV c)
H8:=G1::us
H9 a b c:=jN (a b c pos.line c4) (pure fe)
H_ a b c:=by apply Vq;intro a b;rw[k? c]
H!:=λ(a:cB ac)(x:Y)=>a.bind λ(y:ac)=>z? (18<Pu) ((u4 B n x).bind λ(z:ac)=>z? (18<oA+NE) Z (y++z))
H? a b c:=iG pd A a b c s
Ia:=Pt+1+(d:ad)
Ib a b:=by unfold a;rw[y',b]
Ic a b c:=by rcases l with _|⟨a,_|⟨b,c⟩⟩
Id a:=bm Nat.le_add_left_of_le a
Ie:=Gy VZ
Ig a:=by(have:a:=by rw[jW]);subst al
Ii a b:=by apply List.map_congr_left;intro a b
Ij:=by exact Ux h
Ik:=au::G5 Hd fe
Il a b c:=∀i q,i<a->ld[i]?=Z b->c
Im a b c:=by(have e:i=a:=by exact sW hi a8);subst e;rw[lf #[b,gK hd c]]
Ip:=by dsimp only[U!]
Ir a b c:=g? gh a (last.all λ(x:b)=>bn (x.1<=c))
Is:=ew NQ
Iu a b d:=match fv with|[]=>a|b=>d
Iv:=Pf<=rn a
Px a b:=PySem.W.methodCall_KW (a:=b)
Iw a b:=O_ a=Z b
Ix a:=bm UB a
Iy:=(mo%ro)/mj
Iz a b c:=by rw[dA (ah (a h) ar m e b) c]
IA:=k5 V7 n hb hx
IC:=k5 V' n hb hx
ID:=dz-Pf
IE a b c:=by dsimp only at hr;rw[AJ jq (k<a) hk]at b;exact c _ (Ef.mp hr)
IF a b c:=by show(match a with|[]=>b|l=>c)=_
IH a b d:=if pB then a else b++d
IL:=Po op=false
IM:=λ k hk=>hp k jV hk
IN a:=List.mem_append_left _ a
IO a b c:=∀{xs:cu}{a:cm}(b:Y),c
IP:=cE X.iw.heap.get? o
IQ:=rL j
IR:=by rw[zc];simp
IS a b c:=OT a mz b=Z c
IT a b c:=∀(a:Y)(b:eo),c
IW:=mo/ro
IX:=(AH).d0 AD
IY a b c:={a with b:=Ad,c:=Ad,bk:=rk}
IZ:=v4 pA
I8:=c - jX - 0xAC00
I9:=by rw[UP]
I! a:=by exact Wj a
Py:=List.getElem?_range h
I? a:=vy a gv._auto_1
Ja a b c:=by refine aW (λ i m σ H=>m=a - i/\b/\Ao) (aZ c aM mI h0) ?_
Jb a b c:=a (cP+1) 0 ak b=c
Jd a b c:=a (gI+1) 0 ak b=c
Jg a b:=by(conv=>lhs;whnf);delta a;dsimp only;generalize b=x
Jj a:=by rw[List.mem_range]at a
Jk a:=(List.of_mem_zip a).1
Jl a b c:=by unfold l0 at a;simp at b;exact c hs
Jm a:=WI a
Jn:=F7 b o e n hx
Jo:=iS l3 FH
Jp:=zB xa.toList ns
Jq a b c:=by rintro a b σ H⟨rfl,hi,c⟩
Jr a b c:=pj a x b c I1 r1 q1
Js:=AC es
Jt:=Aw AM
Jv:=pk+i
Jw a:=by exact wpAny_Name a hd
Jx:=by exact Fv _
Jy a c d:=fM a H I1 c d jv (λ b hb=>(j2 hf).1)
Jz:=vH dl x dx C mA
JA:=ed+1
JB:=Ng h
JC a b c:=a0->a->a2->a3->a4->b->cA c a7
JD a b:=(kL a).bz b
JG a:=zB xb.toList a
JH a b c:=∀i σ a,b->Ao->c
JI a b c:=Fm (a b) c
JK a:=by refine rf a
JL a b c:=cc x2 x3 (a->b->c->U)
JM:=-AI
JN:=AR/\mN\/AS/\si\/AT/\v7
JO b c d:=show a+b=c by exact d h1
JQ a:=Gh f=Z a
JS:=bB - ax<0
Pz:=UA 4
JT a b c:={a with zf:=b,qV:=c}
JU a:=U_ a 0
JV a:=dw gy a
JY:=Gm bc l
JZ:=cE rh o
J0:=B.seqs.getD k []
J1:=ap (l3 iF)
J2 a b c:=li x y (∃a b,x=eV i/\y=AV/\c)
J3:=rB::hv
J4:=ce yT e a l
J5:=(pu (NP br)).1
J7:=cf Gh m
J8 a b c:=a P w K mg b c d? s H
J9 a b c:=if(ap a)then b else c
J_ a:=dw dJ a
J' a:=FF a r
J!:=dz<=(55203:ad)
J?:=cE kY o
Ka:=mK zl
Kb a:=FA c! a
Kc:=bB<ax
Kd a:=om (decide a)
Ke:=σ.set i mO
Kf a b:=if a then ak else b
Kj:=aa<=55203
Kl:=44032<=aa
Km a b:=show a by exact b h1
Kn:=Gn j9
Ko:=VY<=a
Kp:=55296<=ek+z
Kq a b c:=#[.bl a,H1,b,rfl,c]
Ks a b c:=∀k r,a->r∈b->c (k,r)
Ku:=aa<=4370
Kx:=4352<=aa
PB b:=b a OC
Ky:=zW<11172
Kz:=ek+z<57344
KA:=ad->ad->ad
KB:=I.ok.C6 x c KC hc
PD:=rb (ns.drop i) (ms.drop i)
KE a:=No (p:=a)
KF a b c:=Turn P w K tg a [it] it (λ i b=>c)
KH:=zx 1
KI a b c:=if a<b then 6 else c
KJ:=eU o
KK:=rM pos'
KM a c d:=a b o lh (c (by simp[d])) e
KN a:=ek+(57343 - a)=57343
KO a:=ek+(55295 - a)=55295
KP:=weight2 e !=0
KR:=by simpa using hy
KS:=v5 - v!
KT:=qU B n x
KW:=bX br X.A
KY:=qU B n a
KZ:=n<=gx
K0:=h x aM
K2:=4*t<uS
K4:=(55204:Y)
K5:=x<=16777216
K6 a:=0x1100+a/588
PF:=!aq.isEmpty
K7 a:=hM a ((·.1))
K_:=sg=lW
K!:=FA AL
K?:=plain w k g
Lc:=a-(b+eZ)
Ld b:=b (gy a)
Le:=y=16777216
Lh:=(4371:Y)
Lj:=(4470:Y)
Lm:=(4520:Y)
Ln a:=a<=uS
Lo a:=0x1161+a/28
Lp:=lR+1
Lu a:=a=ms.length
Lv:=cO+1
Lx:=0<bP
Ly a:=a<=cP
Lz a:=x+a<=120400
LA:=a<gI
LB:=a<cO
LC:=o1 x c e
LD:=f AO (iK j u)
LE:=k==0||(k==3||k==9)
LG:=hm b _ q λ z=>z
LI a:=oz<=a
LJ:=cs.headD 0
LK a:=gI - a
LN:=bA Says
LO:=bB=4
LP:=bB - 1
LQ:=bB=2
LR:=(du).first
LT:=iQ qM
LU:=x<1114112
LV a:=a<=8192->mM
LY:=i3 _ ae y hy
LZ:=λ _=>ak
L1:=upd H x o
L2:=x+ax
L3:=hv.map ee
L4:=i=oM
L5:=(65:Y)
L7:=l9 0
L8 b:=.UnaryOp b a ba
L9:=u? l
L_:=jf a
L!:=bK f y fs
L? a b c:=λ a b c e1 e2 e3=>?_
Md:=iK c u
Mf a:=FP a
Mh:=iM+1
Mi:=Y->Y
Mo:=u8 s
Mp:=y<=8192
Mq:=(1:Y)
Ms:=x<55296
Mv:=x<16384
Mw:=(0:ad)
Mx:=du≠0
My:=eval e env
Mz:=iK a t
MA:=min x y
MC:=sk f2
ME:=a::A2
MF a:=n.drop a
MG:=jE s a
MI b:=(b - 1)::g9 eX r
MJ:=iU p t
MK:=jw p t
PJ:=mS - 1
MM:=Gr r ta tb
MN:=bz B 0
MO:=uJ m a
MP:=λ _ q=>q
MQ:=X.pQ E
MR:=8 - cH
MS:=x::xs
MT:=eh - z
MU:=aY - 1
MW:=Hf - 1
MX:=z - x - 1
MY:=x=10
M0:=x=11
M1:=64<x
M2:=f v u
M3:=x++r
M4:=z=0
M5:=z+2
M6:=a++b
M7:=a - 1
M8:=b+1
M9:=lo+i
M_:=a+x
M':=x+z
M!:=y<x
M?:=i+j
Nb:=n+m
PL c d f:=match c with|ak=>d|e7=>if f then G! else e7
PM b d e:=by rw[fx,Ha Px pl pl (fo he λ u s1 b=>XZ d e) ht,<-NM I1 ea c hm l ?_]
PO a c d:=Meets (Builtin.«list.__eq__.loop» #[a,[]]) (λ _ R s=>Ps c d PD)
PP a b c:=by refine .inr (eI (cD xs (xs[i]) q jV a8) Ad (λ bI H' p'=>(fE (ff - bC) bm pq a8 ae a8 p')) h_ x H' y);obtain⟨e,y⟩:=y;subst e;exact hs i a σ b (c xs q) p
PQ a c d:=Meets (a #[[dq l,.cr b],[]]) (λ _ R s=>Ps c d (rb ns ms))
PR:=by(rw[G? l c d];((.rw[f8 h0 Ho]);.rfl);(.rfl);.rfl);.rw[f8 h (Nd (Pz bP))]
PZ a b c:=by rw[Hb su Al ?_ d5,<-WD (h₀:=jl) WE a (Hc b c λ vs H1 I1 r q=>#[I1.jL,?_]) he a_]
P1 c d e:=fq eU a (λ v s₁=>r8 eU b (λ c s₂=>r8 d e s₂) s₁)
P2:=(G_).objs.size
P3:=by rw[v6 b mf,I1.Co (u3 _) A1]
P4 a b c:=by rw[v9 a rv p,<-ah (rv.get hx) ar u hu ru,wa f3 f4 f5,<-b st c (x:=u) dv hu ar h' jv sb]
P5 a b:=by have hb:a:=F1 h;simp only[Gk,hb,b]
P6 a b:=by rcases eA hy with rfl|hy;(.exact a);.exact b y hy
P8 a c d:=aE dq mf (upd H1 mf a) (Hs I1.laid (λ b u c=>vN e) gi ?_) ae (d _ hf)
P9 a:=by rw[v8 Ux a]
P_:=iT u mr re z5
P' b e:=by rw[F1 jI];have b:=Hj e t u
P! a b c:=55296<=x/\x<57344->55295<=y/\y<=57344->a->rJ z rC z z->w<=y/\y<=b->bd c
P? a b c:=by cases e with|lO f=>rw[bo]|ok a=>exact aW b ae c
Qa a b c:=by rw[g5];obtain⟨hy,e'⟩:rV a/\k=(jT b !=0):=c;subst e'
Qc a b c:=by rw[dA (ah (FV a) ar i hi b) c]
Qd a b c:=by rw[aj a];obtain⟨k,hk⟩:∃k,ig b=k+1:=#[PJ,by exact ac0 hz];rw[c]
Qe a b c:=by rw[Nq (F8 a)]at e2;refine ah (b e2 e3) ar u' r' c;refine aW u' r' ?_
Qf:=(sf).o5
Qg a:=(vu vv).a A0
Qh a b:=by(have:x=c:=by simpa[a]using b);rw[dD al hc]
Qj:=by cases i with|cp=>exact al|cq i=>rw[Hq]
Qk:=by(have:x=c:=by rw[Hv]);rw[dD al hc]
Ql a:=by rw[Int.fdiv_eq_ediv_of_nonneg i a];exact q
Qm a b c:=by have a:b:=List.getElem?_zip_eq_some.mpr c
Qo:=Gs Po op _L.gH._auto_1
Qp a b c:=by subst e';rw[iP a b λ aF c pl hz=>?_];have fP:=lR
Qq:=Ht V!
Qr a b c:=by rw[v? f hf e];have hz:=a hr;have e2:=wg b aB aB hl;unfold fz at e2;rw[ao c]at e2
Qs:=Hn Around.under_plainId
Qy:=show PB s.heap.IsTuple from p
QB a c d:=av->Aw (o6 X ag H b)->tn i dl->a->iG A9 c (pyNext (.cr it)) d E s
QC a:=by apply Classical.byContradiction;intro a
QF:=∀σ H,Pv ff σ H->Ax
QG b c d:=by rcases b with _|⟨x,_|⟨c,h⟩⟩;((.rfl);.rcases t with _|⟨a,_|⟨d,t⟩⟩<;>rfl);.rfl
QH a:=by intro l i bG ps h;cases a<;>rw[bo];exact #[aM,dX,fC]
QI a:=show a by exact Nat.sub_eq_zero_of_le h
QK a b c:=(∃xs,aC a H p xs/\k=G7)\/(∃xs,aJ b H p xs/\k=G7)\/∃aq,H c=Z (.dK aq)/\k=PF
QM a b c:=by right;refine #[e,?_];simp only[uV,a,b,i!]at c
QO a b:=by show a;exact NK b
QP:=bm U9 h3
QQ a:=(vu vv).a
QR b c f:=ol (ol (ol (ol (ol b a) c) f) d) e
QS a:=by simp only[Array.length_toList]at a
QT a b c:=by injection a with d1 b;(have:c:=by simpa using vL Array.toList d1);subst al;exact r.inj r'
QU a:=g a ew Ur
QW:=oC I.ok.pM vp
QX a b c:=by simp only[List.zipIdx_cons,List.zipIdx_nil,a,b,c]
QY a b c:=by simp only[fb,i!]at a b c
QZ:=yY h
Q0:=mB oo (a::z::v::l)
Q1 b c d:=by unfold b;(have h1:(c a)[AF]?=Z d:=by rw[oF,show a+AF=k by exact FJ h,e]);rw[show k+1 - a=AF+1 by exact NU h,zt,h1];simp
Q3 a b c:=ly eR (a ks (num b)) c wl r
Q4:=by rw[gk Nat.sub_add_cancel h1]
Q5 a:=by rw[a,U',qW]
Q6:=by dsimp only[U!,uV,lS]
Q7 a:=by rw[e9 a List.takeWhile_cons]
Q9 a:=Gs a Ei._auto_1
Q_:=vu vv
Q! a b c:=k4 t xs (Hk/\∀p,cf H1 p->e6 cr a (upd H1 b c))
Q?:=by rw[qP,Py];rfl
Rb a:=by simp only[gC]at a
Rc:=FQ hl
Rd:=Nx hr
Re a:=a ew gB
Rf:=Hg fP
Rh:=by simp only[List.size_toArray];exact KD hs fP hz
Rj a b c:=match a with|b=>ak|Z (xs,t)=>Z (c::xs,t)
Rm b c d:=Hi tl x (∃b,Ay/\(∃xs,c)/\R d H1)
Rn a b:=VB bm a b
Ro a b c:=∀{binds:A6}{m:g6},(∀a,(x,v)∉binds)->b=c x
Rp a:=PySem.W.methodObj (.cr f) a
Rq a:=uT (by exact a)
Rr a b d:=∀(a b x:Y),k8 c->x∈d->sn
Rs:=List.Pairwise.filter _ List.pairwise_lt_range'
Rt a b:=VD bm a b
Ru a:=pC NJ a
Rx:=V.ref jM
Ry a b c:=GE a p.2/\cf H dQ/\dQ≠fX/\dQ∉jm/\∀b,c
Rz a b c:=by rw[iP Fy a λ r hr b _=>?_];rw[<-e];exact c r hr
RA:=Hh c! (x.cls==6)
RB:=ap (PySem.W.hasDictIn K C)
RF a:=by exact h a FL
RG:=by simp only[u1]
RH:=A4 qS
RI:=ew gB
RN:=Wu K C c6
RO a:=(Wv a).1
RP:=0xDFFF - pk
RQ:=0xD800 - pk
RS:=0xD7FF - pk
RT:=0xE000 - pk
RU:=s.heap.Ns fX m
RV a:=V_ jl a
R0 a:=(WF a).1
R1 a:=Ft a
R3 a b c:=by show a=_;unfold b;exact c (i:=i) (WF nd).2 A8 dv h2 hk
R5:=cellsFrom jM scope.names []
R6:=#[λ b o e n hb hx=>?_,λ b o e n hb hx=>?_,F7,λ b o e hx=>?_,I.base.oQ,I.base.oe,I.base.oU]
R7:=by exact zq k
R8 a b:=a i (List.mem_range.mp b)
R! a:=Nat.add_lt_of_lt_sub' a
R? a:=ap (PySem.W.handedIn a)
Sb:=Nq e
Sc a b c:=∃a,b/\∀c6,OR c6 c=Z (mA c6)
Sd a b c:=a->¬(55296<=y/\b<=57343)->(em=j4\/aa=55295/\ax=57344↔c)
Sf a b c:=#[λ i H=>a,λ i H x H'=>H'=H/\∀xs,b->sm,λ i H=>∃xs,c/\ff<=i]
Sg:=WI h
Sh a b:=ap (PySem.W.keepIn a b)
Si:=vg (zq _)
Sj a b c:=if bF then rb xs a else bn (b<=c)
Sl a:=a (UW i)
Sn:=by rw[N! jI]
So a:=Og q? f' a
Sq:=N2 h
Su a:=mJ a ((·.size))
Sw a c d:=j6 fp (∃a,c/\∀d,o.data≠.cell v)
Sx a b c:=by have hu:0<d9:=a (u,m) aM;have b:l4 Hz=d9+c:=by simp[l4]
Sy:=ed<=a
Sz a b:=Wo a b u
SA a b c:=∀(X:Cx),oY=a->X.w=b->bQ=K->wb->c
SB:=wy intBits_le_64
SC:=Hr h3.ab h4.ab
SD:=zJ=vx
SE a:=V0==a
SF:=zq _
SG a b c:=codeAny_mono (a r2 b) ar r s' c
SK:=Nz hr
SL:=bn (jj<=oM)
SM:=dJ (kN sh)
SN:=so [1,2,3]
SO a b c:=∀{a b:Y}{y:sv},j?[i]?=Z c->y.1=we+i
SR a b c:=sp (dq x::pL) (upd a x vE []) (λ v H2=>b=.cz/\e6 cr c H2) E
SS a:=wd a ((· < ·))
ST a b c:=do let a<-rl;OA b;zG [v] (truthy c)
SU:=A_ I.ok.bs
SV:=s.heap.IsCell c v
SX:=mV oo
SY a b c:=(b9 a (by exact b fs c qx)).1
SZ a:=mJ (kL 14) (λ k=>vn (lU k a) k)
S0:=dv hle
S1 a:=beq_iff_eq.mp a
S2:=OZ<1000
S3:=iQ key.length
S6:=NN B bc
S7 a:=show¬a by decide
S8:=(1114112:Y)
S9 a:=a - 0xAC00<11172
S_:=a<VY
S':=I.ok.BP b o e
S!:=Value.int i t
S?:=one [1,2,3] a
Ta:=one [12,10] a
Td:=one [13,11] a
Te:=NV br
Tf:=FP w k g
Tg:=Vz z
Ti:=I.ok.bs b o e
Tj:=Hx - 1
Tk:=kL 10
Tl:=by assumption
Tm:=NC 0
Tn:=NC 1
To:=w.keep=false
Tp:=zx 0
Tq:=vj 1
Tr:=j<1073741824
Ts a:=eT (a "range")
Tu:=l0 x
Tv:=kL k
Tw:=kL n
Tx:=zV "tuple"
Ty:=weight3 e !=0
TB:=(57343:Y)
TD:=55296 - eY
TF:=57343 - eY
TK:=57344 - eY
TL:=55295 - eY
TM:=variable_ e
TN:=a<=cP
TO:=cP<=a
TQ:=FA f
TU:=aa+(4 - 1)
TV:=x<=1114112
TW:=(8192:Y)
TY:=[cO]
TZ:=bP<4
T0:=N8 B
T1:=qT c
T5:=Nf k
T6:=bP=n
T7:=cP - a
T8:=p<cO
T9:=bef.drop 1
T_:=zy≠0
T!:=cP=cO
T?:=.function
Ua:=bB>=2^63
Uc:=kN sh
Ud:=qU B 0
Ue a b c:=λ a s2 b=>aO c λ y H2 I2 r2 q2=>?_
Uf:=l7==2
Ug:=b.pict&&sprout l
Uj:=vd a
Uk:=.lst xs
Ul a b c:=be (gJ hc s3 H3 _ I3 q3) λ w' s4 a=>aO b λ z' H4 I4 r4 q4=>c
Uo:=u::x::aB
}
section
open _Z _Z.T _Z.F
variable{x y z w q r t:Y}
def z:={
Bn:z=x->dE->am:=Qw
rY:0<=aa:=Qw
nD:bd (x<0):=Q
o_:qC->¬kF->ay:=Q
pq:c0->n!<bi:=Qw
uz:Ce->ay:=Qw
yK:fa=qv:=Qw
sC:ay->x<bv:=Q
sW:am->¬kG->bF:=Qw
xy:x<=aY:=Q
BU:x<z->y=z->ay:=Qw
Bx:ay->aa<ax:=Qw
zj:sD->n_=x:=Q
yu:¬(em<aa)->am:=Q
aej:am->am:=Qw
y_:x<aG:=Q
yh:c0->gc=aA jU:=Q
X':¬(bB<0):=Qw
Ah:b!->gc=aA jU:=Qw
A5:x<fa:=Q
AG:mM->nE:=Q
AN:w8->bF:=Q
BV:bF->aa=ax:=Q
ahk:4*z+w=y+3->w<4->x<z->4*x<y:=Qw
Bl{a b:Y}(h0:sK):qh<b:=c_ ahk
As:aa=2->x=2:=Q
HV:am->ez<=y:=Qw
ac8{x:ad}:b!->lG:=Qw
KD:Le->z=x->dE->aa<2^63:=Qw
G3:bi<=0->am:=Q
Gu:yS<=x:=Q
G9:sD->0<=gc:=Q
Ge:¬(0<=CQ - 1):=Q
FZ:0<aG:=Q
D_:0<y->bF->b!:=Q
EU:ay->bd dH:=Q
GV:db->y=z->am:=Q
Fx:cY kF (bB=ax):=Q
Iq:mM->x<2^40:=Q
FN:0+aa*4=aA (4*x):=Q
Eg:LV (y+x+z+w):=Q
D8:c0->ez - y<bi:=Q
Gz:dH->¬M!->bF:=Q
Ki:yv->y<=18*z->aY<=18*eB:=Q
KL:ay->x<y+z:=Qw
Fb:c0->x≠y:=Q
Fq{a:Y}:((fA qh)/(4:ad))=rn a:=bZ
Lb:w+q<=z->w=x->q=y->Ez:=Qw
K8:am->¬Kc->bF:=Q
Ji{y:ad}:aa<y->x<tJ:=Q
MH:x<=aG:=Qw
IV:x=y+eB->x=bv+z:=Qw
JF:kc (bB+1 - ax) ek:=Q
OB:am->y<1114112->w9/\tE/\jQ (ax+1)/\gV (ax+1):=Q
IK:Cd=aA (x+y):=Q
Pl:m9 - 1=aa:=Q
Je:sD->y=yS->qw:=Q
L0:b!->x=n_:=Q
Ma:ay->aG<bv:=Q
Lq:x<z->z=y->am:=Q
Kv:¬(0<aa)->x=0:=Q
Nv:x+3+z<=y/\w<15/\0<z->x+3<=y:=Q
O2:x+3<=yC:=Q
OH:x<el xP->aG<y:=Q
MD:qv=aY+1:=Q
XT:aa<1\/c0->b!->c0:=Q
Qv:1<=aa/\am->b!/\am:=Q
awF:4*z+w=y+3->w<4->x<z->4*x<y+4:=Qw
NI{a b:Y}(h0:sK):qh<(b+fh):=c_ awF
LH:LV (aY+z+w):=Q
OI:LV (y+z+x+w):=Q
Ou:jQ gc:=Q
K1:c0->gc>=ax:=Q
Ol:aa=4->x=4:=Q
OO:¬(LP>=aa):=Q
NZ:yy->x<2^8:=Q
JE:yI<=w->aY+z<=w:=Q
MZ:aY - x=y:=Q
aE7:bi<=bi:=Q
afH:am->Le->x<=1099511627776:=Qw
NB{x:ad}:x<ax->dF->z<2^63->x<2^63:=Qw
Pw{x:ad}: -em<=x->dF->z<2^63->-2^63<=x:=Qw
OV:Ez->Ez:=Qw
azE:fa=cZ+w->aY=z+w:=Qw
aL2:y=z->w=x->aY=z+w:=Qw
Tc:y=z->z=x->am:=Q
adl:y=x->am:=Q
Yg:bi=cZ->n!=z:=Q
ad3:cY kG Kc:=Q
abW:am->aG<=EQ:=Q
aDF:ay->bd bF:=Q
acn:w+eh<=z->x<=w+1->aY<=z:=Qw
S5:x<=cZ->dZ->qw:=Q
YU:uq->ez<=bv:=Q
TH:x<3->y=3->ay:=Q
V6:aG=z->x - kz<z:=Q
R':aG - 1=x:=Q
Ut:fa=aY+1:=Q
aBW:aa≠ -1:=Q
acj:aa=m9 - 1:=Q
acu:ay->¬(x=kA)->x<kA:=Q
abJ:ay/\dF->am:=Q
RY:lJ->uj:=Q
P7:dH->x=y+oi:=Q
aeS:am->x+1*oj=y:=Q
Xi:1<=x/\x<1+kz->b!:=Q
Wl:z<x/\x<=w+1->w<q->q=y->am:=Q
YF:c0/\x<=cZ->0<bi:=Q
Z2:ay/\qG->x<w/\w<=cZ->ay/\y<=cZ:=Q
VM:x - w<=cZ->w<y->bi<=z:=Q
T':qz<=y->4*x+1<y:=Q
WX:0<aa->lG:=Q
UD:cY MY (bB=10):=Q
ad9:¬(oi=0)->1<=bi:=Q
YL:x<4*y+4->x - 4*y<4:=Q
aeb:kC<=x->dZ->n_=x:=Q
PY:x+2<=yA:=Q
aer:cZ+w<=y/\q<3/\dZ->x+2<=z->x+2<=y:=Q
Yb:y<=aG->lr+1+cx=aA (eY+z):=Q
aGn:m9=aa+1:=Qw
aek:0<y->db->aG<=y+z:=Q
ZZ:1+aa=aA cH:=Q
ab4:qB->x<el xP:=Q
aad:aa<=ax->bd c0:=Q
Xu:¬(em<=aa)->ay:=Q
acp:aa=11->x=11:=Q
abr:cY (bB=11) M0:=Q
adt:Ce->bd dH:=Q
S4:yC - E2=y:=Q
aB5{a:Y}:((wx-iJ)%mj)=et:=uk
aes:n!=cZ->x - (eh+1)=z:=Qw
aax:qC->x≠y->ay:=Q
Yt:aa=13↔x=13:=Q
X1:4*cH<y+4->4*x<y:=Q
amB:qp->z<4->4*y<x+4:=Qw
adG{a:Y}:B3<(a+fh):=lj amB
SH{a b:Y}(h0:(b%fh)=et)(h1:sK):(qh+vK)<b:=bZ
VT{a b:Y}(h0:(b%fh)=et)(h1:sK):(qh+k_)<b:=bZ
Y4{a b:Y}(h0:(b%fh)=et)(h1:sK):(qh+eZ)<b:=bZ
auz:qp->z<4->4*w+q=x+3->q<4->z=0->w=y:=Qw
Wz{a:Y}(h0:i5=et):BL=GP:=auz dn dr dn dr h0
aC2:aa<=ax->am:=Qw
RD:aY - x+1=bv:=Q
SI:x<=1+og+z->aG<=1+og+eB:=Q
Um:x<=og+z->aG<=og+eB:=Q
TJ{a b c d e f:Y}(h0:pr fy gO d)(h1:(d+e)<b)(h2:a<=((eZ+DW)+e))(h3:b<=f)(h4:f<=t?):C4:=bZ
Ya{a b c d e f:Y}(h0:pr fy gO d)(h1:(d+e)<b)(h2:a<=(DW+e))(h3:b<=f)(h4:f<=t?):C4:=bZ
adw:cY (bB=6) (x=6):=Q
Rg:aa=6->x=6:=Q
UI:db->dZ->qw:=Q
aL7:bv<=2->x<=cZ->aY<=cZ+1:=Q
aaD:z<w->z=x->w=y->ay:=Q
Ww:x<=n_:=Q
U8:am->dF->qu->2*x<=200:=Q
Q2:aG<z->y=z->qB:=Q
Zg:yI=aY+z:=Q
VA:cY (y=x) kF:=Q
SW:z<z\/z=z/\ay->ay:=Q
ao3:yz->MA<=18:=Q
axw:x<=18*z->yz->z<=18->aY<=1000:=Q
axq:x<=18*y->yz->uj:=Q
az9:aa=8->x=8:=Q
alK:x<=8->¬(bB=8)->x<8:=Q
ai5:aa<=18->yv:=Q
awm:x<8->MR<E4:=Q
apl:ax<=18->x<=18*y->x<=324:=Q
asN:18<aa->18<x:=Q
ani:¬(18<aa)->yv:=Q
aj8:yv->aa<=18:=Q
adU{a b c d e:Y}(h0:wc d)(h1:a<=((eZ+DW)+e))(h2:b<=L5)(h3:e<t?):C4:=bZ
YC{a b c d e:Y}(h0:wc d)(h1:a<=(DW+e))(h2:b<=L5)(h3:e<t?):C4:=bZ
QN:bF↔w8:=Q
RL:aa=1->x=1:=Q
Zr:cY (bB=1) (x=1):=Q
Rw:z - 1=y->x<z->x≠bv:=Q
aah:cY LQ E8:=Q
Qz:x<=x+0:=Qw
aaj:x<=w+z->w<=bv->x<=y+eB:=Qw
aeC:x<14->aG<32:=Q
UT:¬(32+x<32):=Q
aaK:x<15->32+x<64:=Q
Tt:¬(64+x<32):=Q
V3:¬(64+x<64):=Q
ady:b!->am->y=1->x=1:=Q
Qx:am->x+(eh - x)=bv:=Q
abf:x=z->z=y->bF:=Q
acw:0<aa->b!:=Q
aG4:4*y+z=x+3->z<4->x<=4*y:=Qw
R9{a:Y}:a<=(fh*BL):=lj aG4
Wh:x<15->y=15->ay:=Q
Ys:aa=0->x=0:=Qw
aeL:¬(Ca=0):=Q
abv:0<w5->w5 - 4=aA (4*x - 4):=Q
QA:qz<=y->4*x - 4<y:=Q
ade:b!->w5 - 2=aA (4*x - 2):=Q
Xm:qz<=y->4*x - 2<y:=Q
abT:w9:=Q
Uz:ay\/bF/\z<w->am:=Q
Z0:64<aa->64<x:=Q
RE:cY (64<aa) M1:=Q
XE:¬M1->nE:=Q
RR:yi->yi:=Q
Sr:bF->¬kG:=Q
aeP:qe/\x<55204->Ky:=Q
ac0:¬gw->x=n_:=Q
Yn:db->min oi E?=bi:=Q
VN:ay->x+oj=y:=Q
adB:max (max x y) z=max x (max (qD y) z):=Q
abO:z<w->z=q->w=q->bF:=Q
Vf:LU->ek<=1114112:=Q
Yl:am->aG<=bv:=Qw
Zm:aG+z<=y->z=1->qB:=Q
adV:EN<=y->ay:=Q
RX:bF->Mp->nE:=Q
aac:am->lr<=0:=Qw
asb:am->Le->¬Ua:=Qw
TR:x+3*eh+5<z->aG+3*y+5<z:=Qw
afB:ut (x+16*eh)->ut (aG+16*y):=Qw
aFo:min oi E?<=z:=Qw
Wg:dZ->z=x->am:=Qw
aBa:0+y=z+x->am:=Q
aqF:cZ+y=0+x->¬Fa:=Q
amw:x=z\/bF->¬(x=z)->bF:=Q
agO:db->z=y->¬(x=z)->ay:=Q
aCo:z=y->z<=x->¬(z=x)->¬Fa:=Q
aqM:y=z\/y=x->¬(y=z)->am:=Q
aKB:y - x=0->am->bF:=Q
ahM{x:ad}:(EX/\x<=1114111)/\lK (55296<=x) (x<=57343)↔0<=x/\lu<1114112/\¬(55296<=lu/\lu<57344):=Q
apu:x=yS:=Q
aFM{a b:Y}:((dz+fy)/gP)=aA tG:=bZ
aq8:2*q+r=aY->r<2->ay->qG->z=w->q<z:=Qw
aAj{a b c d:Y}(h0:a<b)(h1:b<=d)(h2:c=d):tG<c:=aq8 dn dr h0 h1 h2
aLg:x<z->dE->am:=Q
asC:Dk (y+x) c0 (x - eB<bi):=Qw
awW{a b:Y}(h0:b<a):(a-(((b+a)/k_)+eZ))<Fc:=c_ asC
amx:Dk aY ay (cZ<=y):=Qw
aoG{a b:Y}(h0:a<b):(tG+eZ)<=b:=c_ amx
azq{y:ad}:cx<y->db->aa<y:=Q
awM:Dk aY ay (z - x<y - x):=Qw
aBY{a b:Y}(h0:a<b):(tG-a)<(b-a):=c_ awM
anV:Dk aY ay db:=Qw
agZ{a b:Y}(h0:a<b):a<=tG:=c_ anV
aqR:2*w+q=aY->q<2->ay->dF->uI:=Qw
aKT{a b c:Y}(h0:a<b)(h1:b<=c):tG<=c:=aqR dn dr h0 h1
av7{x:ad}:x<=cx->dE->x<=ax:=Q
anu{x:ad}:x<=ax->lu<=y:=Q
aGx{y:ad}:aa<=y->x<=tJ:=Q
awe:x=z->¬(y<z)->am:=Q
auj:bi<=w+1->yR (y+3)<=w:=Q
aAg:bi<=q+1->x - (y+2+z+1+w)<=q:=Q
aiD:am->aG<=y+2+z+1+w:=Q
agw:¬(bB= -1):=Q
aCT: -1≠aa:=Q
axC:¬(-1=aa):=Q
aFA{x:ad}:0<=x/\x<cx->y=z->lu<y:=Q
aHo{x:ad}:0<=x/\x<ax->x=aA lu:=Q
av1{y:ad}:¬(y<aa)->x<=tJ:=Q
azY:x<=min z y->am:=Q
aLY:1+x - 1=x:=Q
agt:x=3\/x=22->x≠22->bd (x≠3):=Q
aue:x=9\/x=15\/x=30\/x=31\/x=41\/x=46->¬(x=3)/\¬(x=22):=Q
afW:b!->uq->x+(y - jU)=bv:=Q
aK7:0<=m9 - 1:=Q
akK:el (Ca - 1)=x:=Q
aqo:gc=m9 - 2:=Q
agD:0<=Cd:=Q
azV:kc (bB+ax) aY:=Q
atQ:x<28->28=x+(27 - x+1):=Q
anX:b!->bd (0=x):=Q
ati{a:Y}:(((dz%gP)=qi)↔((a%k_)=Mq)):=bZ
auf:z<w/\w<=y->x<=y - w->aG<=kC:=Q
aiK:x<=kC->EE->lJ:=Q
awr:am↔aa<=ax:=Q
azf:ax<=aa->am->w8:=Q
af9:x<z/\dE->am:=Q
afv:ay/\qG->x<w/\uI->ay/\dF:=Q
atz:x<=2->z=16777216->w<8->q=bv->q<=w+1->Ez:=Qw
aA0:am/\y<x+(z - x)->qC:=Q
aJE:c0->bi=n!+1:=Q
auK:dF->z<x->bi=z - y+(x - z):=Q
aqr:z<=x/\x<z+(y - z)->ay:=Q
ag0:aG=1+x:=Q
asz:n0/\y<aG+(eB - x)->ay/\y<=cZ:=Q
arR:z<=x/\x<z+(y - z)->am:=Q
agY:n0/\y<aG+(z - cH)->ay:=Q
axG:bi=0->bd c0:=Q
aiX:y<z->dE->x≠2:=Q
ah6:am->¬(y=x)->n0:=Q
aid:ay->¬(cH<y)->x=kA:=Q
auA:bi<=0->bd (¬Fa):=Q
aD0:c0->x=n_:=Q
ap0:bi<=x:=Q
anv:bi<=aG:=Q
au8:¬(4*y+4<=x)->x - 4*y<4:=Q
alI:x<yC:=Q
aty:x<yA+1+z:=Q
aDe:0=aa\/4=aa\/8=aa\/10=aa↔x=0\/x=4\/x=8\/x=10:=Q
aK0:x=10->aa=10:=Q
aLS:y<z->y=z->x<x:=Q
aKt:bF->dF->z<w->w<=64->lJ:=Q
aJh:b!->y+x<=z->bd dE:=Q
als:uj->w9/\tE:=Q
avF:cY gw (0+aa=0):=Q
amH:¬gw->0+aa - 1=aA jU:=Q
aJG:m9>0:=Q
aK3:aa<8->x<8:=Q
aiU:aa<8->MR<E4:=Q
at8:aa<8->aG<=8:=Q
avt:aa<8->E4=MR+1:=Q
aiY:¬(bB<8)->E4=0:=Q
aJu:4*cH - 4=4*x:=Q
ag5:4*cH - 2=4*x+2:=Q
ahz:4*cH - 1=4*x+3:=Q
aKa:x<y+3->bi<3:=Q
aDn:bi<=w->yR (y+3)<=w - 1:=Q
aMe:x<y+2->c0->bi=1:=Q
ajS:x - q<=w->q+2<=y->yR eh<=w - 1:=Q
ayU:x+(1+y)=fa:=Q
alD:rJ x lK (55296<=x) (x<57344)↔sy:=Q
atx:55296<=w/\w<57344->55295<=y/\y<=57344->x<=w->uI->sy->rJ z rC z z->am/\dF:=Q
aKI:P! (z<=x) q (q<z):=Q
aw7:P! db q (z<w):=Q
auB:x=bv->lG:=Q
ayi:ek+z<=w->rJ w rC w w->ek+z<1114112:=Q
anJ:Kp/\Kz->z<10->TL<10:=Q
atn:Kp/\Kz->z<10->TD<10:=Q
ay7:0<y->x<55296->KO eY:=Q
awR:KO eY->ek+(55296 - eY)=55296:=Q
asc:x=55296 - MT+1->lG:=Q
amN:C5<=C5/\C5<nn:=Q
arK:C_<=C_/\C_<=nn:=Q
alR:KO eY->z=TL+1->z=w->bd (w=TD+1):=Q
azj:sy->y<=10->¬Ms->TF<10:=Q
aoW:sy->y<=10->¬Ms->TK<10:=Q
aLo:Kp/\Kz->KN eY:=Q
ajq:KN eY->ek+(57344 - eY)=57344:=Q
ash:x=57343 - MT+1->lG:=Q
aw2:C5<=TB/\TB<nn:=Q
aGi:C_<=nn/\nn<=nn:=Q
aoL:KN eY->z=TF+1->w=TK+1->bd (w=z):=Q
aK9:0<=aA (eY+z):=Q
auU:CQ=CQ+1->uq:=Q
aJq:aa=ax+1->x=bv:=Q
aBT:bd (CQ=aa+1):=Q
aom:dZ->¬(z<x)->ay:=Q
amU:¬M!->¬(y=x)->ay:=Q
azT:ay->dF->z<w->bd (w<=x):=Q
aAi:dH->z=bi->x=y+z:=Q
alM:x<z+w->y=z+q->w=kC->ay:=Q
aBB:EE->dE->w=z - q->r<=w->x<=q+t->t<r->nE:=Q
aJp:x<=y+z->aG<=y+eB:=Q
ayc:z<x->x - xS<kB:=Q
azD:x<=z+w->w<=q->q=kC->x<=xS:=Q
auV:x=y+z->¬M!->bF:=Q
awq:x<z->x<xS:=Q
aL8:ay->x<xS:=Q
aI2:x<xS->y=z+w->¬kG->bF:=Q
aGI:uj->-DS<=qi/\qi<DT/\w9/\tE:=Q
azQ:1+aa - 1=aa:=Q
ag7:0<aa/\Ce->bd (x=0\/dH):=Q
aFt:¬(0<aa/\Ce)->x=0\/dH:=Q
akm:db->dZ->am:=Q
aCa:ay->x+(kz - x)<y:=Q
afS:ay->x+(kz - x)=kA:=Q
avP:y<256->z=x->dE->x<256:=Q
aLO:mM->-DS<=qi/\qi<DT/\w9/\tE:=Q
aHe:z<0->ay:=Q
ayz:x<el xP->ay:=Q
axz:aa=11->¬MY:=Q
aJc:aa=10->x=10:=Q
ahv:aa<256->x<256:=Q
arZ:x<256->aa<256:=Q
aiu:cY (bB=10) MY:=Q
anO:lr<3->x<y+3:=Q
aAt:¬(em - aa<3)->x+3<=y:=Q
aE8:y+3<=x->¬(x<y+3):=Q
ao0:15<=aa->bd (x<15):=Q
amr:aa<15->x<15:=Q
anZ:1<=aa/\am->b!:=Q
aGa:ax - cx - 3<aa->z+3<=y->¬(x<=y - (z+3)):=Q
aEs:¬(Ci - 3<ax)->yC<=z:=Q
apb:yC<=z->min (E2+y - E2) (z - E2)=y:=Q
aDN:EQ<=w->x=z->w<=8192->mM:=Q
aIa:cY M0 (bB=11):=Q
aEk:Kx/\Ku\/CC/\CD\/xk/\w?\/Kl/\Kj↔qe/\pU\/AR/\mN\/AS/\si\/AT/\v7:=Q
aru:lr<0->ay:=Q
agW:lr<0->-(bB - ax)=aA oj:=Q
ajy:x<65536->¬JS->-2^64<lr/\lr<2^64:=Q
av0:cY JS kG:=Q
aGD:¬JS->lr=aA oi:=Q
aAf:z=w->q=r->(bB<=ax↔z<w\/z=w/\(q<r\/q=r/\am)):=Q
aCY:z=w->¬kF->(bB<=ax↔z<w\/z=w/\(kG\/bF/\q<=r)):=Q
amX:¬kF->(bB<=ax↔ay\/bF/\(z<w\/z=w/\q<=r)):=Q
ahg:18<x->am->bd yz:=Q
av2:n0->y - cH=0->aG=y:=Qw
ave:kc aa el ax->bF:=Q
afE:TV->x<16777216:=Q
arP:LU/\rC x x->LU:=Q
auF:0=aa\/3=aa\/9=aa↔x=0\/x=3\/x=9:=Q
alX:qp->z<4->¬M4->4*y<x:=Qw
aJR{a:Y}(h0:¬(i5=et)):B3<a:=c_ alX
agc:4*w+q=x->q<4->4*w+4<=x/\dF->q=0:=Qw
aCU{a b c:Y}(h0:(((B3+fh)<=a)/\(b<=c))):i5=et:=c_ agc
aLr:qp->z<4->z=0->x<=4*y:=Qw
axJ{a:Y}(h0:i5=et):a<=B3:=c_ aLr
axO:dE->aa+(em - cx+1)=aA (x+MT):=Q
az2:4096<aa->4096<x:=Q
aym:cY (4096<aa) (4096<x):=Q
aut{a b:Y}(h0:(b%a)<a):(dz-(fy%dz))=aA (a-(b%a)):=bZ
akO:lG->aa>0:=Q
afU:x+1*y=aY:=Q
ap9:kc (bB - (em+1)) EM:=Q
aHU:am->dF->z<=1000->jQ j4/\gV j4/\jQ ax/\gV ax:=Q
amT:db->z<=1000->EM<=1000:=Q
alm:j4+ax=aA (cH+y):=Q
ata:y<el ((w:ad) - (bB+1))->uI->fa<z:=Q
ajb:x<=kC - 1->qG->w<=1000->uj:=Q
avC:kc (LP - xP) bi:=Q
aq4:am->EE->gV gc:=Q
azd:am->dF->qu->gV gc:=Q
anU:yS<=y->bd c0:=Q
ajF:y<yS->x≠y:=Q
agx:y<kB->bi=EM+1:=Q
aHP{a b c:Y}(h0:Fc=(c+eZ)):wo dz gO fy:=bZ
aCZ{a b c d:Y}(h0:pr fy gO a)(h1:b<=d)(h2:d<=t?):((JM<=rn a)/\(((dz<AI)/\(((JM<=rn b)/\(fy<AI)))))):=bZ
aw3:y<el Ci->aY<z:=Q
aJI:aY+1=qv:=Q
axM:x<aY+1:=Q
aAe:aA (x+y)+1=aA (x+y+1):=Q
ar7:aY=z->Cd=cx:=Q
aq2{a b c:Y}(h0:pr dz gO b):et<Fc:=bZ
aL9:x<=1+og+(z - w)->z<=q->q<=64->x<=1+Et:=Q
arH:x<=og+(z - w)->z<=q->q<=64->x<=Et:=Q
aH7{a b c:Y}(h0:wo dz gO fy):Lc=c:=uk
ak9{a b c:Y}(h0:pr fy gO a):a<b:=bZ
agl:c0->n_=x:=Q
anl:cY (bB=5) (x=5):=Q
aAc:aa=5->x=5:=Q
aEp:sD->DM=aA jU - 1:=Q
avJ:sD->ez<x:=Q
avS:x<z->dZ->qw:=Q
azp:cY LO (x=4):=Q
auE{a b:Y}(h0:b<=a):(((((dz-gO)-(fy-gO))%gP)=qi)↔((Fc%k_)=Mq)):=bZ
ahZ:x - x+y=y:=Q
aJv:ax - 1=aA kz->dH->x - kz+z=bi+eB:=Q
apc:6=aa\/8=aa\/26=aa\/27=aa↔x=6\/x=8\/x=26\/x=27:=Q
afK:3=aa\/4=aa↔x=3\/x=4:=Q
alT:x<=18*min z w->yz->z<3->aY<=16777216:=Q
amo:AR/\mN->JN:=Q
awa:AS/\si->JN:=Q
ay2:AT/\v7->JN:=Q
aHE:¬(qj/\mN)->¬(ya/\si)->¬(Ee/\v7)->(qj->4371<=x)/\(ya->4470<=x)/\(Ee->4547<=x):=Q
azX:x<=kC->EE->aG<=65:=Q
aJ4:lJ->1+x<=100:=Q
aKY:aa<B?->x<bv:=Q
aBj:bv<bv->n_<x:=Q
aFC:ay->¬(x=kA)->qB:=Q
ahy:am->y<cZ->z<w->w=q->q<=64->2*x<=998:=Q
aKM:c0->dZ->bi<kB:=Q
aEv:db->dZ->n0:=Q
atU:qC->aa<B?:=Q
aJJ:z<w->z=q->w=r+1->¬(q<r+1)->x=kA:=Q
ayG:y<w->dE->w=x->n!<kB:=Q
ayW:aG<z->y=z->ay:=Q
aiS:m9 - 2=gc:=Q
ait:DM=gc - 1:=Q
aor:bd (et<et):=Q
awG:aG=z->bi<z:=Q
ajl:0<y->x<=MU:=Q
aGc:uE aY (x+z)->0<y->bd (y<z):=Q
alw:aY<=x+z - 1->bd dZ:=Q
aBs:¬kG->¬kF->0<bi:=Q
ahD:y+z=w->x<w->¬kG->bi<z:=Q
aK1:¬(z<y)->uE (aY+E?) (x+z):=Q
aqi:uE aY (x+z)->0<z->¬(y<z)->bd (¬(y=z)):=Q
afT:x<=90->yy:=Q
agJ:x<=122->yy:=Q
aIC:x<4*y+4->min 4 (x - 4*y)≠4:=Q
aEZ:¬(gw\/x=3\/x=9)->lG/\x≠3/\x≠9:=Q
av9:aY+(z+0)=x+z+y:=Q
akI:bd (x<x):=Q
aGW:b!->18<bv->bd (y+M'<=18):=Q
aK4:18<aY->bd (yI<=18):=Q
air:y+M'<=18->yv:=Q
aC4:0<z->x+z<=y->ay:=Q
atP:Kx/\Ku->¬(D2/\pU):=Q
axe:Kx/\Ku->AR/\mN:=Q
al0:CC/\CD->¬(D2/\pU):=Q
al4:CC/\CD->¬(qj/\mN):=Q
aiw:CC/\CD->AS/\si:=Q
aBE:xk/\w?->¬(D2/\pU):=Q
aD1:xk/\w?->¬(qj/\mN):=Q
aEP:xk/\w?->¬(ya/\si):=Q
amE:xk/\w?->AT/\v7:=Q
aHJ{a:Y}(h0:(((Iv/\J!))/\((ID%xU)=nQ))):((iJ<=a)/\(a<CT)):=uk
auu{a:Y}(h0:(((Iv/\J!))/\((ID%xU)=nQ))):gT=et:=bZ
amI:Kl/\Kj->qe/\pU:=Q
aIZ{a:Y}(h0:(Iv/\J!))(h1:¬((ID%xU)=nQ)):¬(gT=et):=bZ
aC0:kc (bB - 2 - (-1)) ez:=Q
aiE:jQ DM:=Q
apq:x<=65->gV DM:=Q
aqX:ez - 0<=y->bd (bv<x):=Q
aCC:kA - 0<=x->ay->x=kA:=Q
aoV:x<kA - 0->bd (x=kA):=Q
agF:y<ez->ez - y=x - 2 - y+1:=Q
asP{a b c:Y}(h0:((a-eZ)-b)=(c+eZ)):wo dz gP fy:=uk
aEX{a b c:Y}(h0:wc a):a<b:=bZ
ak6{a b c:Y}(h0:wc a):(a+eZ)<=b:=bZ
aGg:bv+x<z->z<=65->x<64:=Q
aDJ{a b c:Y}(h0:wo fy gP dz)(h1:b<=L5):a<t?:=bZ
aAY{a b c:Y}(h0:pr dz gP b):Lc=((Lc-eZ)+eZ):=bZ
akP:x<=65->n!<=64:=Q
aLm:x<=1+og+z->qu->x<=1+Et:=Q
aKq:x<=og+z->qu->x<=Et:=Q
aGf{a b c:Y}(h0:wo dz gP fy):((a-eZ)-(b+eZ))=c:=uk
atf{a b c:Y}(h0:wc a):(a+eZ)<b:=bZ
aGR:ez - jU=0:=Q
aBm:uj->ez<=1000:=Q
aq0:lG->min 1 x≠0:=Q
anD:lG->1<=x:=Q
ayM:w8↔y=x:=Q
awk:aa=39->x=39:=Q
aHL:cY (bB=39) (x=39):=Q
ay1:CB x EY EZ->CB x EZ EY:=Q
aLV:CB x EZ EY->CB x EY EZ:=Q
aE2:1<=x->ez=y->x=bv:=Q
aiB:cY (jU=y) (x=bv):=Q
aEC:z=w->w=aY->aY<=z:=Q
atX:am->y<z->z<=w->w<=64->nE:=Q
akS:c0->dE->n!<kB:=Q
aDv:db->dE->uq:=Q
ai2:db->dE->aG<=bv:=Q
aK8:am->x+(oj+1) - 1=y:=Q
axL:am->x+(oj+1)=bv:=Q
atj:x=2->bd (¬LQ):=Q
aoF:aa=3->x=3:=Q
afL:x=3->bd (¬(bB=3)):=Q
aCp:aG+1+1+y+1+w<=z->aG+1+1+y<=z:=Q
aHa:x=4->bd (¬LO):=Q
aif:x=12\/x=10->¬(x=13)/\¬M0:=Q
akc:x=1->¬E8:=Q
aoQ:x=1->aa=1:=Q
aqG:x=3->¬E8:=Q
arC:x=3->¬(x=1):=Q
aj3:x=3->¬(bB=1):=Q
aBu:cY E8 LQ:=Q
aB9{x:ad}:0<=x/\lu<=y - eB->min (uO x) (y - eB)=lu:=Q
ay8{y:ad}:0<=y/\tJ<=z - cH->x<z->aG+tJ<=z:=Q
aFZ:¬(x<0):=Q
aKL:0=aa↔x=0:=Q
aCy:4=aa\/5=aa↔x=4\/x=5:=Q
aEU:b!->db->dE->qw:=Q
aGT:qB->am:=Q
agR:ek+eB=w->ax - 1=aA kz->y<=aG->aG - kz+z=w:=Q
aGk:ek+0=z->y<=aG->aa - xP=cx:=Q
aI0:aG - 0+0=y->aa - (((0:Y):ad) - 1)=ax:=Q
azo:b!->ay->¬(gw\/bF):=Q
aAu:1<=x/\x<1+kz->ay:=Q
aAp:dH->¬Kc:=Q
ax2:dH->aG=y+eY:=Q
awD:am->y<z->x+(eh - x)<=z:=Q
aC5{x:ad}:cY EX EX:=Q
aj5:ax=aa->bi+1=1:=Q
aED:dH->¬(em=aa)->¬(oi+1=1):=Q
axY:bi - z=x - (y+z):=Q
aCF:x<q\/x=q/\z<r->q<y\/q=y/\t<w->r<=t->ay\/bF/\z<w:=Q
aCu:x<q\/x=q/\z<r->q<y\/q=y/\r<w->ay\/bF/\z<w:=Q
aEw:am->y=z->qu->lJ:=Q
aLB:lJ->nE:=Q
alk:kc LP ez:=Q
auq:lJ->gV gc:=Q
asn:0+aa=aa:=Q
aKj:bv<=x->gc=aA jU:=Q
aCG:cZ<=x->x<=w->y=w->qw:=Q
aps:y=x->bF:=Q
aEx:b!->-bB<= -1:=Q
amF:kc (-1+aa) ez:=Q
avj:MA<=x:=Q
ayy:bF->y=0->x=0:=Q
am1:x<=bv - z->y<1114112->TV:=Q
aHj:ax=aa->bF:=Q
apR:w=fa->uI->fa<=z:=Q
aiG:1=aa->x=1:=Q
agM:aa=2\/aa=3\/aa=6->x=2\/x=3\/x=6:=Q
aAN:x=2\/x=3\/x=6->bd (aa=1):=Q
agP:aa=4\/aa=5->x=4\/x=5:=Q
ahY:x=4\/x=5->bd (aa=1):=Q
asX:uq->ez<bv:=Q
ajf:0<y->MU=x+kz:=Q
auk:0<y->aA (x+y) - 1=aA (x+y - 1):=Q
am2:x=9\/x=15\/x=30\/x=31\/x=13\/x=47↔(x=9\/x=15\/x=30\/x=31)\/x=13\/x=47:=Q
agT:64<=aa->bd (x<64):=Q
asi:¬(64<=aa)->x<64:=Q
alH:¬((vK:ad)<=aa)->x<3:=Q
aJM:x<3->x=0\/x=1\/x=2:=Q
ahc:3<=aa↔3<=x:=Q
aho:4*x<=qz:=Q
apC:qz - 4*x=4:=Q
aFK:bF->y=z->z<64->nE:=Q
aC8:aa<(vK:ad)->0<aa->b!/\x<3:=Q
aCj:(0<x->3<=aa)->¬(0<x/\x<3):=Q
ayX:Kl/\Kj↔qe/\pU:=Q
ar0:qe/\pU->aa - 44032=aA (x - 44032):=Q
atL{a:Y}:((fA mo)%xU)=aA gT:=bZ
ajv:pT->lN->0<cx->¬M4:=Qw
atA{a:Y}(h0:nQ<aA gT):¬(gT=et):=c_ ajv
af2:pT->lN->aa - cx=aA (x - z):=Qw
ayT{a:Y}:(dz-fA gT)=aA wx:=lj af2
aJy:pT->lN->4519+cx=aA (4519+z):=Qw
ahU{a:Y}:((4519:ad)+fA gT)=aA (rT+gT):=lj aJy
aoH:pT->lN->¬(0<cx)->z=0:=Qw
aJL{a:Y}(h0:¬((0:ad)<aA gT)):gT=et:=c_ aoH
ah3{a:Y}:((fA mo)/(588:ad))=aA IW:=bZ
ase{a:Y}:(((fA mo)%(588:ad))/xU)=aA Iy:=bZ
avr:GY+z=zW->uv->4352+ax=aA (4352+y):=Qw
aCq{a:Y}:((4352:ad)+fA IW)=aA (mD+IW):=lj avr
atJ:GY+z=zW->uv->28*w+q=z->q<28->4449+o? w=aA (4449+w):=Qw
asI{a:Y}:((4449:ad)+fA Iy)=aA (mG+Iy):=atJ dn dr dn dr
aHC:w8->bd (¬kF):=Q
aF9:x=0->3=aA (max 3 x):=Q
aww:cY (bB=0) gw:=Q
arw:x=0\/3<=x->¬gw->aa=aA (max 3 x):=Q
aua:2=aa\/3=aa↔x=2\/x=3:=Q
agf:aa=3↔x=3:=Q
aoA:1=aa\/3=aa↔x=1\/x=3:=Q
akG:x<=400->0+301*x<=120400:=Q
aCN:Lz (301*eh)->x<=120400:=Q
auM:Lz (301*eB)->y<=300->fa<=200000:=Q
aw8:Lz (301*eB)->y<=300->qv+301*z<=120400:=Q
afA:ay/\dF->bd (z<=x):=Q
aHI:qC->x<bv+1:=Q
aKC:x+3+z<=y->x+2<y:=Q
ay6:x+3+z<=y->aG<y:=Q
as2:EQ<=w->am->w<=8192->mM:=Q
akR:EQ<=x->yR (y+3)<bi:=Q
aB1:dZ->z=x+2+w->qB:=Q
axR:y=EN->x+2<=y:=Q
atV:x=y+2+z->x - (y+2)=z:=Q
ajd:aG<=fa:=Q
aDf:fa - cH=y:=Q
apB:am->y<z->z<=8192->mM:=Q
amG:bv+z<=x->y=w+2+q->yR eh<x - w:=Q
anb:x<=w->y=w+2+q->aG<=bv+z:=Q
anf:55296<=x/\x<=57343->bd rJ x (Ms\/57344<=x):=Q
am5:aa - aA (4*y)<4->x<4*y+4:=Q
ari:¬(em - w5<4)->qz<=y:=Q
awg:4*y+4<=x->¬(x<4*y+4):=Q
aox:0<4*aa/\ax=cx↔¬gw/\y=z:=Q
aKm:¬gw/\y=z->b!:=Q
af1:b!->w5 - 1=aA (4*x - 1):=Q
aiP:qz<=y->4*x - 1<y:=Q
aGS:y=x->aa=ax:=Q
axD:am->y=16255->Mv:=Q
axs{a:Y}:(dz%(gP^k_))=aA i5:=bZ
akt:qp->z<4->2<cx->z=3:=Qw
aAK{a:Y}(h0:GS<aA i5):i5=(3:Y):=c_ akt
al2:qp->z<4->z=3->bd (¬(2<cx)):=Qw
ay0{a:Y}(h0:i5=(3:Y))(h1:¬(gP<aA i5)):kH:=al2 dn dr h0 h1
aAJ:2^14<=x->bd Mv:=Q
arD{a:Y}:(dz/(256:ad))=aA t9:=bZ
ah0:256*y+z=x->z<256->0<=ax:=Qw
ak5{a:Y}:nQ<=aA t9:=lj ah0
ah2{a:Y}:((fA t9)%(64:ad))=aA (t9%GQ):=bZ
aC9:qp->z<4->((z:ad)=2↔z=2):=Qw
ajO{a:Y}:((fA i5=GS)↔(i5=(2:Y))):=lj aC9
aAS:256*y+z=x->z<256->64*w+q=y->q<64->Mv->q=y:=Qw
aoq{a:Y}(h0:a<(16384:Y)):(t9%GQ)=t9:=aAS dn dr dn dr h0
aCg:x<=100->tE:=Q
ajY:bF->y<z->z<=100->x<=100:=Q
aHz:el aa=x:=Q
aHw:x<14->y=14->ay:=Q
agB:4*z+w=y+3->w<4->x<z->Mp->mM:=Qw
axv{a b:Y}(h0:sK)(h1:b<=TW):a<=TW:=agB dn dr h0 h1
aou:2+2*x=2*cH:=Q
aBl:am->y<z->z=w->w<=64->2*x<=998:=Q
azt:dZ/\y<=w+1->z<q->q=x->bi<kB:=Q
ahX:dZ/\y<=w+1->db->n0:=Q
aw5{a b:Y}:((fA ((a/b)%k_)=qi)↔(((a/b)%k_)=Mq)):=uk
aFP{x:ad}:y<0->x= -1:=Q
ayp:x=4*y->aG+1+1+1=4*eh:=Q
ajQ:4*z+w=y->w<4->y=4*x->x=z:=Qw
aIe{a b:Y}(h0:b=qh):a=(b/fh):=c_ ajQ
apt:¬(0<x/\x<3)->x=0\/3<=x:=Q
ayI:aa+(em+((z:ad)+o? w))=Cd+cx+o? w:=Q
arL:8192<aA (x+y+z+w)->8192<aY+z+w:=Q
alF:yi->2+x<=2000:=Q
ag6:yi->x<=298:=Q
aIP:lJ->yi:=Q
avM:lJ->¬M1:=Q
ajt:bF->x<bv:=Q
aiM:x+0+(y+(0+1))=aY+1:=Q
alC:aG+(y+0)=aY+1:=Q
aKg:¬kG->¬kF->¬(x<bv):=Q
amn:x+0+(y+0)=aY+0:=Q
ayZ:db->z=y->qC:=Q
auO:y+w=x->z - w=0->¬(z<w)->x=y+0+z:=Q
amc:db->dZ->qC:=Q
arb:y+x=z->y=z->x=0:=Q
at0:¬(Fa/\dF)->am->dZ:=Q
aAm{a:Y}:(dz/(4:ad))=aA GP:=bZ
ak1:588*z+w=y - 44032->w<588->28*q+r=w->r<28->44032<=y/\y<44032+11172->x=4352+z\/x=4449+q->sy:=Qw
asG{a b:Y}(h0:((iJ<=b)/\(b<CT)))(h1:((a=(mD+(CR/ro)))\/(a=(mG+((CR%ro)/mj))))):((a<S8)/\(¬((((55296:Y)<=a)/\(a<nn))))):=ak1 dn dr dn dr h0 h1
aso:28*z+w=y - 44032->w<28->44032<=y/\y<44032+11172->x=y - w\/x=4519+w->sy:=Qw
aiq{a b:Y}(h0:((iJ<=b)/\(b<CT)))(h1:((a=(b-(CR%mj)))\/(a=(rT+(CR%mj))))):((a<S8)/\(¬((((55296:Y)<=a)/\(a<nn))))):=aso dn dr h0 h1
arG:DX->uv->x<11172->qq<4371\/4449<=qq/\qq<4470\/4520<=qq/\qq<4547:=Qw
as8{a:Y}(h0:a<xv):(((mD+Av)<Lh)\/((((B9 mG/\((mD+Av)<Lj)))\/((B9 Lm/\((mD+Av)<(4547:Y))))))):=c_ arG
arM:DX->uv->x<11172->44032<=qq->55204<=qq:=Qw
apI{a:Y}(h0:a<xv):(B9 iJ->B9 K4):=c_ arM
agV:DX->uv->28*w+q=z->q<28->4352<=qr/\qr<4371\/qr<4470\/4520<=qr/\qr<4547:=Qw
awy{a:Y}:(((Bs mD/\((mG+At)<Lh)))\/((((mG+At)<Lj)\/((Bs Lm/\((mG+At)<(4547:Y))))))):=agV dn dr dn dr
aHm:DX->uv->28*w+q=z->q<28->44032<=qr->55204<=qr:=Qw
amO{a:Y}:(Bs iJ->Bs K4):=aHm dn dr dn dr
aEc:28*y+z=x->lN->z≠0->4352<=nV/\nV<4371\/4449<=nV/\nV<4470\/4520<=nV/\nV<4547:=Qw
aEm{a:Y}(h0:vT≠et):(((wZ mD/\((rT+vT)<Lh)))\/((((wZ mG/\((rT+vT)<Lj)))\/((wZ Lm/\((rT+vT)<(4547:Y))))))):=c_ aEc
auo:28*y+z=x->lN->44032<=nV->55204<=nV:=Qw
aka{a:Y}:(wZ iJ->wZ K4):=lj auo
asT:qe/\x<55204->qe:=Q
ag3:pT->lN->¬M4->44032<=kB:=Qw
apN{a:Y}(h0:¬(gT=et)):(44032:Y)<=wx:=c_ ag3
afw:pT->lN->Ky->kB<44032+11172:=Qw
aKW{a:Y}(h0:mo<xv):wx<CT:=c_ afw
ayS:pT->lN->Ky->kB - 44032<11172:=Qw
asf{a:Y}(h0:mo<xv):(wx-iJ)<xv:=c_ ayS
ahG:z=aG->dE->ay:=Q
aga:w+x<=z->bi<=z - w - y:=Q
aAA:aY - M'=kC:=Q
akT:ay->y<z->x+oj<=z:=Q
aKN:x<z->c0->bi<z - y:=Q
azv:1<=y/\y<1+MX->x<aY:=Q
aDq:1<=y/\y<1+MX->aY<z:=Q
aGG:c0->x=y+oi:=Q
anH:dH->¬kG:=Q
ao8:am->EM=0:=Q
aze:n0/\y<aG+MX->ay/\dF:=Q
afX:x<z->y=z->ay/\dF:=Q
atl:cZ<=x/\x<cZ+(w - z - 1)->y=w->ay:=Q
aj4:max x z<=y->am:=Q
aFE:max z x<=y->am:=Q
aIA:x=0->dH->qD x=y:=Q
aLd:ay->y<w->w=z->am/\y<z:=Q
ar2:db->dE->w<x->qw:=Q
aDM:sD->b!:=Q
auY:dE->uI->¬(w<x)->am:=Q
alU:K5->¬Ua:=Q
aCM:¬(z<=x)->bi<=z - y:=Q
alg:97<=aa/\aa<=122↔97<=x/\x<=122:=Q
asZ:x=4↔aa=4:=Q
axo:65<=aa/\aa<=90↔65<=x/\x<=90:=Q
aKS:¬(x<1114112/\rC x x)->lK D2 (x<44032+11172)/\lK qj (x<4371)/\lK ya (x<4470)/\lK Ee (x<4547):=Q
akb: -DS<=(10:ad)/\(10:ad)<DT:=Q
alb:am->y<8192->nE:=Q
aIG:¬(cH=0):=Q
aLL:b!/\am->b!/\am:=Q
ayV:ax - cx - 1<aa->¬(x<kC):=Q
aBo:¬(Ci - 1<ax)->fa<=z:=Q
agn:cZ+x<=y->x<kC:=Q
aBp:b!->x<3->x=1\/x=2:=Q
aBJ:b!/\am->y=1->x=1:=Q
anW:0<z/\z<=w->aG+z<=y->qB:=Q
aGZ:b!->65536<=ax->¬gw/\65536<=y:=Q
aiN:¬(0<aa)->bd (¬gw):=Q
aFp:¬(65536<=ax)->x=0\/y<65536:=Q
ar5:lr<2->x<y+2:=Q
arY:¬(em - aa<2)->x+2<=y:=Q
am9:y+2<=x->¬(x<y+2):=Q
az3:3<=aa->bd (x<3):=Q
az0:aa<3->x<3:=Q
aln:c0\/dZ->am->dZ:=Q
aFq:am/\dF->am/\dF:=Q
apY:ax - cx - 2<j4->¬(x<y - M5):=Q
aJT:¬(Ci - 2<ax+1)->yA<z:=Q
aJV:z+2+x<y->x<y - M5:=Q
aLw:Mp->min x (y - M5)<=8192:=Q
aJO:x+2+w<z->y=w->yA<=z:=Q
aqv{x:ad}: -2^62<=x->x<2^62->-2^63<=x/\x<2^63:=Q
aBD:x<2^40->tE:=Q
ajW:4*y+z=x+3->z<4->jQ ax:=Qw
auC{a:Y}:JM<=aA BL:=lj ajW
aA9:4*y+z=x+3->z<4->x<2^40->gV ax:=Qw
aEa{a:Y}(h0:a<(k_^(40:Y))):aA BL<AI:=c_ aA9
aEV:jQ TU:=Q
apr:x<2^40->gV TU:=Q
awS:EN<=y->aG<y:=Q
afu:yA - (x+2)=y:=Q
aIN:EN<y->aG<y:=Q
akn:bi=cZ->x=y+eB:=Q
aIU:y<w->z=x+(w+1)->aA (cH+y)<cx:=Q
aIm:z=y+0->fa=x+(1+z):=Q
anG:z=x+(w+1)->¬(y<w)->¬(fA (cH+y)<cx):=Q
ajj:qG->z=w+q->q=0->¬(y<w)->fa=x+(1+z):=Q
aoh:qv=fa:=Q
aEg:qv+1=x+(y+2):=Q
aHt:x<=x+(y+2):=Q
axj:x+(y+2) - x=bv+1:=Q
anC:db->z<w->w<=y->am:=Q
azz:x=y+z->bi=z:=Q
avV:x<q->dH->q=y+z->q<=w->bi<min z (w - y):=Q
aHA:aG<bv->ay:=Q
aqe:uE yI (aY+z):=Q
ajm:0<y->MU<yI:=Q
akq:x<y+z+w->x<y+(z+w):=Q
afM:x<w->dH->w=y+z->bi<z:=Q
awB:bv=z->x=z - w->w<=y->b!:=Q
ali:cZ=y->db->x+oj - 1=z:=Q
axl:x<w->dH->w=y+z->¬(cH=w)->ek<z:=Q
aGC:dH->0<ek:=Q
aEL:x<w->dH->z=w - y->¬(cH=w)->ek<z:=Q
aJW:am->x+(eh - x) - 1=y:=Q
aqJ:qv - x=bv:=Q
aIy:¬(bB=0)/\ax=3 - aa->¬gw:=Q
aMf:¬(em=0)/\aa=3 - ax->aY=3:=Q
aB4:x=4/\¬(y=2)->bd (¬LO\/ax=2):=Q
aq6:aa=4/\¬(em=2)->x=4/\¬(y=2):=Q
agz:aa>2->bd (x<=2):=Q
ayx:aa<=2->x<=2:=Q
auZ:y≠x->dH->n!<bi:=Q
aqp:x≠y->am->n0:=Q
aCJ:cx=2->z≠2->bF:=Q
aij:kc (Ca+1 - (em+1)) ek:=Q
aj6:am->y<z->qu->jQ j4/\gV j4/\jQ (B?+1)/\gV (B?+1):=Q
akF:x<z->qu->ek<=1000:=Q
apT:y<el (fA (w+1)+1 - (bB+1))->w<z->aY<z:=Q
aqu:j4+ax - 1=aA (x+y):=Q
aGr:el (bB+1+ax) - 1=aY:=Q
awQ:lK qj (x<4371)/\lK ya (x<4470)/\lK Ee (x<4547)->¬(qj/\mN/\4449<=y/\y<4470):=Q
aD2:cx=2/\aa=0/\ax=0->x=0/\y=0:=Q
al1:aa=1↔x=1:=Q
arU: -DS<=nQ:=Qw
aLs:nQ<DT:=Qw
aCf:aG<=aG+1:=Qw
ayA:uq->aG<=bv+1:=Qw
akU:x<1000->K5:=Qw
az1:x+3*w+5<z->qG->x+3*y+5<z:=Qw
aF6:ut (x+16*w)->qG->ut (x+16*y):=Qw
aHd:ut (x+16*eh)->ut (x+3+16*y):=Qw
av6:x+3*z+5<y->ay:=Qw
agH:x+16*z+200<y->x+64<y:=Qw
aFT:MA=x->am:=Qw
aDS:x=z->dE->x+oj=y:=Qw
ams{x:ad}:x<0->el L2<=y:=Qw
ayB{x:ad}:max L2 0=aA el L2:=Qw
atg{x:ad}:¬(x<0)->min x ax=aA (min (uO x) y):=Qw
atO:¬(gO<nQ):=Qw
aCK:kc (bB+ax*1) aY:=Qw
aBZ:z<=w->min oi E?<=w:=Qw
aFh:cx=0->kB=y->bF:=Qw
al7{z:ad}:0<=z->el z=x->z<ax->ay:=Qw
aEy{y:ad}:0<=y->-bB<=y:=Qw
aCL{z:ad}: -em<=z->el (z+ax)=x->¬(0<=z)->ay:=Qw
anw{x:ad}:¬EX->x<ax:=Qw
apU: -Ca<= -1:=Qw
aqN:el (-1+m9)=x:=Qw
aCc:am->¬(x>y):=Qw
aGw:x+(0+1)<=aG:=Qw
at3:x<=0+y->y<=15->K5:=Qw
aMj:0<=aA jU:=Qw
akW{x y:ad}:0<=x->0<=y->w+z=lu+tJ->aY - cx=o? w:=Qw
QL{y:ad}:y<0->qD (min (y+aa) aa)=(el (y+aa):ad):=Qw
Qb{y:ad}:¬(y<0)->qD (min y aa)=aA (min (uO y) x):=Qw
aiT:j4>ax->j4=aA (max y cH):=Qw
alL:¬(bB+1>ax)->ax=aA (max y cH):=Qw
aoP:Sd (x=55295) y (57344=y):=Qw
arQ:Sd (¬(x=55295)) y (aG=y):=Qw
asx:aa=0\/¬(em=3 - aa)->¬gw->bd (y+x=3):=Qw
}
section z
section
variable{a0 a1 a2 a3 a4 a5 a6:Sort _}{C:aH}{E:bb}{t1 t3 t4 t6 t5 t2 s r:Type _}{H:b7}
def z:={
bq{A:Prop}{B:Prop}{U:Prop}(h:A/\B)(k:A->B->U):U:=by rw[wS hA hB,k hA hB]
cF{A:aT}{U:Prop}(h:f9 b6)(k:i_ (b6->U)):U:=by rw[wS x0 hA,k x0 hA]
bW{A:Prop}{B:Prop}{C:Prop}{U:Prop}(h:A/\B/\C)(k:A->B->C->U):U:=by obtain⟨hA,hB,hC⟩:=h;exact k hA hB hC
ah{A:aT}{B:aT}{U:Prop}(h:ia b6 ck)(k:∀x0,b6->ck->U):U:=by obtain⟨x0,hA,hB⟩:=h;exact k x0 hA hB
iN{A:Prop}{B:aT}{C:aT}{U:Prop}(h:A/\ia ck ci)(k:A->∀x0,ck->ci->U):U:=by obtain⟨hA,x0,hB,hC⟩:=h;exact k hA x0 hB hC
bM{A:aT}{B:aT}{C:aT}{U:Prop}(h:f9 (b6/\ck/\ci))(k:i_ (b6->ck->ci->U)):U:=by obtain⟨x0,hA,hB,hC⟩:=h;exact k x0 hA hB hC
df{A:aH}{B:aH}{U:Prop}(h:fj (c9/\bR))(k:gq (c9->bR->U)):U:=by obtain⟨x0,x1,hA,hB⟩:=h;exact gp
wU{A:aT}{B:aT}{C:aT}{D:aT}{U:Prop}(h:f9 (b6/\ck/\ci/\fN))(k:i_ (b6->ck->ci->fN->U)):U:=by obtain⟨x0,hA,hB,hC,hD⟩:=h;exact k x0 hA hB hC hD
aO{A:aH}{B:aH}{U:Prop}(h:g! b_)(k:j5 (b_->U)):U:=by obtain⟨x0,x1,hA,hB,hC⟩:=h;exact k x0 x1 hA hB hC
fR{A:aH}{B:aH}{D:aH}{U:Prop}(h:fj (c9/\bR/\b_/\fH))(k:gq (c9->bR->b_->fH->U)):U:=by obtain⟨x0,x1,hA,hB,hC,hD⟩:=h;exact gp hC hD
D7{A:bb}{B:bb}{U:Prop}(h:jZ (eH/\eG))(k:gq nw (eH->eG->U)):U:=by obtain⟨x0,x1,x2,x3,hA,hB⟩:=h;exact cR k hA hB
vG{A:aH}{B:aH}{D:aH}{E:aH}{U:Prop}(h:fj (c9/\bR/\b_/\fH/\nR))(k:gq (c9->bR->b_->fH->nR->U)):U:=by obtain⟨x0,x1,hA,hB,hC,hD,hE⟩:=h;exact gp hC hD hE
jd{A:aH}{B:aH}{C:bE}{D:bE}{U:Prop}(h:g! qm (da/\dU))(k:j5 (∀x2,da->dU->U)):U:=by obtain⟨x0,x1,hA,hB,x2,hC,hD⟩:=h;exact gp x2 hC hD
gQ{A:bE}{B:bE}{C:bE}{D:bE}{U:Prop}(h:iX (ib/\eK/\da/\dU))(k:i_ cc x1 x2 (ib->eK->da->dU->U)):U:=by obtain⟨x0,x1,x2,hA,hB,hC,hD⟩:=h;exact k x0 x1 x2 hA hB hC hD
abR{A:aH}{B:aH}{C:bE}{D:bE}{E:bE}{U:Prop}(h:g! qm (da/\dU/\tS))(k:j5 (∀x2,da->dU->tS->U)):U:=by obtain⟨x0,x1,hA,hB,x2,hC,hD,hE⟩:=h;exact gp x2 hC hD hE
Tb{A:bb}{B:bb}{C:bb}{D:bb}{U:Prop}(h:jZ (eH/\eG/\cw/\cv))(k:gq nw (eH->eG->cw->cv->U)):U:=by obtain⟨x0,x1,x2,x3,hA,hB,hC,hD⟩:=h;exact cR k hA hB hC hD
aAn{A:aH}{B:aH}{D:bE}{E:bE}{F:bE}{U:Prop}(h:fj (c9/\bR/\b_/\qm (dU/\tS/\pb F)))(k:gq (c9->bR->b_->∀x2,dU->tS->pb F->U)):U:=by obtain⟨x0,x1,hA,hB,hC,x2,hD,hE,hF⟩:=h;exact gp hC x2 hD hE hF
qg{A:aH}{B:aH}{C:bb}{D:bb}{U:Prop}(h:g! mv (cw/\cv/\dR))(k:j5 JL cw cv dR):U:=by obtain⟨x0,x1,hA,hB,x2,x3,hC,hD,hE⟩:=h;exact gp x2 x3 hC hD hE
awd{A:bD}{B:bD}{C:bD}{D:bD}{U:Prop}(h:iX nb (j!/\j'/\hT/\fB))(k:i_ cc x1 x2 cc x3 x4 (j!->j'->hT->fB->U)):U:=by obtain⟨x0,x1,x2,x3,x4,hA,hB,hC,hD⟩:=h;exact cR k x4 hA hB hC hD
anN{A:aH}{B:aH}{C:bb}{D:bb}{F:bb}{U:Prop}(h:g! mv (cw/\cv/\dR/\h?))(k:j5 nw (cw->cv->dR->h?->U)):U:=by obtain⟨x0,x1,hA,hB,x2,x3,hC,hD,hE,hF⟩:=h;exact gp x2 x3 hC hD hE hF
XZ{A:aH}{B:aH}{C:bD}{D:bD}{E:bD}{F:bD}{U:Prop}(h:g! qm nb (hT/\fB/\hV/\hR))(k:j5 (∀x2,cc x3 x4 (hT->fB->hV->hR->U))):U:=by obtain⟨x0,x1,hA,hB,x2,x3,x4,hC,hD,hE,hF⟩:=h;exact gp x2 x3 x4 hC hD hE hF
asD{A:bb}{B:bb}{C:bb}{D:bb}{F:bb}{G:bb}{U:Prop}(h:jZ (eH/\eG/\cw/\cv/\dR/\h?/\tu))(k:gq cc x2 x3 (eH->eG->cw->cv->dR->h?->tu->U)):U:=by obtain⟨x0,x1,x2,x3,hA,hB,hC,hD,hE,hF,hG⟩:=h;exact cR k hA hB hC hD hE hF hG
aAZ{A:aH}{B:aH}{C:b7}{D:b7}{E:b7}{F:b7}{G:b7}{U:Prop}(h:g! mv xo x4 a5 (sL/\sM/\j8/\j7/\mZ/\ef H))(k:j5 nw cc x4 x5 (sL->sM->j8->j7->mZ->ef H->U)):U:=by obtain⟨x0,x1,hA,hB,x2,x3,x4,x5,hC,hD,hE,hF,hG,hH⟩:=h;exact gp x2 x3 x4 x5 hC hD hE hF hG hH
Lw{A:aH}{B:aH}{C:sI}{D:sI}{E:sI}{F:sI}{G:sI}{H:sI}{U:Prop}(h:g! qm nb (∃x5:a5,∃x6:a6,io cw/\io cv/\io dR/\io h?/\io tu/\io cR H))(k:j5 (∀x2,cc x3 x4 cc x5 x6 (io cw->io cv->io dR->io h?->io tu->io cR H->U))):U:=by obtain⟨x0,x1,hA,hB,x2,x3,x4,x5,x6,hC,hD,hE,hF,hG,hH⟩:=h;exact gp x2 x3 x4 x5 x6 hC hD hE hF hG hH
b0{F G:tW}(h:(λ a b c d e f=>eu F [])=λ a b c d e f=>eu G [])(a:t1)(b:t2)(c:t3)(d:t4)(e:t5)(f:t6)(us:px)(hl:gx=0):sZ:=match us,hl with|[],_=>ol QR h b c f
b1{F G:tW}(h:(λ a b c d e f x0=>eu F [x0])=λ a b c d e f x0=>eu G [x0])(a:t1)(b:t2)(c:t3)(d:t4)(e:t5)(f:t6)(us:px)(hl:gx=1):sZ:=match us,hl with|[x0],_=>ol (ol QR h b c f) x0
b2{F G:tW}(h:(λ a b c d e f x0 x1=>eu F [x0,x1])=λ a b c d e f x0 x1=>eu G [x0,x1])(a:t1)(b:t2)(c:t3)(d:t4)(e:t5)(f:t6)(us:px)(hl:gx=2):sZ:=by rw[Bv (b1 (F:=λ a b c d e f l=>BM) (G:=λ a b c d e f l=>BO)) (λ k a b c d e f y0=>k a b c d e f x0 y0) e]
b3{F G:tW}(h:(λ a b c d e f x0 x1 x2=>eu F [x0,x1,x2])=λ a b c d e f x0 x1 x2=>eu G [x0,x1,x2])(a:t1)(b:t2)(c:t3)(d:t4)(e:t5)(f:t6)(us:px)(hl:gx=3):sZ:=by rw[Bv (b2 (F:=λ a b c d e f l=>BM) (G:=λ a b c d e f l=>BO)) (λ k a b c d e f y0 y1=>k a b c d e f x0 y0 y1) e]
b4{F G:tW}(h:(λ a b c d e f x0 x1 x2 x3=>eu F [x0,x1,x2,x3])=λ a b c d e f x0 x1 x2 x3=>eu G [x0,x1,x2,x3])(a:t1)(b:t2)(c:t3)(d:t4)(e:t5)(f:t6)(us:px)(hl:gx=4):sZ:=by rw[Bv (b3 (F:=λ a b c d e f l=>BM) (G:=λ a b c d e f l=>BO)) (λ k a b c d e f y0 y1 y2=>k a b c d e f x0 y0 y1 y2) e]
b5{F G:tW}(h:(λ a b c d e f x0 x1 x2 x3 x4=>eu F [x0,x1,x2,x3,x4])=λ a b c d e f x0 x1 x2 x3 x4=>eu G [x0,x1,x2,x3,x4])(a:t1)(b:t2)(c:t3)(d:t4)(e:t5)(f:t6)(us:px)(hl:gx=5):sZ:=by rw[Bv (b4 (F:=λ a b c d e f l=>BM) (G:=λ a b c d e f l=>BO)) (λ k a b c d e f y0 y1 y2 y3=>k a b c d e f x0 y0 y1 y2 y3) e]
gM{A:aH}{U:Prop}(h:fj c9)(k:gq (c9->U)):U:=by obtain⟨x0,x1,hA⟩:=h;exact k x0 x1 hA
dm{A:Prop}{B:Prop}{C:Prop}{D:Prop}{U:Prop}(h:n? (C/\D))(k:A->B->C->D->U):U:=by obtain⟨hA,hB,hC,hD⟩:=h;exact k hA hB hC hD
aI7{A:aT}{B:aH}{U:Prop}(h:ia b6 ql bR)(k:∀x0,b6->∀x1,bR->U):U:=by obtain⟨x0,hA,x1,hB⟩:=h;exact k x0 hA x1 hB
iR{A:Prop}{B:Prop}{C:aT}{D:aT}{U:Prop}(h:n? ia ci fN)(k:A->B->∀x0,ci->fN->U):U:=by obtain⟨hA,hB,x0,hC,hD⟩:=h;exact k hA hB x0 hC hD
yJ{A:Prop}{B:aH}{U:Prop}(h:A/\fj (bR/\b_))(k:A->gq (bR->b_->U)):U:=by obtain⟨hA,x0,x1,hB,hC⟩:=h;exact k hA x0 x1 hB hC
zu{A:aT}{B:aT}{U:Prop}(h:f9 (b6/\ck/\ql b_))(k:i_ (b6->ck->∀x1,b_->U)):U:=by obtain⟨x0,hA,hB,x1,hC⟩:=h;exact k x0 hA hB x1 hC
gG{A:Prop}{B:Prop}{C:Prop}{D:Prop}{E:Prop}{U:Prop}(h:A/\B/\C/\D/\E)(k:A->B->C->D->E->U):U:=by obtain⟨hA,hB,hC,hD,hE⟩:=h;exact k hA hB hC hD hE
lE{A:bE}{B:bE}{U:Prop}(h:iX (ib/\eK))(k:i_ cc x1 x2 (ib->eK->U)):U:=by obtain⟨x0,x1,x2,hA,hB⟩:=h;exact k x0 x1 x2 hA hB
C8{A:aT}{B:aT}{C:aT}{D:aT}{E:aT}{U:Prop}(h:f9 (b6/\ck/\ci/\fN/\E x0))(k:i_ (b6->ck->ci->fN->E x0->U)):U:=by obtain⟨x0,hA,hB,hC,hD,hE⟩:=h;exact k x0 hA hB hC hD hE
lM{A:Prop}{B:Prop}{C:Prop}{D:Prop}{E:Prop}{F:Prop}{U:Prop}(h:n? (C/\D/\E/\F))(k:A->B->C->D->E->F->U):U:=by obtain⟨hA,hB,hC,hD,hE,hF⟩:=h;exact k hA hB hC hD hE hF
zg{A:Prop}{B:aH}{D:aH}{U:Prop}(h:A/\fj (bR/\b_/\fH))(k:A->cc x0 x1 (bR->b_->fH->U)):U:=by obtain⟨hA,x0,x1,hB,hC,hD⟩:=h;exact k hA x0 x1 hB hC hD
vV{A:aT}{B:bE}{C:bE}{D:bE}{U:Prop}(h:ia b6 (∃x1:a1,∃x2:a2,eK/\da/\dU))(k:∀x0,b6->cc x1 x2 (eK->da->dU->U)):U:=by obtain⟨x0,hA,x1,x2,hB,hC,hD⟩:=h;exact k x0 hA x1 x2 hB hC hD
uZ{A:Prop}{B:Prop}{C:Prop}{D:Prop}{E:Prop}{F:Prop}{G:Prop}{U:Prop}(h:A/\B/\C/\D/\E/\F/\G)(k:A->B->C->D->E->F->G->U):U:=by obtain⟨hA,hB,hC,hD,hE,hF,hG⟩:=h;exact k hA hB hC hD hE hF hG
F5{A:bb}{B:bb}{C:bb}{U:Prop}(h:jZ (eH/\eG/\cw))(k:gq JL eH eG cw):U:=by obtain⟨x0,x1,x2,x3,hA,hB,hC⟩:=h;exact cR k hA hB hC
Mc{A:bE}{B:bE}{C:bE}{D:bE}{E:bE}{U:Prop}(h:iX (ib/\eK/\da/\dU/\tS))(k:i_ cc x1 x2 (ib->eK->da->dU->tS->U)):U:=by obtain⟨x0,x1,x2,hA,hB,hC,hD,hE⟩:=h;exact k x0 x1 x2 hA hB hC hD hE
yP{A:bb}{B:bb}{C:bb}{D:bb}{U:Prop}(h:jZ (eH/\eG/\cw/\cv/\dR))(k:gq nw (eH->eG->cw->cv->dR->U)):U:=by obtain⟨x0,x1,x2,x3,hA,hB,hC,hD,hE⟩:=h;exact cR k hA hB hC hD hE
EA{A:Prop}{B:Prop}{C:aT}{D:bb}{U:Prop}(h:n? ia ci ql mv (cv/\dR))(k:A->B->∀x0,ci->∀x1,nw (cv->dR->U)):U:=by obtain⟨hA,hB,x0,hC,x1,x2,x3,hD,hE⟩:=h;exact k hA hB x0 hC x1 x2 x3 hD hE
Ws{A:Prop}{B:Prop}{C:aT}{D:bb}{F:bb}{U:Prop}(h:n? ia ci ql mv (cv/\dR/\h?))(k:A->B->∀x0,ci->∀x1,JL cv dR h?):U:=by obtain⟨hA,hB,x0,hC,x1,x2,x3,hD,hE,hF⟩:=h;exact k hA hB x0 hC x1 x2 x3 hD hE hF
yd{A:bD}{B:bD}{C:bD}{D:bD}{E:bD}{F:bD}{U:Prop}(h:iX nb (j!/\j'/\hT/\fB/\hV/\hR))(k:i_ cc x1 x2 cc x3 x4 (j!->j'->hT->fB->hV->hR->U)):U:=by obtain⟨x0,x1,x2,x3,x4,hA,hB,hC,hD,hE,hF⟩:=h;exact cR k x4 hA hB hC hD hE hF
zY{A:bD}{B:bD}{C:bD}{D:bD}{E:bD}{F:bD}{G:bD}{U:Prop}(h:iX nb (j!/\j'/\hT/\fB/\hV/\hR/\jt G))(k:i_ cc x1 x2 cc x3 x4 (j!->j'->hT->fB->hV->hR->jt G->U)):U:=by obtain⟨x0,x1,x2,x3,x4,hA,hB,hC,hD,hE,hF,hG⟩:=h;exact cR k x4 hA hB hC hD hE hF hG
xW{A:b7}{B:b7}{C:b7}{D:b7}{E:b7}{F:b7}{G:b7}{U:Prop}(h:jZ xo x4 a5 (BJ/\BK/\sL/\sM/\j8/\j7/\mZ))(k:gq nw cc x4 x5 (BJ->BK->sL->sM->j8->j7->mZ->U)):U:=by obtain⟨x0,x1,x2,x3,x4,x5,hA,hB,hC,hD,hE,hF,hG⟩:=h;exact cR k x4 x5 hA hB hC hD hE hF hG
sG{A:aH}{B:aH}{C:bb}{D:bb}{E:b7}{F:b7}{G:b7}{U:Prop}(h:g! mv (cw/\cv/\xo x4 a5 (j8/\j7/\mZ)))(k:j5 cc x2 x3 (cw->cv->cc x4 x5 (j8->j7->mZ->U))):U:=by obtain⟨x0,x1,hA,hB,x2,x3,hC,hD,x4,x5,hE,hF,hG⟩:=h;exact gp x2 x3 hC hD x4 x5 hE hF hG
wX{A:b7}{B:b7}{C:b7}{D:b7}{E:b7}{F:b7}{G:b7}{I:b7}{J:b7}{K:b7}{U:Prop}(h:jZ xo x4 a5 (BJ/\BK/\sL/\sM/\j8/\j7/\mZ/\ef H/\ef I/\ef J/\ef K))(k:gq nw cc x4 x5 (BJ->BK->sL->sM->j8->j7->mZ->ef H->ef I->ef J->ef K->U)):U:=by obtain⟨x0,x1,x2,x3,x4,x5,hA,hB,hC,hD,hE,hF,hG,hH,hI,hJ,hK⟩:=h;exact cR k x4 x5 hA hB hC hD hE hF hG hH hI hJ hK
B1{a7:Sort _}{A:aH}{B:aH}{C:bb}{D:bb}{E:b7}{F:b7}{G:JC a1 a5 a6}{H:JC a1 a5 a6}{I:JC a1 a5 a6}{U:Prop}(h:g! mv (cw/\cv/\xo x4 a5 (j8/\j7/\∃x6:a6,∃x7:a7,sH G/\sH H/\sH I)))(k:j5 cc x2 x3 (cw->cv->cc x4 x5 (j8->j7->cc x6 x7 (sH G->sH H->sH I->U)))):U:=by obtain⟨x0,x1,hA,hB,x2,x3,hC,hD,x4,x5,hE,hF,x6,x7,hG,hH,hI⟩:=h;exact gp x2 x3 hC hD x4 x5 hE hF x6 x7 hG hH hI
kX{A:Prop}{B:aT}(hA:A)(x0:a0)(hB:ck):A/\f9 ck:=#[hA,x0,hB]
d3{A:aH}(x0:a0)(x1:a1)(hA:c9):fj c9:=#[x0,x1,hA]
eI{A:Prop}{B:aT}{C:aT}(hA:A)(x0:a0)(hB:ck)(hC:ci):A/\ia ck ci:=#[hA,x0,hB,hC]
fG{A:Prop}{B:Prop}{C:Prop}{D:Prop}(hA:A)(hB:B)(hC:C)(hD:D):n? (C/\D):=#[hA,hB,hC,hD]
aZ{A:aT}{B:aT}{C:aT}(x0:a0)(hA:b6)(hB:ck)(hC:ci):f9 (b6/\ck/\ci):=#[x0,hA,hB,hC]
DL{A:Prop}{B:Prop}{C:aT}{D:aT}(hA:A)(hB:B)(x0:a0)(hC:ci)(hD:fN):n? ia ci fN:=#[hA,hB,x0,hC,hD]
oW{A:Prop}{B:aH}(hA:A)(x0:a0)(x1:a1)(hB:bR)(hC:b_):A/\fj (bR/\b_):=#[hA,x0,x1,hB,hC]
Ih{A:aT}{B:aT}(x0:a0)(hA:b6)(hB:ck)(x1:a1)(hC:b_):f9 (b6/\ck/\ql b_):=#[x0,hA,hB,x1,hC]
j3{A:Prop}{B:Prop}{C:Prop}{D:Prop}{E:Prop}(hA:A)(hB:B)(hC:C)(hD:D)(hE:E):A/\B/\C/\D/\E:=#[hA,hB,hC,hD,hE]
aE{A:aH}{B:aH}(x0:a0)(x1:a1)(hA:c9)(hB:bR)(hC:b_):g! b_:=#[x0,x1,hA,hB,hC]
fE{A:aT}{B:aT}{C:aT}{D:aT}(x0:a0)(hA:b6)(hB:ck)(hC:ci)(hD:fN):f9 (b6/\ck/\ci/\fN):=#[x0,hA,hB,hC,hD]
tQ{A:bE}{B:bE}(x0:a0)(x1:a1)(x2:a2)(hA:ib)(hB:eK):iX (ib/\eK):=#[x0,x1,x2,hA,hB]
LX{A:Prop}{B:aT}{C:aT}{D:aT}(hA:A)(x0:a0)(hB:ck)(hC:ci)(hD:fN):A/\f9 (ck/\ci/\fN):=#[hA,x0,hB,hC,hD]
rQ{A:aT}{B:aT}{C:aT}{D:aT}{E:aT}(x0:a0)(hA:b6)(hB:ck)(hC:ci)(hD:fN)(hE:E x0):f9 (b6/\ck/\ci/\fN/\E x0):=#[x0,hA,hB,hC,hD,hE]
E3{A:Prop}{B:Prop}{C:Prop}{D:Prop}{E:Prop}{F:Prop}(hA:A)(hB:B)(hC:C)(hD:D)(hE:E)(hF:F):n? (C/\D/\E/\F):=#[hA,hB,hC,hD,hE,hF]
Fo{A:Prop}{B:aH}{D:aH}(hA:A)(x0:a0)(x1:a1)(hB:bR)(hC:b_)(hD:fH):A/\fj (bR/\b_/\fH):=#[hA,x0,x1,hB,hC,hD]
lL{A:bE}{B:bE}{C:bE}(x0:a0)(x1:a1)(x2:a2)(hA:ib)(hB:eK)(hC:da):iX (ib/\eK/\da):=#[x0,x1,x2,hA,hB,hC]
BE{A:aT}{B:aH}{D:aH}{E:aH}(x0:a0)(hA:b6)(x1:a1)(hB:bR)(hC:b_)(hD:fH)(hE:nR):ia b6 ql (bR/\b_/\fH/\nR):=#[x0,hA,x1,hB,hC,hD,hE]
b8{A:bE}{B:bE}{C:bE}{D:bE}(x0:a0)(x1:a1)(x2:a2)(hA:ib)(hB:eK)(hC:da)(hD:dU):iX (ib/\eK/\da/\dU):=#[x0,x1,x2,hA,hB,hC,hD]
wF{A:aT}{B:bE}{C:bE}{D:bE}(x0:a0)(hA:b6)(x1:a1)(x2:a2)(hB:eK)(hC:da)(hD:dU):ia b6 (∃x1:a1,∃x2:a2,eK/\da/\dU):=#[x0,hA,x1,x2,hB,hC,hD]
qK{A:bb}{B:bb}{C:bb}(x0:a0)(x1:a1)(x2:a2)(x3:a3)(hA:eH)(hB:eG)(hC:cw):jZ (eH/\eG/\cw):=#[x0,x1,x2,x3,hA,hB,hC]
fM{A:aH}{B:aH}{D:aH}{E:aH}(x0:a0)(x1:a1)(hA:c9)(hB:bR)(hC:b_)(hD:fH)(hE:nR):fj (c9/\bR/\b_/\fH/\nR):=#[x0,x1,hA,hB,hC,hD,hE]
wY{A:aH}{B:aH}{C:bE}{D:bE}(x0:a0)(x1:a1)(hA:c9)(hB:bR)(x2:a2)(hC:da)(hD:dU):g! qm (da/\dU):=#[x0,x1,hA,hB,x2,hC,hD]
Ac{A:aH}{B:aH}{D:aH}{E:aH}{F:aH}(x0:a0)(x1:a1)(hA:c9)(hB:bR)(hC:b_)(hD:fH)(hE:nR)(hF:pa F):fj (c9/\bR/\b_/\fH/\nR/\pa F):=#[x0,x1,hA,hB,hC,hD,hE,hF]
Az{A:bb}{B:bb}{C:bb}{D:bb}{F:bb}(x0:a0)(x1:a1)(x2:a2)(x3:a3)(hA:eH)(hB:eG)(hC:cw)(hD:cv)(hE:dR)(hF:h?):jZ (eH/\eG/\cw/\cv/\dR/\h?):=#[x0,x1,x2,x3,hA,hB,hC,hD,hE,hF]
sT{A:aT}{B:aH}{C:bE}{D:bD}{E:bD}{F:bD}(x0:a0)(hA:b6)(x1:a1)(hB:bR)(x2:a2)(hC:da)(x3:a3)(x4:a4)(hD:fB)(hE:hV)(hF:hR):ia b6 ql (bR/\qm (da/\nb (fB/\hV/\hR))):=#[x0,hA,x1,hB,x2,hC,x3,x4,hD,hE,hF]
lA{A:bD}{B:bD}{C:bD}{D:bD}{E:bD}{F:bD}(x0:a0)(x1:a1)(x2:a2)(x3:a3)(x4:a4)(hA:j!)(hB:j')(hC:hT)(hD:fB)(hE:hV)(hF:hR):iX nb (j!/\j'/\hT/\fB/\hV/\hR):=#[x0,x1,x2,x3,x4,hA,hB,hC,hD,hE,hF]
Df{A:bb}{B:bb}{C:bb}{D:bb}{F:bb}{G:bb}(x0:a0)(x1:a1)(x2:a2)(x3:a3)(hA:eH)(hB:eG)(hC:cw)(hD:cv)(hE:dR)(hF:h?)(hG:tu):jZ (eH/\eG/\cw/\cv/\dR/\h?/\tu):=#[x0,x1,x2,x3,hA,hB,hC,hD,hE,hF,hG]
rS{A:bD}{B:bD}{C:bD}{D:bD}{E:bD}{F:bD}{G:bD}(x0:a0)(x1:a1)(x2:a2)(x3:a3)(x4:a4)(hA:j!)(hB:j')(hC:hT)(hD:fB)(hE:hV)(hF:hR)(hG:jt G):iX nb (j!/\j'/\hT/\fB/\hV/\hR/\jt G):=#[x0,x1,x2,x3,x4,hA,hB,hC,hD,hE,hF,hG]
}
section z
namespace _B
open Mt
variable{α:Type}{c i n f x j z a low:Y}{l:ac}{bG:wH}{r:kI}{e:qI}
def z:={
x_{l:en}{x:α}(h:l[n]?=Z x):gy n=x::pc j9:=by obtain⟨a8,rfl⟩:=QZ;exact(List.getElem_cons_drop a8).symm
nS.1(l:gU):wr->wr|uf=>uf|.ok m=>.ok E9
mL.1(i:Y)(bG:wH):ac->tz|[]=>ak|k::a::z::v::_=>let p:=HY nu;kK [Ir (k<yZ) nu k 4 i,g? (eO a&&(p.all xh q bn (y4<a))) 7 i,g? (eO z&&bn (a<=z)) 7 i,g? gh (0<v) bn (v<=qJ k) 8 i,om (p.all xh q (!(iq y4==a&&q.value==v))) 9 i]|_=>Z nX
aen(i:Y)(bG:wH):oo i bG []=.ok []:=rfl
UH{k v:Y}:Q0=fK BA (nS [(k,#[a,z,v])] (oo bC Z C1 l)) .lO:=by rw[Jg mL (kK _)];cases x;(.generalize eC oo _=y;cases y<;>rfl);.rfl
C3{f:qI}(h:mV mL=Z f):SX=uf:=by(rw[G? l c d];((.rw[bo]);.rw[sA]);(.rw[sA]);.rw[sA]);.rw[UH,h];rfl
aew{k v:Y}(h:eT BA):Q0=nS [(k,#[a,z,v])] (oo bC Z C1 l):=by rw[UH,h];rfl
Bj.1(p:ac)(t:Y):nu:=(ls,#[tt,CN,xg])
iU.1(p:ac)(t:Y):gU:=(kL t).bz (Bj p)
AU.1(p:ac):Y->cB (Y×kI)|0=>ak|t+1=>Z (Bj p t)
OM(p:ac)(t:Y):iU p g4=MJ++[Bj p t]:=by unfold iU;rw[uR,dj];rfl
ai9(l m:gU)(e:wr):nS l (nS m e)=nS E9 e:=by cases e with|lO f=>rfl|ok r=>simp[nS]
aA7(e:wr):nS [] e=e:=p3 e
Gj{p:ac}{t:Y}(h:Ln (4*t+4)):qL dt=ls::tt::CN::xg::qL yE:=by(have g:∀j,j<uS->qL j=fk j::qL (j+1):=λ j hj=>by rw[x_ (x:=fk j)];rw[sr gg hj]);rw[g dt ew Uq,g z9 ew T',QU AA,g Aq v0];rfl
i6.1(p:ac)(t:Y):Prop:=Ln (4*t)/\xV ak p=nS MJ (oo t Ev xL)
i6.zero(p:ac):i6 p 0:=#[mI,by show _=nS [] _;rw[aA7];rfl]
i6.next{p:ac}{t:Y}(h:Ew)(hl:K2)(hf:eT (mL t Ev xL)):i6 p g4:=by(have h4:Ln (4*t+4):=by rw[QC hn];((have fP:dw qL dt<4:=by rw[v8 au8 hn]);have iZ:0<dw qL dt:=by rw[P9 hl]);revert hf fP iZ;generalize xL=q;intro hf fP iZ;(rw[G? q c d];((.exact Ho iZ);.cases hf);(.cases hf);.cases hf);.exact Nd (Pz bP) fP);refine #[Ix h4,?_];rw[h.2,Gj h4];rw[Gj h4]at hf;rw[aew hf,ai9,OM];rfl
i6.fault{p:ac}{t:Y}{f:qI}(h:Ew)(hf:mL t Ev xL=Z f):xV ak p=uf:=by rw[h.2,C3 hf];rfl
i6.done{p:ac}{t:Y}(h:Ew)(hl:uS<=4*t):xV ak p=.ok MJ:=by rw[h.2,Bw,aen];simp[nS]
jC.1(l:en):wE->wE|uf=>uf|.ok m=>.ok E9
I0(l m:en)(e:wE):jC l (jC m e)=jC E9 e:=by cases e with|lO f=>rfl|ok r=>simp[jC]
Oz(e:wE):jC [] e=e:=p3 e
pV.1(i:Y)(bG:ln):ac->tz|[]=>ak|k::uo=>let p:=HY ue;let to:=kq;kK [Ir (k<MAPS) ue k 4 i,g? (eO c&&(p.all λ(q:Y)=>bn (q<c))) 10 i,g? gh (0<n) bn (n<=Ff k) 11 i,Kd (n<=bP) 6 i,g? (Fg k to) 12 i,g? (!(k !=10&&(k !=11&&to==dY))) 13 i]|_=>Z nX
avK(f i:Y)(bG:ln):Cu gz [] []:=p3 f
Yu{bG:ln}{k:Y}:tw gz (k::uo) (fK mB pV uo (jC [(k,#[c,kq])] (gz f bC Z (k,c) pi)) .lO):=by rw[Jg pV (kK _)];cases x;(.generalize gz _ _ _ _=y;cases y<;>rfl);.rfl
Ri{bG:ln}(h:mV pV=Z e):tw gz l k7 e:=by rw[HU a b c];((.rw[bo]);.rw[sA]);(.rw[sA]);.rw[Yu,h];rfl
adX{bG:ln}{k:Y}(h:eT mB pV uo):tw gz (k::uo) (jC [(k,#[c,kq])] (gz f bC Z (k,c) pi)):=by rw[Yu,h];rfl
rR.1(i:Y)(bG:nt):ac->tz|[]=>ak|k::n::l=>let p:=HY tP;let key:=kq;let r:=pi;let m:=r.headD 0;let to:=(kN 1).d0 m;kK [Ir (k<SEQS) tP k 4 i,g? gh (T5<=n) bn (n<=Fj k) 14 i,Kd (n<bP) 6 i,g? (key.all eO&&(p.all λ(q:ac)=>ix q key)) 14 i,g? gh (0<m) bn (m<=y7 k) 15 i,Kd (m<lR) 6 i,g? (k==0||to.all λ(x:Y)=>bn (x<2^16)) 15 i]|_=>Z nX
ayN(f i:Y)(bG:nt):Cu gA [] []:=p3 f
afb{bG:nt}{k:Y}:tw gA (k::n::l) (fK mB rR (n::l) (jC [(k,#[kq,IX])] (gA f bC Z (k,kq) nZ pi (1+Cf n 0))) .lO):=by rw[Jg rR (kK _)];cases x;(.generalize gA _ _ _ _=y;cases y<;>rfl);.rfl
aag{bG:nt}(h:mV rR=Z e):tw gA l k7 e:=by rw[Ic a b l];((.rw[bo]);.rw[sA]);.rw[afb,h];rfl
aeE{bG:nt}{k:Y}(h:eT mB rR (n::l)):tw gA (k::n::l) (jC [(k,#[kq,IX])] (gA f bC Z (k,kq) nZ pi (1+Cf n 0))):=by rw[afb,h];rfl
Lk{o:tz}{l:bA tz}:cf kK (o::l)↔o=ak/\cf kK l:=by cases o<;>simp[kK]
ND{c:aL}{r:Y}:eT (om c r i)↔c=au:=by unfold om;split<;>simp_all
RK{l:en}{e:wE}{r:en}(h:jC l e=.ok r):∃m,e=.ok m/\r=l++m:=P? m m (by rw[bo];rfl)
akk{l:gU}{e:wr}{r:gU}(h:nS l e=.ok r):∃m,e=.ok m/\r=l++m:=P? m m (by rw[bo];rfl)
}
structure zh(x:nu):Prop where
 kind:bg<14
 first:k8 LR
 bG:k8 D!
 le:LR<=D!
 ba:0<LT
 qJ:LT<=qJ bg
def z:={
nW.1(x y:nu):Prop:=xM (D!<y.2.first)
apW{k v:Y}(h:eT BA):zh C1/\∀x,tX->nW x C1:=by rw[cT mL,HN Lk ND h,<-gG h λ aS aU a9 bu _=>bq aS λ h1 h2=>bq aU λ h3 h4=>bq a9 λ h5 h6=>bq bu cn h7 h8,<-#[#[h1,h3,h5,h6,h7,h8],D0]];subst hx;rw[sx lS h2];by_cases e:gm;(.rw[QM ao e lS h4,h4]);.left;show oa;exact y8 h2 e
nW.trans{x y z:nu}(hy:zh y)(a:nW x y)(b:nW y z):nW x z:=by unfold nW at*;have:=hy.le;exact aCF a b al
Mr:∀{l:ac}{i:Y}{bG:wH}{ps:gU},SX=.ok ps->vZ ps (zh x)/\ps.Pairwise nW/\∀x,tX->kh ps (nW x y)|[],i,bG,ps,h=>by rw[aen]at h;rw[bo,#[aM,dX,fC]]|[_],i,bG,ps,h=>by rw[h! (C3 (f:=nX) ae)]|[_,_],i,bG,ps,h=>by rw[h! (C3 (f:=nX) ae)]|[_,_,_],i,bG,ps,h=>by rw[h! (C3 (f:=nX) ae)]|k::a::z::v::l,i,bG,ps,h=>by cases hf:BA with|b? f=>rw[h! (C3 hf)]|ak=>rw[aew hf]at h;(rw[Iz akk bV bV]);refine bW (Mr e) ar i1 i2 i3;obtain⟨f1,f2⟩:=apW hf;refine #[pz x hx,eM (i3 _ ae) i2,λ x hx y hy=>?_];(.rw[HG f1 i1]);.rcases eA hy with rfl|hy;(.exact f2 x hx);.exact(MC).uX f1 LY
}
structure zQ(x:mn Row):Prop where
 kind:bg<15
 sc:k8 iQ eO
 ba:0<CK
 qJ:CK<=Ff bg
 dh:ap (Fg bg iQ to)
 other:bg≠10->bg≠11->iQ to≠[x.2.eO]
def z:={
Dq.1(x y:mn Row):Prop:=xM (iQ eO<y.2.eO)
afz{bG:ln}{k:Y}(h:eT mB pV uo):zQ (k,#[c,kq])/\∀x:ue,tX->oa\/(x.1=k/\du<c):=by rw[cT pV,HN Lk ND h,<-uZ h λ cI dB d6 h7 h8 h9 _=>bq cI λ h1 h2=>bq dB λ h3 h4=>bq d6 cn h5 h6];(have hl:sY=n:=by rw[or,Fk h7]);refine #[#[h1,h3,by show 0<sY;exact D_ h5 hl,by show sY<=Ff k;exact y9 hl h6,h8,ar e1 e2 e3],D0];(.dsimp only at e1 e2 e3;rw[e3]at h9;simp[e1,e2]at h9);.subst hx;rw[sx lS h2];by_cases e:gm;(.rw[QM ao e lS h4,h4]);.left;exact y8 h2 e
Yq:∀{f:Y}{l:ac}{i:Y}{bG:ln}{ms:B'},Cu gz l ms->vZ ms (zQ x)/\UC Dq/\∀x:ue,tX->kh ms xM (du<y.2.eO):=by intro f;induction f with|cp=>rw[QH l]|cq f ih=>intro l i bG ps h;cases hf:mV pV with|b? e=>rw[h! (Ri hf)]|ak=>rw[HU k c n];((.rw[bo,#[aM,dX,fC]]);.cases hf);(.cases hf);.rw[adX hf]at h;(rw[Iz RK fL fL]);refine bW (ih e) ar i1 i2 i3;obtain⟨f1,f2⟩:=afz hf;refine #[pz x hx,eM (i3 _ ae) i2,λ x hx y hy=>?_];(.rw[HG f1 i1]);.rcases eA hy with rfl|hy;(.exact f2 x hx);.have a:=MC;have b:=LY;dsimp only at b;exact aCu a b
abA:∀{a b c:ac},ap (ix a b)->ap (ix b c)->ap (ix a c)|_,[],_,h,_=>Di ix|_,oh,[],_,h=>Di ix|[],oh,oh,_,_=>rfl|x::a,y::b,z::c,h1,h2=>by simp only[ix,Fl,i!,fb,lT]at h1 h2⊢;rcases h1 with h1|⟨e1,h1⟩<;>rcases h2 with h2|⟨e2,h2⟩;((.left;exact Fm h1 h2);.left;exact Nk h1 e2);(.left;exact UF e1 h2);.right;exact #[eL abf e1 e2,wy abA]
}
structure CW(x:mn Seq):Prop where
 kind:bg<3
 ot:Nf bg<=S3
 qJ:S3<=Fj bg
 sc:ap (iQ key.all eO)
 ba:0<CK
 L':CK<=y7 bg
 small:bg≠0->∀y∈iQ to,y<65536
def z:={
Fe.1(x y:mn Seq):Prop:=xM ap (ix iQ key y.2.key)
aCX{bG:nt}{k:Y}(h:eT mB rR (n::l)):CW (k,#[kq,IX])/\∀x:tP,tX->oa\/(x.1=k/\ap (ix du (uU n))):=by rw[cT rR,HN Lk ND h];obtain⟨⟨h1,h2⟩,⟨h3,h4⟩,h5,⟨h6,h7⟩,⟨h8,h9⟩,fc,eD,_⟩:=h;((have hl:sY=n:=by rw[or,Fk (Fp h5)]);have hm:dw uD AH AD=Cf n 0:=by rw[or,iu,Fk bm Nat.le_sub_one_of_lt fc]);refine #[#[h1,by show T5<=sY;exact GV h3 hl,by show sY<=Fj k;exact y9 hl h4,h6,by show 0<dw uD AH AD;exact D_ h8 hm,by show dw uD AH AD<=y7 k;exact y9 hm h9,ar e1 y hy],D0];(.dsimp only at e1 hy;simp only[Fl,lT,uY,i!]at eD;rcases eD with eD|eD;(.rw[f8 eD e1]);.rw[lq (eD y hy) Uu]);.subst hx;rw[sx lS h2];by_cases e:gm;(.right;refine #[e,?_];simp only[uV,ao e,lS]at h7;exact h7);.left;exact y8 h2 e
SQ:∀{f:Y}{l:ac}{i:Y}{bG:nt}{ms:B!},Cu gA l ms->vZ ms (CW x)/\UC Fe/\∀x:tP,tX->kh ms xM ap (ix du y.2.key):=by intro f;induction f with|cp=>rw[QH l]|cq f ih=>intro l i bG ps h;cases hf:mV rR with|b? e=>rw[h! (aag hf)]|ak=>rw[Ic k n l];((.rw[bo,#[aM,dX,fC]]);.cases hf);.rw[aeE hf]at h;(rw[Iz RK jJ jJ]);refine bW (ih e) ar i1 i2 i3;obtain⟨f1,f2⟩:=aCX hf;refine #[pz x hx,eM (i3 _ ae) i2,λ x hx y hy=>?_];(.rw[HG f1 i1]);.rcases eA hy with rfl|hy;(.exact f2 x hx);.have a:=MC;have b:=LY;dsimp only at b;rcases a with a|⟨a,a'⟩<;>rcases b with b|⟨b,b'⟩;((.left;exact Fm a b);.left;exact Nk a b);(.left;exact UF a b);.right;exact #[eL abf a b,abA a' b']
cU.1(k:Y)(l:cS):cS:=l.zipIdx.filterMap c! se (bg.1=k) Z (x.2,bg.2)
eJ.1(n:Y)(l:cS):bA cS:=JD n λ k=>j?
lU.1(k:Y)(l:cS):en:=l.filterMap c! se gm Z du
Ny(k:Y)(l:cS)(x:sv):cU k kt=j?++CS gm [(bP,du)]:=by unfold cU;rw[UG,Nm];congr 1;rw[QX y' Nn Fs];by_cases e:gm;(.rw[ao e,ao e]);.rw[aj e,aj e]
Jf(k:Y)(l:cS)(x:sv):lU k kt=kl++CS gm [x.2]:=by rw[e9 lU Nm];congr 1;simp only[y',Nn];by_cases e:gm;(.rw[ao e,ao e]);.rw[aj e,aj e]
No{p:ku en}(h0:p [])(h1:∀l x,p l->p kt):∀l,p l:=by intro l;have:=λ(r:en)=>List.rec (motive:=λ r=>p r.reverse) dv h0 (λ a r ih=>by rw[Np];exact eC h1 ih) r;simpa using al l.reverse
mR(k:Y)(l:cS):(j?).bz (·.2)=kl:=by refine KE (λ l=>(j?).bz (·.2)=kl) ae h_ l x ih l;rw[Ny,Jf,dj,ih];congr 1;split<;>rfl
DB(k:Y)(l:cS):bp j?=bp kl:=by rw[<-mR,qO]
CH(n:Y)(l:cS):u0 n l=JD n λ k=>kl:=rfl
jq{k:Y}(l:cS)(h:k<n):ux (u0 n l) k []=kl:=by rw[CH,kM,qP,Py];rfl
kr{k:Y}(l:cS)(h:k<n):(eJ n l)[k]?=Z j?:=by unfold eJ;rw[Q?]
Nj{k:Y}(l:cS)(x:α)(h:k<n):eJ n (l++[(k,x)])=(eJ n l).set k (j?++[(bP,x)]):=by rw[ww j];by_cases hj:j<n;(.rw[kr _ hj,Ny];by_cases e:k=j;(.subst e;rw[Ft (by unfold eJ;rw[jW]),t8]);.rw[Sb,kr _ hj,aj e,oy]);.rw[iy (by unfold eJ;rw[gk gB hj]),iy (by rw[Nr];unfold eJ;rw[gk gB hj])]
qR.1(k:Y)(l:cS):Y:=mJ Tv (λ j=>bp (lU j l))
lV(a b:ac):(M6).sum=a.sum+b.sum:=by induction a with|bt=>simp|aN x r ih=>simp only[Nt,iD,ih];exact Zg
AE(k:Y)(l:cS):qR br l=we+bp kl:=by unfold qR;rw[uR,dj,lV];simp
aaY(k:Y)(l:cS)(x:sv):qR k kt=we+if oa then 1 else 0:=by induction k with|cp=>simp[qR]|cq k ih=>rw[AE,AE,ih,Jf,ja];by_cases e:gm;(.rw[ao e,aj bm Sr e,ao bm ajt e];simp only[gC,u1];exact aiM);.rw[aj e];by_cases h:oa;(.rw[ao h,ao ew sC];rw[RG,alC]);.rw[aj h,aj eL aKg h e];rw[RG,amn]
Lr{k:Y}(l:cS)(h:nF l oa):DV we:=by revert h;refine KE (λ l=>DU oa->DV we) (λ _=>?_) (λ l x ih h=>?_) l;(. (have:∀j,qR j ([]:cS)=0:=λ j=>by induction j with|cp=>rfl|cq j ih=>rw[AE,ih];rfl);exact al k);.rw[aaY,ih (λ y hy=>h y IN hy),ao K0,ja];rfl
Mb{l:cS}(hs:Fu λ x y=>bg<=y.1):SO k i y:=by revert hs;refine KE (λ l=>(Fu λ x y=>bg<=y.1)->SO k i y) ?_ ?_ l;(.intro _ k i y h;simp[cU]at h);.intro l x ih hs k i y h;refine bW (List.pairwise_append.mp hs) λ h1 _ h3=>?_;have hle:∀z∈l,z.1<=bg:=λ z hz=>h3 z hz x aM;rw[Ny]at h;rw[aaY];by_cases e:gm;(.rw[ao e]at h;rw[aj bm Sr e];rw[List.getElem?_append]at h;split at h;(.exact ih h1 h);. (rename_i hi;have ft:i - bp j?=0:=by rw[QC hn,h! (iy (by rw[gk ad9 hn]))]);rw[ft]at h;rw[bo];show bP=_;have b9:=Lr (k:=k+1) l (λ z hz=>by rw[m3 (hle z hz) ayZ e]);rw[AE]at b9;rw[DB]at hi ft;exact auO b9 ft hi);.rw[aj e,oy]at h;(have hk:¬oa:=λ hk=>by(have:j?=[]:=by apply List.eq_nil_iff_length_eq_zero.mpr;rw[DB];have b9:=Lr (k:=k) l (λ z hz=>by rw[m3 (hle z hz) Nat.lt_of_le_of_lt hk]);have QV:=Lr (k:=k+1) l (λ z hz=>by rw[m3 (hle z hz) amc hk]);rw[AE]at QV;exact arb QV b9);rw[al]at h;rw[bo]);rw[aj hk];exact ih h1 h
Ef{k:Y}{l:cS}{x:α}:x∈kl↔uC∈l:=by rw[e9 lU List.mem_filterMap];constructor;(.rintro⟨⟨j,y⟩,h1,h2⟩;dsimp only at h2;split at h2;(.rename_i e;cases h2;subst e;exact h1);.cases h2);.intro h;exact aW uC h aM
Bz{α:Type}{R:sv->sv->Prop}{S:cA α α}{k:Y}(h:∀x y,R uC (k,y)->S x y):∀{l:cS},Fu R->wd kl S|[],_=>dX|uG,hp=>by obtain⟨h1,h2⟩:=UJ hp;rw[e9 lU y'];by_cases e:gm;(.rw[ao e];refine List.Pairwise.cons pz y hy (Bz h h2);have hm:(k,y)∈l:=Ef.mp hy;have:=h1 _ hm;obtain⟨x1,x2⟩:=x;dsimp only at e;subst e;exact eC h al);.rw[aj e];exact Bz h h2
Hm{α:Type}{p:α->aL}:∀{l:en}{j:Y}{x:α},l[j]?=Z x->ul p->(∀i y,i<j->cg l y->iS p y)->Nu p=Z x|[],j,x,h,_,_=>gs|qH,0,x,h,hp,_=>by rw[bo];rw[UM hp]|qH,j+1,x,h,hp,hb=>by rw[UN (by rw[hb 0 a (Fv _) ae];simp)];exact Hm (j:=j) pW hp λ i y hi hy=>hb bC y bm Ma hi Cn
ayv{B:ai}{k:Y}(h:ld[j]?=Z r)(hb:Il j q (y4<c))(h1:LI c)(h2:D3 c):K_:=by unfold kQ;rw[Hm h (by simp[h1,h2]) (λ i y hi hy=>by have:=hb i y hi hy;simp;omega)]
aCQ{B:ai}{k:Y}(h:∀r∈ld,¬(oz<=c/\D3 c)):sg=0:=by unfold kQ;rw[Nw (λ r hr=>by have:=yG h;simp;rw[ei at0])]
adp{B:ai}{k:Y}(h:sg≠0):∃r∈ld,LI c/\D3 c/\K_:=by unfold kQ at h⊢;split;(.rename_i r hr;have h1:=Rd;have h2:=SK;rw[sx fb h2,(fE r h1 h2.1 h2.2 ae)]);.rename_i hr;rw[hr]at h;rw[lp h]
}
structure di(B:ai):Prop where
 hZ:Ks (k<14) ld zh
 N9:∀k,k<14->wd ld λ x y=>x.last<y.first
 bc:Ks (k<15) B6 zQ
 aEh:∀k,k<15->wd B6 λ x y=>x.scalar<y.scalar
 seq:Ks (k<3) J0 CW
 aLb:∀k,k<3->wd J0 λ x y=>ap (ix x.key y.key)
def z:={
aET{p m s:ac}{ns:Do}{ps:gU}{ms:B'}{ss:B!}{g:Y}(hp:xV ak p=.ok ps)(hm:gz f 0 ak m=.ok ms)(hs:gA g 0 ak s=.ok ss):di #[u0 yZ ps,u0 MAPS ms,u0 SEQS ss,ns]:=by refine bW (Mr hp) kv p1 p2 ?_;refine bW (Yq hm) kv m1 m2 ?_;refine bW (SQ hs) kv s1 s2 ?_;(refine #[λ k r hk hr=>?_,cn k hk,λ k r hk hr=>?_,cn k hk,λ k r hk hr=>?_,cn k hk];(.rw[IE yZ hr p1]);.dsimp only;rw[AJ jq (k<yZ) hk];rw[<-Bz (R:=nW) h_ x y h p2,cT nW,xj,SW h]);((.rw[IE MAPS hr m1]);.dsimp only;rw[AJ jq (k<MAPS) hk];rw[<-Bz (R:=Dq) h_ x y h m2,cT Dq,xj,SW h]);(.rw[IE SEQS hr s1]);.dsimp only;rw[AJ jq (k<SEQS) hk];rw[<-Bz (R:=Fe) h_ x y h s2,cT Fe,xj];rcases h with h|h;(.exact pC akI h);.exact h.2
aMg{p:α->aL}{l:en}{x:α}(hx:x∈l)(hp:ul p)(hu:kh l (ap (p y)->y=x)):Nu p=Z x:=by cases h:Nu p with|ak=>have:=List.find?_eq_none.mp h x hx;rw[f8 hp al]|b? y=>rw[hu y (Nx h) (Nz h)]
av3{R:cA α α}{l:en}(h:Fu R){x y:α}(hx:x∈l)(hy:y∈l):bF\/R x y\/R y x:=by induction l with|bt=>cases hx|aN a l ih=>rw[B0 h2 (UJ h)];rcases eA hx with rfl|d_;(.rcases eA hy with rfl|hy;(.rw[lf ae]);.rw[nv f? yf]);.rcases eA hy with rfl|hy;(.rw[nv ky (h1 x d_)]);.exact ih h2 d_ hy
Fw{B:ai}{k:Y}(h:∀r∈B6,qS≠c):DO=[]:=by unfold bz;rw[Nw (λ r hr=>by simpa using yG h)]
Fy{B:ai}{k:Y}(h:DO≠[]):∃r∈B6,qS=c/\DO=r.to:=by unfold bz at h⊢;split;(.rename_i r hr;exact(aZ r Rd (by simpa using SK) ae));.rename_i hr;rw[hr]at h;rw[lp h]
di.Ls{B:ai}(F:ip)(c:Y):bp fv<=2:=by unfold u2;split;(.rw[pO qT,xp]);.by_cases h:MN c=[];(.rw[h];simp);.rw[iP Fy h λ r h1 _ h3=>?_];rw[h3];have:=(F.row 0 r cC h1).qJ;exact al
Dz.1(B:ai):ac->ac|[]=>[]|c::r=>if pB then c::r else fv++r
aJl{B:ai}{x r:ac}(h:x≠[]):Dz B M3=Dz B x++r:=by cases x with|bt=>rw[lp h]|aN c x=>show IH (c::M3) fv M3=(if pB then c::x else fv++x)++r;split;(.rfl);.rw[I9]
Mg{B:ai}:(lv n c (De≠[]))|0,c=>fF iE|n+1,c=>by unfold iE;split;(.simp);.intro e;exact Mg n _ (List.append_eq_nil_iff.mp e).1
Oh{B:ai}:(lv n c (iE B j9 c=Dz B De))|0,c=>(by show Iu dY (a::r) (iE B 0 a++r)=IH dY fv [];cases h:fv with|bt=>rfl|aN a r=>simp[iE])|n+1,c=>by show Iu dY (a::r) (iE B j9 a++r)=Dz B Iu dY (a::r) (iE B n a++r);cases h:fv with|bt=>show dY=IH dY fv [];rw[ao h]|aN a r=>dsimp only;rw[aJl (Mg n a),Oh n a]
di.xi{B:ai}(F:ip):(lv n c (bp De<=n+1))|0,c=>fF iE|n+1,c=>by have h1:=F.Ls c;unfold iE;split;(.simp);.rename_i a r e;rw[e]at h1;have:=F.xi n a;rw[ja];rw[Rb h1,aL7 h1 al]
dI.1(B:ai)(c:Y):ac:=if p7 then fv else D?
lQ.1(B:ai)(c:Y):ac:=if i9=[]then dY else i9
fZ.1(B:ai)(l:ac):ac:=FA (lQ B)
gu.1(B:ai)(l:ac):aL:=l.all λ c=>i9==[]
Gx(B:ai)(c:Y):Ud c=dY:=rfl
tq(B:ai)(n c:Y):Kn=if i9=[]then dY else(i9).flatMap AL:=by rw[IF (if p7 then fv else D?) dY Kb KT,IF i9 dY Kb KT];cases h:i9 with|bt=>rfl|aN a r=>simp
ZQ(B:ai)(x y:ac):fZ B (x++y)=fZ B x++fZ B y:=by rw[e9 fZ List.flatMap_append]
Th{B:ai}{f:Y->ac}:∀l:ac,fZ B TQ=Kb (fZ B yX)|[]=>rfl|qH=>by rw[eP,ZQ,Th l,eP]
zO(B:ai):(lv n c (Kn=fZ B ka))|0,c=>by rw[tq,Gx];unfold fZ lQ;rw[eP,UQ,oy];split;(.rfl);.have:Ud=c! [x]:=funext λ x=>rfl;rw[al];simp|n+1,c=>by rw[tq,tq B n c];split;(.rw[qa];unfold fZ lQ;rw[eP,ug];rfl);.rw[Th];congr 1;funext x;exact zO B n x
aw9(B:ai)(c:Y):0<bp (lQ B c):=by unfold lQ;split;(.simp);.rw[qa,List.length_pos_iff.mpr h]
JW(B:ai):∀l:ac,bP<=bp (fZ B l)|[]=>gi|qH=>by have:=aw9 B a;have ih:=JW B l;unfold fZ at ih⊢;rw[eP,ja,gC];exact aek al ih
afl{B:ai}:∀{l:ac},kd l->fZ B l=l|[],_=>rfl|qH,h=>by rw[cT gu];rw[y!,fb]at h;have ih:=afl (B:=B) (l:=l) h.2;unfold fZ at ih⊢;(have e:dI B a=[]:=by simpa using h.1);rw[eP,ih];rw[pG lQ e];rfl
Mm(B:ai):(lv n c (0<bp ka))|0,c=>fF Gx|n+1,c=>by rw[zO];exact y? (Mm B n c) (JW B _)
apK(B:ai)(x y:ac):gu B (x++y)=(gu B x&&gu B y):=by rw[e9 gu List.all_append]
ab0{B:ai}{n:Y}(ih:∀c,u4 B n c=se (kd ka/\np ka) Z ka):∀(l y:ac),lY H! Z y=z? (l≠[]/\¬(gu B K!=au/\np (y++K!))) Z (y++K!)|[],y=>fC|qH,y=>by(have ng:∀l:ac,eT (lY H! ak):=λ l=>by induction l with|bt=>rfl|aN b l ih=>rw[dD za ih]);have hp:=Mm B n a;rw[za,uV,eP,apK,ih a];by_cases h1:18<Pu;(.rw[ao h1,ng,i?];rw[<-#[aM,yj h],HZ h.2,aGW hp h1 al]);.rw[aj h1];by_cases h2:kd KY/\np KY;(.rw[ao h2,uV];by_cases h3:18<oA+bp KY;(.rw[ao h3,ng,i?];rw[<-#[aM,yj h],HZ h.2,aK4 h3 al]);.rw[aj h3,ab0 ih l];rw[h2.1,FB,UP];by_cases hl:l=[];(.subst hl;rw[CP,ow];rintro⟨_,h⟩;apply h;refine #[rfl,?_];simp only[UQ,oy,ja];exact gB h3);.simp[hl]);.rw[aj h2];show List.foldl _ (Option.bind ak _) l=_;rw[Option.bind_none,ng,i?];refine #[aM,λ h=>h2 yt ?_];(.have:=h.1;rw[fb]at al;exact al.1);.rw[HZ h.2,ei air]
Mj{B:ai}:(lv n c (u4 B n c=se (kd ka/\np ka) Z ka))|0,c=>by show GA (p7/\pB) dY ak=_;rw[Gx];(have e:(gu B dY=au/\np dY)↔(D?=[]/\pB):=by unfold gu dI;simp only[y!,FC,FD,lT,gC,u1];split;(.rw[qa];simp[h]);.rw[qa];simp[h]);by_cases h:p7/\pB;(.rw[ao h,i? (e.mpr h)]);.rw[aj h,aj uw (h (e.mp q))]|n+1,c=>by rw[IF i9 Z dY (lY H! Z [])];rw[tq];cases h:i9 with|bt=>dsimp only;rw[t8,i?];unfold gu;simp[h]|aN a r=>dsimp only;rw[aj (show¬f' a=[]by simp),ab0 (Mj n)];rw[zb];by_cases hq:kd (UR AL f' a)/\np (UR AL f' a);(.rw[ao hq,aj uw (q.2 hq)]);.rw[aj hq,ao #[aM,hq]]
aAk(B:ai)(c:Y):∀{j n:Y},j<=n->bp ni<=bp ka:=by intro j n h;induction h with|refl=>exact u3 _|step _ ih=>rw[US,zO];exact oC ih (JW B _)
aDh(B:ai)(c:Y)(h:j<=n)(hd:kd ni):ka=ni:=by induction h with|refl=>rfl|step _ ih=>rw[US,zO,ih,afl hd]
e8.1(B:ai)(c:Y):ac:=if kd xA/\dw GH c<=18 then xA else[]
avv{B:ai}(hj:j<=8)(h:18<bp ni):qs=[]:=by rw[e9 e8 ow];rintro⟨_,q⟩;have:=aAk B c hj;exact ahg h al q
auI{B:ai}(hj:j<=8)(h:np ni)(hd:kd ni):qs=ni:=by unfold e8;rw[aDh B c hj hd,ao #[hd,h]]
azn{B:ai}(h:gu B xA=false):qs=[]:=by rw[e9 e8 ow];rintro⟨q,_⟩;rw[bO h q q]
Vp(B:ai)(c:Y):(Dg).isSome=bn (0<bp qs):=by rw[Mj];unfold e8 u5;split;(.have:=Mm B 8 c;simp[al]);.simp
aws{B:ai}(h:tF Dg):qs=fullK B c:=by rw[Mj]at h;rw[cT u5];unfold e8 fullK u5;split at h;(.rename_i q;rw[ao q]);.rw[bo]
mT.1(p:g0)(e:Y):aL:=((CV&&(KP&&weight3 e !=0))||((!CV&&(Ty||!KP))||(CV&&(!KP&&(!Ty&&(match p with|Z q=>variable_ q==TM|ak=>false))))))&&(CV||!TM)
anF(p:g0)(e:Y)(r:ac):FF p f' e=(mT p e&&J' yq):=by show(_&&(_&&J' yq))=(_&&J' yq);rw[tp mT UV]
Ph:∀(l:ac)(p:g0),ap (FF p l)↔∀i e,cg l e->ap (mT (if i=0 then p else l[i - 1]?) e)|[],p=>fF FF|qH,p=>by rw[anF,fb,Ph l];constructor;(.rintro⟨h1,h2⟩i e he;cases i with|cp=>cases he;exact h1|cq i=>have:=h2 i e dv he;rw[Sl ow];rw[Qj]);.intro h;refine #[h 0 a ae,ar i e he];have:=h bC e dv he;rw[Sl ow]at al;rw[Qj]
II(B:ai):∀l:ac,ap (FG B l)↔∀i x y,cg l x->l[bC]?=Z y->ccc B y=0\/ccc B x<=ccc B y|[]=>fF FG|[a]=>fF FG|a::b::l=>by show ap ((ccc B b==0||ke (ccc B a) (ccc B b))&&FG B (b::l))↔_;rw[fb,II B (b::l),Fl,lT,i!];constructor;(.rintro⟨h1,h2⟩i x y hx hy;cases i with|cp=>cases hx;cases hy;exact h1|cq i=>exact h2 i x y Cp Cn);.intro h;refine #[h 0 a b ae ae,λ i x y hx hy=>h bC x y Cp Cn]
u6.1(B:ai)(k:Y)(z:ad):Y:=if 0<=z/\k8 NF then kQ B k NF else 0
p_(c:Y):k8 c↔c<0x110000/\¬(0xD800<=c/\c<0xE000):=by unfold eO;simp only[fb,i!,UX,Bool.and_eq_false_iff,decide_eq_false_iff_not];exact alD
aaG{B:ai}(F:ip){k d:Y}(hk:k<14)(h:sg≠0)(hc:0xD800<=c/\c<0xE000)(hd:0xD7FF<=d/\d<=0xE000):kQ B k d=sg:=by refine wU (adp h) λ r hr h1 h2 h3=>?_;have f:=F.hZ k r hk hr;have f1:=(p_ _).mp f.first;have f2:=(p_ _).mp f.last;dsimp only at f1 f2;rw[h3];unfold kQ;rw[aMg hr (by simp;exact atx hc hd h1 h2 f1 f2) h_ y hy e];have g:=F.hZ k y hk hy;have g3:=g.le;dsimp only at g3;rw[sx fb e];rcases av3 (F.N9 k hk) hy hr with q|q|q;((.exact q);.exact fK (aKI hc hd h1 f1 e q));.exact fK (aw7 hc hd h2 f2 e q)
arv{B:ai}(F:ip)(hr:r∈UO 11 []):((Tk).all λ i=>kQ B 11 Jv==dc&&bn (lW<=Ag))=((Tk).all λ d=>bn (((u6 B 11 Ia:Y):ad)=(d:ad)+1)):=by have f:=F.hZ 11 r cC hr;have fm:lW<=10:=f.most;have fp:0<lW:=f.pos;have fs:=(p_ _).mp f.first;dsimp only at fs;rw[zc,uY,uY];constructor;(.intro h d hd;rw[Jj hd];(have b9:∀i,i<10->kQ B 11 Jv=dc/\lW<=Ag:=λ i hi=>by have:=h i (UY hi);rw[Hq]);have hle:=(b9 0 cC).2;(have e:Ia=p6 (pk+d):=by exact Yb hle);rw[i!,e];rw[e9 u6 UZ];(have bJ:k8 (pk+d):=by rw[p_];have hp:=(b9 d hd).1;refine wU (adp (B:=B) (k:=11) (c:=xF+d) xE auB) λ q hq q1 q2 _=>?_;have g:=(p_ _).mp (F.hZ 11 q cC hq).bG;dsimp only at g;refine #[eL ayi q2 g,yj hs];by_cases qx:oz<0xD800;(.have a1:=(b9 RS (by exact anJ hs hd)).1;have a2:=(b9 RQ (by exact atn hs hd)).1;((have e1:xF+RS=0xD7FF:=by exact ay7 fp qx);have e2:xF+RQ=0xD800:=by exact awR e1);rw[e1]at a1;rw[e2]at a2;have:=aaG F (k:=11) (c:=0xD800) (d:=0xD7FF) cC bm asc a2 gt amN gt arK;exact alR e1 a1 al a2);.have a1:=SY RP azj fm;have a2:=SY RT aoW fm;((have e1:xF+RP=0xDFFF:=by exact aLo hs);have e2:xF+RT=0xE000:=by exact ajq e1);rw[e1]at a1;rw[e2]at a2;have:=aaG F (k:=11) (c:=0xDFFF) (d:=0xE000) cC bm ash a1 gt aw2 gt aGi;exact aoL e1 a1 a2 al);rw[ao #[gt aK9,bJ],(b9 d hd).1];exact aGn);.intro h i hi;rw[Jj hi];(have b9:∀d:Y,d<10->p6 (u6 B 11 Ia)=(d:ad)+1:=λ d hd=>by have:=h d (UY hd);rw[Hq]);(have h0:=b9 0 cC;have hle:lW<=Ag:=by unfold u6 at h0;split at h0;(.omega);.exact auU h0);have hd:=b9 i hi;(have e:(Pt+1+(i:ad))=p6 Jv:=by exact Yb hle);rw[e]at hd;unfold u6 at hd;rw[UZ]at hd;split at hd;(.simp only[fb,lT,i!];exact #[bm aJq hd,hle]);.exact pC aBT hd
atM{B:ai}(F:ip){k:Y}(hk:k<14)(qx:Il low q (y4<c))(hr:ld[low]?=Z r)(hh:D3 c)(h1:LI c):K_:=ayv hr qx h1 hh
Y'{B:ai}(F:ip){k:Y}(hk:k<14)(qx:Il low q (y4<c))(h:∀r,ld[low]?=Z r->c<oz):sg=0:=by refine aCQ cn q hq;obtain⟨i,hi,rfl⟩:=List.getElem_of_mem hq;rintro⟨q1,q2⟩;by_cases h1:i<low;(.rw[m3 (qx i _ h1 gg hi) EU q2]);.by_cases h2:i=low;(.subst h2;rw[m3 (h _ gg hi) EU q1]);. (have hl:low<bp ld:=by exact aom hi h1);have:=h _ gg hl;have p:=List.pairwise_iff_getElem.mp (F.N9 k hk) low i hl hi (by exact amU h1 h2);have g:=(F.hZ k _ hk (List.getElem_mem hl)).le;dsimp only at g;exact azT al g p q1
alA(h:sX c)(hx:x∈T1):sn:=by rw[cT l0,sx fb h,xB qT];rw[p_];dsimp only at hx;split at hx;(.simp only[NH,U1,or_false]at hx;exact asG h hx);.simp only[NH,U1,or_false]at hx;exact aiq h hx
di.ER{B:ai}(F:ip){k:Y}(hk:k<15)(h1:k≠10)(h2:k≠11)(hx:x∈DO):sn:=by rw[iP (Fy (B:=B) (k:=k) (c:=c)) (λ e=>by rw[bO e hx hx]) λ r hr _ e=>?_];rw[e]at hx;have:=(F.row k r hk hr).dh;unfold Fg at al;dsimp only at al;rw[aj h1,aj h2]at al;exact U2 al x hx
di.LM{B:ai}(F:ip)(hx:x∈fv):sn:=by rw[xB u2];split at hx;(.exact alA Tl hx);.exact F.ER cC cC cC hx
di.aCV{B:ai}(F:ip)(hx:x∈i9):sn:=by rw[xB dI];split at hx;(.exact F.LM hx);.exact F.ER cC cC cC hx
di.Zi{B:ai}(F:ip):(Rr j c ni)|0,c,x,hc,hx=>by rw[Qh qU hx]|j+1,c,x,hc,hx=>by rw[tq]at hx;split at hx;(.rw[Qk]);.refine ah (List.mem_flatMap.mp hx) ar y hy hxy;exact F.Zi j y x (F.aCV hy) hxy
di.aw1{B:ai}(F:ip)(hc:k8 c)(hx:x∈qs):sn:=by rw[xB e8];split at hx;(.exact F.Zi 8 c x hc hx);.cases hx
adH(B:ai)(c:Y):np qs:=by unfold e8;split;(.rw[qa,h.2]);.exact Uv _
di.aaW{B:ai}(F:ip):(Rr n c De)|0,c,x,hc,hx=>by rw[Qh iE hx]|n+1,c,x,hc,hx=>by rw[xB iE];split at hx;(.rw[Qk]);.rename_i y r e;rcases BQ hx with h|h;(.exact F.aaW n y x (F.LM (c:=c) (by rw[e];simp)) h);.exact F.LM (c:=c) (by rw[e];simp[h])
}
section
variable{B:ai}(j0:∀r∈Tm [],RH/\iS kR qS)(j1:∀r∈Tn [],RH/\iS kR qS)
include j0 j1
def z:={
z6(hj:ul kR)(hs:Tu=false):dI B x=[]:=by(have m1:Gw 1 x=[]:=Fw λ r hr e=>by rw[v3 (yG j1).2 e hj];cases al);(have m0:MN x=[]:=Fw λ r hr e=>by rw[v3 (yG j0).2 e hj];cases al);rw[pG dI m1];unfold u2;rw[aj (by rw[hs];decide),m0]
aeA(hs:sX c):i9=T1:=by(have m1:p7:=Fw λ r hr e=>by rw[v3 (yG j1).1 e hs];cases al);rw[pG dI m1,pG u2 hs]
OS(hj:ul kR)(hs:Tu=false)(n:Y):KT=[x]:=by cases n with|cp=>rfl|cq n=>rw[tq,ao i7 z6 hj hs]
LW{s:Y}(hs:s<11172):(kR (0x1100+s/588)=au/\A4 (0x1100+s/588))/\(kR (0x1161+s%588/28)=au/\A4 (0x1161+s%588/28))/\(s%28≠0->ap (kR (0x11A7+s%28))/\A4 (0x11A7+s%28)):=by(refine #[#[?_,?_],yt ?_,λ h=>yt ?_];(.unfold kR;rw[gk as8 hs]);.unfold l0;rw[gk apI hs]);((.rw[tY kR,awy]);.rw[tY l0,amO]);(.rw[tY kR,aEm h]);.rw[tY l0,aka]
aaZ(hs:sX c)(zw:jX=0)(n:Y):Kn=[K6 vA,Lo (vA%588)]:=by(have hl:S9 c:=by rw[Jl hs hs aeP]);refine bW (LW j0 j1 hl) kv aS aU (bq aS λ a1 a2=>bq aU cn b1 b2);(have e:qT c=[K6 vA,Lo (vA%588)]:=by rw[pG qT zw]);rw[tq,aeA j0 j1 hs,e,CP,eP,eP,i7 OS a1 a2,i7 OS b1 b2];rfl
at4(hs:sX c):tF Dg:=by((have hl:S9 c:=by rw[Jl hs hs aeP]);have fU:0xAC00<=c:=by rw[Jl hs hs asT]);refine bW (LW j0 j1 hl) λ a9 bu t=>bq a9 λ a1 a2=>bq bu cn b1 b2;rw[Vp];refine zd ?_;by_cases zw:jX=0;(.have e:=i7 aaZ hs zw 7;(have hk:kd xA:=by rw[e];unfold gu;simp only[y!,FC,FD,i7 z6 a1 a2,i7 z6 b1 b2];rfl);unfold e8;rw[ao #[hk,by rw[e];exact(cC:2<=18)],e];rw[Jx]);.obtain⟨t1,t2⟩:=t zw;((have e0:qT c=[c - jX,0x11A7+jX]:=by unfold qT;rw[aj zw]);have pJ:sX (c - jX):=by unfold l0;rw[Cb xq (0xAC00<=c - jX) apN zw,Cb xq (c - jX<0xAC00+11172) aKW hl];rfl);((have at7:I8%28=0:=by exact aB5);have dW:c - jX - 0xAC00<11172:=by exact asf hl);refine bW (LW j0 j1 dW) kv bV cI (bq bV λ c1 c2=>bq cI cn d1 d2);((have e:GH c=[K6 I8,Lo (I8%588),0x11A7+jX]:=by rw[tq,aeA j0 j1 hs,e0,CP,eP,eP,i7 aaZ pJ at7,i7 OS t1 t2];rfl);have hk:kd xA:=by rw[e];unfold gu;simp only[y!,FC,FD,i7 z6 c1 c2,i7 z6 d1 d2,i7 z6 t1 t2];rfl);unfold e8;rw[ao #[hk,by rw[e];exact(cC:3<=18)],e];rw[Jx]
aB7(h0:∀r∈Tm [],tF (u4 B u5 qS))(h1:∀r∈Tn [],tF (u4 B u5 qS))(c:Y):tF Dg:=by by_cases e1:p7;(.by_cases e0:pB;(.show tF (match(if p7 then fv else D?)with|[]=>Z dY|l=>_);rw[ao e1,e0];rfl);.by_cases hs:sX c;(.exact at4 j0 j1 hs);.have hm:MN c≠[]:=λ e=>e0 (by unfold u2;rw[aj hs,e]);rw[Rz hm e h0]);.rw[Rz e1 e h1]
}
section z
section _B
namespace Ch
open Mt MtLine
variable{n i a b c:Y}{us:c?}{u:gD}{l:iY}{w:dk}{cs:m6}{r:eo}{m:aL}
def z:={
ig.1(l:eo):Y:=Hh (λ s=>u7 iF)
GB(s:fS)(r:eo):ig E1=if wR then mS+1 else 0:=by rw[Q7 ig,xp]
OY:∀l:eo,ig l<=bP|[]=>gi|s::r=>by rw[GB];have:=OY r;rw[xp]<;>omega
yx.1(s:fS)(r:eo)(n:Y):Y:=(EW E1 n s).cls
aIi(h:ap (l3 FH)):ze u r=u::dJ r:=by cases r with|bt=>rfl|aN s r=>show(if wR/\Jo then _ else _)=_;rw[aj (by rw[h];simp)];rfl
Y9:∀(r:eo)(u:gD),Jo->ze u r=JT u (if mS=0 then u.joins else(r.getD PJ #[0,false,false,false,false,false,false,false]).cls==47) (d9+mS)::dJ (kN (ig r))|[],u,h=>rfl|s::r,u,h=>by show(if wR/\Jo then ze JT u (iF==47) (d9+1) r else u::ze (u8 s) r)=_;rw[GB];by_cases hm:wR;(.rw[ao #[hm,h],ao hm,Y9 r JT u (iF==47) (d9+1) h];rw[ow (UW _),U3,qW];by_cases hz:mS=0;(.rw[ao hz,hz];simp[U4]);.rw[Qd hz r hk];simp[U4,U5 1]);.rw[aj uw (hm q.1),aj hm];rfl
fI.1(s:fS)(r:eo):Y:=if J1 then 1 else 1+mS
il.1(s:fS)(r:eo):gD:={Mo with zf:=yx s r sh==47,qV:=rH}
PK(s:fS):l3 Dr s is.cls=l3 iF:=by rw[pO u8];split;(.rw[qa,cT u7];simp only[Fl,lT]at h;rcases h with h|h<;>rw[h]<;>rfl);.rfl
Cv(s:fS)(r:eo):dJ E1=yk::SM:=by show ze (u8 s) r=_;by_cases h:J1;(.rw[aIi (by rw[dD PK h])];unfold il fI yx;rw[ao h];rfl);. (have h':iS l3 iF:=by rw[jW]);rw[Y9 r _ (by rw[dD PK h'])];unfold il fI yx;rw[aj h,Nat.add_sub_cancel_left];congr 1;by_cases hz:mS=0;(.rw[ao hz,hz];rfl);.rw[Qd hz r hk];(have hl:=OY r;have a8:k<lR:=by exact ahG hk hl);show({Mo with zf:=(r.getD (br - 1) _).cls==47,qV:=Dr s qV+br}:gD)={Mo with zf:=(EW E1 br s).cls==47,qV:=1+br};rw[U3,List.getD_cons_succ,kM,kM,gg a8];rfl
He(s:fS)(r:eo):0<rH:=by unfold fI;split<;>omega
T3(s:fS)(r:eo):rH<=Lp:=by unfold fI;have:=OY r;split<;>omega
num.1:Say->Y|k1=>0|qk=>1|EF=>2
ly.1(eR:aL):ac->c?->Y->BS->ac|acc,_,p,[]=>FI ks 2|acc,aB,p,qo m=>Q3 FI AB aB (u::r.map gl z.1) U6 (u::aB)
oO(n:Y)(cs:m6):bp i4=n:=by rw[tY qX]
D'(n:Y)(cs:m6)(h:i<n):i4[i]?=Z (match cs.find? c! (bg==dc)with|Z (_,au)=>2|Z (_,false)=>1|ak=>0):=by unfold qX;rw[Q?]
aeK{q:Y}(h:nF cs (bg≠q)):cf cs.find? EG (bg==q):=Nw λ x hx=>by simpa using sk h
Kw{p:Y}{b:aL}(ud:nF cs (bg<p))(h1:1<=p)(h2:p<=n):qX n (cs++[(p,b)])=(i4).set ks (if b=au then 2 else 1):=by rw[ww i];by_cases hi:i<n;(.rw[El,U7];by_cases e:p - 1=i;(.rw[e,Ft (by rw[dD oO hi])];rw[aeK (λ x hx=>by have:=sk ud;exact Rw e al)];(have e':ap (p==dc):=by simp;exact aE2 h1 e);rw[Option.none_or,UM (p:=λ x:t_=>bg==dc) (a:=(p,b)) e'];cases b<;>rfl);.rw[Sb,El];(have e':¬ap (p==dc):=by rw[gk aiB e]);rw[UN (p:=λ x:t_=>bg==dc) (a:=(p,b)) e',List.find?_nil,Option.or_none]);.rw[iy (by rw[Bt oO hi]),iy (by rw[Nr,oO];exact gB hi)]
arN{p:Y}(ud:nF cs (bg<p))(h1:1<=p):(i4).set ks 0=i4:=by rw[ww i];by_cases e:p - 1=i;(.by_cases hi:i<n;(.rw[e,Ft (by rw[dD oO hi]),El,aeK (λ x hx=>by have:=sk ud;exact Rw e al)]);.rw[iy (by rw[Nr,oO];exact gB hi),iy (by rw[Bt oO hi])]);.rw[Nq e]
l4.1(l:BS):Y:=(zi gl Ed).sum
Gp(eR:aL)(n:Y):∀(jb:BS)(x:gD)(aB:c?)(p:Y)(cs:m6),(∀y∈cs,y.1<p)->1<=p->p+l4 jb<=n->(∀z∈jb,0<Ed)->ly eR i4 sj p jb=vB (cs++walk eR sj p jb)|[],x,aB,p,cs,h1,h2,h3,_=>by show(i4).set ks 2=vB (cs++[(p,au)]);rw[Kw h1 h2 (by simpa[l4]using h3)];rfl|qo m,x,aB,p,cs,h1,h2,h3,h4=>by rw[Sx h4 ht (l4 r)];rw[ht]at h3;have qF:∀z∈r,0<Ed:=λ z hz=>vY h4 z hz;show Q3 (i4).set HB Uo=vB (cs++((match HB with|k1=>[]|qk=>[(p,false)]|EF=>[(p,au)])++walk eR Uo wl r));generalize HB=y;cases y with|ak=>rw[BT ((i4).set ks 0) _ _];rw[wy arN,DC sj wl cs (λ y hy=>by rw[lq yf KL]) Id hu bm JE h3 qF];rfl|chance=>rw[BT ((i4).set ks 1) _ _];have e:=Kw (n:=n) (b:=false) h1 h2 QP;rw[CP]at e;rw[<-e,DC sj wl _ (λ y hy=>by rcases BQ hy with hy|hy;(.rw[lq yf KL]);. (have:y=(p,false):=by rw[KR]);subst al;rw[QO (p<_) hu]) Id hu bm JE h3 qF];rw[I9]|must=>rw[BT ((i4).set ks 2) _ _];have e:=Kw (n:=n) (b:=au) h1 h2 QP;rw[t8]at e;rw[<-e,DC sj wl _ (λ y hy=>by rcases BQ hy with hy|hy;(.rw[lq yf KL]);. (have:y=(p,au):=by rw[KR]);subst al;rw[QO (p<_) hu]) Id hu bm JE h3 qF];rw[I9]
azs(n:Y):qX n []=JU n:=by rw[ww i];by_cases hi:i<n;(.rw[El,NL,ao hi];rfl);.rw[iy (by rw[Bt oO hi]),iy (by rw[gk gB hi])]
aHB{eR:aL}{r:BS}(hn:n=l4 Hz)(h:∀z∈qo m,0<Ed):ly eR JU n [u] d9 r=qX n (walk eR [] 0 Hz):=by rw[Sx h ht (l4 r)];rw[<-azs,DC [] d9 [] aM hu eL aEC hn ht BY h];show _=vB (walk eR [u] (0+d9) r);rw[Fs];rfl
vw.1:s0->cB Say|[]=>ak|x::r=>w6 bg Z du (vw r)
XN(a b:s0):l5 M6=(vw a).ox (l5 b):=by induction a with|bt=>rfl|aN x a ih=>show J9 bg du (l5 M6)=ux J9 bg Z du (vw a) (l5 b);split;(.rfl);.exact ih
}
section
variable(aB bL:c?)(fT:C!)
def z:={
gX.1:e_:=bef.head?
rq.1:e_:=yr T9
gY.1:e_:=bL.head?
m8.1:e_:=yr (bL.drop 1)
CO.1:e_:=yr (bL.drop 2)
rK.1:c?:=bef.dropWhile λ u=>FH==41
gZ.1:e_:=(rK aB).zk
yF.1:e_:=yr vQ (rK aB)
vX.1(o:e_):aL:=sF u u.is.initial
vi.1(o:e_):aL:=sF u u.is.final
xR.1(o:e_):aL:=sF u u.is.soft
wz.1(o:e_):aL:=sF u u.is.ring
yV.1(o:e_):aL:=sF u u.is.open_
zm.1(o:e_):aL:=sF u u.joins
gSa.1(o:e_):aL:=(o.map Unit_.sa).ox fe
seg.1:Y->s0|1=>[(cM [9],EF),cN ge [15] [30],(cM [15,30,31],EF)]|2=>ie cl [9,15,30,31,41,46]|3=>[(k3 gZ [46],qk)]|4=>ie mK zm|5=>ie (cM [45]||cl [45])|6=>[iL cM [19],cN (cl [19]&&isNot (gX aB) [41,7,23])]|7=>ie cl [12,14,18,42]|8=>ie k3 gZ [34]|9=>ie (k3 gZ [37]&&(vX (gZ aB)&&(lacks (yF aB)||k3 yF [9,15,30,31,34,37,19,41,46])))|10=>ie (cl [37]&&(nO vi&&(lacks (m8 bL)||is (m8 bL) [41,19,45,12,37,14,18,26,42,9,15,30,31,46])))|11=>[(cl [26]&&(cM [41]&&is (m8 bL) [33]),qk),cN cl [26]]|12=>[iL (cl [32]&&k3 gZ [12,14]),cN (cl [6]&&k3 gZ [6])]|13=>[(cM [41],qk)]|14=>[iL (cl [37]&&!nO vX),cN (cM [37]&&!mK vi)]|15=>[iL (cl [37]&&(!Ka||!zl (m8 bL))),cN (cM [37]&&(!nO zl||!zl (rq aB)))]|16=>[(cM [10]||cl [10],qk)]|17=>ie ((cM [23]||mK xR)&&((lacks (rq aB)||k3 rq [9,15,30,31,41,46,10,19])&&cl [3]))|18=>[iL cl [7,23,32],cN cM [8],cN (k3 rq [22]&&((cM [23]||(cM [7]&&!Ka))&&isNot (gY bL) [22])),cN ge [42] [22]]|19=>ie cl [25]|20=>[iL (ge [3,22] [33]||Bi [33]),cN (ge [36] [24,16,17]||ge [24,16,17] [35]),cN (Bi [36,35]||ge [3,22] [36,35])]|21=>[iL (cl [35,36]&&(digits aB||(cM [12,14]&&digits T9))),cN (cM [35,36]&&(cl [34]&&(is (m8 bL) [33]||(is (m8 bL) [26]&&is (CO bL) [33])))),cN ge [35,36,23,26] [33],cN (cl [33]&&digits aB)]|22=>[iL ge [27] [27,29,20,21],cN ge [29,20] [29,28],cN ge [28,21] [28],cN ge [27,29,28,20,21] [35],cN ge [36] [27,29,28,20,21]]|23=>[(Bi [3,22],if mK gSa&&nO gSa then(if fT=Z au then qk else k1)else k1)]|24=>[iL (cM [4]&&nO u9),cN (mK u9&&cl [43,44]),cN (u9 (rq aB)&&(cM [44]&&(cl [2]||nO wz))),cN (mK u9&&(nO u9&&is (m8 bL) [43]))]|25=>ie Bi [26]|26=>[iL (cM [3,22,33]&&(cl [34]&&!nO zl)),cN (cM [14]&&(!Ka&&cl [3,22,33]))]|27=>ie (cM [38]&&(cl [38]&&(dw bef.takeWhile (λ u=>FH==38))%2==1))|28=>ie ((cM [16]||mK yV)&&cl [17])|_=>[]
xZ.1:Y->Y->s0|0,_=>[]|n+1,i=>z7 i++xZ n bC
}
set_option maxRecDepth 100000 in def Uh:says aB bL fT=l5 (xZ aB bL fT 28 1):=rfl
section z
def z:={
cst.1(B:ai)(bc:er):tP:=(S6).oq up
aAa(B:ai)(u:bj)(r:er):NN B fO=pu fO::C2:=rfl
aex(B:ai):∀(bc:er)(j:Y),j<=kS->S6[j]?=Z pu (NP j)|[],0,_=>rfl|[],j+1,h=>gs|u::r,0,_=>rfl|u::r,j+1,h=>by rw[Q5 aAa,aex B r j pW]
Ui{α:Type}(le:α->α->aL)(l:en)(b:α):ot le vI b=Z (match ot le l with|ak=>b|Z a=>if(ap (le b a))then b else a):=by cases l with|bt=>rfl|aN x r=>show Z ((r++[b]).zn _ x)=_;rw[List.foldl_append];rfl
hX.1(B:ai)(bc:er):Y->cB (Y×Y)|0=>ak|k+1=>match CG br (row.take br).zp with|ak=>DE|Z c=>match DE with|ak=>Z (c+J5,k)|e7=>if c+J5<=b.1 then Z (c+J5,k)else e7
QJ(B:ai)(u:bj)(r:er):∀k,k<=Lp->ot (λ(a b:tP)=>ke a.1 b.1) ((Tv).filterMap λ i=>hM CG bC ((fO).d0 bC).zp λ c=>(c+(EW C2 i up).1,bC::(EW C2 i up).2))=hM (hX B fO k) λ b=>(b.1,yO::x' nZ fO yO)|0,_=>rfl|k+1,h=>by have ih:=QJ B u r k Is;rw[uR,Nm];(have hg:ux C2 k up=pu nZ fO br:=by rw[sr (aex B r k ew Nat.le_of_lt_succ)]);rw[Ib hX Nn];cases hp:CG br ((fO).d0 br).zp with|ak=>dsimp only[Option.map_none];rw[oy,ih]|b? c=>rw[Ip];rw[Ui,ih,hg];cases hb:hX B fO k with|ak=>rfl|b? b=>rw[Ip];by_cases hle:c+(pu nZ fO br).1<=b.1;(.rw[ao S0,ao hle];rfl);.rw[aj S0,aj hle];rfl
Ni(B:ai)(bc:er):∀k,0<k->∃b,DE=Z b|0,h=>by exact pC aor h|k+1,_=>by unfold hX;cases k with|cp=>(have:∃c,CG (0+1) (row.take (0+1)).zp=Z c:=by unfold pieceCost;split;(.exact jP);.exact #[65536,rfl]);obtain⟨c,hc⟩:=al;rw[hc];exact jP|cq k=>obtain⟨b,hb⟩:=Ni B bc br gt FZ;rw[hb];split;(.exact jP);.dsimp only;split;(.exact jP);.exact jP
DF{B:ai}{bc:er}:∀{k:Y}{b:ue},DE=Z b->b.2<k|0,b,h=>x?|k+1,b,h=>by rw[cT hX];split at h;(.rw[lq (DF h) sC]);.split at h;(.rw[bo,R7]);.rename_i a ha;split at h;(.rw[bo,R7]);.rw[bo,lq (DF ha) sC]
aep{B:ai}{bc:er}{b:ue}(h:hX B bc kS=Z b):DN=(b.1,yO::x' (NP yO)):=by cases bc with|bt=>rw[bo]|aN u r=>show((ot _ _).ox up)=_;rw[QJ B u r (lR+1) gi];rw[show bp fO=Lp from rfl]at h;rw[h];rfl
abG(B:ai):pu []=up:=rfl
MB(B:ai):∀(n:Y)(bc:er),kS=n->DN.2.sum=kS/\∀k∈DN.2,0<k:=by intro n;induction n using NR with|_ n ih=>intro bc hn;cases bc with|bt=>exact #[rfl,fF abG]|aN u r=>obtain⟨b,hb⟩:=Ni B fO bp fO aM;have a8:=DF hb;rw[aep hb];rw[B0 h2 (ih dw vJ fO yO (by rw[sJ];simp at hn⊢;exact awG hn) _ ae),<-#[?_,cn k hk]];(.rw[iD,h1,iu];exact FJ a8);.rcases eA hk with rfl|hk;(.rw[Jx]);.exact h2 k hk
tT.1(ns:ac):bA aL:=ns.flatMap λ n=>au::G5 Hd fe
g9.1:Y->ac->ac|_,[]=>[]|a,uH=>MI eX
ado:∀ns:ac,xK->dw tT ns=zr|[],_=>rfl|uH,h=>by have h1:=h n aM;have h2:=ado r (λ k hk=>h k jV hk);unfold tT at h2⊢;rw[eP,ja,h2,iD];rw[Q4]
Jc:(mW ns a (xK->∀e∈Er,a<=e))|[],a,_,e,h=>x?|uH,a,hp,e,h=>by have h1:=hp n aM;rcases JB with rfl|h;(.exact ajl h1);.rw[lq (Jc r eX IM e h) U9]
Rk:∀(ns:ac)(a i:Y),xK->0<i->i<zr->((tT ns)[i]?=Z au↔a+i - 1∈Er)|[],a,i,_,_,h=>gs|uH,a,i,hp,h0,h=>by have h1:=hp n aM;have oB:∀k∈r,0<k:=λ k hk=>hp k jV hk;((have hb:tT f' n=Ik++tT r:=by rw[e9 tT eP]);have hl:bp Ik=n:=by rw[Q4]);rw[hb];show _↔a+i - 1∈MI eX;by_cases hi:i<n;(.rw[FK (by rw[dD hl hi])];(have hf:Ik[i]?=Z fe:=by obtain⟨j,rfl⟩:∃j,i=j+1:=#[i - 1,by exact L0 h0];rw[U',NL,ao bm Nat.lt_sub_of_add_lt hi]);rw[hf];constructor;(.intro q;cases q);.intro q;rcases eA q with q|q;(.exact fK (aGc q h0 hi));.have:=Jc r eX oB _ q;exact fK (alw al hi));.rw[NS (by rw[Bt hl hi]),hl];by_cases he:i=n;(.subst he;rw[U?];constructor;(.intro _;simp);.intro _;cases r with|bt=>simp at h|aN m r'=>rw[tp tT eP]);.have hs:n+zs=(f' n).sum:=(iD).symm;rw[Rk r eX (i - n) oB eL aBs hi he (by exact ahD hs h hi)];(have e1:uE (a+n+(i - n)) (a+i):=by exact aK1 hi);rw[e1,NH];constructor;(.intro q;rw[nv q]);.rintro(q|q);(.exact fK (aqi q h1 hi he));.exact q
kO.1(l:iY):Y:=Hh gl z.1.sa
Bb(z:Ej)(l:iY):kO (z::l)=if(ap z.1.sa)then kO l+1 else 0:=by rw[Q7 kO,xp]
UE(B:ai):∀(l:iY)(bc:er),JY=begins B (bc++hM (uU (kO l)) ((·.2)))++(match gy (kO l)with|[]=>[]|_::r=>false::iO r)|[],bc=>by simp[marksFrom,kO]|qo t,bc=>by rw[Bb];show Be=_;by_cases h:u.sa=au;(.rw[ug,ug,UE B r GT];simp);.rw[aj h,aj h];simp
ZL(B:ai)(bc:er):z3=tT DN.2:=rfl
Cg(B:ai)(bc:er):bp z3=kS:=by rw[B0 h2 (MB B kS bc ae)];rw[ZL,ado _ h2,h1]
E7(B:ai):∀(l:iY)(bc:er),bp JY=kS+bP|[],bc=>by show wK=_;rw[Cg];rfl|qo t,bc=>by show bp Be=_;split;(.rw[E7 B r];simp;exact yK);.rw[ja,Cg,gC,E7 B r];simp
Lg(B:ai):∀(l:iY)(bc:er)(k:Y)(z:Ej),l[k]?=Z z->z.1.sa=false->(JY).kP (kS+k+1)=iO pc br|[],bc,k,z,h,_=>gs|qo t,bc,0,z,h,hz=>by(have e:(u,t)=z:=by rw[jW]);subst e;show(Be).kP _=iO r;rw[aj (by dsimp only at hz;rw[hz];simp)];rw[show kS+0+1=wK+1 by rw[Cg],Va];rw[Rq MH];simp|qo t,bc,k+1,z,h,hz=>by(have h':r[k]?=Z z:=by rw[jW]);show(Be).kP _=iO (kN br);split;(.have:=Lg B r GT k z h' hz;rw[<-al];congr 1;simp;exact aoh);.have:=Lg B r [] k z h' hz;rw[<-al];rw[show kS+br+1=wK+yU by rw[dD Cg aEg],Va];rw[Rq aHt,tN (wK+yU - wK=k+1+1) axj,qW];simp
ir.1(l:iY)(a:Y):Prop:=a=0\/∃z,l[M7]?=Z z/\z.1.sa=false
ays{B:ai}(h:ir l a)(h0:a<=bP):(wT).kP a=iO kj:=by by_cases ha:a=0;(.subst ha;rfl);.rcases h with h|⟨z,h1,h2⟩;(.rw[f8 h ha]);.have:=Lg B l [] M7 z h1 h2;rw[show bp ([]:er)+M7+1=a by rw[gk Vb ha],show a - 1+1=a by exact Vb ha]at al;exact al
l6.1(l:iY)(a b:Y):er:=(uD kj Hf).bz (·.2)
akz{B:ai}(h:ir l a)(hb:b=a+Ld kO)(h1:a<=i)(h2:i<b)(h3:xw):wT[i]?=(begins B tV)[E!]?:=by(have e:wT[i]?=(iO kj)[E!]?:=by rw[<-ays h (by exact anC h1 h2 h3),oF];congr 1;exact P7 h1);rw[e,UE,FK];(.unfold l6;rw[zb,show uM=Ld kO by exact azz hb]);.rw[Cg,zb,qO,or,iu];exact avV h2 h1 hb h3
m7.1(B:ai)(l:iY)(i:Y):Prop:=∃z,cg l z/\ap z.1.sa/\((∀y,l[bC]?=Z y->y.1.sa=false)\/wT[bC]?=Z au)
NO:∀(l:iY)(j:Y),j<kO l->∃z,l[j]?=Z z/\ap z.1.sa|[],j,h=>Di kO|z::l,j,h=>by rw[Bb]at h;split at h;(.rename_i hz;cases j with|cp=>exact aW z ae hz|cq j=>refine ah (NO l j ew aHA) ar y h1 h2;exact aW y A8 h2);.exact pC nD h
aeq:∀(l:iY)(y:Ej),l[kO l]?=Z y->y.1.sa=false|[],y,h=>gs|z::l,y,h=>by rw[Bb]at h;split at h;(.exact aeq l y pW);.rename_i hz;rw[Ig (z=y)];simpa using hz
Qi:(mW ns a (xK->0<zr->a+zr - 1∈Er))|[],a,_,h=>gs|uH,a,hp,_=>by have h1:=hp n aM;show _∈MI eX;rw[iD];by_cases hr:0<zs;(.have:=Qi r eX IM hr;rw[tH uE (a+(n+zs)) (a+n+zs) aqe];rw[wv al]);.rw[xq (zs=0) Nat.eq_zero_of_not_pos hr];exact r!
adE:(mW ns a (xK->∀e∈Er,e<a+zr))|[],a,_,e,h=>x?|uH,a,hp,e,h=>by have h1:=hp n aM;rw[iD];rcases JB with rfl|h;(.exact ajm h1);.rw[lq (adE r eX IM e h) akq]
PU(h:xw):bp tV=uM:=by unfold l6;rw[qO,or,iu];exact Yn h
az8{B:ai}(h:ir l a)(hb:b=a+Ld kO)(h3:xw)(h1:a<=i)(h2:i<b):m7 B l i↔i∈g9 a x' tV:=by obtain⟨hs,hp⟩:=MB B _ tV ae;rw[PU h3]at hs;refine ah (NO kj E! (by exact afM h2 h1 hb)) ar z km fV;rw[oF,JO E! i FJ]at km;by_cases hl:dc=b;(.have e:m7 B l i:=(aZ z km fV (f? λ y hy=>by apply aeq (gy a) y;rw[oF,<-hb,<-hl];exact hy));have:=Qi x' tV a hp (by exact awB hl hs h1);rw[hs,show a+Hf - 1=i by exact ali hl h1]at al;exact #[λ _=>al,λ _=>e]);.refine ah (NO kj EV (by exact axl h2 h1 hb hl)) ar y hy1 yo;rw[oF,show a+EV=dc by exact Qx h1]at hy1;have qE:=Rk x' tV a EV hp tR aGC (by exact aEL h2 h1 hs hl);rw[Km (a+EV - 1=i) aJW]at qE;have hm:=akz (B:=B) h hb Km (a<=dc) Nat.le_add_right_of_le eL y8 h2 hl h3;rw[ZL]at hm;rw[<-qE,<-hm];constructor;(.rintro⟨z',e1,e2,e3|e3⟩;(.rw[e3 y hy1]at yo;cases yo);.exact e3);.exact λ e=>(aZ z km fV ky e)
aLQ{B:ai}{x y:Ej}(hx:cg l x)(hy:l[bC]?=Z y)(h1:ap (bg).sa)(h2:ap y.1.sa):m7 B l i↔wT[bC]?=Z au:=by constructor;(.rintro⟨z,e1,e2,e3|e3⟩;(.rw[e3 y hy]at h2;cases h2);.exact e3);.exact λ h=>(aZ x hx h1 ky h)
Ap(us:c?):∀t:bj,bp nl=gx:=by induction us with|bt=>intro t;rfl|aN u r ih=>intro t;show bp (FM (qZ d9) r)+1=_;rw[ih];rfl
bS.1(us:c?)(i:Y):Y:=Su (NT i)
Ll(us:c?):bS us 0=0:=fF bS
zo(h:cg us u):bS us bC=vF i+d9:=by unfold bS;rw[zt,h,dj];simp
ae7(u:gD)(r:c?)(i:Y):bS fO bC=d9+bS r i:=by unfold bS;rw[List.take_succ_cons,dL,iD]
E6:∀(us:c?)(t:bj)(i:Y)(u:gD),cg us u->nl[i]?=Z (u,Cc vF i d9)|[],t,i,u,h=>gs|v::r,t,0,u,h=>by rw[Ig (v=u)];show Z (v,t.take v.size)=_;rw[Ll,FO]|v::r,t,dc,u,h=>by show(FM (qZ v.size) r)[i]?=_;rw[E6 r (qZ v.size) i u pW,ae7,jc]
aix(us:c?)(t:bj):K7 nl=us:=by rw[ww i];rw[qP];cases h:us[i]? with|ak=>rw[iy (by rw[Ap];exact List.getElem?_eq_none_iff.mp h)];rfl|b? u=>rw[E6 us t i u h];rfl
adM(us:c?)(t:bj)(a:Y):∀n,a+n<=gx->(l6 nl a eX).zp=Cc v! KS|0,_=>fF l6|n+1,h=>by have ih:=adM us t a n Is;rw[HJ u (us[eX]?=Z u) us[eX]];((have e1:l6 nl a (a+j9)=l6 nl a eX++[(qZ v5).d0 d9]:=by unfold l6;rw[tH (a+j9 - a=n+1) aqJ,show a+n - a=n by exact MZ,zt,oF,E6 us t eX u hu,dj];rfl);have Sm:v!<=v5:=by unfold bS;rw[Vd,dj,List.sum_append];exact xy);rw[e1,List.flatten_append,ih,tN (a+j9=a+n+1) MD,zo hu];rw[xq (v5+d9 - v!=KS+d9) NU Sm,Vd,jc,show v!+KS=v5 by exact FJ Sm];simp
aEt(w:dk)(g:Y):Mf w 39 g=3\/Mf w 39 g=13\/Mf w 39 g=24:=by unfold FP plain;simp only[(S7 ((39:Y)=1)),show¬((39:Y)=40\/(39:Y)=0)by decide,if_false,if_true];by_cases hg:g=6\/g=7;(.simp only[ao hg];simp[in_]);.simp only[aj hg];simp only[(S7 ((3:Y)=32\/(3:Y)=25)),and_false,if_false];generalize w.all=b0;generalize w.keep=b1;revert b0 b1;decide
aoZ{B:ai}(h:ap (Pg).sa):w!=3\/w!=13\/w!=24:=by unfold sort at h⊢;dsimp only at h⊢;(have:kQ B 6 c=39:=by rw[jW]);rw[al];exact aEt w _
afV{k g:Y}(h:w.all=au)(hk:To):Tf≠3/\Tf≠22:=by rw[pO FP];generalize(if w.how=2/\(K?=32\/K?=25)then 24 else K?)=b;rw[h,hk];by_cases hb:ap (in_ b [3,22,33]);(.rw[ao #[rfl,hb]];decide);.rw[aj uw (hb q.2),aj aM];constructor;(.rintro rfl;exact hb ae);.rintro rfl;exact hb ae
aoX{B:ai}(h:w.all=au)(hk:To):w!≠3/\w!≠22:=afV h hk
JX(s:fS):Dr s is.cls=if wR then 3 else iF:=by rw[pO u8];split<;>rfl
uA(s:fS)(r:eo):(yk).is=Dr s is:=rfl
V8(s:fS)(r:eo):(yk).qV=rH:=rfl
Se:∀(r:eo)(s:fS),yr (kN (ig r))=Z s->iS u7 iF|[],s,h=>Di ig|x::r,s,h=>by rw[GB]at h;split at h;(.exact Se r s pW);.rename_i hx;rw[Ig (x=s),Hv]
aDu:IT n l (T6->(∀s∈l,iS u7 iF->iF≠3/\iF≠22)->∀(i:Y)(x y:gD),yc[i]?=Z x->yc[bC]?=Z y->ap (in_ y.is.cls [3,22])->ap (l3 x.is.cls)):=by intro n;induction n using NR with|_ n ih=>intro l hn hl i x y hx hy hc;cases l with|bt=>simp[dJ]at hx|aN s r=>rw[Cv]at hx hy;have fP:=He s r;cases i with|cq i=>refine ih dw kN sh (by rw[sJ];simp at hn;exact V6 hn) _ ae (λ s' pJ=>hl s' jO (Ve pJ)) i x y Cp Cn hc|cp=>((have ex:yk=x:=by rw[Hv]);have yD:SM[0]?=Z y:=by rw[KR]);rw[<-ex,uA,PK];cases hd:Uc with|bt=>rw[hd]at yD;simp[dJ]at yD|aN s' r'=>rw[hd,Cv]at yD;(have ey:il s' r'=y:=by simpa using yD);rw[<-ey,uA,JX]at hc;have pJ:s'∈s::r:=jO (Ve (by rw[hd];exact r!));by_cases hm:ap (u7 s'.cls);(.by_cases ha:J1;(.exact ha);.exfalso;(have hu:rH - 1=mS:=by unfold fI;rw[aj ha];exact aLY);rw[hu]at hd;have:=Se r s' (by rw[hd];rfl);rw[bO hm al al]);.exfalso;rw[aj hm]at hc;obtain⟨h1,h2⟩:=hl s' pJ dv hm;unfold in_ at hc;simp at hc;exact agt hc h2 h1
aBd{k:Y}(h:ap (l3 k)):in_ k [3,22]=false:=by unfold l3 in_ at*;simp at h⊢;exact aue h
Cr:IT n l (T6->(∀u∈yc,0<d9)/\DV Su yc):=by intro n;induction n using NR with|_ n ih=>intro l hn;cases l with|bt=>exact #[jV dJ,rfl]|aN s r=>rw[Cv];have h1:=He s r;have h2:=T3 s r;obtain⟨h3,h4⟩:=ih dw kN sh (by rw[sJ];simp at hn;exact V6 hn) _ ae;constructor;(.intro u hu;rcases eA hu with rfl|hu;(.exact h1);.exact h3 u hu);.rw[dL,iD,h4,V8,iu,gC];exact afW h1 h2
Ju(l:eo):DV (bS (dJ l) J_ l):=by rw[e9 bS List.take_length,(Cr _ l ae).2]
abZ:(IT i l (i<=J_ l->dJ (gy (bS (dJ l) i))=(dJ l).kP i))|0,l,_=>by rw[Ll];rfl|dc,l,h=>by cases l with|bt=>simp[dJ]at h|aN s r=>rw[Cv]at h⊢;have h1:=He s r;rw[ae7,qW,V8];have:=abZ i Uc pW;rw[<-al,jc];congr 1;obtain⟨k,hk⟩:∃k,fI s r=k+1:=#[sh,by exact L0 h1];rw[hk,tN (k+1 - 1=k) R',tN (k+1+bS (dJ (kN k)) i=(k+bS (dJ (kN k)) i)+1) Ut,qW]
Qn{l:eo}{s:fS}(hi:i<=J_ l)(h:gy (bS (dJ l) i)=s::r):yc[i]?=Z yk:=by rw[v3 (abZ i l hi) h Cv];rw[<-Vg,<-al];rfl
m5.1(us:c?)(z:ad):e_:=se (0<=z) (us[NF]?)
cX.1(us:c?)(n:Y):c?:=(NT n).q8
pE(h:us[n]?=Z u):cX us j9=u::Em:=by unfold cX;rw[zt,h];simp
Sa(h:KZ):(Em).zk=m5 us (jT n - 1):=by unfold m5;cases n with|cp=>rfl|cq n=>rw[HJ u (us[n]?=Z u) us[n]];rw[pE hu,ao gt aK7,show rP (((j9:Y):ad) - 1)=n by exact akK,hu];rfl
Vi(h:KZ):(Em).kP 1=cX us Hd:=by cases n with|cp=>rfl|cq n=>rw[HJ u (us[n]?=Z u) us[n]];rw[pE hu];rfl
abd(h:KZ):(vQ Em).zk=m5 us (jT n - 2):=by rw[Vi h];cases n with|cp=>rfl|cq n=>rw[tH (n+1 - 1=n) R',Sa ew NQ];congr 1;exact aqo
Zk(us:c?)(p k:Y):((NV p).kP k).zk=m5 us (jT p+k):=by unfold m5;rw[ao gt agD,tN (rP (jT p+k)=p+k) azV,jc,Vg]
gS.1(l:s0):ad:=match vw l with|Z s=>(num s:Y)|ak=> -1
azk{l:s0}:gS l= -1↔(cf vw l):=by unfold gS;cases h:vw l with|ak=>simp|b? s=>simp
Mu(aB bL:c?)(fT:C!):(lv n i ((∀k,k<n->gS z7 (i+k)= -1)->∀m,l5 DK xZ Nb i=l5 DK xZ m (i+n)))|0,i,_,m=>by rw[Fs,u_]|n+1,i,h,m=>by rw[tH (n+1+m=Nb+1) Ut];show l5 (z7 i++DK xZ Nb bC)=_;have h0:=azk.mp (h 0 gt FZ);rw[u_]at h0;rw[XN,h0,Option.getD_none,Mu aB bL fT n bC (λ k hk=>by rw[tH (dc+k=i+br) yK];exact h br bm Ma hk) m];rw[tH (dc+n=i+j9) yK]
aKz{aB bL:c?}{fT:C!}{k:Y}(hk:k<28)(h:∀j,j<k->gS sQ j= -1)(hs:gS sQ k≠ -1):p6 (num (says aB bL fT))=gS sQ k:=by obtain⟨m,hm⟩:∃m,28=k+(m+1):=#[27 - k,by exact atQ hk];rw[Uh,hm,Mu aB bL fT k 1 h (m+1)];show p6 (num (l5 (sQ k++DK xZ m (1+k+1))))=_;rw[XN];unfold gS at hs⊢;cases e:vw sQ k with|ak=>rw[e]at hs;rw[lp hs]|b? s=>rfl
awT{aB bL:c?}{fT:C!}(h:∀j,j<28->gS sQ j= -1):num (says aB bL fT)=1:=by rw[Uh,Mu aB bL fT 28 1 h 0];rfl
asH(eR:aL)(acc:ac)(us:c?)(ms:bA aL)(k:Y)(fP:Lu gx)(hu:us[br]?=Z u)(hm:ms[br]?=Z m):ly eR acc DQ Hx nZ yg br=ly eR (FI Tj (num AB DQ Te ak)) (cX us yU) vF yU nZ yg yU:=by rw[Qm hz (yg[br]?=Z (u,m)) #[hu,hm],wj hl e hz];rw[Rc,e];rw[BT (FI Tj (num AB DQ (u::(vJ yg (br+1)).bz gl z.1) ak)) (u::DQ) (Hx+d9)];have pN:(us.zip ms).bz lh z.1=us:=Vh bm Vj fP;(have e2:u::(vJ yg (br+1)).bz lh z.1=Te:=by rw[Vk,pN];rw[wj f7 e3 hu];rw[An f7,e3]);rw[e2,pE hu,zo hu]
aLM{B:ai}{t:bj}(h0:Dm):∃u,sR[0]?=Z u/\qX cO (chances B w t)=ly w.words JU cO (cX sR 1) (bS sR 1) vQ ((sR).zip iO (FM t sR)):=by obtain⟨hp,hs⟩:=Cr _ (t.map Pd) ae;rw[qO]at hs;rw[pO chances];generalize hU:sR=us at hp hs⊢;(have hl:bp iO nl=gx:=by rw[E7,Ap];simp);generalize iO nl=ms at hl⊢;cases us with|bt=>simp at hs;exact fK (anX h0 hs)|aN u r=>cases ms with|bt=>simp at hl|aN m q=>refine aW u ae ?_;have hz:(r.zip q).bz lh z.1=r:=Vh (by simp at hl;exact adl hl);rw[FR,<-aHB (m:=m) (r:=r.zip q)];((.rfl);.unfold l4;rw[dL,iD,<-hs,dL,iD];congr 1;rw[<-hz,NW];rw[hz];rfl);.intro z G6;rcases eA G6 with rfl|G6;(.exact hp u aM);.exact hp z.1 jO (by rw[<-hz];exact Vm aW z G6 ae)
}
section Ch
namespace _W
open Mt MtLine
variable{a b q c x:Y}{m l:ac}{I:ii}
def z:={
HI.1(a b:Y):aL:=(a==9&&one [9,10,12,13] b)||((Ta&&one [10,11] b)||(Td&&b==11))
AW.1(l:ii):aL:=odd RA
jn.1(l:ii)(b:Info):aL:=let a:=(u! #[0,0,false]).cls;(a==1&&Uf)||(!(S?||SN)&&((HI a l7||(so [4,5,8]||a==7))||((b.conj==2&&linked fe l)||(Ug||(l7==6&&AW l)))))
au7(i:Y)(s:Says):Rules.none.on nG i s=s:=by unfold Rules.on Rules.off q9;simp
aA4(a b:Y):Rules.none.row nG a b=.silent:=rfl
ar9(c:aL)(l:LN):u? (zf c::l)=(!c&&L9):=p3 c
agS(c:aL)(l:LN):u? (cuts c::l)=(c||L9):=p3 c
aEn(l:LN):u? (.silent::l)=L9:=rfl
arj:ap (u? [.cut]):=rfl
aBi(l:ii)(b:Info):u? (Vn q9 l b)=!jn l b:=by unfold Vn;simp only[au7,aA4,ar9,agS,aEn,arj,FD];unfold jn HI AW;(have h3:one [4,5,8] l7=(so [4,5]||l7==8):=by unfold one;simp only[List.contains_cons,List.contains_nil,Bool.or_false,Vo]);simp only[h3];generalize(u! #[0,0,false]).cls=a;generalize(a==1&&Uf)=x1;generalize S?=x2;generalize SN=x3;generalize(a==9&&so [9,10,12,13])=x4;generalize(Ta&&so [10,11])=x5;generalize(Td&&l7==11)=x6;generalize so [4,5]=x7;generalize(l7==8)=x8;generalize(a==7)=x9;generalize(b.conj==2&&linked fe l)=y1;generalize Ug=y2;generalize(l7==6&&odd RA)=y3;simp only[Bool.not_or,Bool.not_and,Bool.not_not,Vo,UV]
inf.1(B:ai):Y->Info:=info B q9 nG
C7.1(B:ai)(t:bj)(p:Y):aL:=jn (((t.take p).q8).bz (inf B)) (((qZ p).bz (inf B)).oq #[0,0,false])
aE0{B:ai}{t:bj}{p:Y}(h0:0<p)(h1:T8):FS B q9 nG t p=!C7 B t p:=by unfold FS;rw[aj eL azo h0 h1,Cb h1,FB];rw[pO saysAt];rw[aBi];rfl
sU.1(B:ai)(t:bj):ac:=(D5 (KH Dn) λ p=>!C7 B t p)++TY
YQ{B:ai}{t:bj}(h:Dm):breaks B q9 nG t=0::EB:=by unfold breaks sU;(have e:kL Lv=0::(KH Dn++TY):=by obtain⟨n,hn⟩:∃n,cO=n+1:=#[Dn,by exact L0 h];rw[hn,uR,NX,FT];simp);rw[e,vb,oH];(.congr 1;congr 1;(.rw[H_ p hp hp,aE0 xE Xi xE aAu]);.rw[vb,NY];unfold FS;rw[i? (.inr ae)];rw[jW]);.unfold FS;rw[i? (.inl ae)];rw[jW]
CI.1(t:bj):Y->ac->er|_,[]=>[]|a,e::r=>Cc a mm e::CI t e r
aaU(t:bj):(mW l a ((((a::l).zip l).bz c! Cc bg (x.2 - bg))=CI t a l))|[],a=>rfl|e::r,a=>by rw[FR,dL,aaU t r e];rfl
ahp{B:ai}{t:bj}(h:Dm):parts B q9 nG t=CI t 0 EB:=by rw[pO parts];rw[YQ h,qW,FO,aaU]
no.1:Info:=#[0,0,false]
back.1(I:ii)(a k:Y):ii:=((I.drop a).d0 AF).q8
N6(I:ii)(a:Y):D1 a=[]:=fF back
Ra{k:Y}{x:Info}(h:a<=k)(e:I[k]?=Z x):D1 br=x::D1 k:=by rw[Q1 back I.drop x]
jR.1(I:ii)(a p:Y):aL:=jn D1 p (I.getD p no)
abM(t:bj)(h:b<=a):e?=[]:=by unfold bc;rw[QI (uM=0),List.take_zero]
p8{t:bj}(h:C?):bp e?=uM:=by unfold bc;rw[or,iu];exact Yn h
apQ{t:bj}{i:Y}(h:i<uM):e?[i]?=t[a+i]?:=by unfold bc;rw[Vr h,oF]
Rv{t:bj}{y:Y}(h:a+y<=b):bc e? x y=bc t M_ (a+y):=by unfold bc;rw[List.drop_take,List.take_take,jc,Fk ew aga,tN (a+y - M_=y - x) aAA]
Xb{t:bj}{k:Y}(h:a<=k)(e:t[k]?=Z c):nP br=nP k++dY:=by rw[Q1 bc qZ c]
aje{B:ai}{t:bj}{p:Y}(h1:a<p)(h2:p<b)(h3:C?):C7 B e? uL=jR pA a p:=by unfold C7 jR;((have e1:(e?).d0 uL=nP p:=by have:=Rv (t:=t) (a:=a) (b:=b) (x:=0) (y:=p - a) (by exact akT h1 h2);rw[Km (a+uL=p) VN,u_]at al;rw[<-al];simp[bc]);have e2:((nZ e? uL).bz (inf B)).oq #[0,0,false]=ux pA p no:=by((have hp:T8:=by exact y? h2 h3);have e:e?[uL]?=Z t[p]:=by rw[apQ (by exact aKN h2 h1),JO uL p VN,gg hp]);obtain⟨hl,e'⟩:=yY e;rw[Rc,e',dL,N0,kM,qP,gg hp];rfl);rw[e1,e2];congr 1;unfold back bc;rw[List.map_reverse,List.map_take,Vk]
kT.1(I:ii)(a b:Y):ac:=(D5 pX cL MW λ p=>!jR I a p)++CS (a<b) [b]
zS{B:ai}{t:bj}(h1:a<b)(h3:C?):IZ=hM (sU B e?) ((a + ·)):=by unfold kT sU;rw[ao h1,p8 h3,dj];congr 1;(.rw[show(td cL MW ((KH MW).bz (a + ·)))by rw[Vs],N1];congr 1;rw[H_ p hp hp];show(!jR pA a (a+p))=!C7 B e? p;rw[<-aje (b:=b) xE azv xE aDq h3,show a+p - a=p by exact MZ]);.rw[gk aGG h1]
aqS(I:ii)(h:b<=a):v4 I=[]:=by unfold kT;rw[aj ew anH,show uM - 1=0 by exact ao8 h];rfl
BD{p:Y}(h:p∈v4 I):a<p/\p<=b:=by rw[cT kT];rcases NJ h with h|h;(.have h':=Sq.1;rw[k? h',aze h']);.split at h;(.rw[N3]at h;exact afX Tl h);.rw[bo]
adD(I:ii)(a b:Y):SS v4 I:=by rw[e9 kT List.pairwise_append,<-#[Rs,?_,?_]];(.rw[xp]);.intro x hx y hy;have h':=sE hx;rw[k? h'];split at hy;(.rw[N3]at hy;exact atl h' hy);.cases hy
wf.1(B:ai)(w:dk)(t:bj):Y->Y->ac->Y|col,_,[]=>col|col,a,e::r=>wf B w t (col+BG nP e) e r
ZA(B:ai)(w:dk)(t:bj):∀(l:ac)(col a e:Y),C0 a vI e=C0 a l+N4 B w (C0 a l) (bc t (N5 a) e)|[],col,a,e=>rfl|uG,col,a,e=>by show wf B w t _ x vI e=_;rw[ZA B w t l _ x e];(have h:N5 x=(x::l).Vt a:=by cases l with|bt=>rfl|aN y l=>rw[List.getLast?_cons_cons,List.getLast?_eq_some_getLast aM];rfl);rw[h];rfl
VL{B:ai}{w:dk}{t:bj}{a b:Y}:∀(L:ac)(x col:Y),(∀e∈L,a+e<=b)->(CI e? x L).zn (λ col c=>col+BG c) col=C0 M_ (L.map (a + ·))|[],x,col,_=>rfl|e::r,x,col,h=>by show(CI e? e r).zn _ (col+BG (bc e? x e))=_;rw[VL r e _ (λ y hy=>vY h y hy),Rv (h e aM)];rfl
aoE{B:ai}{w:dk}{t:bj}(h3:C?):xJ e?=wf B w t 0 a IZ:=by by_cases h:a<b;(.unfold width;rw[ahp (by rw[p8 h3];rw[Ij]),zS h h3,VL _ 0 0,u_];intro e he;(have:a+e∈IZ:=by rw[zS h h3];exact Vm aW e he ae);exact(BD al).2);.rw[abM t RI,aqS _ RI];rfl
aE9{B:ai}{w:dk}{t:bj}(h:b<=a):B8 b=xJ e?:=by unfold FU;rw[abM t h];rfl
ahw{B:ai}{w:dk}{t:bj}{k:Y}(h:a<=k)(e:t[k]?=Z c)(hh:ap (hangs B w c)):B8 br=B8 k:=by unfold FU;rw[Xb h e,Vu];show xJ ((c::(nP k).q8).dropWhile (hangs B w)).q8=_;rw[List.dropWhile_cons_of_pos hh]
aFu{B:ai}{w:dk}{t:bj}{k:Y}(h:a<=k)(e:t[k]?=Z c)(hh:hangs B w c=false):B8 br=xJ nP br:=by unfold FU;rw[Xb h e,Vu];show xJ ((c::(nP k).q8).dropWhile (hangs B w)).q8=_;rw[List.dropWhile_cons_of_neg (by rw[hh];simp)];simp
Yr{B:ai}(F:_B.di B){k:Y}{c:ac}(hk:k<3)(h:N8 B k c=Z l):_B.CW (k,#[c,l]):=by rw[cT N8];cases hf:(J0).find? (λ s=>s.key==c)with|ak=>rw[hf]at h;rw[bo]|b? r=>rw[hf]at h;have h1:=F.seq k r hk (Nx hf);have h2:=Nz hf;((have h3:r.to=l:=by rw[jW]);have h4:r.key=c:=by simpa using h2);rw[<-h3,<-h4];exact h1
aCx{B:ai}(F:_B.di B)(w:dk)(col:Y)(c:bj):BG c=if c=[9]/\T_ then zy - col%zy else match T0 2 c with|Z l=>u! 0|ak=>if dw c.filter c! (ownClass B nG x==6)=2 then 2 else c.foldl (λ m x=>n6 (scalarWidth B w x)) 0:=by unfold N4;cases h:T0 2 c with|ak=>dsimp only|b? l=>have hf:=Yr F cC h;have h1:=hf.pos;have h2:=hf.L';have h3:=hf.least;dsimp only at h1 h2 h3;(have h4:c≠[9]:=λ e=>by rw[e]at h3;rw[f8 h3 cC]);(have h5:bP=1:=by have:y7 2=1:=rfl;exact ady h1 h2 al);match l,h5 with|[x],_=>show x=if c=[9]/\T_ then zy - col%zy else x;rw[aj uw (h4 q.1)]
N_(f:Mi):(mW l m (lY (λ m x=>n6 yX) m=n6 ((ye).zn max 0)))|[],m=>fC|uG,m=>by show lY _ n6 yX=_;rw[N_ f l,dL];show _=n6 ((ye).zn max (qD (f x)));(have h:mW l m (lY max m=n6 (lY max 0)):=λ l=>by induction l with|bt=>intro m;simp|aN y l ih=>intro m;rw[za,za,ih n6 y,ih (qD y)];exact adB);rw[h _ (qD (f x))];exact adB
apa{f:Mi}{m:Y}(h1:m∈ye)(h2:∀y∈ye,y<=m):lY (λ m x=>n6 yX) 0=m:=by rw[N_];(have h:mW l k ((∀y∈l,y<=Dy)/\k<=Dy/\(Dy∈l\/Dy=k)):=λ l=>by induction l with|bt=>intro k;exact #[aM,gi,.inr ae]|aN x l ih=>intro k;refine bW (ih (max k x)) ar a b c;rw[za];refine #[pz y hy,by exact aj4 b,?_];(.rcases eA hy with rfl|hy;(.exact aFE b);.exact a y hy);.rcases c with c|c;(.rw[lf jO c]);.rw[c];by_cases hx:k<=x;(.rw[Nat.max_eq_right hx];rw[lf aM]);.rw[Nat.max_eq_left bm Nat.le_of_not_ge hx];rw[nv ae]);refine bW (h ye 0) ar a b c;have:=a m h1;rcases c with c|c;(.have:=h2 _ c;omega);.exact aIA c al
nz.1(m:ac)(i:Y):aL:=eg i !=0
oN.1(m:ac)(i:Y):t_:=(bC,eg i==2)
aBr(m:ac)(x:Y):q_ (m++[x])=p?++CS (x !=0) [(cP+1,x==2)]:=by unfold q_;rw[UG,oH,dj];congr 1;rw[QX Vv NY Fs];split<;>rfl
ayR{p:ku ac}(h0:p [])(h1:∀l x,p l->p kt)(l:ac):p l:=by rw[<-l.reverse_reverse];induction l.reverse with|bt=>exact h0|aN x r ih=>rw[Np];exact eC h1 ih
Tz:∀m:ac,q_ m=(GW (kL cP) (nz m)).bz (oN m):=by refine ayR ae ar l x ih;rw[aBr,ih,ja,List.length_singleton,uR,oH,dj];(have hg:∀i,i<bP->ux kt i 0=vz i:=λ i h=>by rw[kM,FK h,<-kM]);(have hl:ux kt bP 0=x:=by rw[kM,z_ NS,U?];rfl);congr 1;(.rw[Vq (q:=nz kt) λ i hi=>by unfold nz;rw[R8 hg hi]];rw[Ii i hi];unfold oN;rw[R8 hg sE hi]);.rw[Vv,NY];rw[e9 nz hl];split;(.simp[oN]);.simp
pI.1(m:ac)(a:Y):m6:=(GW z8 Ds (nz m)).bz (oN m)
alJ(m:ac):q_ m=pI m 0:=by rw[Tz,pI,NX];rfl
ay3(m:ac)(h:TN):(q_ m).oG EG CA=pI m a:=by rw[Tz,pI,N1,List.filter_filter];(have e:kL cP=Tp a++z8 Ds:=by rw[NX,show(td a Ds pX (0+1*a) Ds)by simp,Vw];congr 1;exact P7 h);rw[e,oH];(have e1:(Tp a).oG EH (((λ x:t_=>CA)∘oN m) i&&nz m i)=[]:=by rw[List.filter_eq_nil_iff];intro i hi;rw[k? hi];simp[oN];omega);rw[e1,zb];congr 1;rw[H_ i hi hi];(have:ap bn (a<dc):=by rw[gk aA0 hi]);simp[oN,al]
}
structure lH(m:ac)(a q:Y):Prop where
 le:a<=q
 lt:q<cP
 is:eg q=2
 no:∀i,a<=i->i<q->eg i≠2
def z:={
d8.1(m:ac)(a q:Y):ac:=(pX cL ET).oG λ p=>eg ks !=0
alf{n:Y}(h1:a<=q)(h2:q<n):td a mm n (GN++q::pX gd yN):=by rw[show td gd yN pX gd yN from rfl,<-FT];(have:q::pX gd yN=pX (a+1*vW) (n - q):=by rw[xq (n - q=yN+1) aJE h2,FT,JO (1*vW) q aeS]);rw[FT,al,Vw];congr 1;exact auK h1 h2
Q8(h:lw):pI m a=hM Bg EH (bC,false)++(gd,au)::pI m gd:=by unfold pI;rw[alf h.le h.lt,oH,dj];congr 1;(.rw[Ii i hi];have ft:=sE hi;rw[k? ft];have:=h.no i ft.1 bm aqr ft;simp only[oN,Prod.mk.injEq,true_and,N'];exact al);.rw[vb (by rw[tp nz h.is]),dL];rw[tp oN h.is]
Ab(h:lw):gW=hM Bg ((· + 1))++[gd]:=by unfold d8;(have e:td cL ET hM z8 ET ((· + 1)):=by rw[show EG aG=c! (1+x)by funext x;exact ag0,Vs,U5]);rw[e,N1];((have e2:td a ET (GN++[q]):=by rw[show q+1 - a=vW+1 by have:=h.le;rw[ei NU],List.range'_concat,show a+1*vW=q by have:=h.le;rw[ei aeS]]);have e3:((EI (eg ks !=0))∘c! aG)=nz m:=by funext i;simp[nz]);rw[e2,e3,oH,dj,vb (by rw[tp nz h.is])];rfl
DY{p:Y}(h:p∈gW):a<p/\p<=q+1:=by rw[cT d8];have:=Sq.1;rw[k? al,ei asz]
aEz(m:ac)(a q:Y):SS gW:=Rs
Kt(h:lw):gW≠[]:=by rw[Ab h];simp
ais{n:Y}(h:lw):(((D5 p? c! CA).find? c! du).bz c! bg).ox n=q+1/\((D5 p? c! CA).bz c! bg).oG (λ b=>bn (b<=q+1))=gW:=by rw[ay3 m (by have:=h.le;have:=h.lt;omega),Q8 h];constructor;(.rw[U7];(have:cf ((Bg).bz EH ((bC,false):t_)).find? EG du:=by rw[List.find?_eq_none];intro x hx;(rw[dA (ah (FV hx) λ i _ aS=>?_) aS]);simp);rw[al];rfl);.rw[Ab h,dj,oH,NW];congr 1;(.rw[List.filter_eq_self.mpr];(.rfl);.intro x hx;(rw[Qc hx aU aU]);have ft:=sE hi;rw[k? ft,gk arR ft]);.rw[dL,vb aM,List.filter_eq_nil_iff.mpr];intro x hx;(rw[dA (ah (FV hx) ar y hy a9) a9]);unfold pI at hy;(rw[Qc hy bu bu]);have ft:=sE hi;rw[k? ft];simp[oN];exact agY ft
nj.1(B:ai)(w:dk)(n:Y)(t:bj)(a:Y)(L:ac):g0:=(L.filter λ b=>bn (Pa b<=n)).getLast?
nI.1(B:ai)(w:dk)(n:Y)(t:bj)(a:Y)(cs:ac):Y:=match ce nj a cs with|e7=>b|ak=>if w.split=false then LJ else match ce nj a (kT pA a LJ)with|Z p=>p|ak=>(kT pA a LJ).oq 0
YJ(h:l≠[])(x y:Y):u! x=u! y:=by cases l with|bt=>rw[lp h]|aN z l=>rfl
K9(h:l≠[])(x:Y):u! x∈l:=by cases l with|bt=>rw[lp h]|aN z l=>simp
aAV{B:ai}{t:bj}(h:Dm):(EB).oG EI bn (0<p)=EB:=by rw[List.filter_eq_self];intro p hp;unfold sU at hp;rcases BQ hp with hp|hp;(.have:=sE hp;rw[k? al];simp;rw[ei Xi]);.rw[N3]at hp;simp;exact D_ h hp
Pn(I:ii)(h:a<b):v4 I≠[]:=by rw[pG kT h];simp
aeU{B:ai}{w:dk}{n:Y}{t:bj}(hm:T!)(h:lw):BI m a=wJ:=by unfold lineEnd nI nj;rw[B0 h2 (ais (n:=cO) h)];dsimp only;rw[h1,h2];have bf:=Kt h;have hh:=YJ bf cO 0;(have fu:=DY (K9 bf 0);have hb:(gW).oq 0<=cO:=by have:=h.lt;exact Wl fu al hm);split;(.rename_i b e;rw[e]);.rename_i e;rw[e,hh];dsimp only;split;(.rfl);. (have hi:((breaks B q9 nG nP (GC gW 0)).oG EI bn (0<p)).bz EI (a+p)=kT pA a (GC gW 0):=by rw[YQ (by rw[p8 hb];exact YF fu),Vx aM,aAV (by rw[p8 hb];exact YF fu),zS fu.1 hb]);rw[hi];split;(.rename_i p e2;rw[e2]);.rename_i e2;rw[e2];dsimp only;exact YJ (Pn _ fu.1) _ _
Qt{B:ai}{w:dk}{n:Y}{t:bj}{L:ac}(h:ce nj a L=Z b):b∈L:=(N2 (List.mem_of_getLast? h)).1
aco{B:ai}{w:dk}{n:Y}{t:bj}(h:lw):a<wJ/\wJ<=q+1:=by have bf:=Kt h;have fu:=DY (K9 bf 0);unfold nI;split;(.rename_i b e;exact DY (Qt e));.split;(.exact fu);.split;(.rename_i p e;rw[m3 (BD (Qt e)) Z2 fu]);.rw[m3 (BD (K9 (Pn (t.map (inf B)) fu.1) 0)) Z2 fu]
ae2(hl:m.getLast?=b? 2):lv k a (T7=k->Dv->∃q,lw):=by intro k;induction k with|cp=>intro a h1 h2;exact fK wy axG|cq k ih=>intro a h1 h2;by_cases e:gr=2;(.exact #[a,gi,h2,e,λ i h3 h4=>by exact aiX h4 h3]);.by_cases hz:a+1<cP;(.obtain⟨q,hq⟩:=ih cL tR Yg hz;refine #[q,by have:=hq.le;rw[ei NQ],hq.lt,hq.is,ar i h3 h4];by_cases hi:i=a;(.rw[dD hi e]);.exact hq.no i eL ah6 h3 hi h4);.exfalso;apply e;rw[List.getLast?_eq_getElem?]at hl;rw[kM,show a=cP - 1 by exact aid h2 hz,hl];rfl
aBM{B:ai}{w:dk}{n:Y}{t:bj}{cs:m6}(hg:∀a,LB->a<Pp cs a):∀(f g a:Y),cO - a<=f->cO - a<=g->th cs f a=th cs g a:=by(have hz:lv f a (Db->th cs f a=[]):=λ f a h=>by cases f with|cp=>rfl|cq f=>exact i? h);intro f;induction f with|cp=>intro g a h1 h2;rw[eC hz tR G3,eC hz tR G3]|cq f ih=>intro g a h1 h2;by_cases ha:Db;(.rw[eC hz ha,eC hz ha]);.cases g with|cp=>exact fK (auA h2 ha)|cq g=>have hb:=hg a bm Nat.lt_of_not_le ha;exact(ow ha).uX yb (uQ (List.cons _) (ih g _ eL VM h1 hb eL VM h2 hb)) (aj ha).symm
rG.1(B:ai)(w:dk)(n:Y)(t:bj)(m:ac)(a:Y):z!:=th p? cO a
amf{B:ai}{w:dk}{n:Y}{t:bj}(h:Db):ce rG m a=[]:=by unfold rG;cases cO with|cp=>rfl|cq f=>exact i? h
ago{B:ai}{w:dk}{n:Y}{t:bj}(hm:T!)(hl:m.getLast?=b? 2)(h:lw):ce rG m a=(a,wJ)::ce rG m wJ:=by(have hg:∀a,LB->a<BI m a:=λ a ha=>by obtain⟨q,hq⟩:=ae2 hl _ a ae eL BU ha hm;rw[aeU hm hq];exact(aco hq).1);(have ha:LB:=by have:=h.le;have:=h.lt;omega);unfold rG;obtain⟨f,hf⟩:∃f,cO=f+1:=#[Dn,by exact aD0 ha];rw[aBM hg cO Lv a gt ap0 (by exact anv)];rw[wW (th p? Lv a=if Db then[]else(a,BI m a)::th p? cO BI m a)];rw[aj bm Vy ha,aeU hm h]
}
section
variable(B:ai)(w:dk)(n:Y)(t:bj)(e:Y)
def z:={
z0.1:wP:=(#[0,0,0],[])
lb.1(l:ac):wP:=(wG).oq z0
ML.1(a x:Y)(z:wP):wP:=((Ak x (x==e)).plus z.1,(a,x)::z.2)
leB.1(x y:wP):aL:=(bg).le y.1
Y6(x:Y):ce lb e [x]=z0:=rfl
adI:∀l:ac,bp wG=bP|[]=>rfl|[_]=>rfl|a::A2=>by show bp GD yQ+1=_;rw[adI yQ];rfl
aDz(a b:Y)(r:ac):ce leastBad e ME=ce lb e ME::GD yQ:=rfl
Vl:(mW l j (j<bP->wG[j]?=Z IQ))|[],j,h=>gs|[x],0,_=>rfl|[x],j+1,h=>gs|a::A2,0,_=>rfl|a::A2,j+1,h=>by rw[Q5 aDz,Vl yQ j pW]
yT.1(a:Y)(l:ac):bA (Bad×z!):=(l.zip wG).bz gl m? ML z.1 z.2
aA1(a:Y)(l:ac):bp J4=bP:=by unfold yT;rw[qO,List.length_zip,adI,Nat.min_self]
au3(a:Y){j:Y}(h:l[j]?=Z x):J4[j]?=Z m? ML x IQ:=by unfold yT;obtain⟨hl,_⟩:=QZ;rw[Qm e1 ((l.zip wG)[j]?=Z (x,IQ)) #[h,ce Vl e l j hl]];rw[qP,e1];rfl
axZ(a b:Y)(r:ac):ce lb e ME=(ot leB (ce yT e a yQ)).ox z0:=rfl
jK.1(a:Y)(l:ac):Y->cB (Bad×Y)|0=>ak|k+1=>PL (jK a l k) G! ap (((Ak pp (pp==e)).plus (rL k).1).le b.1)
UL(a:Y)(l:ac):∀k,k<=bP->ot leB ((J4).d0 k)=hM m? jK l k λ b=>(b.1,(a,vz b.2)::(rL b.2).2)|0,_=>rfl|k+1,h=>by have ih:=UL a l k Is;(have hk:l[k]?=Z pp:=by rw[sr gg v0]);rw[zt,ce au3 e a hk];show ot leB (_++[_])=_;rw[Ch.Ui,ih];rw[wW (m? jK l br=PL m? jK l k G! ap (((Ak pp (pp==e)).plus (rL k).1).le b.1))];cases hb:m? jK l k with|ak=>rfl|b? b=>rw[Ip];unfold leB ML;dsimp only;split<;>rfl
asM(a:Y)(l:ac)(k:Y):∃b,m? jK l br=Z b/\b.2<k+1:=by induction k with|cp=>rw[pH SF]|cq k ih=>refine ah ih ar b hb a8;rw[jK,hb];dsimp only;split;(.rw[pH SF]);.rw[pH bm aHI a8]
ax9{b:Bad×Y}(h:m? jK l bP=Z b):ce lb e (a::l)=(b.1,(a,vz b.2)::(rL b.2).2):=by cases l with|bt=>rw[bo]|aN x r=>have h1:=ce UL e a f' x bp f' x gi;rw[h,List.take_of_length_le (by rw[aA1];exact u3 _)]at h1;rw[axZ,h1];rfl
ach:∀(l:m6)(acc:ac)(p:Y)(r:m6),DU (du=false)->zz (l++ga p au) acc=(acc++zi (·.1)++[p])::zz r [p]|[],acc,p,r,_=>by show(acc++[p])::zz r [p]=_;simp|(y,au)::l,acc,p,r,h=>by have:=h (y,au) aM;cases al|(y,false)::l,acc,p,r,h=>by show zz (l++ga p au) (acc++[y])=_;rw[ach l _ p r (λ x hx=>h x jV hx)];simp
kD.1(m:ac)(a:Y):z!:=(zz (pI m a) [a]).flatMap λ l=>(ce lb (N5 0) l).2
aHY(m:ac):raggedBy B w n t p?=kD B w n t m 0:=by unfold raggedBy kD;rw[alJ];rfl
atu(h:TO):ce kD m a=[]:=by unfold kD pI;rw[QI (T7=0)];rfl
azL(h:lw):ce kD m a=(ce lb gd (a::gW)).2++ce kD m gd:=by unfold kD;rw[Q8 h,ach _ _ _ _ (λ x hx=>by(rw[dA (ah (FV hx) λ i _ iH=>?_) iH]);rfl)];rw[eP];((have e1:[a]++((Bg).bz EH ((bC,false):t_)).bz (·.1)++[gd]=a::gW:=by rw[Ab h,NW];rfl);have e2:(a::gW).Vt 0=q+1:=by rw[Ab h,<-Nt,List.getLast?_append];rfl);rw[e1,e2]
}
section z
section _W
namespace _B
open Mt
variable{a i:Y}{aB:g0}{m s n l z:ac}{hv:CF}{ms:B'}{ss:B!}
def z:={
fz.1(i r:Y):tz:=z? (r=0) Z #[r,i]
kJ.1:wV->Y|[]=>0|uG=>w6 bg (kJ l) du
GJ(i:Y):∀l:wV,DU Mx->kK (zi c! (om bg du i))=fz i (kJ l)|[],_=>rfl|uG,h=>by rw[dL];unfold om kJ;split;(.exact GJ i l λ y hy=>vY h y hy);.show Z _=fz i du;unfold fz;rw[aj K0]
Fn.1(p:ac)(t:Y):aL:=t !=0&&ls==fk (dt - 4)
jw.1(p:ac)(t:Y):Y:=KI uS (4*t+4) (kJ [(gh (ls<14) (t==0||ke fk (dt - 4) ls),4),(eO tt&&(!Fn p t||bn (fk (dt - 2)<tt)),7),(eO CN&&ke tt CN,7),(gh (0<xg) ke xg (qJ ls),8),(!(Fn p t&&(iq fk (dt - 2)==tt&&fk (dt - 1)==xg)),9)])
auS{bG:wH}(h0:Lx)(h:TZ):mV mL=Z nX:=by rw[PR]
alu{p:ac}{t:Y}(h:K2):mL t Ev xL=fz t MK:=by unfold jw;by_cases hs:uS<4*t+4;(.rw[ao hs,auS (by rw[sJ,Ij]) (by rw[v8 YL hs])];rfl);.rw[aj hs,r9 Gj hs];rw[<-GJ t _ aM];unfold mL;simp only[dL,FW];cases t with|cp=>rfl|cq t=>((have e0:4*g4 - 4=4*t:=by exact aJu);have e2:4*g4 - 2=4*t+2:=by exact ag5);(have e1:4*g4 - 1=4*t+3:=by exact ahz);unfold AU Fn Bj;rw[e0,e1,e2];dsimp only[uV,lS];by_cases hk:ls=fk yE;(.rw[ao hk];rw[HS ap (fk yE==ls) FX]);.rw[aj hk];rw[HM ((fk yE==ls)=false) (λ e=>hk zA)]
i6.go{p:ac}{t:Y}(h:Ew)(hl:K2):if MK=0 then i6 p g4 else xV ak p=k7 #[MK,t]:=by have e:=alu hl;unfold fz at e;split;(.rename_i h0;rw[ao h0]at e;exact h.next hl e);.rename_i h0;rw[aj h0]at e;exact h.fault e
PH.1(m:ac)(aB:g0):ln:=bef.map λ b=>(eg b,eg M8)
lx.1(m:ac)(a:Y):B_|ak=>false|e7=>gr==eg b
ph.1(m:ac)(a:Y):B_|ak=>au|e7=>ke eg b gr
Dj.1(m:ac)(a:Y):B_|ak=>au|e7=>bn (eg M8<tI)
uJ.1(m:ac)(a:Y):ac:=(vd yW).d0 nq
jS.1(m:ac)(a:Y)(aB:g0):Y:=KI cP (a+3) (kJ [(gh (gr<15) (ph m a aB),4),(eO tI&&(!lx m a aB||Dj m a aB),10),(gh (0<nq) ke nq (Ff gr),11),(ke nq (cP - yW),6),(Fg gr MO,12),(!(gr !=10&&(gr !=11&&MO==[tI])),13)])
LL(h:Ly (a+3)):vd a=gr::tI::nq::vd yW:=by(have g:∀i,i<cP->cg m eg i:=λ i hi=>by rw[sr gg hi]);rw[x_ (g a ew Uq),x_ QU cL,x_ (g mt v0)]
aEO{bG:ln}(h0:Lx)(h:bP<3):mV pV=Z nX:=by rw[HU a b c];((.rw[f8 h0 Ho]);.rfl);(.rfl);.rw[f8 h (Nd (UA 3 bP))]
acg(h:Dv):pV i (PH m aB) Uj=fz i xG:=by unfold jS;by_cases hs:cP<a+3;(.rw[ao hs,aEO (by rw[sJ,Ij]) (by rw[v8 aKa hs])];rfl);.rw[aj hs,r9 LL hs];rw[<-GJ i _ aM];unfold pV;simp only[dL,FW,iu];cases aB with|ak=>rfl|b? b=>unfold PH;rw[Q6];by_cases hk:eg b=gr;(.rw[ao hk];rw[HS ap (lx m a e7) FX]);.rw[aj hk];rw[HM (lx m a e7=false) (λ e=>hk zA)]
}
structure js(m:ac)(a i:Y)(aB:g0)(ms:B'):Prop where
 le:TN
 num:ms.length=i
 hb:∀b,aB=e7->b+3<=a
 eq:∃f,cP - a<=f/\Jb gz m (jC ms (gz Af i (PH m aB) Uj))
def z:={
js.zero(m:ac):js m 0 0 ak []:=#[mI,rfl,λ b h=>by(cases h),cP,by exact Gu,by rw[Oz];rfl]
js.fault(h:t! js m ms)(hl:Dv)(hr:xG≠0):Jb gz m k7 #[xG,i]:=by rw[v? f hf e];have e2:=wg acg aB aB hl;unfold fz at e2;rw[aj hr]at e2;rw[e,Ri e2];rfl
Na{l:wV}(h:ap (l.all λ e=>!Nat.beq e.2 0)):nF l Mx:=λ x m e=>by have:=U2 h x m;rw[bO e al al]
BN:∀{l:wV},DU Mx->kJ l=0->nF l ap bg|[],_,_,x,hx=>by cases hx|y::l,h0,h,x,hx=>by rw[cT kJ];split at h;(.rename_i hy;rcases eA hx with rfl|hx;(.exact hy);.exact BN BY h0 h x hx);.rw[f8 h (h0 y aM)]
J6(h:xG=0):Ly (a+3+nq)/\gr<15/\0<nq:=by rw[cT jS];by_cases hl:cP<a+3;(.rw[h! ao hl]);.rw[aj hl]at h;have h':=BN (Na ae) h;have h1:=h' (_,6) jO HC;have h2:=h' (_,4) r!;have h3:=h' (_,11) HC;rw[QY h1 h2 h3,#[Nat.add_le_of_le_sub' (gB hl) h1,h2.1,h3.1]]
js.next(h:t! js m ms)(hl:Dv)(hr:xG=0):js m (yW+nq) bC Z a (ms++[(gr,#[tI,MO])]):=by rw[Qr J6 acg hr,<-#[hz.1,fF h.num,λ b hb=>by cases hb;exact O2,E_,by exact aDn hf,?_]];rw[LL bm Nv hz]at e2;rw[e,LL bm Nv hz,adX e2,I0];rw[show E_+1=f by exact aeb hf hl,jc];rfl
js.done(h:t! js m ms)(hl:TO):Jb gz m (.ok ms):=by rw[v? f hf e];rw[e,Bw,avK];simp[jC]
jE.1(s:ac)(a:Y):ac:=(jf mt).d0 rO
KQ.1(s:ac)(aB:g0):nt:=bef.map λ b=>(gN b,jE s b)
C9.1(s:ac)(a:Y):B_|ak=>au|e7=>ix (jE s b) MG
dy.1(s:ac)(a:Y):Y:=a+2+rO
EO.1(s:ac)(a:Y):ac:=(jf Mh).d0 m_
uW.1(s:ac)(q k:Y):wV:=[(gh (0<gN q) ke gN q (y7 k),15),(bn (gN q<gI - q),6),(k==0||(uD (jf gd) gN q).all c! bn (x<2^16),15)]
j_.1(s:ac)(a:Y)(aB:g0):Y:=KI gI (a+2) (kJ ([(gh (qb<3) (ph s a aB),4),(gh (Nf qb<=rO) ke rO (Fj qb),14),(bn (rO<LK mt),6),((MG).all eO&&(!lx s a aB||C9 s a aB),14)]++uW s iM qb))
Ob(h:Ly (a+2)):vd a=gr::tI::vd mt:=by(have g:∀i,i<cP->cg m eg i:=λ i hi=>by rw[sr gg hi]);rw[x_ (g a ew Ur),x_ (g cL v0)]
TC(l:ac)(n:Y):Cf n 0=vz n:=by rw[kM];by_cases h:n<bP;(.rw[FQ h,Nc h];rfl);.rw[Re uT,Re iy];rfl
acZ(h:LA):rR i (KQ s aB) L_=fz i xH:=by unfold j_;by_cases hs:gI<a+2;(.rw[ao hs];(have hl:dw jf a=1:=by rw[sJ,aMe hs h]);match L_,hl with|[_],_=>rfl);.rw[aj hs,r9 Ob hs];rw[<-GJ i _ jV uW];unfold rR uW;simp only[dL,FW,Nt,zb,iu,jc,TC];have e1:gN tj=m_:=rfl;have e2:LK tj=LK iM:=rfl;have e3:jf (tj+1)=jf Mh:=rfl;rw[e1,e2,e3];cases aB with|ak=>rfl|b? b=>unfold KQ;rw[Q6];by_cases hk:gN b=qb;(.rw[ao hk];rw[HS ap (lx s a e7) FX]);.rw[aj hk];rw[HM (lx s a e7=false) (λ e=>hk zA)]
}
structure jG(s:ac)(a i:Y)(aB:g0)(ss:B!):Prop where
 le:a<=gI
 num:ss.length=i
 hb:∀b,aB=e7->b+2+gN M8<a
 eq:∃f,gI - a<=f/\Jd gA s (jC ss (gA Af i (KQ s aB) L_))
def z:={
jG.zero(s:ac):jG s 0 0 ak []:=#[mI,rfl,λ b h=>by(cases h),gI,by exact Gu,by rw[Oz];rfl]
jG.fault(h:t! jG s ss)(hl:LA)(hr:xH≠0):Jd gA s k7 #[xH,i]:=by rw[v? f hf e];have e2:=wg acZ aB aB hl;unfold fz at e2;rw[aj hr]at e2;rw[e,aag e2];rfl
Kh(h:xH=0):iM+1+m_<=gI/\qb<3/\iM<gI:=by rw[cT j_];by_cases hl:gI<a+2;(.rw[h! ao hl]);.rw[aj hl]at h;have h':=BN jV uW h;have h2:=h' (_,4) r!;have h3:=h' (_,6) HC;have h1:=h' (_,6) pD jO r!;rw[QY h1 h2 h3];unfold dy at h1⊢;exact #[by rw[Nat.add_right_comm];exact UB R! h1,h2.1,R! h3]
jG.next(h:t! jG s ss)(hl:LA)(hr:xH=0):jG s (iM+1+m_) bC Z a (ss++[(qb,#[MG,EO s a])]):=by rw[Qr Kh acZ hr];(have ht:a+2<=iM:=by unfold dy;exact PY);refine #[hz.1,fF h.num,λ b hb=>by cases hb;show iM<_;exact A5,E_,by exact ajS hf ht,?_];rw[Cw Ob aer ht]at e2;rw[e,Cw Ob aer ht,aeE e2,I0];simp only[jc,TC];have e1:gN tj=m_:=rfl;have e3:jf (tj+1)=jf Mh:=rfl;(have e4:jf (tj+(1+m_))=jf (iM+1+m_):=by congr 1;show iM+(1+m_)=_;exact ayU);rw[e1,e3,e4,show E_+1=f by exact aeb hf hl];rfl
jG.done(h:t! jG s ss)(hl:gI<=a):Jd gA s (.ok ss):=by rw[v? f hf e];rw[e,Bw,ayN];simp[jC]
n4.1(n:ac)(t:Y):ac:=(n.drop dt).d0 4
mF.1:CF:=[[90,122,122,122],[90,121,121,121],[90,105,110,104]]
ee.1(z:ac):Bytes:=z.map c! (ve x)
oI.1(z:ac):aL:=NE==4&&(gh (65<=z.headD 0) bn (z.headD 0<=90)&&(z.drop 1).all c! (bn (97<=x)&&bn (x<=122)))
kf.1(z:ac)(t:Y)(hv:CF):aL:=oI z&&(!Tg&&(bn (t<64)&&(bn (3<=t)||z==Dw)))
pP.1(z:ac):Prop:=nF z yy
JP:∀{a b:ac},pP a->pP b->ee a=ee b->a=b|[],[],_,_,_=>rfl|[],oh,_,_,h=>x?|oh,[],_,_,h=>x?|x::a,y::b,h1,h2,h=>by rw[cT ee];rw[dL,dL,List.cons.injEq]at h;have hx:=h1 x aM;have hy:=h2 y aM;have e:=vL UInt8.toNat h.1;rw[N?,N?,Rn NZ hx,Rn NZ hy]at e;rw[e,JP BY h1 BY h2 h.2]
aGl(h1:kh hv (pP y))(h2:pP z):(hv.map ee).F2 (ee z)=Tg:=by rw[zc,VC,VC,List.mem_map];constructor;(.rintro⟨y,hy,e⟩;rw[JP h2 yf zA];exact hy);.exact λ h=>aW z h ae
EC{x:Y}(h:yy):(ve x).toNat=x:=by rw[N?,VB ew NZ]
ami:firstNames=mF.map ee:=by decide+u9
apj:kh mF (pP y):=by unfold pP;decide
W5(h:ap (oI z)):NE=4/\pP z:=by rw[cT oI];simp only[fb,lT,i!,uY]at h;refine #[h.1,D0];cases z with|bt=>cases hx|aN y r=>rcases eA hx with rfl|hx;(.have:=h.2.1.2;rw[N0]at al;rw[ei afT]);.rw[lq (h.2.2 x Cp).2 agJ]
ape{b c d t:Y}(hh:kh hv (pP y)):Pq (r.all F3) (L3).F2 t=kf [a,b,c,d] t hv:=by by_cases hl:pP [a,b,c,d];(. (have e1:ap GM:=by rw[uY];exact λ x hx=>Cb sk hl);have ha:=hl a aM;have hb:=hl b aM;have hc:=hl c aM;have hd:=hl d aM;rw[e1,FB,aGl hh hl];unfold kf oI;congr 1;(.show(Oa (ve a)&&[ve b,ve c,ve d].all F3)=_;unfold Oa F3;simp only[y!,FC,EC ha,EC hb,EC hc,EC hd,N0,qW,FO,gC,u1];rfl);.congr 1;congr 1;rw[ami,qP];by_cases h3:t<3;(. (have e2:mF[t]?=Z Dw:=by rw[sr gg (show t<mF.length from h3)]);rw[e2,Rt Vy h3,VE];show(rB==ee Dw)=_;rw[zc,lT,lT];have hf:Dw∈mF:=VF e2;exact #[λ h=>JP hl (apj _ hf) h,λ h=>by rw[h]]);.rw[iy (show mF.length<=t by show 3<=t;exact gB h3),r9 zd h3,Bool.true_or];rfl);. ((have e1:GM=false:=by rw[VG];intro h;rw[uY]at h;exact hl λ x hx=>of_decide_eq_true sk h);have e2:iS oI [a,b,c,d]:=by rw[VG];exact λ h=>hl (W5 h).2);rw[e1,Oc];unfold kf;rw[e2,Oc]
}
structure qy(n:ac)(t:Y)(hv:CF):Prop where
 le:4*t<=vf
 num:hv.length=t
 low:kh hv (pP y)
 len:kh hv (oA=4)
 nd:hv.Nodup
 eq:L7 [] n=jC (VI ee) (l9 t L3 MF dt)
def z:={
qy.zero(n:ac):qy n 0 []:=#[mI,rfl,fC,fC,fC,fF Oz]
aoU{t:Y}:bp lF=min 4 (vf - 4*t):=by rw[tY n4]
as0{hv:Do}(h0:Lx)(h:TZ):l9 i hv l=CL i:=by rw[PR]
Xx(t:Y)(hv:Do)(a b c d:Y)(l:ac):l9 t hv (a::b::c::d::l)=w6 Hw (jC [rB] (l9 g4 J3 l)) CL t:=by(conv=>lhs;whnf);unfold om;show(match Kf ap Hw Z (#[16,t]:qI)with|yq=>Up e|ak=>match l9 g4 J3 l with|k7 e=>k7 e|.ok m=>.ok (rB::m))=_;generalize Hw=q;cases q with|au=>rw[ao ae,ao ae];dsimp only;cases l9 g4 J3 l<;>rfl|false=>rfl
qy.go{t:Y}(h:qy n t hv)(hl:4*t<vf):w6 (kf lF t hv) (qy n g4 (lF::hv)) (L7 [] n=CL t):=by by_cases hs:vf<4*t+4;(. (have hf:kf lF t hv=false:=by unfold kf oI;(have:((lF).Fd==4)=false:=by rw[aoU,N'];exact aIC hs);rw[al];rfl);rw[aj (by rw[hf];simp),h.eq,as0 (by rw[P9 hl]) (by rw[v8 YL hs])];rfl);. (have hd:=r9 (Gj (p:=n) (t:=t)) hs;have hn:n4 n t=[nK dt,nK z9,nK AA,nK Aq]:=by rw[tp n4 hd]);have hc:=ape (a:=nK dt) (b:=nK z9) (c:=nK AA) (d:=nK Aq) (t:=t) h.low;rw[<-hn]at hc;(have zU:l9 t L3 MF dt=w6 (kf lF t hv) (jC [ee lF] (l9 g4 ((lF::hv).bz ee) MF yE)) CL t:=by rw[hd,Xx,<-hc,hn];rfl);split;(. (rename_i aR;have Ep:ap (oI lF):=by unfold kf at aR;simp only[fb]at aR;exact aR.1);obtain⟨KG,qx⟩:=W5 Ep;(refine #[Hg hs,fF h.num,?_,?_,?_,?_];(.intro y hy;rw[P6 qx h.low]);.intro y hy;rw[P6 KG h.len]);(.rw[List.nodup_cons];refine #[λ hm=>?_,h.nd];unfold kf at aR;simp only[fb,UX]at aR;have:=aR.2.1;rw[List.contains_iff_mem.mpr hm]at al;cases al);.rw[h.eq,zU,ao aR,I0,Np,dj];rfl);.rename_i aR;rw[h.eq,zU,aj aR];rfl
qy.done{t:Y}(h:qy n t hv)(hl:vf<=4*t):L7 [] n=.ok (VI ee)/\vf=4*t:=by refine #[?_,by have:=h.le;exact Nat.le_antisymm hl al];rw[h.eq,Bw];exact uQ Except.ok (oy _)
wk.1(k v:Y):aL:=LE||(EJ&&v.testBit 12)
BX.1(x:nu):Y:=if(ap (wk bg LT))then D!+1 - LR else 0
q!.1(ps:gU):Y:=(ps.map BX).sum
vn.1(l:bA kI)(k:Y):Y:=mJ (if k=0\/k=3\/k=9 then l else if k=13 then l.filter (λ(r:kI)=>wN)else[]) xh r (r.last+1 - oz)
akQ(l:bA kI)(r:kI)(k:Y):vn vI r k=vn l k+BX (k,r):=by unfold vn BX wk;by_cases h:k=0\/k=3\/k=9;(.rw[ug,ug,dj,lV];(have:ap (LE||(EJ&&wN)):=by rcases h with h|h|h<;>simp[h]);rw[ao al];simp);.rw[aj h,aj h];(have h1:LE=false:=by simp only[Bool.or_eq_false_iff,N'];exact aEZ h);by_cases gf:k=13;(.rw[ao gf,ao gf,oH,dj,lV];(have h2:ap EJ:=by simp[gf]);rw[h1,h2,VE,FB];by_cases hb:ap wN;(.rw[ao hb,vb (p:=xh r wN) hb];simp);.rw[aj hb,Vx (p:=xh r wN) hb];simp);.rw[aj gf,aj gf];(have h2:EJ=false:=by simp[gf]);rw[h1,h2];simp
Ub{α β:Type}(f:α->bA β)(g:β->Y):∀l:en,mJ TQ g=(zi c! mJ yX g).sum|[]=>rfl|uG=>by rw[eP,dj,lV,Ub f g l,dL,iD]
at6(ps:gU)(ms:bA bA Row)(ss:bA bA Seq)(ns:Do):walked #[u0 yZ ps,ms,ss,ns]=SZ ps:=by rw[e9 walked Ub];dsimp only;rw[CH];rfl
axI(f g:Mi)(j d:Y):∀n,j<n->(∀k,k<n->g k=f k+if k=j then d else 0)->mJ Tw g=mJ Tw f+d:=by intro n;induction n with|cp=>intro h;exact pC nD h|cq n ih=>intro h hk;rw[uR,dj,dj,lV,lV];simp only[dL,FW,iD,List.sum_nil,u_];by_cases hj:j=n;(.subst hj;rw[hk j (by exact y_),t8];(have:(kL j).bz g=JD j f:=by rw[Ii k cj,Jj cj];rw[hk k bm sC cj,aj bm vg cj];simp);rw[dD al Zg]);.rw[ih eL o_ h hj (λ k cj=>hk k bm sC cj),hk n (by exact y_),aj bm VA hj];exact av9
aJw:∀ps:gU,vZ ps (bg<14)->SZ ps=q! ps:=by refine No (λ _=>by decide) λ l x ih h=>?_;have h1:=ih λ y hy=>vY h y hy;have hx:=K0;unfold q!;rw[dj,lV];show _=q! l+_;rw[<-h1];rw[axI (λ k=>vn kl k) (λ k=>vn (lU k kt) k) bg (BX x) 14 hx];(.simp);.intro k hk;rw[Jf];by_cases e:gm;(.subst e;rw[t8,t8,akQ]);.rw[aj e,aj uw (e q.symm),oy,u_]
aCR(l:gU)(x:nu):q! kt=q! l+BX x:=by unfold q!;rw[dj,lV];simp
}
section _B
namespace _R
variable{a b:Y}{l x:cJ}{xs c:CJ}{α:Type}
def z:={
aiA(c:CJ):VJ c=c:=by(rcases c with _|⟨h,t⟩;.rfl);(rcases h with _|⟨p,h⟩;.rfl);rcases p with n|n;(.rcases n with _|_|_|_|_|_|_|n;((.rfl);.rcases h with _|⟨x,h⟩;(.rcases t with _|⟨a,_|⟨b,_|⟨c,_|⟨d,_|⟨e,t⟩⟩⟩⟩⟩<;>rfl);.rfl);(iterate 2 rw[QG h y b]);(iterate 2 rcases h with _|⟨x,_|⟨y,_|⟨z,h⟩⟩⟩;((.rfl);.rfl);(.rcases t with _|⟨a,_|⟨b,_|⟨c,t⟩⟩⟩<;>rfl);.rfl);(.rw[QG h y b]);.rfl);.rfl
ahF(l:cJ):VO l=F4 q? bP l:=by unfold VO;split;(.rw[qa];rw[h]);.rename_i cs h;rw[h];congr 1;rw[show VJ=id by funext c;exact aiA c,List.map_id]
}
structure ir(l:cJ)(a:Y)(x:cJ)(b:Y):Prop where
 lt:Dt
 at_:l[a]?=Z (Od:ad)
 le:xw
 eq:b=a+1+Od
 is:x=(gy cL).d0 Od
def z:={
UU{t:cJ}(h:Oe kj=Z (x,t)):∃b,ir l a x b/\t=qf:=by by_cases ha:Dt;(.rw[Bp]at h;change GA (0<=l[a]/\t7<=JV cL) ((p9).d0 t7,(gy cL).kP t7) ak=Z (x,t)at h;split at h;(.rename_i hc;rw[iu]at hc;rw[bo];(have hl:dw uD p9 t7=t7:=by rw[or,iu];exact aB9 hc);refine aW (cL+t7) #[ha,?_,by exact ay8 hc ha,by rw[hl],by rw[hl]] (by rw[jc]);rw[gg ha,hl,Int.toNat_of_nonneg hc.1]);.rw[bo]);.rw[h! HL ha]
UK(k:Y)(r:cJ):vj br r=(Oe r).bind λ p=>hM B2 λ q=>(p.1::q.1,q.2):=by(conv=>lhs;whnf);cases Oe r with|ak=>rfl|b? p=>show(match B2 with|ak=>ak|Z (xs,t)=>Z (p.1::xs,t))=(B2).bz _;cases B2<;>rfl
IG{t:cJ}(h:Tq kj=Z (xs,t)):∃x b,xs=[x]/\ir l a x b/\t=qf:=by rw[UK]at h;rw[HR p hx,bo,<-ah (UU hx) ar b h1 h2,(aE _ b ae h1 h2)]
DR{k:Y}{t:cJ}(h:vj br kj=Z (xs,t)):∃x ys b,xs=x::ys/\ir l a x b/\vj k qf=Z (ys,t):=by rw[UK]at h;rw[HR p hx];obtain⟨q,h2,h⟩:=VP h;obtain⟨x,s⟩:=p;(rw[dA (ah (UU hx) ar b h1 aS) aS]);rw[bo,wy (lL x q.1 b ae)]
}
inductive pY(l:cJ)(a:Y):CJ->Y->Prop
 |book{r0 r1 r2 r3:cJ}{b0 b1 b2 b3:Y}:l[a]?=b? 1->ir l cL r0 b0->ir l b0 r1 b1->ir l b1 r2 b2->ir l b2 r3 b3->pY l a [[1],r0,r1,r2,r3] b3
 |ra{p w:ad}{r:cJ}{b:Y}:l[a]?=Z p->p=2\/p=3\/p=6->l[cL]?=Z w->ir l mt r b->pY l a [[p,w],r] b
 |vk{p w n:ad}{r m:cJ}{b c:Y}:l[a]?=Z p->p=4\/p=5->l[cL]?=Z w->l[mt]?=Z n->ir l yW r b->ir l b m c->pY l a [[p,w,n],r,m] c
def z:={
take1{l:en}(h:1<=bP):∃x,l[0]?=Z x/\uU 1=[x]:=by cases l with|bt=>simp at h|aN x l=>exact aW x ae ae
take2{l:en}(h:2<=bP):∃x y,l[0]?=Z x/\l[1]?=Z y/\uU 2=[x,y]:=by rw[Ic x y l];((.rw[f8 h (VQ _)]);.exact qN (Nat.le_of_succ_le_succ h) (VQ _));.exact(aE x y ae ae ae)
awK{t:cJ}(h:Og q? kj=Z (c,t)):∃b,pY l a c b/\t=qf:=by by_cases ha:Dt;(.rw[Bp]at h;have hp:l[a]?=Z l[a]:=Nc ha;generalize l[a]=p at h hp;have g:∀i,p9[i]?=l[cL+i]?:=λ i=>oF;rw[cT Og,cT q?,xj];((have ra:(p=2\/p=3\/p=6)->Kf (JV cL<1) Rj (Tq vQ p9) ak (p::(gy cL).d0 1)=Z (c,t)->∃b,pY l a c b/\t=qf:=λ hq h=>by split at h;(.rw[bo]);.rename_i fP;refine ah (take1 (l:=p9) Rf) ar w AY Fz;rw[jc]at h;split at h;(.rw[bo]);.rename_i xs t' hr;rw[bo];(rw[dA (aO (IG hr) λ x b aU h1 h2=>?_) aU]);refine aW b ?_ h2;rw[Fz];rw[g]at AY;exact .ra hp hq AY h1);have vk:(p=4\/p=5)->Kf (JV cL<2) Rj (vj 2 (vJ p9 2)) ak (p::(gy cL).d0 2)=Z (c,t)->∃b,pY l a c b/\t=qf:=λ hq h=>by split at h;(.rw[bo]);.rename_i fP;refine aO (take2 (l:=p9) Rf) λ w n AY Fz hw3=>?_;rw[jc]at h;split at h;(.rw[bo]);.rename_i xs t' hr;rw[bo];(rw[dA (gF (DR hr) λ x ys b a9 h1 h2=>?_) a9]);(rw[dA (aO (IG h2) λ y e bu h3 h4=>?_) bu]);refine aW e ?_ h4;rw[hw3];rw[g]at AY Fz;exact .vk hp hq AY Fz h1 h3);by_cases h1:p=1;(.rw[ao h1]at h;rw[xj];rw[aj gt aFZ,FO]at h;split at h;(.rw[bo]);.rename_i xs t' hr;rw[bo];(rw[dA (gF (DR hr) λ x0 y0 b0 bV q0 r0=>?_) bV]);(rw[dA (gF (DR r0) λ x1 y1 b1 cI q1 r1=>?_) cI]);(rw[dA (gF (DR r1) λ x2 y2 b2 dB q2 r2=>?_) dB]);(rw[dA (aO (IG r2) λ x3 b3 d6 q3 r3=>?_) d6]);subst h1;exact aW b3 (.book hp q0 q1 q2 q3) r3);.rw[aj h1]at h;by_cases h2:p=2;(.rw[ao h2]at h;exact ra (.inl h2) h);.rw[aj h2]at h;by_cases h3:p=3;(.rw[ao h3]at h;exact ra (.inr f? h3) h);.rw[aj h3]at h;by_cases h4:p=4;(.rw[ao h4]at h;exact vk (.inl h4) h);.rw[aj h4]at h;by_cases h5:p=5;(.rw[ao h5]at h;exact vk (.inr h5) h);.rw[aj h5]at h;by_cases h6:p=6;(.rw[ao h6]at h;exact ra (.inr ky h6) h);.rw[h! aj h6]);.rw[h! HL ha]
ane(f:Y)(p:ad)(r:cJ):F4 q? Af f' p=(So p).bind λ c=>hM Bh ((c.1 :: ·)):=by(conv=>lhs;whnf);generalize So p=x;cases x with|ak=>rfl|b? c=>show(match Bh with|ak=>ak|Z cs=>Z (c.1::cs))=(Bh).bz _;cases Bh<;>rfl
T4{f:Y}{cs:bA CJ}(h:Pm kj=Z cs):(bP<=a/\cs=[])\/∃c b g ds,cs=c::ds/\pY l a c b/\F4 q? g qf=Z ds:=by by_cases ha:Dt;(.right;rw[Bp]at h;cases f with|cp=>rw[bo]|cq f=>rw[ane]at h;rw[HR p hc];obtain⟨ds,hd,h⟩:=VP h;obtain⟨c,t⟩:=p;rw[<-Bp]at hc;(rw[dA (ah (awK hc) ar b h1 fL) fL]);rw[bo,(qK c b f ds ae h1 hd)]);.left;rw[HL ha]at h;(have h:Z []=Z cs:=by cases f<;>exact h);rw[bo,#[Hg ha,rfl]]
ir.ab(h:ir l a x b):a<b:=by rw[h.eq];exact Gq zq a (Nat.le_add_right _ _)
pY.lt(h:pY l a c b):a<b/\xw:=by cases h with|book h0 h1 h2 h3 h4=>exact #[JI zq a Hr h1.ab Hr h2.ab SC,h4.le]|ra h0 hp h1 h2=>exact #[JI NK (Fv 1) h2.ab,h2.le]|vk h0 hp h1 h2 h3 h4=>exact #[JI NK (Fv 2) SC,h4.le]
}
section _R
namespace _E
open PySem PySem.Spec VR
def z:={
rb.1:cJ->cJ->aL|[],_=>au|oh,[]=>false|x::xs,y::ys=>Sj ys x y
Li(x y:ad)(xs ys:cJ):rb MS (y::ys)=Sj ys x y:=rfl
VH(A:c3)(s:az)(a:ad)(t:Tok)(c:ad)(u:Tok):SeqAt.EqAt A s Mz Md (a==c):=SeqAt.EqAt.int_int a t c u
aab(A:c3)(s:az)(a:ad)(t:Tok)(c:ad)(u:Tok)(d!:dM)(w:dN)(E:bU)(Q:bU)(h:e6 rc bn (a<=c) s):gn kb (richCompare .LtE Mz Md) Q:=(PyProof.Rows.le_int h:gn kb (vl .LtE Mz Md) Q)
}
section
open PySem.SeqAt
open PySem.AutoSeq1(VS)
open PySem.MeetsSeq PySem.MeetsSeq2 PySem.MeetsSeq3
def z:={
axy(l b:aI)(xa xb:Dl)(n n2:Y)(dd kW:C')(sl lg:Dp)(ns ms:cJ)(ha:Jp)(hb:JG ms):PQ Builtin.«tuple.__le__» {cls:=Tx,oK:=dd,fW:=v1 xa n,kU:=sl} {cls:=Tx,oK:=kW,fW:=Ec,kU:=lg}:=.of_wp λ d! w A R s h=>by rw[Ba h h1 h];have q2:=AutoSeq1.sub_tuple_tuple;((have z1:jj=Oi:=by rw[<-ha.length];simp);have z2:Lu oM:=by rw[<-hb.length];simp);wp_walk using Go h1,pF,wpAny_forIn_list _ (λ todo b s'=>eT b.1/\s'=#[hp,g,d,tk,os]/\∃(vs ws:cm)(as bs:cJ),todo=vs.zip ws/\zB vs as/\zB ws bs/\as.length+oM=bs.length+jj/\R (.ok (.ret (.rc (rb as bs)))) #[hp,g,d,tk,os]) _;((case turn=>rintro⟨y,x⟩todo b s'⟨e0,rfl,vs,ws,as,bs,e1,e2,e3,e4,e5⟩;cases e2 with|bt=>rw[bO List.zip_nil_left e1 e1]|aN a t oE=>cases e3 with|bt=>rw[bO List.zip_nil_right e1 e1]|aN c u NG=>rw[FR]at e1;injection e1 with f1 f2;injection f1 with f3 f4;subst f3 f4;rw[Li]at e5;rw[Rb e4,JK eC Hj VH t u ?_];by_cases jI:a=c;(.rw[ao jI]at e5;rw[Sn];wp_walk;exact #[rfl,rfl,_,_,_,_,f2,oE,NG,by exact azE e4,e5]);.rw[aj jI]at e5;rw[P' Mn aab];wp_walk using Mn;rw[pH dv e5]);case fin=>rintro⟨b1,b2⟩s'⟨e0,rfl,vs,ws,as,bs,e1,e2,e3,e4,e5⟩;simp only at e0;subst e0;(have hv:rb as bs=SL:=by cases e2 with|bt=>simp only[u1]at e4;show au=_;exact(zd bm aBa e4).symm|aN a t hv=>cases e3 with|bt=>simp only[u1,gC]at e4;show false=_;exact(Rt aqF e4).symm|aN c u hw=>rw[bO FR e1 e1]);rw[hv]at e5;wp_walk;rw[pH (by simpa[Builtin.Tuple.tupleCompareSizes]using e5)]);case h=>exact #[rfl,rfl,xa.toList,xb.toList,ns,ms,rfl,ha,hb,by exact aL2 z2 z1,h]
aaF{vs:cm}{ns:cJ}(h:zB vs ns):∀{i:Y}{v:a!},cg vs v->∃n t,cg ns n/\v=pv n t:=by induction h with|bt=>intro i v e;simp at e|aN a t r ih=>intro i v e;cases i with|cp=>cases e;exact(cD a t ae ae)|cq i=>refine df (wg ih v v dv e) λ n t' h1 h2=>?_;exact(cD n t' A8 h2)
aFN(l b:aI)(xa xb:Dl)(n n2:Y)(dd kW:C')(sl lg:Dp)(ns ms:cJ)(ha:Jp)(hb:JG ms)(k:Y):∀i:Y,jj - i=k->i<=jj->i<=oM->PO [dq l,.cr b,zC i,zC 1] {cls:=tL,oK:=dd,fW:=v1 xa n,kU:=sl} {cls:=tL,oK:=kW,fW:=Ec,kU:=lg}:=by((have z1:jj=Oi:=by rw[<-ha.length];simp);have z2:Lu oM:=by rw[<-hb.length];simp);(have rg:∀i:Y,i<=jj->i<=oM->(i=jj\/L4)->PO [dq l,.cr b,zC i,zC 1] {cls:=tL,oK:=dd,fW:=v1 xa n,kU:=sl} {cls:=tL,oK:=kW,fW:=Ec,kU:=lg}:=by intro i wO zT XA d! w A R s h;rw[Ba h h1 h,sw pF];(have e:PD=SL:=by by_cases hz:i=jj;(.rw[Cw uT Tc z1];exact(Cw zd Bn zT).symm);. (have fV:L4:=by exact amw XA hz);rw[uT (as:=ms) (by exact Tc fV z2),FQ (l:=ns) (by exact agO wO z1 hz)];exact(VD (by exact aCo fV wO hz)).symm);rw[e]at h;(have bf:eT (xa[xr]?)\/(∃v,xa[xr]?=Z v)/\eT (xb[xr]?):=by by_cases hz:i=jj;(.left;rw[gk adl hz]);.right;exact #[#[xa[i],fC],by simp;exact aqM XA hz]);rcases bf with e1|⟨⟨v,e1⟩,e2⟩;(.rw[e1];rw[sw pF,h]);.rw[e1,e2];rw[sw pF,h]);induction k with|cp=>intro i hk wO zT;exact rg i wO zT f? eL aKB hk wO|cq k ih=>intro i hk wO zT;by_cases hz:L4;(.exact rg i wO zT ky hz);intro d! w A R s h;rw[Ba h h1 h,sw pF];((have l1:i<jj:=by exact Nat.lt_of_sub_eq_succ hk);have l2:i<oM:=by exact y8 zT hz);((have g1:xa[xr]?=Z xa[i]:=by simp[l1]);have g2:xb[xr]?=Z xb[i]:=by simp[l2]);refine df (aaF ha (i:=i) (v:=xa[i]) jV l1) λ a t na va=>?_;refine df (aaF hb (i:=i) (v:=xb[i]) jV l2) λ c u nc vc=>?_;(have hc:(jT i+1)=p6 bC:=by push_cast;rfl);rw[wj la ea na,wj lc ec nc];rw[An la,An lc,ea,ec,Li]at h;rw[g1,g2,va,vc];rw[JK eC Hj VH t u ?_];by_cases jI:a=c;(.rw[ao jI]at h;rw[Sn];wp_walk;rw[hc];refine #[Hn VU,VV VW ?_];rw[Qs];exact ih bC bm Yg hk Ix l1 Ix l2 d! w A R _ #[h1,h2,h]);.rw[aj jI]at h;rw[P' Mn aab,sw pF];rw[g1,g2,va,vc];wp_walk using Mn;exact h
ap7(l b:aI)(xa xb:Dl)(n n2:Y)(dd kW:C')(sl lg:Dp)(ns ms:cJ)(ha:Jp)(hb:JG ms):PQ Builtin.«list.__le__» {cls:=tL,oK:=dd,fW:=v1 xa n,kU:=sl} {cls:=tL,oK:=kW,fW:=Ec,kU:=lg}:=by intro d! w A R s h;rw[Ba h h1 h];have q3:=AutoSeq1.sub_list_list;rw[sw pF,<-#[Hn VU,VV VW ?_]];rw[Qs];exact aFN l b xa xb n n2 dd kW sl lg ns ms ha hb _ 0 ae mI mI d! w A R _ #[h1,h2,h]
}
section z
section _E
namespace _L
open PySem PySem.Spec VR
variable{us:cm}{op lP:CmpOp}{i t' n j:Y}{Q:bU}{g:TG}{mg:g6}{eS:dP}{M:Model}{ch fp:nB}{N:e!}{kw:A6}{oP:xO}{vs:cu}{g':Array GenState}{κ α:Type}{d':Drawn}{lo:ad}{l:bH}{it:aI}{y:V}{r':R2}{l_:vm}{d?:uc}{oR:aQ}
def z:={
aJC(i:ad)(t:Tok):ap (qY (.inl i) AO):=by simp[qY,Value.isInt]
aHN(x:aQ)(t:Tok):ap (qY (.inr x) (.str x t)):=by simp[qY,Value.isStrOf]
asY(d!:dM)(w:dN)(i:ad)(t:Tok):ap ((f_ d! w).is (.inl i) AO):=aJC i t
aik(d!:dM)(w:dN)(x:aQ)(t:Tok):ap ((f_ d! w).is (.inr x) (.str x t)):=aHN x t
bN.length{xs:cu}{us:cm}(r:nL):ff=gx:=VX r
bN.get:∀{xs:cu}{us:cm}{i:Y}{x:V},nL->sm->∃u,cg us u/\nM|_,_,_,_,dX,e=>by simp at e|_,_,0,_,eM r _,e=>by simp at e;subst e;rw[pH r]|_,_,dc,x,eM _ t,e=>by refine ah (wg bN.get x x t dv e) ar u h1 h2;exact aW u A8 h2
bN.set{x:V}{u:a!}(r:nM):(IO us i (nL->bN (xs.set i x) (us.set i u)))|_,_,_,dX=>dX|_,_,0,eM _ t=>eM r t|_,_,dc,eM q t=>eM q (bN.set r i t)
bN.append{xs ys:cu}{ws:cm}(h:nL)(s:bN ys ws):bN (xs++ys) (us++ws):=by induction h with|bt=>exact s|aN r t ih=>exact eM r ih
bN.take:(IO us n (nL->bN (xs.take n) (NT n)))|_,_,0,_=>dX|_,_,_+1,dX=>dX|_,_,n+1,eM r t=>eM r (bN.take n t)
bN.drop:(IO us n (nL->bN (xs.drop n) (NV n)))|_,_,0,r=>r|_,_,_+1,dX=>dX|_,_,n+1,eM _ t=>bN.drop n t
upd.1(H:Hp)(a:aI)(o:HO):Hp:=λ b=>if b=a then Z o else H b
aX{H:Hp}{a:aI}{o:HO}:upd H a o a=Z o:=by rw[pG upd ae]
aV{H:Hp}{a b:aI}{o:HO}(h:b≠a):upd H a o b=H b:=by unfold upd;rw[aj h]
vS{H:Hp}{a b:aI}{o u:HO}(h:H a=Z o)(h':mr H)(d:o≠u):a≠b:=by intro e;subst e;rw[h]at h';exact d (y6 h')
c7{H:Hp}{a b:aI}{o:HO}(h:H a=Z o)(h':ko):a≠b:=by intro e;subst e;rw[bO h h' h']
}
section
variable{P:dM}{w:dN}{H H':Hp}{h h':dP}{a:aI}{o:HO}
def z:={
fw.lt(x:fw P w H h a o):S_:=by cases o with|lst xs=>rw[<-yJ x λ _ _ _ _ e=>?_,hO e]|tup xs=>refine iN x λ _ _ _ p=>?_;exact p.lt|dK aq=>rw[<-EA x λ _ _ _ _ o _ _ e _=>?_,hO e]|dT aq=>rw[<-EA x λ _ _ _ _ o _ _ e _=>?_,hO e]|set S n=>rw[<-D7 x λ o _ _ _ e _=>?_,hO e]|ins C dx fs=>rw[<-gG x λ _ _ _ e _=>?_,hO e]|own y=>obtain⟨_,e⟩:=x;rw[hO e]|xd fs=>rw[<-ah x λ _ aS _=>lE aS λ _ _ _ e _=>?_,hO e]|hZ lo hi=>obtain⟨_,_,_,e⟩:=x;rw[hO e]|iV ob u=>obtain⟨e,_⟩:=x;rw[hO e]|vD ps=>rw[hO (show Cs _ from x)]|met f y=>rw[hO (show Cs _ from x)]|ext φ=>rw[<-bW x λ _ aU _=>cF aU λ _ e=>?_,hO e]
Paired.Ga{β:Type}{F G:cA α β}{l₁:en}{l₂:bA β}(h:Paired F l₁ l₂)(f:∀a b,F a b->G a b):Paired G l₁ l₂:=by induction h with|bt=>exact dX|aN r t ih=>exact eM eC f r ih
fw.vh(x:fw P w H h a o)(k:HT (b=a\/cE H Ex))(ho:∀b,cE H Ex->cE H' Ex)(ht:iT xs cE H nU cE H' nU):fw P w H' h' a o:=by induction o with|lst xs=>refine yJ x λ z aF n r e=>?_;exact(oW z aF n r i0)|tup xs=>obtain⟨z,aF,r,ob,e,c⟩:=x;exact #[z,aF,r,ob,i0,c]|dK aq=>refine EA x λ z y vs r ob es ep e c=>?_;exact #[z,y,vs,r,ob,es,ep,i0,c]|dT aq=>refine EA x λ z y xs r ob es ep e c=>?_;exact #[z,y,xs,Paired.Ga r λ p q z=>#[z.1,eC ht z.2.1,z.2.2],ob,es,ep,i0,c]|set S n=>refine D7 x λ ob es ep t e c=>?_;exact #[ob,es,ep,t,i0,c]|ins C dx fs=>obtain⟨d,z,ne,e,mA,⟨od,es,ep,e2,c⟩,r⟩:=x;exact #[ho _ d,z,ne,i0,mA,(tQ od es ep (k _ _ ky d e2) c),r]|own y=>obtain⟨ob,e⟩:=x;exact #[ob,i0]|xd fs=>refine ah x λ mA bu r=>lE bu D6 od e c;exact aW mA (tQ od es ep i0 c) r|hZ lo hi=>obtain⟨t,u,v,e⟩:=x;exact #[t,u,v,i0]|iV ob u ih=>obtain⟨e,q⟩:=x;exact #[i0,ih q]|vD ps=>have e:Cs {cls:=k1,fW:=.zD ps}:=x;show rh a=Z {cls:=k1,fW:=.zD ps};exact k a _ rA e|met f y=>have e:Cs Rp dq y:=x;show rh a=Z Rp dq y;exact k a _ rA e|ext φ=>refine bW x λ p bV st=>cF bV cn o e;exact #[st _ _ p λ o q=>k _ _ rA q,#[o,i0],st]
dS.lt(x:t0)(e:H a=Z o):S_:=(x a o e).lt
dS.fresh(x:t0)(e:Ko):cf H a:=by cases q:H a with|ak=>rfl|b? u=>rw[wt Gq x.lt q e]
dS.kept(x:t0)(k:A?):dS P w H h':=λ a o e=>(x a o e).vh (λ b u _ q=>k b u q) MP λ _ _ q=>q
dS.laid(x:t0)(k:A?)(hp:Ko)(new:fw P w xT h' a o):dS P w xT h':=eE u e (by have hn:=x.fresh hp;by_cases hb:b=a;(.subst hb;rw[bO aX e e,new]);.rw[aV hb]at e;exact(x b u e).vh (λ c v _ q=>k c v q) (λ c q=>by rw[aV yH];exact q) λ c xs q=>by rw[aV yH];exact q)
}
section z
def z:={
B7.1:(ku cB HO)|Z (.lst _)=>oS|Z (.dK _)=>oS|Z (.dT _)=>oS|Z (.set _ _)=>oS|Z eC .ins _=>oS|Z (.ext _)=>oS|_=>kH
}
section
variable{P:dM}{w:dN}{H:Hp}{h h':dP}{x e:aI}{o':HO}
def z:={
dS.write(ok:t0)(mu:B7 (H x))(he:e=x\/H e=Z uu)(k:HT (b≠e))(xC:∃u,Cy e u)(new:fw P w (upd H x o') h' x o'):dS P w (upd H x o') h':=eE u q (by((have abk:∀c y,H c=Z z4 y->c≠x:=λ c y r z=>by subst z;rw[r]at mu;exact mu);have ap8:∀c xs,H c=Z nU->c≠x:=λ c xs r z=>by subst z;rw[r]at mu;exact mu);by_cases hb:b=x;(.subst hb;rw[bO aX q q,new]);.rw[aV hb]at q;by_cases eN:b=e;(. (have q':cE H uu:=by rcases he with z|z;(.exact qN (eN.trans z) hb);.rw[dD eN z]);rw[bO q q' q'];obtain⟨v,hv⟩:=xC;exact #[v,by rw[dD eN hv]]);. (refine(ok b u q).vh (λ c v hc r=>k c v ?_ r) (λ c r=>by rw[aV (abk c b r)];exact r) λ c xs r=>by rw[aV (ap8 c xs r)];exact r);rcases hc with rfl|hc;(.exact eN);.rintro rfl;rcases he with z|z;(.exact abk c b hc z);.rw[bO hc z z,hb ae])
}
section z
section
variable{fs gE ex ex':nB}{H H1 H2:Hp}{h h1 h2 h':dP}{a x e:aI}{o:HO}
def z:={
Un.any(u:xI ex H1 h1){b:aI}{ob:Obj}(q:cE kY ob)(n:ko)(hx:b∉ex):∃sl,cE h1.get? {ob with kU:=sl}:=by by_cases hb:b∈fs;(.exact u.slot b ob q n hb hx);.exact #[ob.slots,u.keep b ob q n hb hx]
F6(k:A?):xI ex H h':=#[λ b ob q _ _ _=>k b ob q,λ b ob q _ _ _=>#[ob.slots,k b ob q],λ _ _ _ n _=>n,λ b ob q _=>#[ob,k b ob q],λ _ _ q=>q,λ _ _ _ q=>q,λ _ ps q=>#[s9,by rw[q];simp]]
Un.refl:xI ex H h:=F6 λ _ _ q=>q
}
def Un.laid(k:A?)(hp:Ko)(hn:cf H a):xI ex xT h' where l!:=λ b u q _ _ _=>k b u q;slot:=λ b u q _ _ _=>#[u.slots,k b u q];jk:=(λ b u q n _=>by rw[aV (vg rE q hp)];exact n);there:=λ b u q _=>#[u,k b u q];oQ:=eE xs q (by rw[aV yH];exact q);oe:=(λ b u xs q=>by rw[aV yH];exact q);oU:=eE ps q #[s9,by rw[aV yH,q];simp]
def z:={
Un.write(mu:B7 (H x))(he:e=x\/H e=Z uu)(k:HT (b≠e))(xC:∃u,Cy e u):xI ex L1 h':=by have hx:∀b,ko->b≠x:=eE n z (by subst z;rw[n]at mu;exact mu);have hb:∀b,ko->b≠e:=eE n z (by subst z;rcases he with r|r;(.exact hx b n r);.rw[bO n r r]);(have hm:∀b u,mr H->¬B7 Ey->b≠x:=λ b u q nm z=>by subst z;rw[q]at mu;exact nm mu);refine #[λ b u q n _ _=>k b u (hb b n) q,λ b u q n _ _=>#[u.slots,k b u (hb b n) q],λ b u q n _=>by rw[aV (hx b n)];exact n,λ b u q _=>?_,eE xs q (by rw[aV LG];exact q),λ b u xs q=>by rw[aV LG];exact q,eE ps q #[s9,by rw[aV LG,q];simp]];by_cases eN:b=e;(.subst eN;exact xC);.exact #[u,k b u eN q]
}
section z
structure Cx where
 d!:dM
 w:dN
 K:ca
 mg:g6
 eS:dP
 A:c3
 N:e!
 iw:az
 Ck:Hp
 env:Env
 d?:uc
 stack:uc
 ex:nB
 fn:aQ->aL
 calm:aL
 pn:a?
 xe:bU
def z:={
Cx.fs.2(X:Cx):nB:=nN vo
nh.1(sc:vm)(x:aQ):Prop:=Ie\/Bq\/Pi jk
Loc.1(sc:vm)(x:aQ):Prop:=Ie\/Bq
Look.1(env:Env)(h:dP)(m:g6)(x:aQ)(u:a!):Prop:=(Oo x=Z .local/\m x=Z u)\/((Oo x=Z ES\/Ht Oo)/\∃c,env.cells.lookup x=Z c/\h.IsCell c Ey)
}
structure Cx.Ok(X:Cx):Prop where
 mod:Mod bQ oT jl
 kind:V0=T?
 glob:V1=mainGlobals
 blt:X.env.builtins=builtinsNs
 above:r_ fX
 inj:∀x y c,iW->V4 y=Z c->bF
 has:∀x,(Op x=Z ES\/Ht Op)->∃c,iW
 C6:∀x c,ul X.fn->iW->r_ c
 hd:wb->X.A.handled=ak
 frames:X.A.frames=Z kZ
 GU:kZ=vo\/(kZ=c4::vo/\X.env.frame=Z fX)
 Du:j6 oV (sd/\∀x c,iW->c≠b)
 bs:iT o wD (IP/\cf X.Ck b)
 pM:X.base.objs.size<=V2
 BP:iT o wD (b∉oV)
 yL:j6 oV Ea
 lB:V5 jl vo
 tZ:j6 jm cf X.Ck b
structure Inv(X:Cx)(ag:a?)(σ:bA cB V)(H:Hp)(s:az):Prop where
 ok:X.Ok
 os:s.os=X.iw.os
 bare:D4 s.gens
 eS:Un jm oV X.Ck H X.iw.heap dl
 loc:∃m,RU/\∀(i:Y)(x:aQ)(v:V),pS->cg σ mO->Aa nh->∃u,im/\Look c4 dl m x u
 cell:∀x c,iW->∃v,SV
 jk:cf H fX
 k6:∀x c,iW->cf H c
 pin:AK p Ry dQ v (p.2.fW≠.cell v)
 aR:dS oY X.w H dl
 len:Oq=X.N.length
section
variable{X:Cx}{ag:a?}{σ:bA cB V}{H H':Hp}{s:az}{h':dP}
def z:={
Cx.Ok.aEi(ok:X.Ok){b:aI}{o:Obj}(e:wD):Ea:=λ hb=>by have:=(ok.lB.mem hb).1;rw[bO e al al]
Inv.bs(I:av):iT o wD (mX/\ko):=eE o e #[V7 b o SU Ti.2 (I.ok.aEi e) S',F7 b o SU Ti.2 S']
Inv.bk(I:av):iT o wD mX:=eE o e A_ I.bs
Inv.mod(I:av):Mod bQ oT jl:=I.ok.mod
Inv.jL(I:av):X.K.In dl:=I.ok.mod.zP.keeps I.bk
Inv.fr(I:av):∃m,Fr jl fX dl m:=let#[m,hn,_]:=fg;#[m,hn,I.bk,QW]
Inv.lt(I:av):fX<ed:=let#[_,hn,_]:=fg;hn.lt
Inv.sz(I:av):r_ ed:=oC vp (Fp I.lt)
Inv.aBU(I:av){a:aI}(h:Sy):a∉jm:=λ hb=>by rw[<-iN (V9 hb) λ _ o ho _=>?_,wt rE ho (oC I.sz h)]
Inv.wB(I:av):∀x c,iW->c≠fX:=λ x c e z=>by refine df CU λ v o ho hd=>?_;refine ah fg kv m cI (gF cI λ o' es ep je jD _=>?_);rw[z,je]at ho;cases ho;rw[bO jD hd hd]
Inv.lB(I:av):RV vo:=by(have all:∀(l:uc),(∀b∈nN l,b∈jm)->V5 jl l->V_ jl l:=by intro l;induction l with|bt=>intro _ _;trivial|aN env r ih=>intro hs hl;refine bW hl λ hk dB hr=>fR dB λ L o hf hn ho hd=>?_;have hL:L∈jm:=hs L (by rw[Ib nN hf,FL]);rw[s8 sl (V' L o ho (I.ok.tZ L hL) hL gl (I.ok.yL L z hL)),#[hk,(jg L _ hf hn e hd),ih (λ b hb=>hs b (by rw[Ib nN hf,wv hb])) hr]]);exact all vo (λ _ hb=>hb) I.ok.lB
Inv.stack(I:av):RV kZ:=by rcases I.ok.GU with e|⟨e,hf⟩;(.rw[dD e I.lB]);.rw[e];refine ah fg kv m hn ?_;refine eM (by rw[jo];decide) hf hn ?_ I.lB;exact Heap.get?_none_of_le QW
Inv.LS(I:av):∀b∈DH,b∈fX::jm:=λ b hb=>by rcases I.ok.GU with e|⟨e,hf⟩;(.rw[e]at hb;rw[wv hb]);.rw[e]at hb;unfold nN at hb;rw[y',hf]at hb;exact hb
Inv.TX(I:av):∀b∈DH,ko:=λ b hb=>by rcases eA j2 I.LS with e|hb;(.rw[dD e jp]);.refine iN (V9 hb) λ _ o ho _=>?_;exact F7 b o ho j2 I.ok.tZ gl (I.ok.yL b z hb)
Inv.step(I:av)(pZ:j6 ch HQ)(l!:∀b o,sd->Ea->ym->mX->ko->JZ)(slot:∀b o,sd->b∈jm->ym->mX->ko->∃sl,cE rh {o with kU:=sl})(jk:∀b o,ym->mX->ko->AM)(there:∀b o,ym->mX->∃o',cE rh o')(oQ:iT xs cE H nU cE H' nU)(oe:∀b o u,cE H (.iV o u)->cE H' (.iV o u))(oU:iT ps cE H (.vD ps) (∃more,cE H' (.vD (ps++more))))(ns:∀m,RU->h'.Ns fX m)(aR:k9 dS H' h')(hg:D4 g'):f6 H' {s with l?:=h',gens:=g',drawn:=d',o0:=t'}:=by have RZ:iT o IP sd:=eE o e (vg rE e vp);((have E5:∀b o,IP->b∉oV->ym:=λ b o e hx hb=>by rcases(j2 pZ).1 with z|z;(.exact hx z);.rw[wt rE e z]);have cellK:∀x c,iW->∀v,SV->h'.IsCell c v:=λ x c e v bx=>ah bx λ o ho hd=>by have CY:c∉ch:=gl ((pZ c z).2.2.1 x c e ae);by_cases hc:c∈jm;(.obtain⟨sl,q⟩:=slot c o (I.wB x c e) hc CY ho LC;exact pt q hd);.exact aW o (l! c o (I.wB x c e) hc CY ho LC) hd);(refine #[I.ok,ri,hg,#[λ b o e n hb hx=>?_,λ b o e n hb hx=>?_,λ b o e n hx=>?_,λ b o e hx=>?_,eE xs e (oQ b xs (I.base.oQ b xs e)),λ b o xs e=>oe b o xs (I.base.oe b o xs e),ar b ps e],?_,ar x c e,?_,ar x c e,cn p hp,aR,o2];(.exact l! b o (RZ b o e) hb Dd IA Jn);.rw[lm sl IC];obtain⟨sl',e2⟩:=slot b _ (RZ b o e) hb Dd e1 Jn;exact #[sl',e2]);(((.rw[lm o' BF,jk b o' Dd e1 Jn]);.rw[lm o' BF,there b o' Dd e1]);(.rw[lm m1 (I.base.oU b ps e)];obtain⟨m2,e2⟩:=oU b _ e1;exact #[m1++m2,by rw[e2,Array.append_assoc]]);.rw[sN fg m hn,<-aW m (ns m hn) L? i x v,<-ah (hl i x v e1 e2 e3) ar u r l,<-aW u r ?_];rcases l with l|⟨k,c,e,z⟩;(.rw[lf l]);.rw[nv (eI k c e (cellK x c e _ z))]);((.obtain⟨v,z⟩:=CU;exact #[v,cellK x c e v z]);.refine ah fg kv m d6 (lE d6 λ o _ _ ho _=>?_);exact jk _ o lh ((pZ _ z).2.1 ae) ho jp);(.refine df CU λ v o ho hd=>?_;exact jk c o lh ((pZ c z).2.2.1 x c e ae) ho LC);.refine gG DD λ e n ne nf d=>?_;have CY:dQ∉ch:=gl ((pZ dQ z).2.2.2 p hp ae);exact(j3 (l! dQ p.2 ne nf CY e n) (jk dQ p.2 CY e n) ne nf d)
Inv.un(I:av)(u:Un jm [] H H' dl h')(aR:k9 dS H' h'):f6 H' wA:=by refine ah (id fg) kv m fL (lE fL D6 o ho r);obtain⟨sl,hL⟩:=u.any ho jp aM;exact I.step (g':=s.gens) (d':=s.drawn) (ch:=[]) n8 z (nomatch z) (λ b o _ hb _ e n=>k5 u.keep n hb aM) (λ b o _ hb _ e n=>k5 u.slot n hb aM) (λ b o _ e n=>u.free b o e n aM) (λ b o _ e=>k5 u.there aM) u.oQ u.oe u.oU (λ m' hm=>by rw[<-lE hm λ o' PV Om je r'=>?_,bO ho je je,(tQ _ PV Om hL r')]) aR ma
Inv.call(I:av)(u:Un DH ch H H' dl h')(aR:k9 dS H' h')(hg:D4 g')(pZ:j6 ch HQ):f6 H' {s with l?:=h',gens:=g',drawn:=d',o0:=t'}:=by refine ah (id fg) kv m iH (lE iH D6 o ho r);obtain⟨sl,hL⟩:=u.any ho jp gl ((pZ _ z).2.1 ae);exact I.step (ch:=ch) pZ (λ b o hL hb hc e n=>k5 u.keep n lh (pC Ng (I.LS b z) hL hb) hc) (λ b o _ _ hc e n=>u.any e n hc) (λ b o hc e n=>u.free b o e n hc) (λ b o hc e=>k5 u.there hc) u.oQ u.oe u.oU (λ m' hm=>by rw[<-lE hm λ o' PV Om je r'=>?_,bO ho je je,(tQ _ PV Om hL r')]) aR hg
Inv.turned(I:av)(k:∀b o,b≠it->mX->JZ)(hn:cf H it)(hL:it≠fX)(h1:it∈oV\/r_ it)(h2:∀x c,iW->c≠it)(h3:AK p (dQ≠it)):iI wA:=by(have Sv:iT u mr H (b≠it):=λ b u e z=>by rw[z,hn]at e;cases e);(refine I.step (g':=s.gens) (d':=s.drawn) (ch:=[it]) Eb (λ b o _ _ hc e _=>KM k hc z) (λ b o _ _ hc e _=>#[o.slots,KM k hc z]) (λ _ _ _ _ n=>n) (λ b o hc e=>#[o,KM k hc z]) (λ _ _ e=>e) (λ _ _ _ e=>e) (λ b ps e=>#[s9,by rw[e];simp]) pz m hm h_ b u e ma;(.rw[v6 b it,(fG h1 hL h2 h3)]);.refine lE hm D6 o ho r;exact(tQ o es ep (k _ o (F8 hL) ho) r));.refine(fY b u e).vh (λ c v hc q=>k c v ?_ q) MP λ _ _ q=>q;rcases hc with z|z;(.rw[z];exact Sv b u e);.exact Sv c _ z
Inv.tok(I:av)(t:Y):iI {s with o0:=t}:=I.un (h':=dl) (t':=t) Un.refl fY
Inv.kept{t':Y}(I:av)(k:P_):iI wA:=I.un (F6 k) (I.aR.kept k)
Inv.laid{a:aI}{o:HO}{t':Y}(I:av)(k:P_)(hp:Sy)(new:k9 fw xT h' a o):f6 xT wA:=I.un (Un.laid k hp (Os hp)) (I.aR.laid k hp new)
Inv.write{x e:aI}{o:HO}{t':Y}(I:av)(mu:B7 (H x))(he:e=x\/H e=Z uu)(k:∀b u,b≠e->mr re->z5)(xC:∃u,Cy e u)(new:k9 fw L1 h' x o):f6 L1 wA:=I.un (Un.write mu he k xC) (I.aR.write mu he k xC new)
Inv.weak{bI:bA cB V}(I:av)(hl:σ'.length=Oq)(w:∀(i:Y)v,cg bI mO->cg σ mO):mh bI H s:=#[I.ok,ri,ma,F9,let#[m,hn,dW]:=fg;(aW m hn λ i x v e1 e2 e3=>dW i x v e1 (w i v e2) e3),oZ,jp,o1,zE,fY,hl.trans o2]
Inv.P0{RJ:a?}(I:av)(h:∀p∈RJ,Ry dQ v (p.2.fW≠.cell v)):Inv X RJ σ H s:=#[I.ok,ri,ma,F9,fg,oZ,jp,o1,λ p hp=>Ru hp lh GR IN z (h p),fY,o2]
O6(hN:N.Nodup){x:aQ}(a:cg N x)(b:N[j]?=Z x):i=j:=by rw[lm h1 (yY a),wj h2 e2 b,(List.getElem_inj hN).mp (e1.trans e2.symm)]
Rl{A:c3}{E:bU}{x:aQ}{v:V}{u:a!}{Q:wL}(I:av)(hN:zF)(hi:pS)(hx:wQ)(r:im)(h:∀s',mh Ke H s'->(∃a,Ot a dl F_/\(a=fX\/O! a))->Q () s')(hf:wn):gn M (Ov c4 x u) Q:=by refine ah (id fg) ar m hn hl;((have azZ:(SE .class||(SE .module&&fX !=V1))=false:=by rw[jo];rfl);have Wm:i<Oq:=by rw[o2];exact(yY hi).1);have wB:=I.wB;(have Ow:∀{a:aI}{h':dP},(∃o,re a=Z o/\cf H a)->Ot a dl h'->dS oY X.w H h':=λ{a h'}ha hs b ob e=>by refine ah ha λ _ _ yM=>?_;refine(fY b ob e).vh (λ c w' hc q=>nT (hs.2 c ?_) q) MP λ _ _ q=>q;rintro rfl;rcases hc with rfl|hc;(.rw[bO yM e e]);.rw[bO yM hc hc]);rcases hx with hk|hk;(.refine wpAny_storeName_local hk hn h_ h' v_ hs azZ;refine lE (id hn) λ oL _ _ hoL _=>?_;((refine h _ #[I.ok,ri,ma,R6,pt v_ L? j y v',ar y c e,jp,o1,cn p hp,Ow aW oL hoL jp hs,by simpa using o2] pt hs rA;(.exact(sq vp).uX IA);.rw[lm sl IC,#[sl,nT sq vp e1]]);.rw[lm o' BF,#[o',nT sq vp e1]]);((.by_cases hj:j=i;(.subst hj;rw[bO hi e1 e1];rw[R1 Wm]at e2;cases e2;exact aW u r f? #[hk,fC]);.rw[Qe hj (hl j y v' e1) q];rcases q with⟨k,e⟩|⟨k,c,e,z⟩;(.refine .inl #[k,?_];have:y≠x:=λ e=>hj (O6 hN e1 (e▸hi));simp[al,e]);.rw[nv (eI k c e (z.sameBut hs (wB y c e)))]);.obtain⟨w',z⟩:=oZ y c e;exact #[w',z.sameBut hs (wB y c e)]);.refine gG DD λ e n ne nf d=>?_;exact(j3 yb (hs.2 dQ ne) e n ne nf d));. (have KC:ul X.fn:=by rcases hf with z|z;(.exact z);.rw[bO z hk hk]);obtain⟨c,hc⟩:=I.ok.has x f? hk;obtain⟨w',z⟩:=oZ x c hc;refine wpAny_storeName_cell jo hk hc z h_ h' ub hs;refine ah (id z) ar oc U0 apf;(refine h tx #[I.ok,ri,ma,R6,aW m (hn.sameBut hs (F8 (wB x c hc))) L? j y v',ar y c' e,jp,o1,cn p hp,Ow aW oc U0 (o1 x c hc) hs,by simpa using o2] aW c hs ky hc;(.exact(sq KB).uX IA);.rw[lm sl IC,#[sl,nT sq KB e1]]);((.rw[lm o' BF,#[o',nT sq KB e1]]);.by_cases hj:j=i;(.subst hj;rw[bO hi e1 e1];rw[R1 Wm]at e2;cases e2;exact aW u r ky (eI f? hk c hc ub));.rw[Qe hj (hl j y v' e1) q];rcases q with q|⟨k,c',e,z'⟩;(.rw[lf q]);.refine .inr (eI k c' e (z'.sameBut hs ?_));rintro rfl;exact hj (O6 hN e1 (I.ok.inj _ _ _ e hc▸hi)));(.by_cases rF:c'=c;(.subst rF;exact #[_,ub]);.obtain⟨w2,z2⟩:=oZ y c' e;exact #[w2,z2.sameBut hs rF]);.refine gG DD λ e n ne nf d=>?_;refine(j3 yb (hs.2 dQ ?_) e n ne nf d);intro q;rw[q,U0]at e;have q':oc=p.2:=y6 e;exact d w' (by rw[<-q'];exact apf)
I_{A:c3}{E:bU}{x:aQ}{v:V}{u:a!}{Q:wL}(I:av)(hN:zF)(hi:pS)(hx:wQ)(r:im)(h:∀s',mh Ke H s'->Q () s')(hf:wn):gn M (Ov c4 x u) Q:=Rl I hN hi hx r (λ s' I' _=>h s' I') hf
Inv.aIp{s':az}(I:av)(ho:s'.os=s.os)(u:Un DH ch H H' dl F_)(aR:k9 dS H' F_)(hg:D4 s'.gens)(pZ:j6 ch HQ):wI:=by obtain⟨h',g',d',t',o'⟩:=s';have e:o'=s.os:=ho;subst e;exact I.call (g':=g') (t':=t') (d':=d') u aR hg pZ
}
section z
def z:={
St.2:=bA cB V
TE.2:=St->cA Hp VK
TT.2:=St->Hp->ku (aL->lz)
TA.2:=St->Hp->ku (cu->lz)
}
structure mc where
 nx:mx
 rt:VK
 bk:mx:=λ _ _=>kH
 ct:mx:=λ _ _=>kH
def z:={
TS.2:=mc->mx
EP.1(X:Cx)(ag:a?)(σ:St)(Q:VK)(u:a!)(s':az):Prop:=∃v H',wI/\im/\Q v H'
TP.1(X:Cx)(ag:a?)(σ:St)(Q:Cq)(b:aL)(s':az):Prop:=∃H',wI/\Q b H'
AP.1(X:Cx)(ag:a?)(σ:St)(Q:cu->lz)(us:cm)(s':az):Prop:=∃vs H',wI/\xX/\Q vs H'
SP.1(X:Cx)(ag:a?)(D:mc)(f:Flow)(s':az):Prop:=match f with|.iq=>sB H' Am rk|.brk=>sB H' Am D.bk|.md=>sB H' Am D.ct|.ret u=>∃v bI H',mh bI H' s'/\im/\D.rt v H'
PE.1(X:Cx)(e:bH)(t:TE):Prop:=∀(ag:a?)(s:az)(σ:St)(H:Hp)(Q:VK),av->gK t Q->mP mC
PT.1(X:Cx)(e:bH)(t:TT):Prop:=∀(ag:a?)(s:az)(σ:St)(H:Hp)(Q:Cq),av->gK t Q->fq (F' e c4 mC) rs TP
PW.1(X:Cx)(e:bH)(t:TT):Prop:=∀(rl:Aj)(ag:a?)(s:az)(σ:St)(H:Hp)(Q:Cq),av->gK t Q->fq (F' e c4 rl) rs TP
PA.1(X:Cx)(es:nC)(t:TA):Prop:=∀(ba:c5)(ag:a?)(s:az)(σ:St)(H:Hp)(Q:cu->lz),av->gK t Q->fq (spliced GZ) rs AP
PS.1(X:Cx)(st:Stmt)(t:TS):Prop:=∀(ag:a?)(s:az)(σ:St)(H:Hp)(D:mc),av->t D σ H->fq mi exec st (SP X ag D)
ij.1(X:Cx)(st:xO)(t:TS):Prop:=∀(ag:a?)(s:az)(σ:St)(H:Hp)(D:mc),av->t D σ H->fq mi execs st (SP X ag D)
be{t:Sem α}{Q Q':zM α}{A:c3}{E:bU}{s:az}(h:gn M t Q)(hQ:∀a s,Q a s->Q' a s):gn M t Q':=Ox h hQ λ _ _ x=>x
}
section
variable{X:Cx}
def z:={
sS.1(i:Y):TE:=λ σ H Q=>∃v,cg σ mO/\Q v H
tC.1(v:V):TE:=λ _ H Q=>Q v H
Bo{x:aQ}{ba:c5}(hN:pS)(hv:Aa nh)(hd:mQ)(gj:O? (x==("__classdict__":aQ))):bh xx (sS i):=by rw[fx];obtain⟨v,e,h⟩:=h;rw[sN fg m hn,<-ah (hl i x v hN e hv) ar u r l];have fin:Ct u s:=xQ v I r;rcases l with⟨hk,hm⟩|⟨hk,c,hc,Eh⟩;(.rw[Jw (V? jo hk hn hm fin)]);.rcases hk with hk|hk;(.rw[Jw (Wa jo hk hc Eh fin)]);.rw[Jw (wpAny_loadName_free jo hk hc Eh fin gj)]
ki{i j ba}:bh gR Constant yl j (tC (iK i)):=λ _ _ _ H _ I h=>wpAny_Constant_int xQ yl k! jP
Cj{b j ba}:bh gR Constant (.rc b) j (tC (.bl b)):=λ _ _ _ H _ I h=>Constant_bool xQ (.bl b) I ae
Gl.1(X:Cx)(x:aQ):Prop:=Op x=Z .globalImplicit
Al{E:bU}{ag:a?}{s:az}{σ:St}{H:Hp}{x:aQ}{u:a!}{ba:c5}(I:av)(hg:qA)(hm:tD u)(h:Q u s)(hd:mQ):pe eU xx Q E:=Wb jo hg (Calls.loadGlobal_global (by rw[I.ok.glob];exact Wc I.bk) hm h) hd
yw{E:bU}{ag:a?}{s:az}{σ:St}{H:Hp}{x:aQ}{u:a!}{ba:c5}(I:av)(hg:qA)(hm:cf oT x)(hv:bootBuiltins x=Z u)(h:Q u s)(hn:vy (x≠"__name__") c8._auto_1)(hd:mQ):pe eU xx Q E:=by refine ah I.mod.blt ar mb h1 h2;exact Wb jo hg (Calls.loadGlobal_builtin (by rw[I.ok.glob];exact Wc I.bk) hm (by rw[I.ok.blt];exact h1.keeps I.bk) yb (h2 x hn) hv h) hd
XM{x:aQ}{v:V}{u:a!}{ba:c5}(hg:qA)(hm:tD u)(r:im)(hd:mQ):bh xx (tC v):=λ _ _ _ H _ I h=>su Al xQ v I r hd
}
variable{a b:bH}{ta tb:TE}{ba:c5}
def z:={
PC.1(X:Cx)(op:CmpOp)(a b:bH)(t:TE):Prop:=∀(ag:a?)(s:az)(σ:St)(H:Hp)(Q:VK),av->gK t Q->P1 u (vl op v u) Ct
Sk(b:bH)(h:op≠.In)(h2:op≠.NotIn):IL:=by((have e1:ua op CmpOp.In:=by cases op<;>first|rfl|rw[lp h]);have e2:ua op CmpOp.NotIn:=by cases op<;>first|rfl|rw[lp h2]);cases b<;>simp[Wd,e1,e2]
gH(h:oS:=by first|exact Sk _ cC cC|rfl):oS:=h
tB.1(t:TE):TT:=k4 t x (∃c,x=.bl c/\Q c H1)
ayO{t:TE}(h:PC X op a b t)(h1:Qo):bh BR t:=λ ag s σ H Q I hw=>We (fi h Q I hw) h1
Qu{t:TE}(h:PC X op a b t)(h1:Qo):PT X BR (tB t):=by rw[ju Q I hw,<-Wf (be (fi h _ I hw) λ v s1 h1=>be h1 λ u s2 h2=>be h2 λ c s3 lD=>aO lD pw) h1];(rw[dA (ah q1 ar d jF q) jF]);cases r1;rw[wq H1 I1 q]
RW{e:bH}{t:TE}(h:bh e t)(he:I? (∀rl,F' e c4 rl=ST v e.pos v)):PT X e (tB t):=by rw[ju Q I hw,<-Wi (be (fi h _ I hw) λ v s1 ou=>aO ou pw) (he _)];(rw[dA (ah q1 ar d lX q) lX]);cases r1;rw[wq H1 I1 q]
}
variable{tA Io:TT}{jb:nC}
def z:={
ayn.1(t u:TT):TT:=k4 t c pR c fJ u Q (Q fe H1)
tOr.1(t u:TT):TT:=k4 t c pR c (Q au H1) fJ u Q
aiH.1(t:TT):TT:=k4 t c (Q (!c) H1)
ajz(ha:PT X a tA):sP And [a] tA:=by intro wh ag s σ H Q I h;refine isTrue_and (be (fi ha Q I h) ar c s1 e);cases c with|au=>exact isTrue_and_nil e|false=>exact e
akj(ha:PT X a tA):sP Or [a] tA:=by intro wh ag s σ H Q I h;refine isTrue_or (be (fi ha Q I h) ar c s1 e);cases c with|false=>exact isTrue_or_nil e|au=>exact e
aKo(ha:PT X a tA)(hb:sP And Eo Io):sP And Es (ayn tA Io):=by intro wh ag s σ H Q I h;refine isTrue_and (fo ha λ c s1 vR=>ah vR ar H1 I1 q1);cases c with|au=>exact hb wh ag s1 σ H1 Q I1 q1|false=>exact aW H1 I1 q1
avw(ha:PT X a tA)(hb:sP Or Eo Io):sP Or Es (tOr tA Io):=by intro wh ag s σ H Q I h;refine isTrue_or (fo ha λ c s1 AX=>ah AX ar H1 I1 q1);cases c with|au=>exact aW H1 I1 q1|false=>exact hb wh ag s1 σ H1 Q I1 q1
T2(ha:PT X a tA):PT X L8 .Not (aiH tA):=by rw[fx,isTrue_not (fi ha (λ c H1=>Q (!c) H1) I h)]
agj.1(ta tb:TE):TE:=ll (∃c,x=.bl c/\pR c fJ tb Q e6 bl fe H1)
agG.1(ta tb:TE):TE:=ll (∃c,x=.bl c/\pR c e6 bl au H1 fJ tb Q)
aJH.1(ta:TE):TE:=ll (∃c,x=.bl c/\e6 bl (!c) H1)
aiI{op}{t:TE}(h:bh a t):bh rN op [a] t:=λ ag s σ H Q I hw=>BoolOp_one (fi h Q I hw)
ahh(ha:ik)(hb:bh rN .And Eo tb):bh rN .And Es (agj ta tb):=by rw[HD BoolOp_and Dh Dh,Bu];cases c with|au=>exact r? Q I1 q1|false=>exact Kq fe I1 q1
aB3(ha:ik)(hb:bh rN .Or Eo tb):bh rN .Or Es (agG ta tb):=by rw[HD BoolOp_or ass ass,Bu];cases c with|false=>exact r? Q I1 q1|au=>exact Kq au I1 q1
akf(ha:ik):bh L8 .Not (aJH ta):=by rw[HD UnaryOp_ aC3 aC3,not_of (Oy Kq (!c) I1 q1)]
tIf.1(t:TT)(ta tb:TE):TE:=k4 t c pR c fJ ta Q fJ tb Q
aIz{c:bH}(hc:PT X c tA)(ha:ik)(hb:qc):bh (.IfExp c a b ba) (tIf tA ta tb):=by rw[fx,<-wpAny_IfExp (fo hc λ d s1 aMa=>ah aMa ar H1 I1 q1)];cases d with|au=>exact pj ha Q I1 q1|false=>exact r? Q I1 q1
}
section z
def z:={
arO.1:a!->cB V|k1=>Z .cz|.rc b=>Z (.bl b)|pv i _=>Z yl|.str x _=>Z (.str x)|.bytes b _=>Z (.ji b)|.float b _=>Z (.rj b)|.cr a=>Z vP|.type n=>Z (.ty n)|_=>ak
RelV.abs{x:V}{u:a!}(r:nM):arO u=Z x:=by cases x with|cz=>cases r;rfl|bl _=>cases r;rfl|cQ _=>rw[jz r];rfl|str _=>rw[jz r];rfl|ji _=>rw[jz r];rfl|rj _=>rw[jz r];rfl|cr _=>cases r;rfl|ty _=>cases r;rfl
RelV.inj{x y:V}{u:a!}(r:nM)(q:rp y):bF:=y6 (r.abs.symm.trans q.abs)
bN.inj{xs:cu}{us:cm}(h:nL):∀{ys:cu},bN ys us->xs=ys:=by induction h with|bt=>intro ys h;rw[bo];rfl|aN r t ih=>intro ys h;cases h with|aN r' t'=>rw[r.inj r',ih t']
}
section
variable{X:Cx}{ag:a?}{σ:St}{H:Hp}{s:az}{a:aI}{xs ys:cu}
def z:={
aJ.of{K:ca}(h:H a=Z nU):tM:=.inl (.inl h)
Inv.list(I:av)(h:Da aC):∃aF:cm,bN xs aF/\PlainL dl a OC/\Hk:=by rcases h with h|⟨o,aF,n,hk,hc,hd,hs,hz,r⟩;(.refine yJ (h.ok fY) λ z aF n r e=>?_;exact(aZ aF r (jg _ n e ae ae ae) z));.refine(aZ aF.toList r (jg o n (me a o hk) hc hd dv hs) ?_);have e:=lR;rw[QS e,y9 e hz]
Inv.tuple(I:av)(h:Da aJ):∃aF:cm,bN xs aF/\IsTup dl a OC/\Hk:=by rcases h with h|⟨o,aF,n,hk,hc,hs,hz,r⟩;(.refine iN (h.ok fY) λ z aF r p=>?_;exact(aZ aF r p z));.refine(aZ aF.toList r (Ih o (me a o hk) hc n dv hs) ?_);have e:=lR;rw[QS e,y9 e hz]
Inv.aHu(I:av)(h:Da aC)(h':aC bQ H a ys):xs=ys:=by rw[iP zH h λ aF r kE _=>fR kE λ o n e _ _ d=>?_];rw[iP zH h' λ its' r' jJ _=>fR jJ λ o' n' e' _ _ d'=>?_];rw[bO e e' e'];rw[d]at d';rw[QT d' _ (aF=its')]
Inv.agC(I:av)(h:Da aJ)(h':aJ bQ H a ys):xs=ys:=by rw[iP vq h λ aF r kx _=>zu kx λ o e _ n d=>?_];rw[iP vq h' λ its' r' kn _=>zu kn λ o' e' _ n' d'=>?_];rw[bO e e' e'];rw[d]at d';rw[QT d' _ (aF=its')]
}
section z
def z:={
Cx.pQ.2(X:Cx)(E:bU):Cx:={X with xe:=E}
Cx.jh.2(X:Cx):Cx:=X.pQ λ _ _=>kH
Cx.Ok.pQ{X:Cx}(ok:X.Ok)(E:bU):(X.pQ E).Ok:=#[ok.mod,ok.kind,ok.glob,ok.blt,ok.above,ok.inj,ok.has,ok.C6,ok.hd,ok.frames,ok.GU,ok.Du,ok.bs,ok.pM,ok.BP,ok.yL,ok.lB,ok.tZ]
Cx.Ok.sV{X:Cx}{E:bU}(ok:(X.pQ E).Ok):X.Ok:=#[ok.mod,ok.kind,ok.glob,ok.blt,ok.above,ok.inj,ok.has,ok.C6,ok.hd,ok.frames,ok.GU,ok.Du,ok.bs,ok.pM,ok.BP,ok.yL,ok.lB,ok.tZ]
}
section
variable{X:Cx}{ag:a?}{σ:St}{H:Hp}{s:az}{E:bU}
def z:={
Inv.pQ(I:av)(E:bU):Inv MQ ag σ H s:=#[I.ok.pQ E,ri,ma,F9,fg,oZ,jp,o1,zE,fY,o2]
Inv.sV(I:Inv MQ ag σ H s):av:=#[I.ok.sV,ri,ma,F9,fg,oZ,jp,o1,zE,fY,o2]
SP.sV{D:mc}{f:Flow}{s':az}(h:SP MQ ag D f s'):SP X ag D f s':=by cases f with|iq=>rw[H0 h I q]|brk=>rw[H0 h I q]|md=>rw[H0 h I q]|ret u=>refine gF h λ v bI H' I r q=>?_;exact(lL v bI H' I.sV r q)
ij.jh{st:xO}{t:TS}(h:ij X.jh st t):ij X st t:=λ ag s σ H D I hw=>Ox (fi h D (I.pQ _) hw) (λ _ _ q=>q.sV) λ _ _ z=>False.elim z
}
section z
section
variable{X:Cx}{st:Stmt}{jb:xO}{t u:TS}{e:bH}{te:TE}{ba:c5}
def z:={
Z9.1:TS:=λ D σ H=>rk σ H
oX.1(t u:TS):TS:=λ D σ H=>t {D with nx:=u D} σ H
dg:ij X [] Z9:=λ _ _ σ H _ I h=>Wj (cD σ H I h)
aP(h1:PS X st t)(h2:ij X jb u):ij X (st::jb) (oX t u):=by rw[hW,<-Wk (be (fi h1 {D with nx:=u D} I h) ar f s1 q)];cases f with|iq=>obtain⟨bI,H',I',q⟩:=q;exact h2 ag s1 bI H' D I' q|ret v=>exact q|brk=>exact q|md=>exact q
cG(h1:PS X st t):ij X [st] t:=by rw[hW,<-Wk (be (fi h1 D I h) ar f s1 q)];cases f with|iq=>rw[I! q]|ret v=>exact q|brk=>exact q|md=>exact q
Inv.quiet{ag:a?}{σ:St}{H:Hp}{s:az}(I:av):iS Wn c4:=by simp[Wn,jo]
atw.1(te:TE):TS:=λ D σ H=>gK te λ _ H1=>vM H1
lI(he:qd)(hs:H9 OD e ak):PS X (.bH e ba) (atw te):=by rw[hW,wpAny_Expr_any Bd aum aum p! (cD σ H1 I1 q1) I.quiet hs]
aza.1(te:TE):TS:=λ D σ H=>gK te D.rt
dG(he:qd):PS X (.Return yq ba) (aza te):=by rw[hW,wpAny_Return_some Bd aGN aGN p! (lL x σ H1 I1 r1 q1)]
ayJ.1(c:TT)(t u:TS):TS:=wM c b pR b (t D σ H1) (u D σ H1)
iA{c:bH}{a b:xO}{tc:TT}(hc:PT X c tc)(ha:ij X a t)(hb:ij X b u):PS X (.If c a b ba) (ayJ tc t u):=by rw[hW,<-wpAny_If (fo hc λ d s1 aFH=>ah aFH ar H1 I1 q1)];cases d with|au=>exact pj ha D I1 q1|false=>exact r? D I1 q1
}
section z
def z:={
TG.2:=V->St->Hp->ku (St->lz)
wu.2:=cu->St->Hp->ku (St->lz)
PG.1(X:Cx)(target:bH)(t:TG):Prop:=∀(ag:a?)(s:az)(σ:St)(H:Hp)(v:V)(u:a!)(Q:mx),av->im->t v σ H Q->fq (F? target c4 u) n8 s' sB H' (Q bI H')
Gi.1(X:Cx)(ts:nC)(t:wu):Prop:=∀(ag:a?)(s:az)(σ:St)(H:Hp)(vs:cu)(us:cm)(Q:mx),av->xX->t vs σ H Q->fq (assignInOrder ((AC ts).bz (·.2)) us) n8 s' sB H' (Q bI H')
IB.2:=V->V->V->Hp->ku (Hp->Prop)
aaP.1(X:Cx)(t:IB):Prop:=∀(ag:a?)(s:az)(σ:St)(H:Hp)(o i v:V)(ov iv u:a!)(Q:lz),av->RelV o ov->RelV i iv->im->t o i v H Q->fq (setItem ov iv u) n8 s' (∃H',wI/\Q H')
HF.2:=s?
Hy.1(X:Cx)(op:zI)(t:HF):Prop:=∀(ag:a?)(s:az)(σ:St)(H:Hp)(x y:V)(v u:a!)(Q:VK),av->rD v->rp y->t x y H Q->mP (OE op v u)
}
section
variable{X:Cx}{ba:c5}
def z:={
dC.1(i:Y):TG:=li v σ (Q Ke H)
cy{x:aQ}(hN:zF)(hi:pS)(hx:wQ)(hf:wn):PG X xx (dC i):=by intro ag s σ H v u Q I r h;exact wpAny_assign_Name (I_ I hN hi hx r (λ s' I'=>(cD _ H I' h)) hf)
ats.1:wu:=li vs σ (vs=[]/\Q σ H)
avD.1(t:TG)(u:wu):wu:=li vs σ (∃v r,vs=v::r/\t v σ H λ bI H'=>u r bI H' Q)
an7:Gi X [] ats:=by intro ag s σ H vs us Q I r h;rw[wS e h];subst e;cases r;exact assignInOrder_nil (cD σ H I h)
DJ{e:bH}{es:nC}{t:TG}{u:wu}(h1:PG X e t)(h2:Gi X es u)(hs:jN ((AC g7).bz (·.2)) (mi F? e::hM Js ((·.2)))):Gi X g7 (avD t u):=by intro ag s σ H vs us Q I r h;obtain⟨v,vr,e1,h⟩:=h;subst e1;cases r with|aN r rr=>rw[hs];refine assignInOrder_cons (be (fi h1 _ _ _ I r h) λ _ s1 azR=>df azR λ σ1 H1 I1 q1=>?_);exact h2 ag s1 σ1 H1 _ _ Q I1 rr q1
aJ6.1(K:ca)(n:Y)(t:wu):TG:=li v σ (∃a xs,v=.cr a/\tM/\ff=n/\t xs σ H Q)
aDi{es:nC}{k:Y}{t:wu}(hc:wb)(h:Gi X es t)(hn:zR ((Js).Fd=n))(bw:zR ((Js).findIdx? (·.1)=ak)):PG X gR Tuple es k (aJ6 bQ n t):=by intro ag s σ H v u Q I r hw;obtain⟨a,xs,e1,hq,hl,hw⟩:=hw;subst e1;cases r;obtain⟨aF,rv,ht,hz⟩:=vq hq;refine assign_Tuple_tuple xN ht (by simp[hn,<-hl,OF]) bw cn h' hx;have I1:iI tx:=Ae I.kept eE o e (hx b o (vg (Oj e)) e);exact gJ h _ H xs _ Q I1 dv rv hw
afO.1(to ti:TE)(t:IB):TG:=li v σ ml to o fJ ti λ i H2=>t o i v H2 λ H3=>Q σ H3
Us{o i:bH}{to ti:TE}{t:IB}(ho:bh o to)(hi:bh i ti)(hs:aaP X t)(ha:I? (∀v,F? gR Subscript o i c4 v=(do let ov<-zG [v] KJ;let iv<-zG [v,ov] eU i;OA ba;zG [v,ov,iv] (setItem ov iv v);release [v,ov,iv] []))):PG X gR Subscript o i (afO to ti t):=by intro ag s σ H v u Q I r h;rw[ha];refine s_ OG (fo ho λ ov s1 aGt=>aO aGt pw);refine s_ OG (be (pj hi _ I1 q1) Ue iv avY avY);refine s_ wpAny_standAt s_ OG (be (gJ hs s2 H2 x y v ov iv u _ I2 r1 r2 r q2) λ _ s3 aJN=>ah aJN ar H3 I3 q3);exact wpAny_release (cD σ H3 I3 q3)
IU.1(te:TE)(g:TG):TS:=wM te x (g x σ H1 rk)
PX{tg e:bH}{te:TE}(he:qd)(hg:PG X tg g)(hs:H9 swapsWithSole [tg] e)(hw:jN (swappedStores [tg] e c4) (pure ak))(h1:jN ((AC [tg]).bz (·.2)) [mi F? tg]):PS X gR Assign [tg] e (IU te g):=by rw[hW,<-wpAny_Assign_stores Bd axr axr pw hs hw];rw[h1];exact be Jr hg v _ λ _ s2 q=>q
bY{x:aQ}{e:bH}{te:TE}{pos':c5}(hN:zF)(hi:pS)(hx:wQ)(he:qd)(hs:H9 OD e Z KK)(hf:wn):PS X gR Assign [KK] e (IU te (dC i)):=by rw[hW,<-wpAny_Assign_Name Bd apP apP vC y hs,I_ I1 hN hi hx r1 (λ s2 I2=>(cD _ H1 I2 q1)) hf]
aBL.1(i:Y)(te:TE)(ti:HF):TS:=λ D σ H=>∃x,cg σ Z x/\ml te y (ti x y H1 λ z H2=>rk (σ.set i Z z) H2)
G0{x:aQ}{e:bH}{te:TE}{op:zI}{ti:HF}{pos':c5}(hN:zF)(hi:pS)(hx:wQ)(he:qd)(ho:Hy X op ti)(hf:wn):PS X (.AugAssign KK op e ba) (aBL i te ti):=by rw[hW];obtain⟨v,e1,h⟩:=h;rw[sN fg m hn];(have vis:Aa nh:=by rcases hx with k|k;rw[lf k,nv f? k]);refine ah (hl i x v hi e1 vis) ar u r l;refine wpAny_AugAssign_Name ?_;(have go:fq mC (λ w s₂=>r8 (OE op u w) (λ r s₃=>r8 (Ov c4 x r) (λ _=>SP X ag D .iq) s₃) s₂):=by refine be (fi he _ I h) λ w s1 aGE=>aO aGE vC y;refine be (pj ho v y u w _ I1 r r1 q1) λ z s2 aBv=>aO aBv λ zv H2 I2 r2 q2=>?_;exact I_ I2 hN hi hx r2 (λ s3 I3=>(cD _ H2 I3 q2)) hf);rcases l with⟨hk,hm⟩|⟨hk,c,hc,Eh⟩;(.exact V? jo hk hn hm go);.rcases hk with hk|hk;(.exact Wa jo hk hc Eh go);.rcases hx with k|k;(.have:Qq:=hk;rw[bO k al al]);.have:Qq:=hk;rw[bO k al al]
JR.1(f:KA):HF:=J2 i j e6 cQ (f i j) H
p5:Hy X .Add (JR mw (i+j)):=by intro ag s σ H x y v u Q I r1 r2 h;refine aO h Ek e1 e2 q;subst e1;subst e2;rw[jz r1,zN r2,iadd_int wp _]
uP:Hy X .Sub (JR mw (i - j)):=by intro ag s σ H x y v u Q I r1 r2 h;refine aO h Ek e1 e2 q;subst e1;subst e2;rw[jz r1,zN r2,isub_int wp _]
}
section z
section
variable{X:Cx}{ba:c5}
def z:={
aG8.1(c:TT)(tb:TS):TS:=λ D σ H=>∃W:BZ,(∃m,W m σ H)/\∀m σ H,W m σ H->ml c b pR b G2 N (W m' bI H') (tb G4 D N N σ H1) vM H1
nH{c:bH}{tc:TT}{tb:TS}(hp:PassesOwn pd X.A c4 o3)(hc:PT X c tc)(hb:ij X oP tb):PS X (.While c oP [] ba) (aG8 tc tb):=by rw[hW,<-ah h λ W lZ turn=>cF lZ cn m0 w0,<-wpAny_While (codeAny_whileLoop (λ n s'=>sB H' (W n bI H')) ?_ m0 (cD σ H I w0))];rintro n s1⟨σ1,H1,I1,w1⟩;rw[wC hp (be (hc ag s1 σ1 H1 _ I1 (turn n σ1 H1 w1)) λ b s2 aKU=>ah aKU ar H2 I2 q2)];cases b with|au=>(obtain⟨N,hN,q2⟩:=q2;rw[ao ae];rw[wC hp (be (hb ag s2 σ1 H2 _ I2 q2) ar f s3 q3)];cases f with|iq=>refine df q3 λ σ3 H3 I3 n3=>?_;refine ah (hN σ3 H3 n3) ar m' hm w3;exact #[m',hm,σ3,H3,I3,w3]|md=>refine df q3 λ σ3 H3 I3 n3=>?_;refine ah (hN σ3 H3 n3) ar m' hm w3;exact #[m',hm,σ3,H3,I3,w3]|brk=>exact q3|ret v=>exact q3)|false=>rw[aj OK];rw[I! (cD σ1 H2 I2 q2)]
}
section z
structure It where
 go:mq Y
 pK:Y->Hp->cA V Hp
 rg:mq Y
def z:={
o6.1(X:Cx)(ag:a?)(H:Hp)(b:aI):Prop:=ko/\sd/\Ea/\(b∈oV\/r_ b)/\(∀x c,iW->c≠b)/\AK p (dQ≠b)
Inv.Co{X:Cx}{ag:a?}{σ:St}{H H':Hp}{s:az}{b:aI}(I:av)(hb:ed<=b)(hn:AM):o6 X ag H' b:=by refine(E3 hn (Nat.ne_of_gt (y? I.lt hb)) (I.aBU hb) ky (oC I.sz hb) (λ x c e z=>?_) h_ p hp z);(.obtain⟨v,q⟩:=CU;rw[wt (y? q.lt (by rw[dD z hb]))]);.rw[wt rE DD.1 (by rw[dD z hb])]
}
structure Turn(P:dM)(w:dN)(K:ca)(tg:bH)(J:It)(fp:nB)(it:aI)(tn:cA Y dP):Prop where
 mem:it∈fp
 obj:∀i h,tn i h->Sw o J? v
 l!:∀i h h',tn i h->Aw (∀o,J?->JZ)->tn i h'
 item:SA P w (∀(i:Y)(ag:a?)(s:az)(σ:St)(H:Hp)(E:bU),QB (J.go i H) X.A (λ r s1=>∃u,r=Z u/\iG A9 X.A Sz tg dq it n8 s2 (∃x H',f6 H' s2/\nM/\J.pK i H x H'/\tn bC s2.heap/\j6 fp AM) E s1))
 done:SA P w (∀(i:Y)(ag:a?)(s:az)(σ:St)(H:Hp)(E:bU),QB (J.stop i H) X.A (λ r s1=>r=ak/\iI s1))
 self:∀(A:c3)(i:Y)(s:az)(Q:bU)(E:bU),tn i dl->e6 cr it s->gn A9 (pyIter (.cr it)) Q
def z:={
TI.2:=St->Hp->ku (It->lz)
KU.1(X:Cx)(ag:a?)(σ:St)(tg:bH)(R:mq It)(L6:a!)(s2:az):Prop:=∃(it:aI)(fp:nB)(tn:cA Y dP)(J:It)(H':Hp),L6=.cr it/\f6 H' s2/\k9 Turn bQ tg J fp it tn/\tn 0 s2.heap/\Aw (o6 X ag H' b)/\R J H'
PI.1(X:Cx)(tg iter:bH)(wi:TI):Prop:=∀(ag:a?)(s:az)(σ:St)(H:Hp)(R:mq It),av->gK wi R->fq eU iter (λ v s1=>r8 (pyIter v) (KU X ag σ tg R) s1)
FY{A:c3}{E:bU}{s:az}{tg:bH}{u:a!}{o:Obj}{n:String}{vs:Dl}{Q:wL}(ho:GE it o)(hc:o.cls=.type n)(hd:o.data=.zD vs)(hn:["enumerate","zip","dict_itemiterator","dict_reverseitemiterator","odict_iterator","itertools.zip_longest","itertools.pairwise"].F2 n=false)(hQ:Q () s):iG M A Sz tg dq it Q E s:=by unfold Wo;cases tg<;>first|rw[B4 hQ]|(cases u<;>first|rw[B4 hQ]|(refine rf (wpAny_load ho ?_);rw[hc,hd];show gn M J9 (["enumerate","zip","dict_itemiterator","dict_reverseitemiterator","odict_iterator","itertools.zip_longest","itertools.pairwise"].F2 n&&vs[0]?==Z (zC _)) _ _ Q;rw[aj (by intro h;rw[hn,Oc]at h;rw[bo])];rw[B4 hQ]))
uB.1(K:ca)(a:aI):It:=Sf (∃xs x,Dc/\sm) Dc Dc
uN.1(K:ca)(a:aI):It:=Sf (∃xs x,tM/\sm) tM tM
o9.1(lo:ad)(n:Y):It:=#[λ i _=>i<n,λ i H x H'=>H'=H/\x=eV M9,λ i _=>n<=i]
}
def arI{P:dM}{w:dN}{K:ca}{tg:bH}(a it:aI):KF yn h (h.IsListIter it a i)where mem:=fC;obj:=(λ i h st b hb=>by rw[v6 b it,<-bM st λ o e c d=>?_,(aW o e λ v z=>by rw[bO d z z])]);l!:=λ i h h' st k=>st.at λ o e=>k it aM o e;item:=(by intro X hP hw hK hc i ag s σ H E I hf st hg;subst hP hw hK;rw[<-df hg λ xs x hq hx=>?_,P4 zH wpAny_pyNext_list_item OL];have I1:iI tx:=wm nT j2 sb.2 e;rw[iP id jv λ o e c d=>?_];exact aW u ae (FY (s:=tx) e c d cC Jy x ru #[rfl,λ ys hy=>by rw[I.aHu hy hq];exact hx]));done:=(by intro X hP hw hK hc i ag s σ H E I hf st hg;subst hP hw hK;rw[<-ah hg ar xs hq hx,v9 zH rv p,wa f3 f4 f5];have hl:=OF;exact wpAny_pyNext_list_end xN st OL (by simp;exact Bn hl hx) λ h' eb=>#[rfl,wm (eb b o hb e)]);self:=λ _ _ _ _ _ st h=>wpAny_pyIter_listiter st h
def aha{P:dM}{w:dN}{K:ca}{tg:bH}(a it:aI):KF yp h (h.IsTupleIter it a i)where mem:=fC;obj:=(λ i h st b hb=>by rw[v6 b it,<-bM st λ o e c d=>?_,(aW o e λ v z=>by rw[bO d z z])]);l!:=λ i h h' st k=>st.at λ o e=>k it aM o e;item:=(by intro X hP hw hK hc i ag s σ H E I hf st hg;subst hP hw hK;rw[<-df hg λ xs x hq hx=>?_,P4 vq wpAny_pyNext_tuple_item Qy];have I1:iI tx:=wm nT j2 sb.2 e;rw[iP id jv λ o e c d=>?_];exact aW u ae (FY (s:=tx) e c d cC Jy x ru #[rfl,λ ys hy=>by rw[I.agC hy hq];exact hx]));done:=(by intro X hP hw hK hc i ag s σ H E I hf st hg;subst hP hw hK;rw[<-ah hg ar xs hq hx,v9 vq rv p,wa f3 f4 f5];have hl:=OF;exact wpAny_pyNext_tuple_end xN st Qy (by simp;exact Bn hl hx) λ h' eb=>#[rfl,wm (eb b o hb e)]);self:=λ _ _ _ _ _ st h=>wpAny_pyIter_tupleiter st h
def aIJ{P:dM}{w:dN}{K:ca}{tg:bH}(it:aI)(lo:ad)(n:Y):KF ED h (Wp h it (lo+(i:Y)*1) (jT n - (i:Y)) 1)where mem:=fC;obj:=(λ i h st b hb=>by rw[v6 b it,(pt st λ v z=>by have z':Data.fields _=Data.cell v:=z;cases z')]);l!:=λ i h h' st k=>k it aM _ st;item:=(by intro X hP hw hK hc i ag s σ H E I hf st hg;subst hP hw hK;rw[wa f3 f4 f5];have W:=Walks.range (d!:=oY) (w:=X.w) xN it lo 1 n;rw[<-W.item i s _ _ hg st λ v h' tk hv jv kk=>?_,jz hv];have I1:iI GG s h' tk:=I.turned (λ b o hb e=>kk b o dv hb e) f0 f1 f3 f4 f5;refine pt ae (FY (s:=GG s h' tk) (n:="range_iterator") jv ae ae cC Jy (.cQ M9) #[t,?_] #[rfl,rfl]);rw[Int.mul_one]);done:=(by intro X hP hw hK hc i ag s σ H E I hf st hg;subst hP hw hK;rw[wa f3 f4 f5,wpAny_pyNext_range_end xN st (by have:n<=i:=hg;rw[ei aac]) λ h' eb=>#[rfl,wm (eb b o hb e)]]);self:=λ _ _ _ _ _ st h=>wpAny_pyIter_rangeiter st h
section
variable{X:Cx}{tg:bH}
def z:={
Ai.1(K:ca)(tl:TE):TI:=Rm a (aC K H1 a xs) yn
Z4.1(K:ca)(tl:TE):TI:=Rm a (aJ K H1 a xs) yp
l8{tl:TE}(hl:bh l tl):PI X tg l (Ai bQ tl):=by rw[ju R I h,HE hl aEQ aEQ,<-bM q1 λ a e nJ q=>cF nJ cn xs hq];subst e;cases r1;rw[v9 I1.list rv p,<-wpAny_pyIter_list OL ?_,<-(lA mf ([mf]) _ _ H1 ae (Hs ON Bf) (arI a _) (aZ _ By ae ae) Eb q),P3]
AZ{tl:TE}(hl:bh l tl):PI X tg l (Z4 bQ tl):=by rw[ju R I h,HE hl avp avp,<-bM q1 λ a e oJ q=>cF oJ cn xs hq];subst e;cases r1;rw[v9 I1.tuple rv p,<-wpAny_pyIter_tuple (show PB s1.heap.IsTuple from p) ?_,<-(lA mf ([mf]) _ _ H1 ae (Hs ON Bf) (aha a _) (aZ _ By ae ae) Eb q),P3]
afa{ag:a?}{σ:St}{H:Hp}{s:az}{R:mq It}{E:bU}{hi:ad}{t u v:Tok}{tk:Y}(I:av)(h1:EK<=lo)(h2:lo<2^62)(h3:EK<=hi)(h4:hi<2^62)(q:R (o9 lo rP E') H):iG pd X.A (pyIter (.cr ed)) (KU X ag σ tg R) E {s with l?:=G_,o0:=tk}:=by refine wpAny_pyIter_range (IsRange.new ..) (small_one h1 h2 h3 h4) ?_;have I1:iI {s with l?:=G_,o0:=tk}:=I.kept Bf;refine(lA P2 ([P2]) _ _ H ae (ON (t':=tk) Bf) (aIJ _ lo rP E') ?_ Eb q);(. ((have e1:lo+Dx*1=lo:=by simp);have e2:p6 GK E' - Dx=Builtin.Range.rangeSize lo hi 1:=by rw[rangeSize_one];split<;>omega);show Wp _ _ (lo+Dx*1) (((GK E':Y):ad) - Dx) 1;rw[e1,e2];exact Gd _ ae);. (have e:b=(vu {cls:=zV "range",fW:=.zD (On [iK lo t,pv hi u,pv 1 v])}).objs.size:=by simpa using hb);subst e;exact I1.Co (u3 _) A1
Of.1(ta:TA):TI:=Hi ta vs (∃j:ad,vs=[.cQ j]/\EK<=j/\j<2^62/\R (o9 0 j.toNat) H1)
K3.1(ta:TA):TI:=Hi ta vs (∃i j:ad,vs=[yl,AV]/\(-(2^62)<=i/\i<2^62/\EK<=j/\j<2^62)/\R (o9 i rP (j - i)) H1)
Cz{a:bH}{ta:TA}{p ba:c5}(hg:Gl X "range")(hm:Ts oT)(ha:PA X [a] ta)(hs:jN pf [a] [(false,eU a)]):PI X tg hY (Gv "range" p) [a] (Of ta):=by rw[ju R I h,<-Call_ su yw boot_range (Wq Hc azM azM vC vs hs ae)];obtain⟨j,e,q1,q2,q⟩:=q1;subst e;cases r1 with|aN r rr=>cases rr;rw[jz r,call_range_1 (afa I1 gt arU gt aLs q1 q2 dv q)]
Cm{a b:bH}{ta:TA}{p ba:c5}(hg:Gl X "range")(hm:Ts oT)(ha:PA X [a,b] ta)(hs:jN pf [a,b] [(false,eU a),(false,eU b)])(d4:jN pf [b] [(false,eU b)]):PI X tg hY (Gv "range" p) [a,b] (K3 ta):=by rw[ju R I h,<-Call_ su yw boot_range (Wq Hc aLX aLX vC vs (by rw[hs,d4]) (by rw[d4];rfl))];obtain⟨i,j,e,⟨q1,q2,q3,q4⟩,q⟩:=q1;subst e;cases r1 with|aN r rr=>cases rr with|aN r' rr=>cases rr;rw[jz r,zN r',call_range_2 (afa I1 q1 q2 q3 q4 q)]
azI.1(wi:TI)(g:TG)(tb:TS):TS:=wM wi J (∃W:Y->Y->cA St Hp,(∃m,W 0 m σ H1)/\∀i m σ H,W i m σ H->(J.stop i H/\Ax)\/(J.go i H/\G2 N (W bC m' bI H') (∀x H',J.pK i H x H'->g x σ H' v2 tb G4 D N N)))
Bc.1(fp:nB)(h:dP):a?:=fp.filterMap λ b=>(kY b).bz λ o=>(b,o)
IJ{h:dP}{b:aI}{o:Obj}(hb:b∈fp)(e:J?):(b,o)∈Bc fp h:=List.mem_filterMap.mpr aW b hb (by rw[e];rfl)
an6{h:dP}{p:aI×Obj}(hp:p∈Bc fp h):dQ∈fp/\kY dQ=Z p.2:=by refine ah (List.mem_filterMap.mp hp) ar b hb e;cases q:kY b with|ak=>rw[bO q e e]|b? o=>rw[q]at e;have e':(b,o)=p:=y6 e;subst e';exact #[hb,q]
Inv.pinned{ag:a?}{σ:St}{H:Hp}{s:az}(I:av)(hf:j6 fp (o6 X ag H b))(ho:Sw o mX v):Inv X (ag++Bc fp dl) σ H s:=I.P0 λ p hp=>Ru hp lh GR pD z gl (by obtain⟨hb,e⟩:=an6 z;rw[<-dm (hf dQ hb) λ f0 f1 f2 _=>?_,<-ah (ho dQ hb) ar o e' d,bO e e' e',(j3 e f0 f1 f2 d)])
Inv.FE{ag pl:a?}{σ:St}{H:Hp}{s:az}(I:Inv X (ag++pl) σ H s):av:=I.P0 λ p hp=>zE p pD IN hp
iB{iter:bH}{wi:TI}{tb:TS}{ba:c5}(hp:PassesOwn pd X.A c4 o3)(hc:wb)(hi:PI X tg iter wi)(hg:PG X tg g)(hb:ij X oP tb)(hs:I? (∀x,foldedSetIterable iter c4 x=pure x)):PS X (.For tg iter oP [] ba) (azI wi g tb):=by rw[hW,<-wpAny_For (fo hi λ v s1 h1=>be h1 ar L6 s2 h2) hs];obtain⟨it,fp,tn,J,H2,e,I2,T,r6,f2,W,⟨m0,w0⟩,turn⟩:=h2;subst e;have xu:∀{H':Hp},Jt->j6 fp (o6 X ag H' b):=λ hn b hb=>#[j2 hn,(j2 f2).2];refine codeAny_forLoop_any (λ n s'=>∃i bI H',mh bI H' s'/\tn i F_/\Jt/\W i n bI H') ?_ m0 (b8 0 σ H2 I2 r6 (λ b hb=>(j2 f2).1) w0);rintro n s3⟨i,σ3,H3,I3,yB,W0,w3⟩;rcases turn i n σ3 H3 w3 with⟨rg,qn⟩|⟨go,N,hN,step⟩;(.refine OJ hp (be (T.done X ae ae ae hc i ag s3 σ3 H3 o3 I3 (xu W0) yB rg) λ r s4 aEJ=>bq aEJ cn hr I4);subst hr;rw[I! (cD σ3 H3 I4 qn)]);.refine OJ hp (be (T.item X ae ae ae hc i ag s3 σ3 H3 o3 I3 (xu W0) yB go) λ r s4 anm=>ah anm ar u hr h4);subst hr;rw[wC hp (be h4 λ _ s5 axb=>vG axb λ x H5 I5 r5 y5 uF fr5=>?_)];have I5':=I5.pinned (xu fr5) eC T.obj uF;rw[wC hp (be (hg _ s5 σ3 H5 x u _ I5' r5 (step x H5 y5)) λ _ s6 ayq=>df ayq λ σ6 H6 I6 q6=>?_),wC hp (be (hb _ s6 σ6 H6 _ I6 q6) ar f s7 q7)];(have again:∀{σ7:St}{H7:Hp},Inv X (ag++Bc fp s5.heap) σ7 H7 s7->N σ7 H7->∃m,m<n/\∃i bI H',mh bI H' s7/\tn i s7.heap/\Jt/\W i m bI H':=λ{σ7 H7}I7 n7=>by refine ah (hN σ7 H7 n7) ar m' hm w7;refine #[m',hm,dc,σ7,H7,I7.FE,T.keep _ _ _ uF λ b hb o e=>(I7.pin (b,o) pD pD (IJ hb e)).1,cn b hb,w7];refine ah (T.obj _ _ uF b hb) ar o e d;exact(I7.pin (b,o) pD pD (IJ hb e)).2.1);cases f with|iq=>refine df q7 λ σ7 H7 I7 n7=>?_;exact again I7 n7|md=>refine df q7 λ σ7 H7 I7 n7=>?_;exact again I7 n7|brk=>obtain⟨σ7,H7,I7,q7⟩:=q7;exact(cD σ7 H7 I7.FE q7)|ret v=>obtain⟨x7,σ7,H7,I7,r7,q7⟩:=q7;exact(lL x7 σ7 H7 I7.FE r7 q7)
}
section z
def z:={
tm{K:ca}{a:aI}{xs:cu}{tb:TS}{D:mc}{σ:St}{H:Hp}(Pv:BZ)(h0:Pv 0 σ H)(hl:JH H CZ Dc)(hs:∀i x σ H,sm->Ao->g x σ H v2 tb IY D nx ct)(hd:QF):Hu yn yn yn:=by rw[Ja ff CZ ff,Jq i m p];have q:=hl i σ H hi p;by_cases a8:i<ff;(.rw[PP x _ y]);.rw[Im ff aW xs q gi p]
Kk{K:ca}{a:aI}{xs:cu}{tb:TS}{D:mc}{σ:St}{H:Hp}(Pv:BZ)(h0:Pv 0 σ H)(hl:JH H CZ tM)(hs:∀i x σ H,sm->Ao->g x σ H v2 tb IY D nx ct)(hd:QF):Hu yp yp yp:=by rw[Ja ff CZ ff,Jq i m p];have q:=hl i σ H hi p;by_cases a8:i<ff;(.rw[PP x _ y]);.rw[Im ff aW xs q gi p]
Eu{tb:TS}{D:mc}{σ:St}{H:Hp}(Pv:BZ)(h0:Pv 0 σ H)(hs:JH H (i<n) (g (.cQ M9) σ H v2 tb IY D nx ct))(hd:∀σ H,Pv n σ H->Ax):Hu ED ED ED:=by rw[Ja n (i<=n) n,Jq i m p];by_cases a8:i<n;(.refine .inr (eI a8 Ad (λ bI H' p'=>(fE (n - bC) bm pq a8 ae a8 p')) h_ x H' y);obtain⟨e,y⟩:=y;subst e y;exact hs i σ _ a8 p);.rw[Im n gi p]
R2.2:=s?
de.1(X:Cx)(f:xf)(r:R2):Prop:=∀(ag:a?)(s:az)(σ:St)(H:Hp)(x y:V)(v u:a!)(Q:VK),av->rD v->rp y->r x y H Q->mP M2
Kr.1(X:Cx)(f:a!->Aj)(r:Cl):Prop:=∀(ag:a?)(s:az)(σ:St)(H:Hp)(x:V)(v:a!)(Q:VK),av->rD v->r x H Q->mP (f v)
kg.1(X:Cx)(f:a!)(r:cu->cA Hp VK):Prop:=∀(ag:a?)(s:az)(σ:St)(H:Hp)(xs:cu)(us:cm)(Q:VK),av->nL->r xs H Q->mP (call f us)
aBS.1(X:Cx)(r:V->Hp->ku (aL->lz)):Prop:=∀(ag:a?)(s:az)(σ:St)(H:Hp)(x:V)(v:a!)(Q:Cq),av->rD v->r x H Q->fq (truthy v) rs TP
Gr.1(r:R2)(ta tb:TE):TE:=ll fJ tb my y (r x y H2 Q)
tUn.1(r:Cl)(ta:TE):TE:=ll (r x H1 Q)
rI.1(C:cA ad ad)(g:ad->ad->V):R2:=li x y (∃i j,x=eV i/\y=AV/\C i j/\Q i' H)
jx.1(g:ad->ad->V):R2:=J2 i j (Q i' H)
rU.1(g:ad->V):Cl:=λ x H Q=>∃i,x=eV i/\Q (g i) H
}
section
variable{X:Cx}{a b c:bH}{ta tb tc:TE}{ba:c5}
def z:={
NA(ha:ik)(hb:qc){ag:a?}{s:az}{σ:St}{H:Hp}{R:V->mq V}(I:av)(h:ml ta x fJ tb my y (R x y H2)){f:xf}(hf:∀v u s2 x y H2,f6 H2 s2->rD v->rp y->R x y H2->r8 M2 Q s2):P1 u M2 Q:=by rw[HE ha alP alP,<-be (r? _ I1 q1) Ue u avB avB,hf v u s2 x y H2 I2 r1 r2 q2]
Ar{op:zI}{r:R2}(ho:jB (OP op) r)(ha:ik)(hb:qc):bh (.BinOp a op b ba) MM:=by rw[fx,wpAny_BinOp (NA ha hb I h λ v u s2 x y H2 I2 rx ry q=>gJ ho s2 H2 x y v u Q I2 rx ry q)]
avy{op:UnaryOp}{r:Cl}(ho:Kr X (unaryOp op) r)(ha:ik):bh L8 op (tUn r ta):=by rw[fx,UnaryOp_ rZ aqO aqO p! Jr ho v Q]
Fh{f:xf}{C:cA ad ad}{g:KA}(o4:∀(i j:ad)(t u:Tok)(s:az)(Q:bU)(E:bU),C i j->Q (iK i' vt) p4->pe LD Q E):jB f (rI C mw eV i'):=by intro ag s σ H x y v u Q I rx ry h;(refine fR h λ i j nY w_ hc q=>?_;subst nY w_);rw[g5,jH,o4 i j t t' s _ _ hc wp i']
Fi{f:xf}{g:KA}(o4:∀(i j:ad)(t u:Tok)(s:az)(Q:bU)(E:bU),Q (iK i' vt) p4->pe LD Q E):jB f (jx mw eV i'):=by intro ag s σ H x y v u Q I rx ry h;(refine aO h Ek xm xn q;subst xm xn);rw[g5,jH,o4 i j t t' s _ _ wp i']
D9{f:xf}{g:ad->ad->aL}(o4:∀(i j:ad)(t u:Tok)(s:az)(Q:bU)(E:bU),e6 rc i' s->pe LD Q E):jB f (jx mw (.bl i')):=by intro ag s σ H x y v u Q I rx ry h;(refine aO h Ek AQ LF q;subst AQ LF);rw[g5,jH,o4 i j t t' s _ _ vU (.bl i') I ae]
aqg.1(i j:ad):Prop:=0<j/\Tr
Nh.1(i j:ad):Prop:=(-(2^64)<i/\i<2^64)\/(-(2^64)<j/\j<2^64)
Nh.ok{i j:ad}(h:Nh i j):IntMulOk i j:=by rcases h with⟨h1,h2⟩|⟨h1,h2⟩;(.exact .of_left SB);.exact .of_right SB
aq5(k:Y):Mw<=2^k:=by rw[two_pow_cast];exact Int.natCast_nonneg _
bT:Bm Add eV M?:=Fi λ _ _ _ _ _ _ _ q=>add_int q
cV:Bm Sub eV (i - j):=Fi λ _ _ _ _ _ _ _ q=>sub_int q
atv:BB Mult Nh (i*j):=Fh λ _ _ _ _ _ _ _ hc q=>mul_int q hc.ok
tU:BB FloorDiv aqg (i/j):=Fh λ i j _ _ _ _ _ hc q=>by have h1:Mw<j:=hc.1;have h2:Tr:=hc.2;exact floordiv_int tR ac8 (by rw[Ql tR Wr]) (.inl (PyProof.noPylong_small (by omega)))
xt:BB Mod n8 j (0<j) (i%j):=Fh λ i j _ _ _ _ _ hc q=>by have h1:Mw<j:=hc;exact mod_int' bm ac8 hc (by rw[Int.fmod_eq_emod_of_nonneg i bm Wr hc];exact q)
F0:BB RShift n8 j (0<=j) (i/2^j.toNat):=Fh λ i j _ _ _ _ _ hc q=>rshift_int hc (by rw[Ql (aq5 _)])
tf:Bm BitAnd eV (Builtin.bitAnd i j):=Fi λ _ _ _ _ _ _ _ q=>and_int q
aBn:Bm BitOr eV (Builtin.bitOr i j):=Fi λ _ _ _ _ _ _ _ q=>or_int q
unI{f:a!->Aj}{g:ad->ad}(o4:∀(i:ad)(t:Tok)(s:az)(Q:bU)(E:bU),Q (iK (g i) vt) p4->pe (f AO) Q E):Kr X f (rU λ i=>pv (g i)):=by intro ag s σ H x v Q I rx h;(rw[dA (ah h ar i Me q) Me]);rw[g5,o4 i t s _ _ vU (iK (g i)) k! jP]
ajL:Kr X (unaryOp .USub) (rU λ i=>eV (-i)):=unI λ _ _ _ _ _ q=>neg_int q
}
section z
def z:={
La.1:V->V->aL|.cz,.cz=>au|.cz,ur=>au|ur,.cz=>au|.cz,uy=>au|uy,.cz=>au|.cz,n5=>au|n5,.cz=>au|ur,ur=>au|uy,uy=>au|n5,n5=>au|.ji _,.ji _=>au|ur,n5=>au|n5,ur=>au|uy,n5=>au|n5,uy=>au|_,_=>false
rEq.1:R2:=li x y (ap (La x y)/\e6 bl bn kF H)
rNe.1:R2:=li x y (ap (La x y)/\e6 bl (!bn kF) H)
ZN{i j:ad}:bn (V.int i=V.int j)=(i==j):=by rw[IR]
QE{i j:aL}:bn (V.bl i=V.bl j)=(i==j):=by rw[IR]
R_{i j:aQ}:bn (V.str i=V.str j)=(i==j):=by rw[IR]
YY{i j:Array UInt8}:bn (V.ji i=V.ji j)=(i.toList==j.toList):=by rw[zc];cases i;cases j;simp
}
section
variable{X:Cx}{a b c:bH}{ta tb tc:TE}{ba:c5}
def z:={
eW{ag:a?}{σ:St}{H:Hp}{s:az}{Q:VK}{k k':aL}(I:av)(q:e6 bl k H)(e:k=k'):Ct (.rc k') s:=by subst e;exact vU (.bl k) I ae
aeW:jB (vl .Eq) rEq:=by intro ag s σ H x y v u Q I rx ry h;rw[wS hs q];cases x with|cz=>(cases rx;cases y with|cz=>rw[g_ PySem.EqNone.eq_none_none]|bl j=>rw[g_ PySem.EqNone.eq_none_bool]|cQ j=>rw[jY PySem.EqNone.eq_none_int]|str j=>rw[jY PySem.EqNone.eq_none_str]|_=>rw[g8])|bl i=>(cases rx;cases y with|cz=>rw[g_ PySem.EqNone.eq_bool_none]|bl j=>cases ry;rw[jy eq_bool I QE]|str j=>rw[jY PySem.EqMixed.eq_bool_str]|_=>rw[g8])|cQ i=>(rw[g5];cases y with|cz=>rw[g_ PySem.EqNone.eq_int_none]|cQ j=>rw[jH,jy eq_int I ZN]|str j=>rw[jY PySem.EqMixed.eq_int_str]|_=>rw[g8])|str i=>(rw[g5];cases y with|cz=>rw[g_ PySem.EqNone.eq_str_none]|bl j=>rw[g_ PySem.EqMixed.eq_str_bool]|cQ j=>rw[jY PySem.EqMixed.eq_str_int]|str j=>rw[jH,jy eq_str I R_]|_=>rw[g8])|ji i=>(rw[g5];cases y with|ji j=>rw[jH,jy PySem.W.eq_bytes I YY]|_=>rw[g8])|_=>cases y<;>rw[g8]
SJ:jB (vl .NotEq) rNe:=by intro ag s σ H x y v u Q I rx ry h;rw[wS hs q];cases x with|cz=>(cases rx;cases y with|cz=>rw[g_ PySem.EqNone.ne_none_none]|bl j=>rw[g_ PySem.EqNone.ne_none_bool]|cQ j=>rw[jY PySem.EqNone.ne_none_int]|str j=>rw[jY PySem.EqNone.ne_none_str]|_=>rw[g8])|bl i=>(cases rx;cases y with|cz=>rw[g_ PySem.EqNone.ne_bool_none]|bl j=>cases ry;rw[jy ne_bool I CM QE]|str j=>rw[jY PySem.EqMixed.ne_bool_str]|_=>rw[g8])|cQ i=>(rw[g5];cases y with|cz=>rw[g_ PySem.EqNone.ne_int_none]|cQ j=>rw[jH,jy ne_int I CM ZN]|str j=>rw[jY PySem.EqMixed.ne_int_str]|_=>rw[g8])|str i=>(rw[g5];cases y with|cz=>rw[g_ PySem.EqNone.ne_str_none]|bl j=>rw[g_ PySem.EqMixed.ne_str_bool]|cQ j=>rw[jY PySem.EqMixed.ne_str_int]|str j=>rw[jH,jy ne_str I CM R_]|_=>rw[g8])|ji i=>(rw[g5];cases y with|ji j=>rw[jH,jy PySem.W.ne_bytes I CM YY]|_=>rw[g8])|_=>cases y<;>rw[g8]
cK:Bk Lt bl (i<j):=D9 λ _ _ _ _ _ _ _ q=>lt_int q
d7:Bk LtE bl (i<=j):=D9 λ _ _ _ _ _ _ _ q=>le_int q
gL:Bk Gt bl (j<i):=D9 λ _ _ _ _ _ _ _ q=>gt_int q
eF:Bk GtE bl (j<=i):=D9 λ _ _ _ _ _ _ _ q=>ge_int q
tK{r:R2}(ho:sO op r)(ha:ik)(hb:qc)(hm:IL):bh BR MM:=by rw[fx,We (NA ha hb I h λ v u s2 x y H2 I2 rx ry q=>gJ ho s2 H2 x y v u Q I2 rx ry q) hm]
Yx.1(t:TE):TT:=λ σ H Q=>gK t λ x H'=>∃k,x=.bl k/\Q k H'
uK{r:R2}(ho:sO op r)(ha:ik)(hb:qc)(hm:IL):PT X BR (Yx MM):=by rw[fx,<-Wf (rZ ag1 ag1 p! HX avu avu λ c s3 ahm=>jd ahm λ z H3 I3 r3 k e q3=>?_) hm];subst e;cases r3;rw[wq H3 I3 q3]
ae9.1(r r':R2)(ta tb tc:TE):TE:=ll fJ tb my y (r x y H2 λ z H3=>∃k,z=.bl k/\(if k=au then tc σ H3 λ w' H4=>r' y w' H4 Q else e6 bl fe H3))
alV{r:R2}(ho:sO op r)(je:sO lP r')(ha:ik)(hb:qc)(hc:bh c tc)(hm:Q9 (lastMarks EL E0)):bh GO EL E0 (ae9 r r' ta tb tc):=by rw[fx,<-Compare_chain rZ alr alr p! (chain_link (HX akJ akJ λ d s3 ang=>jd ang λ z H3 I3 r3 k e q3=>?_)) hm];subst e;cases r3;rw[Bu];cases k with|false=>exact ite_ff (aE (.bl fe) H3 I3 ae q3)|au=>exact ite_tt (chain_last Ul ar3 ar3 (gJ je s4 H4 y z' u w' Q I4 r2 r4 q4))
aqP{r:R2}(ho:sO op r)(je:sO lP r')(ha:ik)(hb:qc)(hc:bh c tc)(hm:Q9 (lastMarks EL E0)):PT X GO EL E0 (Yx (ae9 r r' ta tb tc)):=by rw[fx,<-isTrue_chain rZ aon aon p! (test_link (HX aCi aCi λ d s3 aKO=>jd aKO λ z H3 I3 r3 k e q3=>?_)) hm];subst e;cases r3;rw[Bu];cases k with|false=>refine ah q3 ar k' e' q';cases e';exact ite_ff aW H3 I3 q'|au=>refine ite_tt (test_last Ul aHn aHn (be (gJ je s4 H4 y z' u w' _ I4 r2 r4 q4) λ d' s5 anc=>jd anc λ z2 H5 I5 r5 k2 e2 q5=>?_));subst e2;cases r5;rw[wq H5 I5 q5]
xc.1(K:ca)(x:V)(H:Hp)(k:aL):Prop:=match x with|.cz=>k=false|.bl b=>k=b|eV i=>k=(i !=0)|.str y=>rV oA/\k=(jT oA !=0)|.ji y=>rV Gf/\k=(jT Gf !=0)|.cr p=>QK K K p|_=>kH
apF{aq:jr κ V}{vs:jr κ a!}(r:KV aq vs):(!vs.isEmpty)=PF:=p3 r
acf{xs:cu}{aF:cm}(r:bN xs aF):(!aF.toArray.isEmpty)=G7:=by cases r<;>simp
Br:(F!:Y)<2^63:=by rw[OQ];decide
abU:aBS X (λ x H Q=>∃k,xc bQ x H k/\Q k H):=by intro ag s σ H x v Q I rx h;refine ah h ar k e q;have hl:=Br;have hs:F!=16777216:=OQ;cases x with|cz=>cases rx;have e':k=false:=e;subst e';exact truthy_none aW H I q|bl b=>cases rx;have e':k=b:=e;subst e';rw[wq H I q]|cQ i=>rw[g5];have e':k=(i !=0):=e;subst e';exact PySem.P.truthy_int aW H I q|str y=>rw[Qa oA oA e,PySem.P.truthy_str eL asb hy hs aW H k! q]|ji y=>rw[Qa Gf Gf e,PySem.W.truthy_bytes eL afH hy hs aW H k! q]|cr p=>(cases rx;have e':QK bQ bQ p:=e;rcases e' with⟨xs,hx,e'⟩|⟨xs,hx,e'⟩|⟨aq,hx,e'⟩;((.rw[Qp zH hx r,wpAny_truthy_list pl.isList (by rw[Rh]) aW H k! (by rw[acf r];exact q)]);.rw[Qp vq hx r,truthy_tuple pl (by rw[Rh]) aW H k! (by rw[acf r];exact q)]);.subst e';obtain⟨hz,hS,vs,r,m⟩:rV aq.length/\ua p sysModules/\∃vs,KV aq vs/\s.heap.DictOf (f_ oY X.w) p vs:=fY p _ hx;have fP:aq.length=zJ:=VX r;exact wpAny_truthy_dict hS m (by exact KD hs fP hz) aW H k! (by rw[apF r];exact q))|_=>exact fK (show kH from e)
arV(ha:ik)(he:∀rl,F' a c4 rl=ST v a.pos v):PT X a (λ σ H Q=>gK ta λ x H'=>∃k,xc bQ x H' k/\Q k H'):=by rw[fx,Wi rZ anM anM p! Jr abU v Q (he _)]
vals1{x:V}(r:bN [x] us):∃u,us=[u]/\nM:=by cases r with|aN r1 r2=>cases r2;rw[pH r1]
vals2{x:V}(r:bN [x,y] us):∃u w',us=[u,w']/\nM/\RelV y w':=by cases r with|aN r1 r2=>cases r2 with|aN r3 r4=>cases r4;exact(aE _ _ ae r1 r3)
ags(hc:wb):kg X (GI "max") (λ xs H Q=>∃i j,xs=[yl,AV]/\e6 cQ (if j>i then j else i) H):=by intro ag s σ H xs us Q I r h;(rw[dA (df h λ i j Nl q=>?_) Nl]);(refine aO (vals2 r) λ u w' Pe Pj MV=>cF Pj λ t PN=>cF MV cn t' Lf;subst Pe PN Lf);refine max_two_ints (I.ok.hd hc) λ h' tk k=>vU _ (I.kept k) ?_;by_cases hj:j>i;(.rw[ao hj,ao hj];exact jP);.rw[aj hj,aj hj];exact jP
}
section z
structure vH(h:dP)(x dx C:aI)(mA:g6):Prop where
 obj:kY x=Z GF C dx
 ns:h.Ns1 dx mA
 ne:dx≠x
def z:={
aDj{h:dP}{dx:aI}{mA:g6}(n:h.Ns1 dx mA):Sc od (kY dx=Z od) od:=by refine Mc n λ o es ep ho hd hk _ hm=>?_;refine(aW o ho λ c6=>?_);have e:=hm c6;unfold nsFind findBy at e;rw[<-Array.find?_toList]at e;rw[e9 OR hd];dsimp only;split;(.rename_i y q;rw[q]at e;exact uQ b? e);.rename_i q;rw[q]at e;((have a:iS Wt ((·.refKey)):=by rw[List.any_eq_false];intro y hy;refine gM (hk y (Array.mem_toList_iff.mp hy)) ar z t auJ;simp[DictEntry.refKey,auJ]);have a':¬ap (Wt (·.refKey)):=by rw[dD a OK]);rw[aj a'];exact uQ b? e
vH.look{h:dP}{x dx C:aI}{mA:g6}(I:vH h x dx C mA):Sc od (PySem.W.InstAt h x GF C dx C Z od) od:=let#[od,ho,hl]:=aDj I.ns;aW od #[I.obj,rfl,rfl,ho] hl
}
section
variable{d!:dM}{w:dN}{A:c3}{E:bU}{s:az}{K:ca}{x dx C f:aI}{mA:g6}{c6:aQ}{v:a!}
def z:={
get_map{expr:aL}(X:tO)(I:Jz)(hg:ap RN)(hh:RB)(ha:IS K c6 ak)(hv:mA c6=Z v)(o8:R? v)(h:Q v p4):gn kb (OU dq x c6 expr) Q:=by rw[sN I.look od J,PySem.W.get_value X J RO hg (PySem.W.findObj_own hh ha ae (by rw[hl,hv])) o8 h]
aG3{pl:xY}{Q:a!×cm->az->Prop}(X:tO)(I:Jz)(hg:ap RN)(hf:IS K c6 Z lC)(ht:ap (PySem.W.isFn K lC))(hv:cf mA c6)(h:Q (lC,[dq x]) s):gn kb (OW dq x c6 pl) Q:=by rw[sN I.look od J,PySem.W.method_fn X J RO hg (Wv hg).2 hf S1 ht (by show(OR c6 od).bz (·.isSome)=Z fe;rw[hl,hv];rfl) h]
aDm{ns:e!}{Q:wL}(X:tO)(I:Jz)(hs:OT K mz "__setattr__"=Z Z (GI "object.__setattr__"))(hp:ap (PySem.W.plainOver K C))(ht:OX K C c6=Z ak)(hh:RB)(hw:Wy mA ns)(hsz:rV Oi)(h:∀h',vH h' x dx C (λ y=>if y=c6 then mO else mA y)->Ot dx dl h'->Q () {s with l?:=h',o0:=vt+2}):gn kb (setAttr dq x c6 v) Q:=by rw[sN I.look od J,<-PySem.W.set_plain X J hs (PySem.W.osa_open (s:=p4) (r:=ak) X J hp ht yj b),<-ah (PySem.W.any_some hh) ar cd hc jD];have hx:re x=Z #[mz,Z dx,.plain,s9]:=I.obj;refine s_ Gb s_ rf (wpAny_loadPart hx (rf (PySem.W.Looks.here (s:=p4) (PySem.W.looks_clsIn X hc) ?_)));rw[jD];rw[<-Gb (a:=Z dx) (rf (Gb (rf ?_))),<-wpAny_nsSet1 (s:=p4) I.ns ar h' hn2 d4,<-gF (hn2.count (PySem.Within.cons c6 v hw)) λ oD esD epD hoD hdD hcD=>?_,JK (wpAny_lookBehind hoD (by rw[hdD];exact pastItsLine_dict (oC hcD (by rw[gC];exact Yl hsz))) ?_),B4 (h _ #[yb (d4.2 _ (F8 I.ne)) I.obj,hn2,I.ne] d4)]
anI{R:zM Result}{vs:cm}(X:tO)(hm:ap (PySem.W.makesIn K C))(hi:OT K mz "__init__"=Z Z lC)(hf:PySem.W.typeIn K lC=Z (.type "function"))(h:codeAny kb (A.under (Pk #[mz::vs,kw])) (.call (.cr f) #[dq jM::vs,kw]) (PySem.W.InitBack jM R) {s with l?:=Qg push}):codeAny kb A (.call (.cr C) #[vs,kw]) R s:=by obtain⟨hh,g,d,t,os⟩:=s;exact PySem.W.make_core (PySem.W.makes_of X hm) (PySem.W.looks_findIn X hi) (λ self=>PySem.W.bind_fn X self hf) rA h
}
section z
def z:={
bK.1(f:aQ)(v:V):p0->p0|[]=>[(f,v)]|ga g x=>if g=f then ga g v else(g,x)::mH r
cW(f g:aQ)(v:V):∀fs:p0,(DP).Gg g=if g=f then mO else Gh g|[]=>by show Gk g [(f,v)]=_;by_cases h:g=f;(.rw[HK ap (g==f) ug]);.rw[P5 ua g f aj h]|ga k x=>by have ih:=cW f g v r;rw[wW (mH ((k,x)::r)=(if k=f then ga k v else uC::mH r))];by_cases hk:k=f;(.rw[ao hk];by_cases h:g=k;(.rw[HK ap (g==k) (i? (h.trans hk))]);.rw[P5 ua g k (aj λ e:g=f=>h (e.trans FX))]);.rw[aj hk];by_cases h:g=k;(.rw[HK ap (g==k) (aj λ e:g=f=>hk (h.symm.trans e))]);.have hb:ua g k:=F1 h;simp only[Gk,hb];exact ih
JJ(f:aQ)(v:V):∀fs:p0,f∈K7 DP/\∀g,g∈fs.map (·.1)->g∈K7 DP|[]=>#[FL,λ g h=>by rw[bo]]|ga k x=>by obtain⟨i1,i2⟩:=JJ f v r;rw[wW (mH ((k,x)::r)=(if k=f then ga k v else uC::mH r))];by_cases hk:k=f;(.rw[ao hk];subst hk;exact #[aM,λ g h=>by rw[jW]]);.rw[aj hk];refine #[?_,cn g h];(.rw[dL];rw[wv i1]);.rw[dL]at h⊢;rcases JB with e|e;(.exact List.mem_cons.mpr f? e);.rw[wv (i2 g e)]
Hl(f:aQ)(v:V):∀fs:p0,bp DP<=OZ+1|[]=>gi|ga k x=>by have ih:=Hl f v r;rw[wW (mH ((k,x)::r)=(if k=f then ga k v else uC::mH r))];by_cases hk:k=f;(.rw[ao hk,gC,gC];exact aCf);.rw[aj hk,gC,gC];exact ayA ih
i8.some_of{v:V}{o:cB a!}(r:i8 mO o):∃u,o=Z u/\im:=by cases o with|ak=>exact fK (show kH from r)|b? u=>exact aW u ae r
i8.none_of{o:cB a!}(r:i8 ak o):o=ak:=by cases o with|ak=>rfl|b? u=>exact fK (show kH from r)
ahb{v:V}{u:a!}(r:im):R? u:=by cases v with|cz=>cases nA (u=Value.none);rfl|bl b=>cases nA (u=Value.bool b);rfl|cQ i=>rw[s8 t nA (∃t,u=S!)];cases e;rfl|str x=>rw[s8 t nA (∃t,u=Value.str x t)];cases e;rfl|ji b=>rw[s8 t nA (∃t,u=Value.bytes b t)];cases e;rfl|rj b=>rw[s8 t nA (∃t,u=Value.float b t)];cases e;rfl|cr a=>cases nA (u=Au);rfl|ty n=>cases nA (u=Value.type n);rfl
}
section
variable{P:dM}{w:dN}{H H':Hp}{h h':dP}{a C dx:aI}{fs gE:p0}
def z:={
K'(aR:t0)(e:py H):∃mA,vH h a dx C mA/\(∀f,i8 (Gh f) (mA f))/\Wy mA (fs.map (·.1))/\OZ<=1000/\H dx=Z Ex:=by obtain⟨d,z,ne,ob,mA,n,r,q⟩:=(show fw P w H h a vE fs from aR a _ e);exact(rQ mA #[ob,n,ne] r q z d)
}
section z
def z:={
dO.get{K:ca}{C:aI}(c:dO K C)(f:aQ):ap (Wu K C f):=c.pg
cb.atY{K:ca}{C:aI}{f:aQ}(n:cb K C f):OX K C f=Z ak:=by unfold OX;rw[show IS K f ak from n];rfl
}
section
variable{X:Cx}{ag:a?}{σ:St}{H:Hp}{s:az}{a C dx:aI}{fs:p0}{f:aQ}{v:V}{A:c3}{E:bU}
def z:={
Wx{b:aL}(I:av)(e:py H)(c:ui)(n:cb bQ C f)(l:JQ v)(h:∀u s',iI s'->im->Q u s'):H? (OU vP f b) Q E:=by refine C8 (K' fY e) λ mA O r _ _ _=>?_;refine ah (i8.some_of (v:=v) (o:=mA f) (by rw[<-l];exact r f)) ar u hu ru;exact get_map me O (c.get f) c.hd n hu (ahb ru) (h u _ k! ru)
NM{m:aQ}{g:aI}{pl:xY}{Q:a!×cm->az->Prop}(I:av)(e:py H)(c:ui)(k:mY bQ C m g)(l:J7)(h:Q (dq g,uh) s):H? (OW vP m pl) Q E:=by refine C8 (K' fY e) λ mA O r _ _ _=>?_;have hn:cf mA m:=i8.none_of (by rw[<-l];exact r m);exact aG3 me O (c.get m) k.at_ k.fn hn h
RM{u:a!}{Q:wL}(I:av)(e:py H)(c:ui)(n:cb bQ C f)(hl:S2)(ry:rp y)(h:∀s',f6 (upd H a vE L!) s'->Q () s'):H? (setAttr vP f u) Q E:=by refine C8 (K' fY e) λ mA O r wi _ ho=>?_;(have hz:dw fs.map ((·.1))<=F!:=by rw[qO,OQ];exact akU hl);refine aDm me O c.sa c.po n.atY c.hd wi hz λ h' O' sb=>h _ ?_;(have hd:∃o,Cy dx o:=by obtain⟨o,_,_,e',_⟩:=O'.ns;exact #[o,e']);refine I.write (x:=a) (e:=dx) (by rw[dD e True.intro]) ky ho (λ b q hb z=>nT j2 sb.2 z) hd ?_;(refine #[by rw[aV O.ne];exact ho,?_,O.ne,O'.obj,_,O'.ns,yj g,cn g hg];(.rw[m3 (Hl f y fs) oC hl]);.show i8 ((L!).Gg g) (if g=f then Ey else mA g);rw[cW];by_cases q:g=f;(.rw[ao q,ao q];exact ry);.rw[aj q,aj q];exact r g);.by_cases q:g=f;(.rw[q];exact(JJ f y fs).1);.refine(JJ f y fs).2 g (wi g gl (hg ?_));show eT (if g=f then Ey else mA g);rw[aj q];exact z
Inv.made(I:av):f6 (upd (upd H ed z4 jM) jM (.ins C ed [])) {s with l?:=Qg push}:=by have e1:QQ get? ed=Z vv:=Gd dl ae;(have e2:((Q_).push A0).get? jM=Z A0:=by have:=Gd (vu vv) (o:=A0) ae;rwa[WA]at al);have e3:QQ Ns ed (λ _=>ak):=(b8 vv (s9) _ e1 ae (λ e he=>B5 he) (λ _=>rfl));have I1:=Ae (I.laid (a:=ed) (o:=.own jM) (h':=Q_)) (λ b u q=>vN q) gi #[_,e1];refine Ae (I1.laid (a:=JA) (o:=.ins C ed [])) (λ b u q=>vN q) (Vj (WA _ _)) ?_;have ne:ed≠JA:=Si;refine #[by rw[aV ne,aX],mI,ne,e2,LZ,(Heap.Ns1.of_empty e3).at λ o q=>vN q,λ _=>True.intro,λ y hy=>qN ae hy]
avg{d!:dM}{w:dN}{env:Env}{e:bH}{f:aQ}{ba:c5}{s:az}(hb:WB e f env My=My)(h:gn kb My (λ o s₁=>iG kb A (OU o f au) Q E s₁)):gn kb (eval gR O0 e f env) Q:=Attribute_any_ h (by rw[arm_eval_Attribute,hb])
}
section z
def z:={
aJX.1(K:ca)(ta:TE)(f:aQ):TE:=ll (∃a C dx fs v,HP H1 JQ v (Q v H1))
DA.1(K:ca)(ta tv:TE)(f:aQ):TS:=wM tv y fJ ta my x (∃a C dx fs,HP H2 S2 vM (upd H2 a vE L!))
Xd.1(X:Cx)(op:zI)(rd:s?):Prop:=∀(ag:a?)(s:az)(σ:St)(H:Hp)(x y:V)(u v:a!)(Q:VK),av->nM->RelV y v->rd x y H Q->mP (OE op u v)
aJQ.1(K:ca)(ta tv:TE)(rd:s?)(f:aQ):TS:=wM ta x (∃a C dx fs v,HP H1 JQ v fJ tv my y (rd v y H2 λ z H3=>∃eQ gE,H3 a=Z (.ins C eQ gE)/\gE.length<1000/\vM (upd H3 a (.ins C eQ (bK f z gE)))))
}
section
variable{X:Cx}{o e qM:bH}{f:aQ}{ba pos' RC:c5}{ta tv:TE}
def z:={
acI(he:bh e ta)(hb:WB e f c4 mC=mC):bh gR O0 e f (aJX bQ ta f):=by rw[fx,Ha avg hb (fo he λ u s1 aBe=>Lw aBe λ x H1 I1 rx a C dx fs v ex ea c n l q=>?_),Wx I1 ea c n l λ u' s2 I2 ru=>(aE v H1 I2 ru q)]
ic(ha:bh o ta)(hv:bh qM tv)(hs:OD qM Z rX o f pos' pos.line c4=pure fe):PS X gR Assign [rX o f pos'] qM (DA bQ ta tv f):=by rw[hW,<-plainObj_wpAny_Assign_Attribute (fo hv λ u s1 avm=>aO avm λ y H1 I1 ry q=>be (pj ha _ I1 q) λ ov s2 avU=>aAZ avU λ x H2 I2 rx a C dx fs ex ea c n l q2=>?_) hs];subst ex;obtain rfl:ov=Au:=rx;exact RM I2 ea c n l ry λ s3 I3=>(cD σ _ I3 q2)
WS{op:zI}{rd:s?}(ha:bh o ta)(hv:bh qM tv)(Jh:Xd X op rd):PS X (.AugAssign rX o f RC op qM ba) (aJQ bQ ta tv rd f):=by rw[hW,<-wpAny_AugAssign_AttributeAny (fo ha λ ov s1 afF=>Lw afF λ x H1 I1 rx a C dx fs v ex ea c n l q=>?_)];subst ex;obtain rfl:ov=Au:=rx;refine Wx I1 ea c n l λ u s2 I2 ru=>be (gJ hv s2 H1 _ I2 q) λ w3 s3 amu=>aO amu λ y H2 I3 ry q3=>be (gJ Jh s3 H2 v y u w3 _ I3 ru ry q3) λ w4 s4 ao4=>qg ao4 λ z H3 I4 rz eQ gE ea' l' q4=>?_;exact RM I4 ea' c n l' rz λ s5 I5=>(cD σ _ I5 q4)
az6.1:s?:=J2 i j e6 cQ M? H
YG:Xd X .Add az6:=by rintro ag s σ H x y u v Q I rx ry⟨i,j,rfl,rfl,q⟩;obtain⟨t,rfl⟩:=(show∃t,u=S! from rx);obtain⟨t',rfl⟩:=(show∃t',v=Value.int j t' from ry);exact PyProof.Rows.iadd_int wp M?
aMo{pl:xY}{m:aQ}{apos:c5}{k0:nC}{ag:a?}{s:az}{σ:St}{H:Hp}{te:TE}(he:qd)(I:av)(h:ml te x (∃a C dx fs g,Ay/\py H1/\ui/\mY bQ C m g/\J7/\∀s1,f6 H1 s1->iG pd X.A Pr dq g uh k0 Q o3 s1))(ht:eval hY rX e m apos k0 c4=HA mC m k0):fq eU hY rX e m apos k0 Q:=by rw[Ha Px pl pl (fo he λ u s1 aJP=>Lw aJP λ x H1 I1 rx a C dx fs g ex ea c k l q=>?_) ht,NM I1 ea c k l (q s1 I1)]
}
section z
def z:={
bX.mono{k:Y}{A:c3}(r:bX k A)(h:j<=k):bX j A:=#[r.hd,by have:=r.dp;exact az1 al h,by have:=r.un;exact aF6 al h]
bX.deeper{k:Y}{A:c3}(r:bX br A)(env:Env):bX k DI env:=#[r.hd,by have:=r.dp;show O1+1+3*k+5<_;rw[ei TR],by have:=r.un;show O3+3+16*k+200<_;rw[ei aHd]]
akw{A:c3}{C:aI}:(A!).depth=O1+1:=by first|rfl|simp[O4,Code.weight,Code.isCreation,Code.isGuard,Code.isCaller,WC,O5,guardIds]
awh{A:c3}{C:aI}:(A!).dJ=O3+1:=by first|rfl|simp[O4,Code.cUnits,WC,O5]
bX.make{k:Y}{A:c3}(r:bX br A)(C:aI)(us:cm)(kw:A6):bX k A!:=#[r.hd,by have:=r.dp;rw[akw];rw[ei TR],by have:=r.un;rw[awh];rw[ei afB]]
bX.depth{k:Y}{A:c3}(r:bX k A):O1<recursionLimit:=by have:=r.dp;rw[ei av6]
bX.units{k:Y}{A:c3}(r:bX k A):O3+64<cLine:=by have:=r.un;rw[ei agH]
vO.1:TA:=λ _ H Q=>Q [] H
aHH.1(ta:TE)(tr:TA):TA:=ll fJ tr my xs (Q MS H2)
}
section
variable{X:Cx}{e:bH}{es:nC}{te:TE}{t:TA}{ba:c5}
def z:={
fQ:PA X [] vO:=λ _ _ _ _ H Q I h=>Calls.spliced_nil xQ [] I dX
iz(ha:qd)(hr:um es)(hs:A'):PA X g7 (aHH te t):=by intro ba ag s σ H Q I h;rw[hs];show iG _ _ (spliced ((false,mC)::GZ)) _ _ s;refine Calls.spliced_cons (fo ha λ u s1 al8=>aO al8 pw);exact be (hr ba ag s1 σ H1 _ I1 q1) λ us s2 avf=>aO avf G' xs r2 (aE MS H2 I2 (.aN r1 r2) q2)
aLc.1(t:TA):TE:=Q! p p nU
Gc.1(t:TA):TE:=Q! p p Uk
Uw{x1}(h:um es):bh gR Tuple es x1 (aLc t):=by rw[ju Q I hq,<-wpAny_Tuple_spliced (GL h hq λ us s1 auW=>fR auW λ xs H1 I1 r z q=>yt (by rw[<-lR];exact z))];have hf:cf H1 mf:=A1;refine P8 nU e q;exact(eI z us r (Ih _ By ae _ ae))
ny(h:um es):bh (.List es ba) (Gc t):=by rw[ju Q I hq,<-wpAny_List_spliced (GL h hq λ us s1 am8=>fR am8 λ xs H1 I1 r z q=>yt (by rw[<-lR];exact z))];have hf:cf H1 mf:=A1;refine P8 Uk e q;exact(oW z us 0 r By)
}
section z
def z:={
ej.mono{P:dM}{w:dN}{K:ca}{mg:g6}{eS:dP}{CX:mE}{j k:Y}{f:aI}{fd:zK}{ps:e!}{sp:Sp}(F:zX xz eS j)(h:j<=k):zX xz eS k:=#[F.len,λ A d? s H k0 us vs Q E hr=>F.run A d? s H k0 us vs Q E (hr.mono h)]
ej.imp{P:dM}{w:dN}{K:ca}{CX:mE}{k:Y}{f:aI}{fd:zK}{ps:e!}{sp sp':Sp}(F:zX xz eS k)(h:∀vs H Q E,sp' vs H Q E->sp vs H Q E):xz eS CX k f fd ps sp':=#[λ vs H Q E q=>F.len vs H Q E (h _ _ _ _ q),λ A d? s H k0 us vs Q E hr he hb hv hs=>F.run A d? s H k0 us vs Q E hr he hb hv (h _ _ _ _ hs)]
xl.make{P:dM}{w:dN}{K:ca}{A:c3}{s:az}{H:Hp}(e:J8 xl eS A)(C:aI)(us:cm)(kw:A6):J8 xl eS A!:=#[by first|exact e.frames|(simpa[O4,Code.envs,O5,pushEnvs]using e.frames),e.mod,e.bs,e.pM,e.lB,e.tZ,e.aR,e.bare]
}
section
variable{X:Cx}{ag:a?}{σ:St}{H:Hp}{s s':az}
def z:={
Inv.adx(I:av):k9 xl bQ oT jl X.A kZ s H:=#[I.ok.frames,I.ok.mod,I.bs,oC I.ok.pM I.sz,I.stack,I.TX,fY,ma]
Inv.after{Q:VK}{u:a!}(I:av)(h:CE kZ oY X.w H s Q u s'):Ct u s':=by obtain⟨v,H',os,bare,un,aR,r,q⟩:=h;obtain⟨hh,g,d,t,os'⟩:=s';obtain rfl:os'=s.os:=os;exact(aE v H' (I.call (h':=hh) (g':=g) (d':=d) (t':=t) (ch:=[]) un aR bare (λ b z=>B5 z)) r q)
}
section z
def z:={
Yw.1(sp:Sp)(gb:cu)(E:XK)(t:TA):TE:=k4 t vs (sp pL H1 Q E)
acP.1(C:aI)(m:aQ)(sp:Sp)(gb:cu)(E:XK)(ta:TE)(t:TA):TE:=ll (∃a dx fs,Ay/\py H1/\J7/\fJ t my vs (sp (x::pL) H2 Q E))
W2.1(C:aI)(sp:Sp)(gb:cu)(E:XK)(t:TA):TE:=k4 t vs (∀x dx,cf H1 x->cf H1 dx->dx≠x->SR (upd H1 dx uu) v x)
Binds.1(K:ca)(fd:zK)(ps:e!)(ds:cm):Prop:=∀(s:az)(us:cm),tO->bp qt=vx->BindsTo s fd #[us,[]] En qt
Binds.all{K:ca}{fd:zK}{ps:e!}(h:∀us:cm,gx=vx->bindArgs fd #[us,[]]=pure (ps.zip us)):Binds K fd ps []:=λ s us _ hl=>by rw[oy]at hl⊢;exact .of_eq (h us hl)
qQ.1(CX:mE)(X:Cx)(E:XK):Prop:=∀(ag:a?)(σ:St)(H:Hp)(s:az)(e:a!)(s':az),av->CX kZ H s E e s'->o3 e s'
}
section
variable{X:Cx}{CX:mE}{k:Y}{f C:aI}{fd:zK}{ps:e!}{sp:Sp}{gb:cu}{ds:cm}{E:XK}{x m:aQ}{p ba apos:c5}{e o:bH}{es:nC}{ta:TE}{t:TA}
def z:={
BC{ag:a?}{σ:St}{H:Hp}{s:az}{Q:VK}(F:mU)(hr:x!)(hb:nk)(hd:n1)(hx:n9)(I:av)(r:xX)(h:sp pL H Q E):mP (call (.cr f) us):=by have r2:bN pL qt:=r.append hd;(have hl:bp qt=vx:=by rw[<-r2.length];exact F.len _ _ _ _ h);refine wpAny_call SG (F.run X.A kZ s H #[us,[]] qt pL Q E hr I.adx (hb s us me hl)) h hq;cases r with|lO e=>exact hx ag σ H s e s' I hq|ok fl=>cases fl with|ret u=>exact I.after hq|iq=>rw[m4 hq]|brk=>rw[m4 hq]|md=>rw[m4 hq]
R4(F:mU)(hr:x!)(hg:qA)(hm:tD lC)(hk:Sh bQ lC)(hb:nk)(hd:n1)(hx:n9)(ha:um g7)(d5:mQ)(he:A')(a_:HW):bh hY rM p g7 (Yw sp gb E t):=by rw[PZ hk apH apH,BC F hr hb hd hx I1 r q]
aFJ(F:mU)(hr:x!)(hg:qA)(hm:tD lC)(hk:Sh bQ lC)(hb:nk)(hd:n1)(hx:n9)(d5:mQ):bh hY rM p [] (Yw sp gb E vO):=by rw[Hb su Al ?_ d5,O7 me hk (BC (us:=[]) F hr hb hd hx I dX h)]
Ml{pl:xY}(he:bh o ta)(c:ui)(hm:mY bQ C m f)(F:mU)(hr:x!)(hb:nk)(hd:n1)(hx:n9)(ha:um g7)(bw:A')(a_:HW)(ht:jN eU hY BW g7 HA KJ m g7):bh hY BW g7 (acP C m sp gb E ta t):=by rw[PM ary ary (λ x H1 I1 rx a dx fs ex ea l q=>?_),<-WD (first:=uh) (h₀:=jl) WE hm.kp (be (ha ba ag s1 σ H1 _ I1 q) λ us s2 aGA=>aO aGA G' vs r #[I2.jL,?_]) bw a_,BC (us:=.cr a::us) (vs:=.cr a::vs) F hr hb hd hx I2 (.aN ae r) q2]
QD{pl:xY}(he:bh o ta)(c:ui)(hm:mY bQ C m f)(F:mU)(hr:x!)(hb:nk)(hd:n1)(hx:n9)(ht:jN eU hY BW [] HA KJ m []):bh hY BW [] (acP C m sp gb E ta vO):=by rw[PM axi axi (λ x H1 I1 rx a dx fs ex ea l q=>?_),O7 (first:=uh) I1.jL hm.kp (BC (us:=uh) (vs:=uh) F hr hb hd hx I1 (.aN ae dX) q)]
ac4{ag:a?}{σ:St}{H:Hp}{s:az}{Q:VK}(M:Mk bQ C f)(F:mU)(hr:KW)(hb:nk)(hd:n1)(hx:n9)(I:av)(r:xX)(h:∀x dx,cf H x->cf H dx->dx≠x->SR (upd H dx uu) v x):mP (call (.cr C) us):=by have hq:=h jM ed (Os (Nat.le_succ _)) z_ Os Si;have I2:=Inv.made (C:=C) I;have r2:bN (Rx::pL) (G1::qt):=eM ae (r.append hd);(have hl:bp (H8++ds)=vx:=by have e:=r2.length;rw[F.len _ _ _ _ hq]at e;exact zA);refine wpAny_call (anI (f:=f) me M.makes M.init S1 M.fn SG (F.run _ kZ _ _ #[H8,[]] (G1::qt) _ _ E (hr.make C us []) (I2.adx.make C us []) (hb _ H8 I2.jL hl)) hq fD);cases r with|lO e=>exact hx ag σ _ _ e s' I2 fD|ok fl=>cases fl with|ret u=>refine fR (I2.after fD) λ v H' I3 rv ev q3=>?_;subst ev;exact #[rv,(aE Rx H' I3 ae q3)]|iq=>rw[m4 fD]|brk=>rw[m4 fD]|md=>rw[m4 fD]
Ss(M:Mk bQ C f)(F:mU)(hr:KW)(hg:qA)(hm:tD mz)(hb:nk)(hd:n1)(hx:n9)(ha:um g7)(d5:mQ)(he:A')(a_:HW):bh hY rM p g7 (W2 C sp gb E t):=by rw[PZ M.kp avc avc,ac4 M F hr hb hd hx I1 r q]
aBy(M:Mk bQ C f)(F:mU)(hr:KW)(hg:qA)(hm:tD mz)(hb:nk)(hd:n1)(hx:n9)(d5:mQ):bh hY rM p [] (W2 C sp gb E vO):=by rw[Hb su Al ?_ d5,O7 me M.kp (ac4 (us:=[]) M F hr hb hd hx I dX h)]
}
section z
structure aD(N P:e!)(sc:vm):Prop where
 kind:sc.kind=T?
 co:sc.isCoroutine=false
 gen:sc.isGenerator=false
 nd:N.Nodup
 pre:N.take P.length=P
 par:nF P (Ie\/Bq)
 azh:kh O8 (y.2≠.jk)
def z:={
W8{o5:BH}{x:aQ}:(Ro v nr o7 binds x m)|[],_,_=>rfl|ga n v,m,h=>by unfold o7;rw[W8 λ w hw=>h w jO hw];split;(. (have:x≠n:=by rintro rfl;rw[RF v]);simp[al]);.rfl
XU{o5:BH}{x:aQ}:(Ro v nr o! binds x m)|[],_,_=>rfl|ga n v,m,h=>by unfold o!;rw[XU λ w hw=>h w jO hw];split;(.rfl);. (have:x≠n:=by rintro rfl;rw[RF v]);simp[al]
Yh{o5:BH}{x:aQ}{v:a!}:∀{P:e!}{vs:cm}{i:Y}{m:g6},P.Nodup->cg P x->cg vs v->Gy o5->nr o7 GX x=Z v|[],_,_,_,_,h,_,_=>gs|oh,[],_,_,_,_,h,_=>gs|p::P,w::vs,0,m,nd,h1,h2,hk=>by simp at h1 h2;subst h1;subst h2;show nr o7 DG p=_;unfold o7;rw[W8 λ v hv=>R0 nd Jk hv,ao hk];simp|p::P,w::vs,dc,m,nd,h1,h2,hk=>by rw[R3 nr o7 DG x o7 Yh]
WN{o5:BH}{x:aQ}{v:a!}:∀{P:e!}{vs:cm}{i:Y}{m:g6},P.Nodup->cg P x->cg vs v->o5 x≠Z .local->nr o! GX x=Z v|[],_,_,_,_,h,_,_=>gs|oh,[],_,_,_,_,h,_=>gs|p::P,w::vs,0,m,nd,h1,h2,hk=>by simp at h1 h2;subst h1;subst h2;show nr o! DG p=_;unfold o!;rw[XU λ v hv=>R0 nd Jk hv,aj hk];simp|p::P,w::vs,dc,m,nd,h1,h2,hk=>by rw[R3 nr o! DG x o! WN]
zL.1(N:e!)(vs:cu):St:=vs.map b?++G5 (O9 - zJ) ak
}
meta def iC(CX:mE)(P:dM)(w:dN)(K:ca)(mg:g6)(eS:dP)(N:e!)(oR:aQ)(l_:vm)(f:aI)(cd:a!)(A:c3)(d?:uc)(s:az)(H:Hp)(E:XK):Cx where d!:=P;w:=w;K:=K;mg:=mg;eS:=eS;A:=DI sf;N:=N;iw:=s;Ck:=H;env:=sf;d?:=d?;stack:=sf::d?;ex:=[];calm:=au;fn:=λ _=>au;pn:=[];xe:=λ e s'=>iG A9 DI sf (leaving sf e) n8 Kg (CX d? H s E e Kg) (λ e' Kg=>CX d? H s E e' Kg) s'
def z:={
XD{sc:vm}{x:aQ}(h:Bq):∃c,(cellsFrom n O8 []).Gg x=Z c:=by have q:=WG O8 n [] f? h;exact Option.isSome_iff_exists.mp q
aDI{CX:mE}{P:dM}{w:dN}{K:ca}{ps:e!}{f:aI}{cd:a!}{A:c3}{s s1:az}{H:Hp}{E:XK}(S:aD N ps l_)(hd:A.handled=ak)(e0:J8 xl eS A)(hl:SD)(r:xX)(x:InCallC s ed (o7 Qf En us LZ) R5 (o! Qf En us LZ) s1):Inv G8 P K cd [] DZ H s1:=by(have a_:vx<=O9:=by have:=vL List.length S.pre;rw[or]at al;rw[ei aFT]);(rw[dA (df x.done λ h1 tk aJ1 hk=>?_) aJ1]);have xD:∀b:aI,b∉(G8 P K cd).ex:=λ b z=>B5 (show b∈([]:nB)from z);((refine #[#[e0.mod,S.kind,rfl,rfl,gi,λ y z c h1 h2=>?_,cn y hy,λ y c _ h=>?_,λ _=>hd,Around.frames_deeper e0.frames,.inr #[rfl,rfl],λ b z=>qN z (xD b),e0.bs,e0.pM,λ b _ _=>xD b,λ b z=>qN z (xD b),e0.lB,e0.tZ],rfl,e0.bare,F6 hk,(pt x.toInCall.ns λ i y v h1 h2 h3=>?_),λ y c h=>#[_,x.cell y c h],z_ WH,ar y c h,λ p hp=>B5 (show p∈([]:a?)from hp),e0.aR.kept hk,?_];(.exact name_of_addr x.apart Jm h1 Jm h2);.have hy:Iw y ES\/Iw y .jk:=hy;rcases hy with hy|hy;(.exact XD hy);.rw[lp (S.azh _ Jm hy)]);.exact Fp (x.above y c Sg));((. ((have hi:i<zJ:=by unfold zL at h2;by_cases hi:i<zJ;(.exact hi);.rw[NS (by simpa using hi)]at h2;rw[NL]at h2;split at h2<;>cases h2);have ha:cg vs v:=by unfold zL at h2;rw[FK (by simpa using hi),qP]at h2;cases e:vs[i]? with|ak=>rw[bO e h2 h2]|b? a=>rw[bO e h2 h2];rfl);refine ah (r.get ha) ar u hu rv;(have hp:cg ps y:=by rw[<-S.pre,Vr (by exact Nk hi hl)];exact h1);(have Zz:ps.Nodup:=by rw[<-S.pre];exact S.nd.sublist (List.take_sublist _ _));refine aW u rv ?_;rcases S.par y (VF hp)with k|k;(.rw[lf #[k,Yh Zz hp hu k]]);.rw[s8 c (XD (n:=JA) k),<-.inr (eI f? k c e ?_)];have q:=x.cell y c e;rw[WN Zz hp hu (by show O_ y≠_;rw[k];decide)]at q;exact q);.exact WH (Fp (x.above y c Sg)));.unfold zL;show _=O9;rw[ja,qO,List.length_replicate];exact aDS hl a_
arn{CX:mE}{P:dM}{w:dN}{K:ca}{k:Y}{f:aI}{c6:aQ}{params:Arguments}{dV kV doc pm aK ct oc:a!}{an od:C'}{rW:Dp}{ps:e!}{sp:Sp}(lk:K.lookup f=Z #[oc,od,.func (WJ c6 oR params oP l_ dV kV doc pm an aK ct),rW])(gj:ap (PySem.W.codeIn K aK oR))(S:aD N ps l_)(len:∀vs H Q E,sp vs H Q E->SD)(A3:∀(A:c3)(d?:uc)(s:az)(H:Hp)(vs:cu)(Q:VK)(E:XK),bX k DI Pb oR l_ aK->sp vs H Q E->∃t,ij HH oP t/\t {nx:=λ _ H'=>Q .cz H',rt:=Q} DZ H):xz eS CX br f (WJ c6 oR params oP l_ dV kV doc pm an aK ct) ps sp:=by refine #[len,λ A d? s H k0 us vs Q E hr e0 hb r jA=>?_];have hl:=len _ _ _ _ jA;have KX:tO:=e0.mod.zP.keeps eE o e A_ e0.bs;have lim:s.heap.NoLimit:=e0.mod.nolimit.keeps eE o e A_ e0.bs;(have N7:∀y∈En us,Iw y.1 .local\/(O_ y.1=Z ES/\ap ((R5).Gg y.1).isSome):=λ#[n,v]hy=>by rcases S.par n Jk hy with q|q;(.rw[lf q]);.rw[nv #[q,WG _ _ _ f? q]]);refine codeAny_call_function hr.depth eC KX lk ae S.co S.gen ae (PySem.W.codeRec_of KX gj) (hb _ _ _ _ ?_);refine wpAny_newFunctionEnv_cells S.kind N7 λ env he s1 x=>?_;subst he;refine #[lim.keeps x.toInCall.keep,codeAny_func ?_];refine ah (A3 A d? s H vs Q E (hr.deeper _) jA) ar t ht hq;have I:Inv HH [] DZ H s1:=aDI S hr.hd e0 hl r x;refine Ox (ht [] s1 DZ H _ I hq) h_ fl s' hs λ e s' hs=>hs;have fin:∀{bI:St}{H':Hp}{v:V}{u:a!},Inv HH [] bI H' s'->im->Q v H'->CE d? P w H s Q u s':=λ{bI H' v u}J rv q=>(Ac v H' J.os J.bare J.base J.aR rv q);cases fl with|ret u=>refine gF hs λ v bI H' J rv q=>?_;exact fin J rv q|iq=>refine df hs λ bI H' J q=>?_;exact fin (v:=V.cz) (u:=Value.none) J ae q|brk=>rw[<-df hs λ _ _ _ q=>?_,m4 q]|md=>rw[<-df hs λ _ _ _ q=>?_,m4 q]
}
end
mutual section
def z:={
a6:=Str
ax:=pos
bi:=Pos
a7:=Expr
jT:=String
vx:=builtin
g!:=X.mg
a3:=none
rJ:=bootBuiltins
dL:=some
iW:=X.env
lV:=Call
al:=pins
UF:=wpAny_Call_Name_kw
UH:=PyProof.Rows.callWith_type1
lW:=PySem
l0:=PyProof.Rows
eO:=prog
ci:=Program
ck:=World
dr:=Around
a!:=Value
aN:=Shared
Z:=Addr
a4:=Int
vy:=IsTup
gX:=s.heap
Fp:=vs.toArray
Fq:=ws.toArray
b6:=s.heap.objs.size
rK:=heap
Ft:=s.heap.push
rL:=data
cr:=hsz
zE:=vs.length
rM:=sizeLine
fo:=wpAny
ab:=rfl
UI:=PySem.F.slot_tuple_add
UK:=PySem.F.entry_tuple_add
jV:=List.size_toArray
Y:=Nat
kO:=if_neg
vz:=Int.toNat_natCast
ga:=if_pos
UL:=Nat.min_le_right
UO:=Builtin.Slice.sliceAdjust
Ms:=if_false
UQ:=Builtin.Slice.slicePlaces
o?:=if_true
pc:=IsPart
UT:=slicePart_none
UU:=Builtin.Slice.sliceApplied
rN:=pure
e!:=wpAny_bind
e?:=wpAny_pure
a?:=true
Mu:=List.range
cs:=this
fT:=items
g?:=items.size
rP:=getItem
Fx:=List.length_take
Mv:=List.length_drop
Mw:=Array.length_toList
kP:=Nat.le_refl
zF:=s.TypeIs
zG:=wpAny_holding
Fz:=ht.typeIs
UV:=Str.ofString
UX:=PyProof.Rows.slot_tuple_getitem
FA:=wpAny_typeOf
jX:=Bool.and_eq_true
FB:=wpAny_newObj_type
pd:=PySem.Spec
c!:=scope
fU:=Scope
fa:=iter
b4:=PySem.W.Frag
zI:=cells
d0:=Heap
l1:=X.prog
l2:=X.xe
Mx:=intsAre_of
iY:=V.int
b?:=nil
My:=List.map_nil
bn:=cons
jY:=List.map_cons
UY:=evalPart_none
eP:=RelV
Mz:=Subscript
MB:=Subscript_
UZ:=s3.heap.push
vA:=List.toArray
U0:=Heap.get?_push_of_some
l3:=s3.heap.objs.size
MC:=subscriptTail
gb:=_H.cA
bL:=xs.length
dM:=tup
bb:=X.K
hC:=I.tuple
bF:=hlen
zJ:=aF.toArray.size
zK:=I.laid
zM:=s.toks
MD:=I.aR.fresh
vC:=Nat.le_trans
FC:=ys.length
zN:=List.length_append
FD:=i.toNat
ME:=Option.some.inj
MF:=seqIndex_of
MK:=seqIndex_neg
ML:=List.getElem?_eq_some_iff.mp
FG:=subscripted
i0:=false
MN:=operate
i3:=value
l4:=slice
fX:=I.list
vD:=r.length
eQ:=fin
rR:=pl.isList
U5:=pl.isList.typeIs
U7:=slot_list_getitem.lookup
FH:=Obj.mapSeq
gY:=aF.toArray
MO:=s.heap.get?
rS:=I.aR
U8:=its'.toArray
U!:=s.heap.update
U?:=Heap.get?_update_self
Va:=Heap.get?_update_other
zO:=Ne.symm
ph:=trans
Vb:=List.length_set
FM:=sliceBounds
zQ:=aF.length
Vf:=Heap.get?_push_size
b!:=Bool
MQ:=Bool.false_ne_true
FN:=List.all_cons
rT:=List.any_cons
FP:=List.mem_cons.mp
MR:=compareOp
nj:=NotIn
vE:=vals1
zR:=h'.get?
Vg:=call_list_seq
zT:=I.kept
Vi:=h'.objs.size
nl:=False
gZ:=apos
Vl:=attributeBase
MS:=backToKw
zU:=Attribute
Vo:=Calls.callWith_builtin
Vp:=Calls.evalArgs_plain
MT:=Builtin.List.listTooLong
FQ:=decide_eq_false
MU:=call_meets
FS:=r.append
Vq:=kb.toArray.size
FT:=Bool.and_false
MV:=kb.toArray
Vr:=Nat.le_add_right_of_le
np:=V.bl
MX:=Value.bool
zV:=bN.Fm
FU:=Value.ref
Vu:=s.heap.IsList
MZ:=hi.allInts.items
vH:=intItems
M0:=nums_intItems
Vw:=List.take_of_length_le
zW:=ns.length
zX:=xs.size
Vz:=intItems_at
M1:=numAt_eq
VA:=PySem.getD_mem
hE:=List.length_map
VC:=Nat.lt_of_le_pred
zY:=I.ok.hd
z0:=hl.isList
M3:=rv.ints
hG:=s₂
pi:=Heap.lt_size
VE:=wpAny_pyIter_list
nq:=Nat.ne_of_lt
rU:=List.getElem?_map
VF:=Option.map_eq_some_iff.mp
VG:=List.getD_eq_getElem?_getD
VH:=wpAny_truthy_bool
M5:=any_range
l5:=List.length_cons
VI:=List.range_succ_eq_map
VJ:=List.any_map
M8:=all_range
VL:=Nat.lt_irrefl
FV:=PyData
FZ:=Dp.reads
VM:=Dp.readsAll
M':=SeqAt.shaped
M!:=PyData.eqv
F1:=X.A.units
vI:=cLine
c9:=names
F2:=sc.names.lookup
M?:=NameKind
bd:=acc
VN:=cells.lookup
Na:=env.cells.lookup
VS:=List.forIn_nil
VT:=NameKind.free
F3:=List.mem_cons_self
nr:=scope.names
Nd:=mem_lookup
z1:=List.lookup_cons
z3:=cellsFrom
vK:=h.objs.size
Nf:=pushCells
rV:=Heap.size_push
VX:=pushCells_keeps
F6:=Nat.le_of_succ_le
Nh:=Nat.lt_succ_of_lt
Ni:=globals
F7:=closure
fY:=qual
V0:=newFunctionEnv
V3:=Option.isSome_some
V4:=NameKind.cell
pk:=beq_iff_eq
vL:=scope.names.lookup
vM:=own.map
V6:=List.getElem?_eq_none
br:=outer
Nj:=X.env.scope
e7:=X.N.Nodup
V7:=X.env.cells
Nl:=X.env.cells.lookup
F_:=ok.free
z5:=eS.locals
V8:=eS.cells.lookup
z6:=PySem.mem_of_lookup
Nm:=ok.uniq
Nn:=eS.kindOf
V_:=Nat.lt_of_lt_of_le
V!:=List.mem_map.mp
V?:=List.mem_of_getElem?
No:=X.env.scope.names.lookup
F':=isTrue
F!:=target
l6:=s₁
rZ:=s₃
Np:=codeAny
Nq:=ListComp
d1:=σ2
hJ:=pos'
F?:=s2.heap.objs.size
Nt:=Nat.le_of_eq
Gb:=Nat.zero_le
Nu:=ce.locals
a2:=σ'
Nv:=Bool.false_eq_true
po:=Assign
l7:=D.nx
Wa:=List.all_eq_true
jZ:=decide_eq_true_eq
z7:=Bool.or_eq_true
Wc:=DecidableEq
hM:=putK
r3:=aq.map
z8:=decide_eq_true
Ny:=Option.map_some
pp:=aq.length
Gc:=List.length_nil
z9:=o.isSome
Nz:=valueAt
Wd:=h1.symm.trans
Gd:=h1.trans
Ge:=stored
Wl:=Paired.snoc
NC:=Paired.length
ND:=Option.isSome_map
Gg:=sysModules
r4:=Nat.lt_trans
NE:=rel.val
NG:=dd.mapOf
NI:=tupleKind_room_in1
NL:=h'.DictOf
z!:=dd.typeIs
Gh:=pos.line
NM:=beq_eq_false_iff_ne.mpr
Wm:=Heap.DictOf.new
z?:=values
kR:=more
Gi:=merged
Wn:=keys.length
ca:=base
Wp:=PySem.F.slot_dict_get
Wr:=Calls.spliced_cons
Wv:=getattributeRaised
c?:=rest
NO:=rest.length
Ww:=codeAny_builtin
NP:=Around.under_plainId
pr:=A.in1
pw:=holding
Wx:=wpAny_tryCatch
Wy:=wpAny_seqItems
Wz:=Nat.le_of_add_right_le
WD:=plainId_quiet
Gj:=d4.extBut
NS:=prs.length
WE:=Builtin.Dict.updateFrom
WF:=h1.objs.size
NU:=Value.none
WH:=Nat.ne_of_gt
Gm:=Nat.zero_add
WI:=IsRangeIter
WJ:=Builtin.Range.rangeSize
WL:=Builtin.bitAnd
px:=Stmt
Gn:=FuncData
WN:=PySem.W.fnOf
Go:=Nat.lt_of_le_of_lt
r5:=aj.refl
WO:=Option.none
l9:=best
Aa:=argBest
NY:=toString
i4:=kept
NZ:=updateSeq
Gp:=wpAny_updateSeq
N2:=wpAny_letGo
Ab:=s.trans
dt:=_L.St
i5:=s1.trans
r8:=s2.trans
eU:=Ev.of
l_:=aL.p
N3:=Constant
N6:=Operator
r9:=ha.later
Gq:=hb.later
r!:=s3.trans
pB:=Bool.true_and
WP:=Bool.false_and
Ae:=h.later
l!:=later
vO:=Te.of
Af:=Tw.of
gc:=e.now
WS:=PySem.W.keepIn
vQ:=X.base
Ag:=List.append_nil
Gs:=getMethod
r?:=ho.later
nt:=hv.now
ge:=aJ.of
vT:=hi.later
Gu:=σ.set
Gv:=he.later
vU:=h.now
Gx:=hu.later
eV:=body
Gz:=hi.toNat
GA:=hu.now
N7:=xs.take
N8:=List.take_add_one
GB:=filter
GC:=List.range_succ
nu:=List.map_append
N':=List.filter_append
N!:=List.filter_cons
N?:=List.length_range
hO:=args
d?:=pre
fZ:=post
Aj:=e1.now
WT:=Builtin.List.listExtendWith
Al:=Got.imp
sa:=l.map
Oa:=List.append_assoc
GD:=of_decide_eq_true
vW:=l.length
sf:=Mt.Range
nv:=Mt.Row
GE:=Mt.Seq
An:=Mt.Book
sg:=d.ps
Ob:=Mt.MAPS
nw:=d.book
Od:=_B.valAt
Oe:=z.toNat
WX:=Bool.not_eq_true'
WY:=Bool.and_eq_false_iff
Ao:=decide_eq_false_iff_not
hV:=c.Book
vX:=hR.ex
GF:=q.last
l?:=aC.of
Ap:=wy.nd
Of:=A.bj.cl
vY:=A.g.cf
GG:=PassesOwn.never
As:=List.getElem?_eq_getElem
vZ:=Mt.isSyllable
GJ:=Bool.eq_iff_iff
WZ:=Mt.syllable
ma:=congrArg
sj:=rows
At:=Sum.inl
eW:=r.scalar
v0:=Mt.flag
GK:=d.ns.length
W0:=d.book.maps
Au:=Mt.map
GL:=Mt.prop
sk:=hR.cp
GM:=hR.later
Av:=Mt.canon
sm:=_B.dI
Oi:=Mt.sorted
GN:=List.map_map
Oj:=eq_comm
W2:=Bool.eq_false_iff
sn:=aQ.cp
GO:=Mt.ends
Ol:=Bool.not_not
Om:=Mt.isJamo
On:=PyData.int
GP:=PyData.depthAll
Oo:=PyData.depth
GQ:=PyData.canLayAll0
Op:=PyData.canLay0
GR:=PyData.eqvAll
W3:=Int.ofNat_inj
Oq:=namesOk
W5:=of_decide_eq_false
v1:=r.value
v4:=r.value.testBit
GS:=A.g.tw
Os:=Bool.not_eq_false'
GT:=Mt.weight1
W8:=PySem.W.kbt_mask
Ot:=Mt.weight2
GU:=Mt.weight3
cP a:=List a
ad a:=dL a
i6 a b:=autoParam a b
fq a b c:=a X σ H b c
v6:=by decide+kernel
fb a:=a (by rw[v6])
O:=fb aH
a5 a b c:=aD a b (aA c)
so a b:=a b iW
hW a:=i6 a aw._auto_1
ed a:=a->Prop
bC a:=.ref a
i_ a b:=cP (a×b)
bE a b:=a _ _ b
pC a:=so starEach a
au a b c:=λ a b c=>?_
da a:=.int a
f6 a b:=fq aB a b
gf a b:=hW (a=b)
cv a:=.ref a
kS a:=a->ed Hp
bm a b c:=af a b c
d2:=a.2
pD a:=i_ a6 a
fr a b:=fq Ev a b
e4:=.Name
cG a:=(a:a4)
hX a:=aj H H1->a
b5 a b:=by refine a;subst b
nz a:=so eval a
nA a:=Option a
bQ:=cP V
bA:=aa 0
dP a b:=by refine a b ?_
gh a:=λ H1 s1 Q q=>a
mb a b:=model a b
gk a b:=af _ a b
bh:=pD Z
dQ a b c:=H a=ad (.b c)
fz a b:=Inv X al σ a b
bD:=kS V
dw a:=λ H1 s1=>a
ee a:=a ab
gl a:=.rN a
kU a:=a (i5 s2)
sq a b c:=X.cC a b c! c fp
bG a:=decide a
ef a b:=f6 a da b
v8:=wipe σ (vM (·.2))
gm:=e::es
mc:=.type
gp b:=b=cv a
f8:=λ _=>rfl
gq a:=bE s1 a
bv:=cP Z
su a b:=compEnvC c! a b iW
v9 a b c:=a b H3 (r8 s3) c
pE a b:={cls:=a,rL:=b}
fe:=by decide
pI a b:=a nw b
bB:=Fs K mg c
i! a:=.bl a
sv a b c:=gh (a (b s1) c)
v! a:=(false,nz a)
cc a:=by refine e! a
el:=aa 1
nE a:=backTo ax pC a
md:=a.1.2
db:=i5 (r8 s3)
nF a:=hW (a=false)
bS a b:=PE X a b
kZ a b c:=gf pC a (v! b::pC c)
gt a b c:=.a b c ax
dy:=cG n
dE a b c:=a[b]?=ad c
dR:=d2.1
bH a:=a=a?
dV a:=rN a
mi a:=λ a=>?_
cW a:=(a).length
eq a b c:=by rw[b5 (ah a b) c]
cd:=d2.2
gz:=GL nw
sw a b c:=upd a b (.lst c)
GV a b:=i6 (a=false) b
g0 a:=gk a ab
g3 a:=a b=ad o
j0 a b:=gf a ad b
ff a b c:=a al b σ c
pL:=aM P w K mg ca
i? a b c:=Bd X a b c N P
nG a b:=.lV a b [] ax
mj a b c:=∀a H1,hX (bc b H1->c)
nI a:=nF ((nE a).any (·.1))
hY a b:=a5 a ["book","record"] b
cx:=cP a!
cB:=fz H s
mk:=e4 y hJ
nK a b:=a5 a ["at"] b
fF a b:=a (v:=vN b)
d8 a:=λ v _ _ e=>a
cO:=aa 2
sx a:=a->ed aN
GW a:=(v8).set i ad a
g4 a:=.inl a
fI a:=Q a H2
nL a:=λ H2 s2=>a
e8 a:=(a).imp
Ax:=md.1
fg a:=∀H1,hX a
v?:=gl ab
pO a:=(a:a4)
cX:=X.calm=a?
cY:=cP a7
gA a:=fr a P
Ay a:=(a).book
mm a:=.ins C dx a
h_ a b:=ae (ag a) b
h! a b c:=by refine bM (a b) c
k1 a b c:=by show fo _ a b _ _ c
pP a:=ae a ao
k3:=Ay Ax
c_:=cP Y
AA a b:=sv aL.v a nL b
h? a b:=fq Te a b
eX:=.a3
gC a:=(a).toNat
j1 a:=λ H3 s3=>a
dk:=cP a6
dl:=mi hx
AB:=GW x
fh:=.free
k4 a b c:=aj a H2->bc b H2->c
dX a b:=f6 a i! b
jb:=by rw[dP hU _];dsimp only
er a:=ag a
j2 a:=(a:a4)
d!:=sx a!
ia:=ed Hp
GX a:=wipe a vs
GY a b:=r8 (a b)
ev a:=nK ["at"] a
Ou a:=GY r! a
e9 a b:=bm a ab b
AC a:=da (lo+a)
Ow a:=GV a c8._auto_1
AE a:=.Nq elt [a] c! ax
pQ a b:=(a).map b
mn:=sq s H0 su cl C
dZ:=by cases rx
dp:=k+1
sy a:=U0 _ a
gD:=nA a4
j3 a:=bE a e
ez a b:=by rw[a];exact b
g5:=Ou s4
eA:=i_ Z Obj
gG a b:=by exact a b
j5 a b c:=λ a H2 s2 b=>c
eY:=bC a
AG a:=a<rM
eE:=cP px
pS a:=v9 q _ a
k5:=.vx
e5 a:=.int a
gJ:=.cell
eZ a:=pO (a:Y)
e6 a:=by obtain⟨t,rfl⟩:=a
fK a:=a b hb
fi a b:=eU a b
pT:=AC k
g6 a b c:=cJ Of (a A) b c
pV a:=aj a H'
eF a:=λ _=>a
pW:=pE (mc "dict") (.dict (vA []))
k8 a:=AA r9 a
j6:=i+1
pX a b:=a bb H1 b xs
eN:=.b?
jf a b c:=a b H2 (i5 s2) c
fN:=Ow (x==("__debug__":a6))
f9:=kZ gm e es
sA a b c:=a b=ad (.lst c)
ji a:=a=a3
sB:=nA a!
fO a:=kO a
ig b c:=λ a:b=>c
k_:=hO a
pY a b:=aL.v kU a j1 b
fj:=fr o Po
jk a b:=by exact absurd a b
jl a b:=by rw[k1 pr a b]
wa a b c:=λ a b s4 h=>c
mq:=mm fs
wb a b:=i6 (∀a,b) gv._auto_1
k!:=kv.1
ii a b c:=by rw[a]at b;cases c
sC:=mc "list"
il a:=λ H4 s4=>a
im:=bC b
jm b:=λ a H=>b
AH:=bI hV H b d kk
nN:=GX σ
j7:=bC a.1.1
sE a b c:=by intro al s σ H a b c
nO:=[ea,eb]
mt a b c:=λ a b _=>c
jn a:=.inr a
pZ b:=∃a,gp v/\b
k? a:=hW (a=a?)
io:=cP Key
wc a b:=foldedSetIterable a iW b
fl a:=ga a
fS:=i_ κ V
p4:=r9 s1
wd:=GL k3
f':=ef a i
G1:=dw g0 (ge gq bo)
mx a b:=j0 (X.N[a]?) b
sF a b c:=aE _ _ a b c
sG:=cu st
j9 a:=mj u (Po u) a
ip a b:=behindInMarks a b
AI a:=pI Mt.ccc a
ir a:=a _ _
nP a:=a=cv q
G2 a:=λ _ a=>trivial
iy a:=by simpa using a
j_ a b c:=λ a b c=>?_
jo:=by simp
j' a b:=by refine e! (a b)
nQ:=bQ->Hp->ed VK
p6 a:=a<=rM
sH a b c:=a l1 X.w b c
iF a:=a∈ns
iJ:=nI es
G3 a b c:=aT (a A) hr b pP c G2 _
jp a:=i? σ H (a::c?)
wf a b c:={a with rK:=b,toks:=c}
js a:=Mt.scalar a=a?
sK a b c:=by refine iR (a b e) c
nS:=Gl X
gS:=i_ Key V
wj a:=(a:Y)
f? a c:=λ b o a=>c
G4 a:=a (by decide)
gT a b c:=a σ H λ b H1=>c
j! a:=a<=rM
nT a:=fF bU a
AK a:=λ _ _=>a
AL a b c:=.Compare a [b] c ax
nW a b:=by exact a b
la:=.seq
lb:=kS dt
AM a b c:=sv l_ a j5 b hu c
g7:=a6->sB
AN a:=i_ a a!
sM a:=a hO d? fZ
wk a:=a nw
ju:=∀x,wipe AB (vM (·.2))=v8
iK:=kP _
wl a b c:=a mn b H elt c
jw a b:={a with rK:=b}
AO a b c:=z3 a b c
G8:=e4 "range"
my a:=h? a x
j?:=nz o
iL:=(b,d,kk)
kc a b c:=λ u a b e=>c
gU a b:=λ a b=>?_
iM a b c:=bp a b ee b2 f8 c
sP a:=pE sC a
iO a b c:=c6 a b ee b1 f8 c
iQ:=dc X.N Nj c! own
g8:=aa 3
iS a b:=l_ kU a b
p8 a b c:=a X al b c
G9 a:=so keywordEach a
lc a b:=G3 a b bA
wn a b c:=a b H1 (r5 _) c
p9:=j3 s4
ld a b c:=a _ _ _ b c
g9 a:=λ σ H Q=>a
mz b c:=dJ b a y c
mA a b c:=Bd.of a λ H1 s1 b n p=>c
gV:=V->V
jy a b:=fs.lookup a=ad b
ke:=by rw[sE Q I h]
wo a b c:=fo mb l1 X.w X.A a b c s
jB a:=a _ _ _ _
jC:=pS v?
kf c e f:=by obtain⟨⟨b,d,kk⟩,c,num,r⟩:=a;refine e hp f
sQ:=j4 X c! elt
mD:=ns.map iY
AQ a b c:=λ a H3 s3 h=>v9 b c h
iU a b c:=upd H a (.b c)
n0:=gC (hi - lo)
jE:=g3 MO
jG a b c:=by have a:b:=by simpa using c
iV:=.int
jH:=g4 ab
jK:=pL 1
wp:=e_ P w K mg ca
AS a:=pI Av a
p!:=n - 44032
G_ a b:=a (kP b)
jN a b:=gt BoolOp .a b
wq a b:=a (e? b)
n1 a:=GV a _L.gH._auto_1
sT a:=λ s H0 C cl fp=>a
sU a b:=bm a e b
n3:=fI v
n4 a:=(a).l!
G' a b:=a Nj b
jP a b c:=by refine ah (a b) c
p? a b c:=dE xs a b->c
wt a b c:=ae (a b ai c) ao
mE b:=pZ dQ a lst b
sV:=nG (e4 x p) gm
sX a:=Ft a
lf:=by have aQ:AH:=hR
kh:=hW (Gl X x)
kj:=sy e
kl a b c:=fo mb eO w A a b c s
G! a:=a=ps.length
n9 a:=MR a
G? a:=MS ax G9 a
n!:=kv.1
wu a:=a H2 s2
qa a b c:=k4 a (P b) c
wv a:=sH a bb g!
mF:=cP a4
mH a b:=a K H b xs
Hb a:=(false,nz a)
km b c:=AL a .b c
sZ a b c:=swapsWith a b c iW
kq a b:=MO a=ad b
qb:=G4 hr.mono
mJ a:=dQ a lst xs
ll a:=hY ["book","record"] a
s0 a b:=a λ kv=>b
jQ a:=a=ad v
AT a:=-(2^62)<=a
kt a b c:=a b aQ fe c
n? a:=AM r? u a
s_ a b:=λ H1 a=>b
s?:=fZ a
jR:=ad v
kw:=bC l
qc a b:=sw H a b
ww b c d:=∀b H1,hX (Po c H1->∃a,gp u/\d)
AU a b c:=.zU a b c
lm b:=mt a v (v=.bl b)
ky:=a5 N ps st
kA a:=f6 a v
Hc:=ma np ?_
qd a b:=a br s H0 b
qe a:=λ x=>a
jS a b:=(a).map b
AV:=gr V7 nr []
kB a b:=fq Tw a b
tc:=aQ.later s1
kC a:=by rw[ga a]
mK:=kZ [o] o []
wx a b c:=by rw[sK a rS λ z b c rel dd=>?_]
tp:=G_ MD _
wz a b:=λ a=>iY b
qf:=[eb]
oe a:=k8 pY Gq a
kD a b c:=Paired a b c
mL a:=a P w K mg
mN:=wb x (wc fa x=dV x)
tq a b c:=fo mb eO w a b c
mP:=d.book.props.getD k []
AW:=bC b6
qi a:=(a).toArray
kH a b:=a b aI aI hm
kI:=eP y u
ln a:=a5 ["number"] ["number"] a
lp:=pD M?
lr:=ef b j
mQ a:=by refine bg (e8 a d8 ?_);rw[e];rw[dP ma np]
kJ:=cP α
mS a b:=upd a z b
ls:=AG bL
mT:=PG sq s H su cl C mk (dC i)
lu:=pL 2
lv:=fr fa Po
lw:=F1+1<vI
lx a b c:=a b H4 (r! s4) c
mZ a b c:=a sq s H su cl C b c
AY a b:=gt Mz a b
ly a b c:=fr a λ b H=>c
m1:=bQ->ia
og:=sM RQ
tr a:=pQ a f
Hd a b c:=if a=a? then b else c
lz:=α->bD
ts:=cA g? 0 lo
qj:=eg hV a.1 H
kL a b:=λ x a H Q=>b
kM a b c:=λ _ a b=>c
He:=lo+hi
lB:=g i j
oh a:=show a by decide
lC:=kS α
qk:=by refine aG cM gl Hc
Hf:=No y=ad .local
lF a b c:=by refine a;subst b c
lH:=nA Z
lI a:=by rw[kO a]
m2 a b c:=a σ H1 λ b H2=>c
tu a:=h_ a ao
Hh:=wl aB AB (f x)
oi:=by subst hv;rw[jb]
lJ:=α->bQ
wA:=wn q _ v?
wB a b c:=af _ a (b c)
ql a b c:=aE a H I b c
tz a:=a eW
wC a b c:=by rw[h! a b λ aF c pl hz=>?_]
m3:=V8 y=ad c
Hi a b:=AO a nr b
kN:=aa 4
oj:=nI []
lO:=pV H
lQ a:=by exact a
lR:=b7 aq k
Hk:=G! us.length
Ox a:=wt nT eW a G1
wE a b:=λ a H2=>b
wG:=bC z
tA:=bC f
tB:=da i
om a b:=wo a p8 b σ Q l2
tC a:=∃q,nP u/\a
qm:=(n,k)
Hl:=rN (ps.zip us)
m4 a b c:=a (b λ n=>.bl (c n))
m5:=pD V
Hm:=cW k_
m6 a b c:=wpAny_mono a b c
m7 b c:=aE a b ab h1 c
on a:=a (t':=zM)
wI:=e4 "self"
qn:=GM s1
oo a b:=by refine a;exact b
m8:=Array a!
Hn a:=AE #[mk,fa,a,0]
Hr a:=a=ps.length
m_ a:=aj H1 H2->a
wL a b:=gr zI a b
A0:=ad gJ
Hs:=lo+wj k
wM:=.function
Hu:=gq hb
wN a b c:=a K b fY st c fd
wO:=pP el
A1 a b c:=iC eL P w K mg ca N fY (aA st) a b c
m?:=cP Env
na a:=ad (vN a)
nb:=sa vN
A2:=A.deeper (envOfC fY (aA st) b6 f aK)
oq a b:=gk p4 λ a H2 s2 e=>b
or a b:=be (ff a s1 H1 _ I1 q1) b
ot:=V->nQ
nc:=j2 n
ne:=V->b!
tE a:=x=cv a
wP a:=a hV
qp:=wu q
wQ a b c:=λ a H1 _ b=>c
nf:=He/2
ow:=Vf _ ab
ox a b e:=a (jM hV b (λ d r=>e))
oy a b:=a5 a ["numbers"] b
oA a b c:=by exact sF a wa d1 H4 b wa v H4 c
oB a:=by exact ma iY a
qr:=bC p
oC:=bC D
Hv:=by simp
A4 a b:=λ a b=>?_
wS:=Ox el
Hw a b c:=a mb l1 X.w X.A b c
qt:=sq s3 H3 ce
oD a:=a<b6
A5:=cA g? g? hi
tF a b c:=∀Q:VK,(∀a H2,b)->c
wT a:=(a).getD
ng:=p.1=k
oF a b:=by have:=a;exact b cs
tG:=sX pW
wU a:=.lV (G8 p1) a [] p2
Hx a b:=a b (r8 s3)
Hz a b c:=#[a "default",b,c]
oH:=iP cG v1
oI:=gA e
wV:=k5 "max"
oK a:=pX aJ a
tJ a b c:=bm a b λ H2 s2=>c
w1:=.Tuple es x1 hJ
qu:=kv.2
tL:=AE #[tg,fa,ifs,0]
w3:=mb eO w
oL:=hM aq k v
A7 a b:=by cases x with|a?=>exact i' a|false=>exact jU b
qv:=i6 (X.fn y=a?\/Hf) sL._auto_1
oM a:=by exact .inr a
oN:=AK True
oO a:=nW bg a
ni:=j+1
A9 a b:=pE a (.fields (vA b))
qw:=mx i y
qx:=i6 G' Loc y sR._auto_1
qy:=cP b!
tS a b:=aE AW _ a ab b
oP:=nA V
oQ a:=H1 a=a3
oR:=bX k X.A
w4 a b:=a b d1 H2
A_ a:=λ H2 s2=>a
qz:=∀a,Hr Hm
qB:=by obtain⟨hR,hk⟩:=hp;dsimp only at hR hk
qC a:=mj vs (PL vs) a
qE a b c:=by rw[b5 (ah (r_ hv) au u a b) c]
oS:=x=false
oU:=cG k
o0 a b:=a Pr w b mg
qF a b:=Pv a H->b
o1 a b:=vO a b
tT a:=bE s2 a
o2 b:=λ a v H=>b
tW:=p? k x Hh
qG a b:=wv a vQ k x b
w6 a:=pQ a wz k Hs
w7 a b c:=iG a b ee b3 f8 c
qH b c d:=by rw[eq b au a c h1 d]
qI:=wf s h' tk
qK a:=wq e? a
qL a b c:=∀p,H a=a3->Q bC b c
qM:=Hk->bindArgs (WN x fY (jr st) sG (aA st) eX kV doc pm an aK ct) #[us,[]]=Hl
A!:=sw H4 D (bd++[y])
A? a:=List.mem_cons_of_mem _ a
qN a b:=by unfold a;rw[cc b]
Oy a c d:=λ d1 H2=>a/\tt d1 H2 λ b H3=>Hd b (te d1 H3 λ y H4=>∃bd,sA H4 D bd/\AG acc.length/\c) d
HB a c d:=g x nN a Oy (GX d1=nN) c d
o3 a b c:=a (λ vs H1 s1 hv b q=>c) hg fe fe he a_
qO a b c:=λ a H' v x s b=>c
o4:=KV aq vs
tY a:=v9 q v a
qP a b:=be (ff a s H _ I h) b
qS a:=nG (a p) [o]
HC b c d:=Rn b (start c (hO d)) H sG s?
qZ a:=a z=ad mq
w9 a:=(a).elim
Bb:=.type
Bf a:=λ z=>a
Oz a:=a F.plain_max_loop _
Bg:=sw H1 D []
w!:=sw H2 D []
q4:=fq fB gm PL
q5:=AN Key
q6:=AS x
q7 a:=AY o a
tZ a:=FP a
HD a:=a H2 (i5 s2)
t0:=g3 h2.get?
o5:=(b,d)
o7 a:=a H4 s4
o!:=jc _
w? a:=a==VT
xa a b:=by rintro H'⟨a,b⟩
q_:=pD Y
q!:=fq eM es vs
OA a b c:=a (vs:=vM (·.2)) (σ:=σ) (b:=λ c=>Q bC D H')
xb a b c:=a (vM (·.2)) σ b c
Bj a b c:=b8 _ dx a Hu Of b c
q? a b:=∀H2,aj a H2->b
Bk:=kS Y
ra:=j2 v1
rb a:=f6 o a
rc:=ji (g! "range")
re:=he s H0 C cl
HE:=λ _ _=>Hv
HF:=G? [Hz dL d kp]
OB a:=Nf (a pW) nr
t3:=ww u u pX aC a
xd a:=.zU a
rg:=FU a
t4 a b c:=EP X al σ a b c
xf:=wm X c! c
rh:=ad im
OC:=nS "range"
xh a b c:=fE a b c ?_ ?_
t5 a:=IntsAre a ns
rj a b:=a ca eL b f
t6:=Hn []
xj a:=a el ai G1
rl:=false=a?
t7:=gA sV
t8:=gf pC qf [Hb eb]
rm a:=(a).GB t
rn a b c:=nB X σ z a dx ns H b c
t9:=sP (la gY n)
t_ a b:=by rw[jk (show a from b) MQ]
xk a:=λ k H'=>pV H2/\sA H' D tr a
Bl:=vN dR
Bm a:=atKey a k
t!:=jn ab
Bs:=d? a H1
HG a b c:=dw wB (l? gq a) b c
Bt a b c:=by exact a b H' (r8 s3) il e9 c p9
rp:=(1:a4)
xl:=I.tok _
t?:=bE s h
rq a:=sU o a
rC:=dO bb C
xo a:=bE s5 a
rD:=cq ho ao he
ub:=#[cS hD,aX]
rF:=fW A hr
uc:=hW OC
ue a:=p v a g5 h
uf a:=a5 ["scalar"] ["scalar"] a
ug a:=λ D hD=>a
Bu:=bC I
xp:=ad x
uh a b c:=λ a H1 I1 b q1=>c
rG a:=λ _ r=>a
ui:=s0 aq.any bG (k!=k)
HH a b:=a5 a ["book","scalar"] b
uj:=wd 2 dR
Bv a:=kU n4 ee a
uk a b c:=by rw[h! a b λ aF rv c _=>?_]
Bw:=i! _
xq a b:=by simp[a,List.find?_cons,b]
ul a b:=by rw[ii My a b]
um:=i6 (zE<=rM) kY._auto_1
un a b:=nG (a gZ) b
uo:=(a==Gg)=false
OE a b c:=notedBy mb eO a A env λ b s'=>R (.error c) s'
xr:=i? a2 H1 c?
xx a:=∀y∈nr,a
ur:=q _ H2 s2 v?
ut:=lT e
rH:=dN l
uu:=Hx q H3
uv:=pL 3
xy:=HC (qd A1 f aK A E).jh N a
uw a b:=by have a:=gc;subst b
ux a b c:=fr a λ b H=>c
xz:=VL _
uy:=fs.lookup m=a3
uz:=AI y
uA:=A.units+1<vI
uD:=f pT
uE:=t pT
uH:=pD Fv
HI:=wk v0
uI:=k<n0
uJ:=A.handled=a3
uM:=pI sm n
OI a:=vA a
uO:=wk Au
uP:=my a
xA a b c:=tq A a b OE w e e c
OJ:=Hi (l3+1) AV
OL:=cP Keyword
Bz:=Mu k
uR a b c:=aO a λ ar b hv c ty=>?_
uT:=by simpa using hx
xC a:=sF a AQ a2 n a2 AQ v p v
xD b:=bX k A2->d? a H->b
uW:=cP FV
uX:=nA a7
uY:=AK nl
u1 a:=Mu a
HJ:=AT hi
u2:=r8 s3
OM:=FU b
HL a b:=show a=b by simp
u3:=cP (io×Z×a!)
u4 b:=_R H a (.b aq)
HN a:=a nw k n
BA a b:=sa λ a=>b
u5:=dS P w H h
BB b c:=aZ a ab b c
BD:=_E.lexLe ns ms
HQ a b c:=xI a fY st b w c mg ca e
xE a b c:=by refine ah (hx _ H3 db (a H3 s3)) au a' b c;cases e;exact h
u6 a b:=∀a∈fp,b
HR:=NE k
xG b c d:=ah b λ a c h=>d
xH a:=hY ["book","record","scalar"] a
xK:=GW pT
u7 a b c:=tH a d7 b bA er c
u8:=kO e
u9:=mi cg
HS:=Y×Y
u! a:=(_:a4)==a
u? a b:=rS a _ b
va:=KT H aq xs
vb:=xs.map f
xL a c d:=by cases(show u=OM from a);rw[wx c hd d]
xM b c d:=by rw[eq jf hx u GA au a b c d]
BE a:=(a).isSome
HT:=hi<2^62
xN a b:=a _ ab b
vc:=a::b::c?
xO:=gh wA
vd a b c:=λ a H2 I2 b q2=>c
ve a:=∀H2,a
xP:=λ _ _ _ _ _=>oV
vf a:=Tw.te a
xQ a:=.bool a
vg:=ad i
vh:=Z×bR
vi a b:=call a b
xR a:=λ H3 s3=>a
vj:=nX [] aq
vm a:=∀b o,a
xT:=k? (vs.all ib)
xU:=Hw PassesOwn iW l2
HU a:=by rw[j' Wx a]
xV a b c:=fo mb l1 X.w A a b c s
xX a b:=aT (ml A) hr a (ae cO tu b) HE
vn:=.bn
vp a:=Q a s'
vq a:=Pv j6 a
vr:=ek::[e]
HV a b c:=Va a b (zO c)
BF:=A5 - ts
xY a:=∃f fd,a/\wN gd x f
BI:=by simp only[jV]<;>omega
OO a b:=a5 a ["units","place"] b
HW a b:=a5 a ["self","scalar"] b
xZ a b c:=de X n9 a (jx λ b j=>.bl c)
BJ c d e:=by obtain⟨⟨b,c,kk⟩,d,e⟩:=a
x0 a:=Q bC b6 a
x2:=gG Int.lt_of_not_ge h0
BL a b:=by exact Go a b
vt:=[b,c]
vw:=x::r
x4 a:=by rw[jV,<-a]
x5:=wf s h2 tk
x6:=tz (gz 9)
x7:=by rw[GJ];simp
x8:=jj hV H a.1.1 md
x9:=gz 2 m==gz 2 n
HX a:=by rw[hE,a]
x_:=Y->lb
OP a:=j! (bL+a)
BM a:=h_ a wO
x! a b c:=by refine l_ (r? s1) λ u a b c=>?_
x?:=p6 pp
HY a b c:=AE #[mk,a (G8 p1) b [] p2,c,0]
HZ:=HD yq
ya a b:=by subst ex;obtain rfl:a:=b
ye:=by rw[GJ]
yf:=dQ b dM (k.map kV)
BN:=by have bF:=r'.length
yg a b:=a5 a ["self"] b
yh:=bE s4 bE s3 hb
yj:=fz H1 s
H_ a:=a&&sc.kind==wM&&F2 n==A0
ym:=wP (wp 1)
yr:=dQ a dK aq
yt:=dQ a dT aq
yu a b c:=if a then(k!,b)else c
OR a c d:=∃Nx:ia,(∀H',Nx H'->∃m',m'<m/\W j6 m' H')/\∀a H',c i H d H'->HB H' (Nx A!) (Nx H3)
yx:=v4 7
yy:=v4 8
yz:=V->gD->gD->Hp->ed VK
yA:=AN κ
yC:=mg x=ad tA
yD a b c:={a with rK:=b,toks:=c}
yE:=by exact True.intro
yF a b c:=by rintro a b H' hk⟨s3,c⟩
H! a b:=gt UnaryOp .a b
H?:=AI n
yG a:=qc p a
yH:=At dy
yI:=OI []
yN a b c:=h H (r5 a) b c
yO a b c:=a (f_ eO w) b c
yQ:=fr e Py
yR a b:=by exact a b hz hn
yS:=s_ s1 (h H1 (Ab s1))
yT:=fs.map (·.1)
yU a b c:=eU (a aI b) c
Ia a:=show a by decide
yV:=mc "tuple"
yX a b:=.Slice a b a3 p2
yY a:=((a:Y):a4)
yZ:=i<=bL
Id:=Gx s3
y0:=i4 b o q1 e
y1 a b c:=uU (a hc) hm b c
y2:=bG (i=j)
BQ:=bs.map np
y3:=eW==n
BR:=wb x (wc wU nO x=dV x)
y4:=bs.getD i i0
y5 a:=Nz a k
y6:=Binds K fd ps []
y8:=gP tB vs
y9 a b:=Bf (a (b z))
BS a:=λ k a2 H'=>a
y_ a:=qo lo a t f
BT:=OB Ft
y! a b c:=show a=b from c
y? a:=a<rM
Ie a:=by simp[dN,a]
za a:=gk ab a
BV a:=pI a l
BW a b c:=ah a λ b h q=>c
zb:=.vx id
zf:=r! s4
zh:=bS o td
BX:=y.2=fh
zj a:=eval a env
BY:=gf pC nO [Hb ea,v! eb]
zk:=#[_,rfl]
zl:=ga e
zm a:=ib a=a?
BZ:=v+dy
B1 a b c:=λ vs a b hv=>c
B2 a:=kc H1 s1 a
zn:=cA n 0 lo
B4:=j9 tC (aC bb H1 q mD)
B5:=V.ref a
zo:=g_ xs lo hi
zp a:=bE s3 a
zq a b:=aY bT a b
B9 a:=gf sZ a ad (e4 z pz) i7.line dV a?
Ig a b c:=OA (a (tt:=b) (c:=sQ)) Qd H'
B_ a b c:=eI (hw _) a sT ((b fp k hk).l! db) c
OS b c d:=∀u y H1,hX (bc (Po u) H1->bc (Py y) H1->∃a b,gp u/\mz H1 c/\d)
B! b c d:=b (RQ ig (BK×HS) [j7,Bl,vN cd] jm c d)
zr a:=λ fs=>a
zt:=ad e
Ii:=xw rS eb
zv:=b∉wr
zw a b:=λ a hb=>b
B?:=Ow (x==("__classdict__":a6))
Ca b d e:=b (RQ ig (d×Y) [j7,vN d2] jm qj e)
Cb:=n1 ip .Eq b
zy a:=λ _=>a
zA a:=i! (!a)
Cf a:=HH ["book","scalar"] a
Cg a:=OO ["units","place"] a
Ch a b:=by rw[A7 a b]
Ci a b c:=gf nz a (do let ov<-j?;standAt apos.atName;let(f,first)<-b;callWith ax f first nE c G? [])
Cl:=j0 (rJ "max") wV
Cp a:=by refine e? #[Oz WD,a]
Cq:=by rw[jV,jV]
Cr:=nG AU o m gZ gm
Ct a e f:=by obtain⟨⟨a,e,kk⟩,n⟩:=f;have hR:AH:=hp;rw[dP hU _]
Cv:=dC i
Cw a:=AA r? a
CA a b c:=bc a H1->Bd X (σ'.set i ad b) H1 eV wE d1 w4 J c P
CB a b:=i6 G' a b wD._auto_1
Ij a b:=a5 a ["signs","begin","place"] b
CC:=j0 (No z) .local
CD a b c:=by refine bg (e8 a wQ v h ?_);show cT H1 v b;unfold c
Il:=λ _ _ q=>sy q
OT a b c:=∃W:Y->Bk,(∃m,a 0 m Bg)/\∀i m H,W i m H->b\/c
CE a b c:=mA (aP (a b mC) fJ) D c
CF:=q _ tp
CG a b:=by simp only[z1,a]at b
OU a b:=a5 a ["self","w","text"] b
CH:=qa H1 v n3
CI:=HQ N P K
CJ a b c:=by rw[eq nt au p a b c]
zD:=sS 0
CK a:=jp (.For mk a eV [] ax)
CL:=wd 3 cd
CM:=wd 3 dR
CN a b c:=∃P',a b H1 P'/\∀v H2,aj H1 H2->P' c H2->P v H2
Im a b:=a5 a ["numbers","at"] b
CO:=hW (nS "max")
CP:=e! (m:=Builtin.Tuple.tupleExact _)
Io a b c:=by refine .inr (eI a (Pv j6) b j_ x H' c);obtain⟨e,y⟩:=y
CR:=A? h1
CS a:=i6 (a≠"__name__") c8._auto_1
CT a:=by rw[Ag];exact a
CV:=H1 b=ad mq
CW a b c:=by refine zg (I.yk hH) λ z aF a b hl c=>?_
CX a:=.po [e4 z pz] a i7
CY a b c:=Np w3 a b c s
CZ:=fq eM nO [da lo,e5 hi]
C1 a b c:=rJ a=ad (.b c)
C2:=js eW
OW a:=rN (ForInStep.yield a)
C3:=fW A qb
C6:=fg Bs
C7:=by exact ME h1
Iq a b:=by rw[hE,a]at b
C9 a b c:=by rw[a,b,c,nu]
Ir:=kU h0.later
C_ a b c:=be (ff a s2 b _ I2 q2) c
C' a b c:=fg (∀a:kS b!,b->c)
C! a b c:=Vl a b iW c
Is a b c:=∃(a:Z)(b:mF),c
C?:=gz 3 m==gz 3 n
Da a:=z6 a
Db a:=by simp only[a,Ms]
Dc a b c:=by obtain⟨aF,a,pl,b⟩:=c
Dg:=p6 FC
Di:=[w1]
Dj:=by rw[hE]
Dk a:=by rw[jY]at a
Dl:=HN Mt.apart
OY:=gb bL bL hi
Dn a:=backTo ka pC a
Do:=fz H' s'
Dq a b:=a b (At dy)
OZ:=gb bL 0 lo
Ds a b c:=by(have e:i=a:=by exact sW hi a8);subst e;exact .inl #[b,c]
Iu a b c:=a b c (vA [u,q.2])
Dt a:=a5 ["kind"] ["kind"] a
Dv a:=M' a=a?
Dw:=fz H s'
Dx:=FP h
Dz:=AG pp
DC:=wp 3 hV
DE a b:=by exact w9 (show a from b)
DF b c d:=∃a b,gp v/\c/\d
DG:=AT lo/\lo<2^62/\HJ/\HT
Iw:=(tc).parts
DH:=tupleKind (f_ P w)
DI:=g3 zR
O0 a:=Vu l a
DJ a b c:=eU (a b aI aI) c
DM b c:=.Compare a b c ax
DO a:=by exact e? a
DP:=HI 12
DQ a:=by exact e! a
DR a b:=qi ((a).take b)
Ix a c d:=OT W ((a).stop i H/\Qd H) ((c).go i H/\OR x d x)
DS a b c:=by rintro a H' hk⟨b,c⟩
DT:=AI x
DU:=fq fB es PL
DW b c d:=∀b:ed α,(∀c,d->U a)->U a
Iy a b c:=fE a gG pq b ab c p'
DY:=by unfold Od
Iz a b:=a (e! b)
DZ a b c:=cy (i:=i) hN a b c
D1 a b c:=a b _ (I.tok _) c
O2:=NY "max"
IB:=GK=0
D2:=#[r! s4,h]
IC a b:=if v<0 then a else b
D3:=cG GF
D4:=gh ?_
D5:=MX _
D6 a b c:=Bd X σ a b c P
D8 a b c:=aO a λ a0 Jm b c u_=>?_
D9:=PA X gm t
ID:=(HR).Bq
D_:=0<zW
D':=r.to.headD 0
D! a b:=Mt.byKind a b
D? a b:=a fH.extBut b
Ea:=i_ TE TE
Eb:=e4 x ax
Ec:=ad wG
Ed:=mH aJ a
Ee:=(fK tD).1
Ef a b c:=aE a H2 b c q2
Eg:=a4->a4->b!
IE:=l7 a2 H2
Eh a:=Av B a
Ej a:=bc (a 0 σ) H
El:=r H1 s1 Q q
Em:=(fK f3).1
Eo a:=g! a=a3
Ep:=e4 y py
Er:=pO (0:Y)
Es:=ji (g! "max")
Ew:=p!%28
Ex:=p!%28
Ey:=fw P w H h
Ez:=Bm xs
EA a b c:=a h b hb bF c
EB:=zY hc
EC a:=(a:aN)
IG:=N7 k
ED:=fO hk
EE a:=_B.kr a hk
EF a:=binaryOp a
EG a b c:=λ a H1 b r1 c=>?_
EJ a b c:=λ o a b c hd=>?_
EK a b c:=λ a e2 b c=>?_
EM:=λ f0 f1 f2 f3 f4 f5=>?_
EN:=qm::r
EO:=A4 p hp
EQ:=Sem b!
ER a:=np (!(a==[]))
ES a:=j_ j a e
ET:=lo+(wj i)*c
EU a b c:=by rw[wC a hq r,<-b (kK x) c (λ w hw=>E9 rx fx r fs w iy hw) ql Bw ab ?_];rw[HL (aF.toArray.any (kK x)) (aF.any (kK x)),HP r fs];exact q
EV a c d:=a (λ b c hb e=>d) f0 f1 f3 f4 f5
EW:=C4 lo c n
EX:=hp H1 s1
EY:=(0:Y)
EZ:=(2:a4)
E1 a:=.tuple a
E5:=bC sl
E6:=da (0+k)
E7:=zH (g:=dC i)
E_ a b:=by rw[a,b]
E!:=xs++[v]
IH a b c:=by rw[jb,aG (a:=vk) (cN (cN (cQ bA dw Bj fs A.bj.wW b) el dw g0 (l? gq wK)) cO HG rA b_ k9) s_ s1 (gn c _ _ _ _ s1 hL)]
E?:=b::c?
Fa a:=λ l hl=>a
Fb:=g4 e
Fc a:=(a).ph
IK:=da m
Fd:=.type T
IL:=Key×V
IN a b c:=by rw[dP Ww F.entry_max_loop];rw[Oz NP];rw[jl (seqItems? bC S>>=_) s,cc (Wy a ab ?_),jl (tryCatch (pyNext Bu) b>>=_) c]
IO:=q.1=k
Fe:=kV n!
Fh:=b7 aq j
Fi:=rX y x
IR:=HY .lV nO [c]
IS a b c:=fi (G7 a aI (zc aI) b) n? pY hl.later #[i,rfl,c]
IT a b:=a b w! l3 OJ fp
O4 a b c:=g6 a hr b bA fb sn c ab dw tc
IW:=Hi (b6+1) AV
IX b c:=OS b c (r.isSome=z)
Fk:=q::qs
IY:=H_ w? k₀
I0 a:=sZ a ad AU (wI p1) f p2 p3.line=dV i0
I_:=by rw[xa s3 e];rw[List.take_length]at e;rw[Bt q _ D]
I! a b c:=jw a (UZ A9 (b "slice") c)
I? a b d:=OA (a (b:=xf) (d:=sQ)) Qd H'
Ja a:=hY ["book","record","scalar","part"] a
Jb a:=OU ["self","w","text","refused"] a
Jc a b:=by rw[qk];revert a;cases b<;>simp
Fn:=8 - k
Je a b c:=by refine bm (λ i m H=>m=a - i/\b/\Pv i H) (aZ c jo (Gb _) h0) ?_
Jf b c d:=∀b H1,hX (sA H1 c d->i? (Gu j ad eY) H1 c?)
Jg:=gh tJ x p4 qp
Jh a:=by simp only[jX,jZ]at a
Jj a b c:=by rw[HU a];have b:=i4 c _ offS tM
Jk a b c:=iC eL P w K a ca ["self","row","classes","place","scalar"] "Book.in_order" (aA n8) b aK c
Jl:=lc JG n
Jq:=.po [AU (wI p1) f p2] e p3::r
Jr a:=HW ["self","scalar"] a
O9 a:=by rw[ke,<-UF a]
Js b c d:=by rw[b5 (aO (hx u y H3 db hu (hy.later s3)) λ a b c h1 h2=>?_) d]
Jt:=w6 Bz
Ju a b c:=by refine i' (bm a sT (b (i5 g5)) λ H5 c=>xh _ xo p9 ?_)
Jv:=HV _ _ q2
Jw a:=(a,c)∈AO vK c9 bd
Jx:=mS (upd H1 dx (.own z)) mm []
O_ a b:=a5 a ["self","kind","scalar"] b
O' a b:=a5 a ["book","ways","scalar"] b
O! a b c:=zK (a:=b6) (o:=.b c)
Jy a b c:=mL a ca b C c og
Jz a b:=w7 A.bj.MG a b
JA a b c:=tE l/\a/\mJ l/\b/\OP zs.length/\c
O?:=vL y=ad fh
JB:=pQ BA n H? vN
JC:=λ b ob q=>sy q
JD:=hx u H3 db Id
JE:=OY - OZ
JF a b:=by rw[zN];exact a b
JI a b c:=by rw[jV];exact a b c
JJ:=Bv hb
JK a b:=UQ a b 1
JL a b c:=a (cN g8 b A_ (af rs HZ (b_ mh))) ai A_ g0 (ge tT gq c)
JP a b c:=mA (aP (xS (i:=j) hc hN hz nM mo (a aI) ok hg b pU hs) fJ) D c
JT a b c:=List.length_filter_le a (b c)
JU b c d:=∃a b,gp x/\mz H2 c/\d
JV b c d:=by rw[b5 (aO h λ a b c hs q=>?_) d]
JW:=O0 gY
JX:=items.toList.drop (cA g? 0 lo)
JY c d e:=by obtain⟨⟨b,c⟩,d,e⟩:=a
JZ a b:=a5 a ["self","row"] b
J0:=AS eW
J1:=jf hx u hu
J2 a:=a (z6 e)
J3 a b c:=(a).all qe (!x.1)&&(b).all qe BE x.1&&bG ((c).length+cW ([]:OL)+(if([]:OL).isEmpty then 0 else 1)<30)
J4:=Ie GR
J6 a:=ld VX _ a
J7 a b c:=zK (a:=zM) (o:=.b c)
J8 a b c:=by refine a (NI hu) Ii b c ?_
J9 a b c:=FB (a b) c
J_:=wT (VN n) 0
J' a b c:=s.heap.IsSliceOf sl a b c
Pc a:=(O2++NY ".loop":a)="max.loop"
Pe a:=a (gb bL 0 lo)
J! a:=i6 a oG._auto_1
J? b c d:=fg tF v k4 H1 (λ H=>mE b) n3 xb (mB (c bb (aL X fa)) (dC i) d sQ) H1 Q
Kb:=d.book.maps.getD k []
Kd a b c:=Walks eO w pr a fp wr b c St
Kf a b c:=q a _ (r8 (r! (cS b))) c
Kg a:=by obtain⟨t',rfl⟩:=a
Kh a:=by rw[rV]at a
Ki a:=by simpa[vH]using a
Kj a b c:=Wy a b (e? c)
Pg:=mc "list_iterator"
Kl:=sx Result
Km a:=by rw[<-a];exact hi.numsOf
Kn:=vN (gz 0 (eR x))
Ph:=F' e iW whole
Kq:=p6 bL
Kr a:=MO b=ad a
Ks a:=CmpOf eO w pr a
Kt:=H! Not a
Kv a b c:=VM I ds _ a b c
Kw a:=by simp only[a,o?]
Kx a:=by rw[jY,a]
KA a b:=U! a (FH b)
KB:=On dy
KC a b c:=∃a,zR b=ad c
KD:=wL c9 bd
Pi a b:=if k==fh then a else b
KE a c d:=λ b o q1 q2 e=>a b o q1 c d
KF:=WD pH _
KG a c d:=P (Aa bt (n - 1)) a->(∀b o,c)->d
KI:=Value.type "tuple"
KK:=ME h
KL:=G4 kO
KM:=nq (pi e)
KN a b c:=aE a b gc g4 c bF
KO a b c:=if t a=a? then b else c
KP a b c:=by refine(aE .cz _ (I.NJ (its':=a) hH e jo b ?_) ab c)
KQ a:=by exact False.elim a
KR a:=Gu i ad a
KS a b:=ld Wk.frame a b
KX:=pI Mt.full eW
KZ:=wE x (yp X c? D (Gu j xp) H2)
K1:=FM lo hi a3 n
K2 a b c:=a b (e! c)
K4 a:=a Mt.scalar=a?
K5 a b c:=if(bH a)then b else c
K7 a b c:=I.write (a:=b) (e:=c)
K9 a b c:=a (b:=l1) (w:=c)
K':=Ot n !=0
K!:=Cm qX hm dU rO d4
K? a:=Walks.list (A:=a)
Lc a:=apos.endLine==a
Le:=vM (·.1)
Lf a b:=vC a b
Lg a b c:=∃f fd,a/\b fY c f fd
Li:=#[fe,by decide]
Lk a b:=gr env.cells a b
Ll a b:=wpAny_field a b
Lm:=Gb _
Ln:=mb l1 X.w
Lp:=k5 "sum"
Lq a b c:=bm a b λ H3 s3=>c
Lr:=ir IsTup.new
Lt:=sT (Jd (KW s H0 C cl fp))
Lv a:=nq a
Lw a:=PI X tg fa a
Lx:=min v.toNat n
Ly a b:={a with rK:=b}
Pj a b c:=λ(kv:a)(r:b)=>n!=c/\cT H qu r.to
Lz a:=xs.all a=a?
LA:=ed aN
LC a:=#[a,rfl,e? h]
LD a b:=λ _ a=>nomatch b
LE:=hc.later s1
LF:=Y×nv
LG:=i<bL
LH:=Bb "list"
LI a:=bL=a
LK a:=a (y:=false)
LL a b c:=gk a λ b H2 _ c=>h
LM:=Ae s1
LN:=Aa bt j
LP a:=aZ _ a ab ab
LQ:=mU (cu n8)
LR a b c:=gn (gn a) b _ _ _ s c
Pk:=r5 _
LT:=Y->b!
LV:=ks.map kV
LW:=bs.all id
LX:=bs.any id
L0 a b c:=λ a h3 b c A6=>?_
L1:=start N (wG::k_)
L2:=bE s h1
L3:=A4 H4 s4
L7 a:=b_ (a:=0)
L' b:=fZ a b
L!:=eR (vN n)
L?:=aL X e
Ma:=xs++zs
Mb:=xs++ys
Me:=bC t
Mh:=o9 lo n
Mj:=v::vs
Mm:=l==[]
Mn:=kV k
Mp:=h2 l
Mq:=dN m
Pl b c d:=BB #[xs,fk] ug (Ig (b (xs:=xs) (g:=Cv)) kd te xk IG ub (λ k H' _ c=>bq d λ s3 _=>dW H' s3) ?_ ?_)
Mr:=aa 6
Pm a:=O4 a (iL,eW) wS
Pn a b c:=g6 z4 hr a bA fb sn h_ b wS ab dw #[Iw,c]
Pp a b c:=g6 a qb b bA fb sk BM A.g.Ky ab dw #[qn,oh c]
Pq a b c:=by refine bg (e8 (aY tf (iu F0 bA ai jo) ai) d8 ?_);rw[e];rw[dP ma iY];have h:=a;rw[Ia b]at h;rw[h];unfold c;norm_cast
Ps a b c:=by rw[Io (cD xs (xs[a]) q (by simp[a8])) (λ H' p'=>Iy (bL - j6) a8 a8) y];subst e;exact hs i b _ (c xs q) p
Pu c e f:=by rw[kf v bW λ hR c _=>ah e au ar hv bo];dsimp only at hv bo;rw[oi,dP fF (bz 2 f) v1 xj bU]
Px a b c:=a (v:=cv ak) (cQ bA dw Bj fs A.bj.LZ b) el HG c b_ k9
PD:=su OJ l3
PF:=nF ((HF).any (·.1.isNone))
PH a:=k? ((HF).a (·.1.isSome))
PJ b c:=wpAny_Dict_empty tS (on O! a b [] Il iK (c gX I.Cy)) (h _ tp)
PK a b c:=oe xN (wY i j ab ab) (by cases a:lB with|a?=>exact i' (aL.v (hc.later db) il b)|false=>exact jU c)
PN:=OB UZ
PP a:=gf ((HF).filterMap (·.1)) [("default":a)]
PQ a b c:=by rw[dP Ww a];rw[b];rw[jl (pyNext Bu>>=_) s,cc c]
PR a b c:=by rw[wC a hq r',BN,b c BI (aE da FC H xl #[zM+1,by rw[jV,bF]] q)]
PU:=(tG).objs.size
PV a:=Ij ["signs","begin","place","back"] a
PX a:=O' ["book","ways","scalar","found"] a
PY a b c:=by have offS:a∉wr:=λ q=>tX (Wk.sub _ b);have c:Pc jT:=by decide
PZ a:=a5 ["self","w","columns","text","marks","refused","lines"] ["self","w","columns","text","marks"] a
P0:=xx (BX->∃c,Nl y.1=ad c)
P3:=mj a2 (J bL a2) xr
P4 a c d:=∃a H',Inv qt [] v8 H' s'/\tn i s'.heap/\(∀b∈fp,H' b=a3)/\W c d H'
P7 a c e:=g6 w8 hr (iL,a) bA fb (kU GM).cp c ab xR e
P8 a b c:=by rcases tZ fu with e1|a;(.rw[jk (b▸pi eo) xz]);.cases c
P! a:=O_ ["self","kind","scalar"] a
P?:=h1.push A9 Pg [kw,iV 0 0]
Qa a b c:=by subst ey;rw[wx uQ hd vs,<-a (si ry) b NG ?_];rw[<-ID,<-c];exact h _ xl
Qc a b c:=fi (a hc hg hm b dU hn d5 he a_) gh bm PL p4 B1 H2 s2 (jf hr vs hv c λ v H3 s3 hp=>tY hp)
Qg a:=hY ["book","record","flags"] a
Qi:=MU F.slot_list_extend g0 e F.entry_list_extend ir F.args_list_extend_2
Qj a b c:=comprehension tL c! iW a (newList b) i0 nz fa c
Qm a:=Hw compPost l2 use a oC l3
Qn a b:=a5 a ["book","text","units","first","behind"] b
Qo:=BF==g?
Qq a b:=by obtain⟨a,rfl⟩:=ML b
Qt:=by rw[HX Fx,BL ir UL hl]
Qv a b c:=by simp only at hc hd uC hd2;subst hc hd uC hd2;have i1:t5 aF.toArray.toList:=Mx r1;have i2:IntsAre kb.toArray.toList ms:=Mx r2;rw[oo a (show MX (_E.lexLe ns ms)≠Value.notImplemented/\t4 Q xQ BD s from(Fo qe (nomatch b) i! BD H c ab q))]
Qw:=AE #[F!,fa,ifs,0]
Qx:=concat_meets g0 ho g0 oY noFill_tuple_add seq_tuple_add
Qy e f g:=by rw[BJ d e n,<-bW f au hR hm hn,lf];dsimp only at hm g;rw[jb]
QA b c d:=by refine bg (e8 (iI b) wQ v c xG d e sU a ?_);rw[h];unfold WZ;dsimp only
QB a c d:=∀(j:Y)(a:Key×a!),dE prs j q->∃(b:Z)(u:a!),dE c j d/\Iu vy gX b/\bH (qY q.1 u)
QD:=λ _ _ _ _ _=>cy yW.nd ab jH t!
QE a:=Im ["numbers","at"] a
QG a c d:=by(have e':IO:=Wd e;have a:c=ad q.2:=by rw[xq d e']);rw[lN e,b];exact h2
QI a b c:=by rw[Iq Mw a];rw[<-M1];exact b c gG Nat.le_sub_one_of_lt hj
QJ:=Pj IL nv (At cG eW)
QM a b c:=a ab yW.nd eh el B2 (af av e (b gq gi)) f8 cr c
QN:=by rw[HX Mw]
QO a b c:=m2 td y Is l ns (tE l/\aC bb H2 l mD/\(ns=[]->fI y)/\(0<zW->∀m,iF a->(∀b,iF k->k<=c)->fI IK))
QS a b c:=∀(i:Y)(a:sf),b->mP[i]?=ad q->c
QU a:=Pi wL r ((a,wT (VN m) 0)::bd) wL r bd
QV b c d:=qO H b (aO c λ a aq e d p=>(aE a aq e t? (gs (λ _ _ q=>#[q.1,jB gN s q.2]) p)))
QY a b c:=forIn ifs a? λ a b=>Hd r (do let ok<-c;OW ok) OW r
Q0 a b c:=j9 (∃a xs,nP u/\pX aC q/\∀p,bc (P qr) sw H1 b c)
Q2:=s2.heap.push sP (.seq qi ([]:cx))
Q3 b c d:=RQ ig (BK×V×b) [j7,dR] jm c lm (d Ax cd.2)
Q6 a:=pS gl (by rw[a])
Q7 a:=pS gl (by rw[a])
Q8 a b c:=fg (∀a:Ends,(∀a2 H2,k4 H1 (b a2) IE)->(∀v H2,qa H1 v (D.rt v H2))->c)
Q9 a b c:=by by_cases e:p.1=j;(.rw[a,lN e,Ny,b]);.rw[c,ut,ih]
Q! a b:=a5 a ["numbers","at","before"] b
Q? a b:=a5 a ["desk","call","reader"] b
Ra a b c:=by obtain⟨t,rfl⟩:=Vz a;obtain⟨b,c⟩:=argBest_gt (numAt xs) (zX - 1)
Rc a b:=a5 a ["sheet","begin","end"] b
Rd:=Builtin.Builtins.bindParams "max" ["key","default"]
Re:=O?/\(Nn y=A0\/Nn y=ad fh)
Rf a b c:=V6 (by exact a b c)
Rg a b:=a5 a ["book","ways","text"] b
Rh a b c:=wb whole (Ph=(do let a<-whole;standAt e.pos;pw [b] (truthy c)))
Ri:=k? (Nat.ble (zW+1) 1000)
Rj a b c:=fi (a hc hN (b aI) ok hg xP pU hs) (c i ho hx hw hl he)
Rk a b c:=∀a,iF b->(∀y,iF y->y<=c)->k=m
Rm a:=jy ("name_count":a) (vN GK)
Rp a b c:=fg (∀a:m1,(∀b H2,k4 H1 (PL vs) fI vs)->c)
Rq a:=sP (la U8 a)
Rs a b c:=by simp only[FM,a,Option.getD_none,oh b,c]
Rt a:=nK ["at","x","y"] a
Rv a:=GV a Ei._auto_1
Rw:=OP FC
Ry:=by rw[ez zN hz]
Rz a b c:=by rcases a with b|c;(.exact I.ok.has _ g4 k);.exact I.ok.has _ jn k
RA a:=a->g3 s2.heap.get?->t0
RD a b:=by subst hv hy;obtain⟨x,hx⟩:∃a,r.to=[x]:=List.length_eq_one_iff.mp b
RE:=call_meetsIn Wp z! PySem.F.entry_dict_get bE PySem.F.args_dict_get_3 _
RF a b c:=a (b hd) (Nat.le_of_ble_eq_true c)
RJ a:=a5 ["first","second"] ["first","second"] a
RK:=ir PySem.F.args_tuple_add_2
RM:=s0 vs.any bG (k!=k)
RR a:=U? _ a ab
RS a b:=UO a b 1
RX b c d:=∃(b:Z)(c:qy),vs=[B5]/\aC K H a BQ/\Q i! d H
RY a b:=List.find?_cons_of_neg (p:=a) b
RZ a b:=List.find?_cons_of_pos (p:=a) b
R0:=Pe r.drop
R1 a b:=a5 a ["marks","begin"] b
R3 a:=bE Va a
R5 a:=by exact Vf _ a
R8:=Nl y=ad c
R9 a b c:=gk kU r.later λ us a b e=>c
R_ a:=subscriptTail_builtinR (x:=a)
R' a:=Iz wpAny_standAt a
R!:=wq N2 ?_
R? a b:=richCompare_meets_room (a:=b)
Sa a b c:=by obtain⟨t,e⟩:=(show∃t,u=a from r);subst e;exact b P w c t
Sc:=wT (Na n) 0
Sd a b c:=by show a;rw[Bool.or_false,z7,b,c]
Se a b c:=BW a v (b s H0 C cl fp H' (r5 _) Q c al s' I)
Sf:=Au k3 dR cd
Sg a:=MT a
Sh a b c:=by rw[a,hE,N?];exact r4 b c
Sk a b c:=kg X a (λ xs H Q=>∃b ys,xs=[qr]/\(aC bb H p ys\/aJ bb H p ys)/\c)
Sl:=∀H,qF bL (Qd H)
Sm a:=F2 y.1=ad a
Sr:=by apply List.map_congr_left
Su a:=List.mem_append_right _ a
Sv a:=NM a
Sx a:=typeLookup a "__getitem__"
Sy a:=F2 x=ad a
Sz b c d:=BB #[xs,hl] (b (xs:=xs) BS (pV H2/\bc (J k a2) H') #[Pk,Ir] (λ k a2 H' _ c=>bq d λ s3 _=>dW H' s3) ?_ ?_)
SA a b:=a b6=ad b
SB a b c:=bindArgs (WN "__init__" fY (jr st) (cu st) (aA st) eX a doc pm b c ct) #[us,[]]
SC:=bC l3
SD:=xd o "has_flag"
SE a:=a▸F3
SF:=UV "default"
SG:=cG zJ
SH:=k5 "list.append"
SI:=by rw[FT]at h
SK:=by rw[jV]
SL a:=scope.names.all λ y=>a
SM a:=rV h pE (mc "cell") a
SO a b c:=∃(aF:cx)(a:Y),bN xs aF/\b/\c
SQ:=G! zE
SS:=xd o "value"
ST a b c:=dw (fG (aQ.later s1) Ia (a<15) (jB jW s1 b) c)
SV:=b<F?
SW:=b6+1
SY a:=a (Wd e)
SZ:=GO nw Mt.STEPS n
S0:=F1+64<vI
S1:=(j2 i+(cG m)*1).toNat
S3:=v4 16
S4:=(n,V4)
S5 a:=WS K a
S9 a b c:=a fY b c ad around builtins
S_:=bs.map MX
S! c d e:=c a b d e n n2 dd kW sl lg ns ms
S? a:=W8 a
Ta a b c:=_B.Y' hR.dh hk (a:=Oe) (b:=c)
Tb:=h1.IsList l fT
Tc:=Lu X "list.extend"
Tf:=v4 0
Th:=v4 1
Ti:=v4 2
Tk a b c:=e! (wpAny_mono a b c)
Tl:=IC (max BZ 0) (min v dy)
Tm a:=U! p a
To a:=ga (by exact a)
Tp:=.IfExp c a b ax
Tq a b c:=g6 a hr b ho fb sk (ae h1 (ae h2 ao fH) bw) ab dw #[(qn).parts,c] bw a_ ht
Tr:=max 3 GK
Ts:=vZ n
Tt:=IB\/3<=GK
Ty a b c:=Wk.done a _ _ b au c tk i4
Tz a:=WL a
TC b c d:=eV a #[b,aK,A,br,c,H0,d] H hr hp _ λ _ h=>h
TD a:=b4->a
TH:=fs.length<1000
TJ:=BV _B.II
TK:=cG eW
TL a b c:=a==0||(p2==4||(b==8||c==10))
TM:=mV bL i
TN:=r.to.length=1
TR a b c:=Ba A hr 12 a aQ b bA (ag A.g.yc) c
TW:=k5 "any"
TY:=k5 "all"
T0:=Y×sf
T3:=Gg<vK
T4:=Mu n
T8:=ms.map iY
T':=sa (·.1)
T!:=ob.dict=a3
T?:=Bb "tuple"
Ua b c d:=lA a b dx c v ab h1 h2 h3 h4 d
Ub:=ps.map V.ref
Uf a b c:=λ hx=>a Ap b (c5 λ c _=>?_)
Ug:=Bb "dict"
Uh:=xs.filter t
Ui:=rP o i
Uj:=j<bL
Um:=[eW]
Uo:=ns.count k
Ur:=F.binds hb
Us:=k<Gz
Ut:=Gv s
Uv:=zT hk
Ux:=er A.g.sI
Uz:=vM (·.2)
UE a b c:=by rw[O9 (yw I hg hm hv ?_ hn d5),a (be (ha ax al s σ H _ I h) λ us s1 b=>aO c uh vs r1 (ff hc s1 H1 vs us Q I1 r1 q1)) he a_]
}
section
variable{X:Cx}{x:a6}{p ax:bi}{e:a7}{es:cY}{t:TA}{id T:jT}{r:nQ}
def z:={
tCB.1(r:nQ)(t:TA):TE:=g9 gT t vs (r vs H1 Q)
VB(hc:kg X zb r)(hg:Gl X x)(hm:Eo x)(hv:C1 x vx id)(ha:D9)(hn:CS x)(d5:fN)(he:f9)(a_:iJ):bS sV (tCB r t):=by rw[UE PyProof.Rows.callWith_builtin1 atN atN]
amP(hc:kg X Fd r)(hg:Gl X x)(hm:Eo x)(hv:C1 x type T)(ha:D9)(hn:CS x)(d5:fN)(he:f9)(a_:iJ):bS sV (tCB r t):=by rw[UE UH aGu aGu]
}
section z
section _L
namespace _H
open lW l0
section
variable{eO:ci}{w:ck}{A:dr}{E:d!}{s:aN}
variable{vl vu:a!}{sl:Z}{hi lo:gD}{Q:d!}
def z:={
asp{t b:Z}{vs ws:cx}(ht:vy gX t Fp)(hb:vy gX b Fq)(hv:vs≠[])(h1:ws=[]->Q bC t s)(h2:ws≠[]->x0 jw s sX pE yV (.seq qi (vs++ws)))(cr:j! (zE+ws.length)):kl (binaryOp .Add Me im) Q E:=by obtain⟨⟨cls,dd,rL,sl⟩,ho,hc,n,hd⟩:=id ht;obtain⟨⟨S6,kW,data2,lg⟩,oY,uC,n2,hd2⟩:=id hb;simp only at hc hd uC hd2;subst hc hd uC hd2;(have e:Fp++Fq=qi (vs++ws):=by simp);by_cases hw:ws=[];(.exact Qx UI UK RK (tuple_addW1 t b Fp Fq n n2 dd kW sl lg iy hv (by simp[hw])) #[ho,oY,h1 hw]);.refine Qx UI UK RK (tuple_addW2 t b Fp Fq n n2 dd kW sl lg iy hv iy hw (by rw[Cq,cr])) #[ho,oY,?_];rw[e];exact h2 hw
cA.1(n d:Y):gD->Y|a3=>d|jR=>if v<0 then gC BZ else Lx
ay9(n d:Y):cA n d a3=d:=rfl
uS(n d k:Y):cA n d ad oU=min k n:=by show(if oU<0 then gC (j2 k+dy)else min gC oU n)=min k n;rw[kO (by exact X'),vz]
ahx(n d:Y)(hd:d<=n)(o:gD):cA n d o<=n:=by cases o with|a3=>exact hd|dL v=>show IC gC BZ Lx<=n;by_cases hv:v<0;(.rw[kC hv,ams hv]);.rw[lI hv,UL _ _]
aaa(v:a4)(n d:Y):Tl=eZ (cA n d jR):=by show Tl=eZ IC gC BZ Lx;by_cases hv:v<0;(.simp only[fl hv];exact ayB);.simp only[fO hv];exact atg hv
aFr(lo hi:gD)(n:Y):RS lo hi dy=(yY zn,eZ (cA n n hi)):=by(have h1:¬((1:a4)<0):=by exact atO);unfold UO;rw[Db h1,dP Prod.ext ?_];(.cases lo with|a3=>rfl|dL v=>exact aaa v n 0);.cases hi with|a3=>rfl|dL v=>exact aaa v n n
aEW(i j:Y):JK cG i cG j=j - i:=by unfold UQ;(have h1:rp>0:=by exact Int.one_pos);simp only[h1,o?,Int.ediv_one];split<;>omega
ab3{v:a!}{o:gD}{Q:gD->LA}(p:pc v o)(h:Q o s):fo w3 A (Builtin.Slice.slicePartIndex v) Q E s:=by cases p with|a3=>exact UT h|int i t=>exact slicePart_int h
aGU{n:Y}{Q:a4×a4×Y->LA}(hs:J' vl vu eX)(pl:pc vl lo)(pu:pc vu hi)(h:Q (yY zn,1,cA n n hi - zn) s):kl (UU E5 (rN dy)) Q E:=by rw[h! id hs λ os B3 ud FW=>?_];unfold UU Builtin.Slice.sliceFields;rw[j' e! K2 (Ll B3 FW (x:=vl)) ab K2 (Ll B3 FW (x:=vu)) ab (Ll B3 FW (x:=eX) ab (e? ?_)),j' UT ?_,k1 _ K5 ((1:a4)==0) _ _ s];rw[KL];rw[cc K2 ab3 pl (ab3 pu wq e! ?_),k1 _ (match RS lo hi dy with|(lo,hi)=>dV (lo,rp,JK lo hi)) s];rw[aFr lo hi n];show fo _ _ (rN (yY zn,rp,JK eZ zn eZ (cA n n hi))) _ _ s;rw[aEW];exact e? h
ah7(xs:m8)(i k:Y):qi ((Bz).filterMap λ(m:Y)=>xs[S1]?)=DR (xs.toList.drop i) k:=by(have e:(λ(m:Y)=>xs[S1]?)=λ m=>xs[i+m]?:=by funext m;(have:gC (j2 i+(cG m)*1)=i+m:=by exact aCK);rw[cs]);rw[e];have:=pick_run xs i k;rw[List.filterMap_map]at cs;have e2:((qe (xs[x]?))∘λ x=>i+x)=λ m=>xs[i+m]?:=rfl;rw[e2]at cs;rw[cs]
aCt{t:Z}{fT:m8}(ht:vy gX t fT)(hs:J' vl vu eX)(pl:pc vl lo)(pu:pc vu hi)(hw:¬(ts=0/\A5=g?))(h:x0 jw s sX pE yV (.seq DR JX BF))(cr:p6 g?):kl (rP Me E5) Q E:=by(have DN:sizeOk (.seq DR JX BF):=by show j! ((JX).take BF).toArray.size;rw[jV,Fx,Mv,Mw];exact aBZ cr);have hj:A5<=g?:=ahx _ _ (kP _) hi;rw[h! id hs λ os B3 ud FW=>?_];have hTs:zF E5 "slice":=bm os B3 ud;unfold rP;(try with_reducible refine zG ?_);(first|rw[j' e? ?_]|skip);rw[cc (wpAny_sequenceKey Fz fe ?_),cc (wpAny_callSpecial?_slot (name:=UV "__getitem__") Fz UX (wpAny_call_entry UX Fz entry_tuple_getitem ?_ ir args_tuple_getitem)),k1 _ (Builtin.Tuple.tupleItemsOf Me>>=_) s,cc (tupleItemsOf_ ht ?_),cc (FA hTs ?_)];rw[G4 ga];rw[cc (aGU hs pl pu ?_)];(have gK:¬((yY ts==0&&rp==1&&Qo)=a?):=by intro q;rw[jX,jX]at q;have q1:eZ ts=0:=eq_of_beq q.1.1;have q2:A5 - ts=g?:=eq_of_beq q.2;exact hw #[gG Ys q1,by exact aFh q1 q2]);rw[k1 _ K5 (yY ts==0&&rp==1&&Qo) _ _ s];rw[fO gK,ah7];first|exact CP J9 e? wB ab e? h DN|exact CP J9 e! qK LC _ DN|exact e! (CP (FB qK LC _ DN))|exact e! (CP J9 e? LC _ DN)
}
section z
section _H
namespace _L
open lW pd l0
variable{aq:cP (io×V)}{c!:fU}{g:TG}{n t' j:Y}{α:Type}{x:V}{tt:TT}{own:q_}{us its':cx}{elt fa c:a7}{ifs:cY}{H1 H':Hp}{wi:TI}{env:Env}{K:b4}{Qd:ia}{fT:m8}{zI:bh}{h':d0}{tP:Ea}{M:Model}
def z:={
TO.2:=St->Hp->(gD->ia)->Prop
PO.1(X:Cx)(e:uX)(t:TO):Prop:=∀(al:eA)(s:aN)(σ:St)(H:Hp)(Q:gD->ia),cB->t σ H Q->wo so evalPart e (λ u s'=>∃o H',Do/\pc u o/\Q o H') l2
asL.1:TO:=λ _ H Q=>Q a3 H
awb.1(t:TE):TO:=g9 gT t x (∃i,x=e5 i/\Q vg H1)
Mx{ns:mF}:∀{us:cx},bN mD us->t5 us:=by induction ns with|b?=>intro us r;rw[ul r r,eN]|bn n ns ih=>intro us r;rw[Dk r];cases r with|bn r1 r2=>obtain⟨t,e⟩:=r1;subst e;exact vn n t (ih r2)
}
section
variable{X:Cx}{e:a7}{te:TE}{lo hi:uX}{tl th:TO}{ax p2:bi}
def z:={
TF:PO X a3 asL:=by rw[ke];rw[UY];exact e? ql a3 eX h
zc(h:bS e te):PO X zt (awb te):=by rw[sE Q I hw];rw[evalPart_some];refine be (ff h s H _ I hw) λ u s1 ajh=>aO ajh EG x I1 q1;(rw[eq q1 au i arE q arE]);rw[e6 r1,(aE vg H1 I1 (.int i t) q)]
MI.1(X:Cx)(r:yz):Prop:=∀(al:eA)(s:aN)(σ:St)(H:Hp)(x:V)(v vl vu:a!)(lo hi:gD)(sl:Z)(Q:VK),cB->eP x v->J' vl vu eX->pc vl lo->pc vu hi->r x lo hi H Q->∃T id,Sx Fd=dV ad zb/\zF v T/\om (rP v E5) EP
tSl.1(r:yz)(te:TE)(tl th:TO):TE:=g9 gT te x m2 tl l (th σ H2 λ u H3=>r x l u H3 Q)
G7{r:yz}(hr:MI X r)(he:bS e te)(hl:PO X lo tl)(hu:PO X hi th):bS AY e yX lo hi (tSl r te tl th):=by rw[ke,<-MB (qP he λ v s1 apz=>aO apz EG x I1 q1),<-wpAny_Slice (or hl λ vl s2 aBX=>aO aBX (vd l pl C_ hu H2 λ vu s3 akC=>aO akC λ u H3 I3 pu q3=>?_))];rw[UY];refine e? ?_;have I4:fz H3 I! s3 mc [vl,vu,eX]:=I3.kept (t':=s3.toks) λ b ob q=>sy q;refine aO (ff hr I! s3 mc [vl,vu,eX] H3 x v vl vu l u l3 Q I4 r1 (Heap.IsSliceOf.new ..) pl pu q3) λ T id hT ht hg=>?_;show fo mb l1 X.w X.A (MC e yX lo hi v SC) p8 EP σ Q l2 I! s3 mc [vl,vu,eX];exact tail_any (ops:=[SC,v]) ht hT hg (by with_unfolding_all rfl)
g_.1(xs:bQ)(lo hi:gD):bQ:=(Pe xs.drop).take JE
Xr(xs:bQ)(lo hi:gD):cW zo<=bL:=by unfold g_;rw[Fx,Mv];exact aFo
aoo.1(K:b4):yz:=λ x lo hi H Q=>∃a xs,gp x/\Ed/\¬(OZ=0/\OY=bL)/\qL p p iU p dM zo
aFj:MI X (aoo bb):=by intro al s σ H x v vl vu lo hi sl Q I rx hs pl pu h;(rw[b5 (fR h λ a xs ayj hx hw q=>?_) ayj]);rw[dZ,h! hC hx λ aF r ht hz=>?_];(have bF:zJ=bL:=by rw[ez jV r.length.symm]);refine(aE ("tuple") _ PyProof.Rows.slot_tuple_getitem.lookup Fz ?_);refine _H.aCt ht hs pl pu (by rw[ez bF hw]) ?_ (by rw[ez bF hz]);rw[bF];rw[oo tS (J7 t' dM zo JC iK ?_) CF (eI (vC (Xr xs lo hi) hz) _ ((R0).take JE) Lr)]
ai1.1(K:b4):R2:=kL y (∃a b xs ys,gp x/\y=cv b/\Ed/\aJ K H b ys/\xs≠[]/\Rw/\(ys=[]->Q bC a H)/\(ys≠[]->qL p p iU p dM Mb))
bN.NW{xs:bQ}(r:bN xs us):us=[]↔xs=[]:=by cases r with|b?=>simp|bn _ _=>simp
awt:de X EF .Add (ai1 bb):=by intro al s σ H x y v u Q I rx ry h;obtain⟨a,b,xs,ys,rfl,rfl,ha,hb,hx,hz,q1,q2⟩:=h;rw[dZ];cases ry;rw[h! hC ha λ aF r1 p1 _=>?_];rw[h! hC hb λ kb r2 p2 _=>?_];rw[<-_H.asp p1 p2 y9 hx r1.NW.mp Bf ql eY ab (q1 (r2.NW.mp z)) mi z (by rw[<-r1.length,<-r2.length];exact hz),oo tS (J7 t' dM Mb JC iK ?_) (q2 (λ w=>z (r2.NW.mpr w)) _ tp) (eI (by rw[Ry]) _ (r1.append r2) Lr)]
}
section z
def z:={
mV.1(n:Y)(i:a4):nA Y:=if 0<=i then(if i<n then ad FD else a3)else if -nc<=i then ad gC (i+n)else a3
kF.1(xs:kJ)(i:a4):nA α:=(TM).bind λ j=>xs[j]?
QX{i:a4}(h:mV n i=ad j):seqIndex? i n=ad j/\j<n/\ -nc<=i/\i<n:=by unfold mV at h;by_cases h0:0<=i;(.rw[fl h0]at h;by_cases h1:i<n;(.rw[fl h1]at h;have e:FD=j:=KK;exact(fG (by rw[MF h0 h1,e]) (by exact al7 h0 e h1) gG aEy h0 h1));.rw[fO h1]at h;cases h);.rw[fO h0]at h;by_cases h1: -nc<=i;(.rw[fl h1]at h;have e:gC (i+n)=j:=KK;exact(fG (by rw[MK x2 h1,e]) (by exact aCL h1 e h0) h1 gG anw h0));.rw[fO h1]at h;cases h
X4{xs:kJ}{i:a4}{v:α}(h:jQ (kF xs i)):∃j,seqIndex? i bL=ad j/\dE xs j v/\Uj/\ -(j2 bL)<=i/\LG:=by unfold kF at h;cases e:TM with|a3=>rw[ii e h h]|dL j=>rw[e]at h;refine dm (QX e) λ h1 h2 h3 h4=>?_;exact(rQ j h1 h h2 h3 h4)
b_{xs:kJ}{v:α}(h:dE xs j v):jQ (kF xs cG j):=by(have hj:Uj:=(ML h).1;have e:mV bL cG j=ad j:=by unfold mV;rw[To rY,ga (by exact Bx hj)];simp);unfold kF;rw[e];exact h
aaV(xs:kJ)(v:α):jQ (kF E! (-1)):=by((have hl:cW E!=bL+1:=by simp);have e:mV cW E! (-1)=ad bL:=by unfold mV;rw[hl,KL,To apU];congr 1;exact aqN);unfold kF;rw[e];show jQ (E![bL]?);simp
oT.1(b:a7):Prop:=∀o i,FG b i0 o i=MN [o,i] Ui
NT.1(X:Cx)(r:R2):Prop:=∀(i3 l4:a7)(al:eA)(s:aN)(σ:St)(H:Hp)(x y:V)(v u:a!)(Q:VK),cB->eP x v->eP y u->r x y H Q->FG l4 i0 v u=MN [v,u] (rP v u)->om (MC i3 l4 v u) EP
MtR.1(X:Cx)(id:jT)(r:ot):Prop:=∀(al:eA)(s:aN)(σ:St)(H:Hp)(x:V)(xs:bQ)(v:a!)(us:cx)(Q:VK),cB->eP x v->bN xs us->r x xs H Q->om (call (.vx id) (v::us)) EP
}
section
variable{X:Cx}{a b:a7}{ta tb:TE}{ax:bi}
def z:={
Y5{r:R2}(hr:NT X r)(ha:bS a ta)(hb:bS b tb)(hs:oT b):bS AY a b (Gr r ta tb):=by rw[ke,MB (NA ha hb I h λ v u s2 x y H2 I2 rx ry q=>hr a b al s2 σ H2 x y v u Q I2 rx ry q ir hs)]
aLN.1(K:b4):R2:=kL y (∃p xs i v,tE p/\y=e5 i/\mH aC p/\jQ (kF xs i)/\Q v H)
aHW.1(K:b4):R2:=kL y (∃p xs i v,tE p/\y=e5 i/\mH aJ p/\jQ (kF xs i)/\Q v H)
aq1:NT X (aLN bb):=by intro i3 l4 al s σ H x y v u Q I rx ry h hs;(rw[lF (yP h λ p xs i z anR aI5 hq he q=>?_) anR aI5]);rw[dZ,e6 ry,wC fX hq r,<-C8 (X4 he) λ j h1 h2 h3 h4 h5=>?_,jP r.get h2 au w ew cZ];have hl:=vD;have hn:=Br;have eQ:t4 Q w s:=ql z cZ q;by_cases h0:0<=i;(. (have hj:FD=j:=by rw[MF h0 h5]at h1;rw[C7]);exact item_listR rR h0 yR NB h5 (by rw[hj];simpa using ew) eQ hs);. (have hj:gC (i+SG)=j:=by rw[MK x2 h4]at h1;rw[x4 hl,C7]);exact R_ w U5 U7 (wpAny_getItem_list_neg (Q:=λ r s'=>r=w/\t4 Q r s') rR x2 (by rw[SK]<;>omega) (by exact Pw h4 hz hn) (by rw[hj];simpa using ew) #[rfl,eQ]) hs
arz:NT X (aHW bb):=by intro i3 l4 al s σ H x y v u Q I rx ry h hs;(rw[lF (yP h λ p xs i z atW aHr hq he q=>?_) atW aHr]);rw[dZ,e6 ry,wC hC hq r,<-C8 (X4 he) λ j h1 h2 h3 h4 h5=>?_,jP r.get h2 au w ew cZ];have hl:=vD;have hn:=Br;have eQ:t4 Q w s:=ql z cZ q;exact R_ w pl.typeIs slot_tuple_getitem.lookup (getItem_tuple (j:=j) (Q:=λ r s'=>r=w/\t4 Q r s') pl yR Pw h4 yR NB h5 (by rw[x4 hl,h1]) iy ew #[rfl,eQ]) hs
aAD(aF:cx)(n j:Y)(u:a!):FH (·.setIfInBounds j u) t9=sP (la qi (aF.set j u) n):=by simp[FH]
Inv.lst{al:eA}{σ:St}{H:Hp}{s:aN}{p:Z}{xs:bQ}(I:cB)(h:mJ p):SO n kq p t9 Kq:=by refine yJ u? p h λ z aF n r e=>?_;exact(aE aF n r e z)
Inv.ar6{al:eA}{σ:St}{H:Hp}{s:aN}{p:Z}{xs ys:bQ}{aF:cx}{n':Y}{f:Obj->Obj}(I:cB)(h:mJ p)(ho:kq p t9)(hf:f t9=Rq n')(r:bN ys its')(hz:Dg)(t:Y):fz yG ys yD s Tm f t:=by(have e:(Tm f).get? p=ad Rq n':=by rw[U? f ho (by rw[hf]<;>rfl),hf]);rw[oo (K7 x p p (by rw[h];trivial) jH (λ b u hb q=>(HV _ _ hb).ph q) #[_,e] ?_) (oW hz its' n' r e)]
aBQ.1:V->V->V->Hp->(Hp->Prop)->Prop:=λ o i v H Q=>∃p xs k j,o=cv p/\i=e5 k/\mJ p/\mV bL k=ad j/\Q yG (xs.set j v)
set_list:aaP X aBQ:=by intro al s σ H o i v ov iv u Q I ro ri rv h;(rw[lF (yP h λ p xs k j at9 aH2 hp hj q=>?_) at9 aH2]);cases ro;rw[e6 ri,<-aO (I.lst hp) λ aF n r ho hz=>?_,<-dm (QX hj) λ h1 h2 h3 h4=>?_];have hl:=vD;have hn:=Br;have I':fz yG (xs.set j v) jw s KA p ((·.setIfInBounds j u)):=I.ar6 hp ho (aAD aF n j u) (r.set rv j) (by rw[ez Vb hz]) zM;by_cases h0:0<=k;(. (have hk:k.toNat=j:=by rw[MF h0 h4]at h1;rw[C7]);exact PySem.W.ki_setAt ho h0 yR NB h4 (by rw[x4 hl,h4]) (by rw[hk];exact gk I' q));. (have hk:gC (k+SG)=j:=by rw[MK x2 h3]at h1;rw[x4 hl,C7]);exact PySem.W.ki_setBack ho x2 (by rw[x4 hl,h3]) yR Pw h3 (by rw[hk];exact gk I' q)
ahW(lo hi:gD)(n:Y):K1.1=eZ (gb n 0 lo)/\K1.2.1=eZ (gb n n hi)/\K1.2.2=1:=by refine #[?_,?_,rfl];(.cases lo with|a3=>simp[FM,gb]|dL i=>rw[Rs gb (rp>0) o?];by_cases h:i<0;(.rw[Kw h,QL h]);.rw[Db h,Qb h]);.cases hi with|a3=>simp[FM,gb]|dL i=>rw[Rs gb (rp>0) o?];by_cases h:i<0;(.rw[Kw h,QL h]);.rw[Db h,Qb h]
asU(aF:cx)(lo hi:gD):slicePick gY lo hi a3=DR (aF.drop (gb zQ 0 lo)) (gb zQ zQ hi - gb zQ 0 lo):=by refine bW (ahW lo hi zJ) au h1 h2 h3;unfold slicePick;rw[h1,h2,h3];simp only[sliceRange_one,pick_run,jV]<;>rfl
asy.1(K:b4):yz:=λ x lo hi H Q=>∃a xs,gp x/\mH aC a/\qL p p yG zo
IA:MI X (asy bb):=by intro al s σ H x v vl vu lo hi sl Q I rx hs pl pu h;(rw[b5 (aO h λ a xs afp hx q=>?_) afp]);rw[dZ,h! fX hx λ aF r ht hz=>?_];have bF:=vD;refine(aE ("list") _ U7 ht.isList.typeIs ?_);refine wpAny_getItem_list_slice ht.isList hs pl pu eX jo ?_ (by rw[SK]<;>omega);rw[asU,<-bF];rw[oo tS (J7 t' lst zo JC iK ?_) CF (oW (vC (Xr xs lo hi) hz) _ 0 ((R0).take JE) ow)]
ib.1:ne|.cz=>a?|.bl _=>a?|e5 _=>a?|.str _=>a?|_=>false
rX.1:V->ne|.cz,.cz=>a?|.bl a,.bl b=>a==b|.bl a,e5 b=>(if a then 1 else 0)==b|e5 a,.bl b=>a==(if b then 1 else 0)|e5 a,e5 b=>a==b|.str a,.str b=>a==b|_,_=>false
aG9{A:dr}{s:aN}{y:V}{u v:a!}(ry:kI)(rx:eP x v)(fy:zm y)(fx:zm x):SeqAt.EqAt A s u v Fi:=by cases y with|cz=>(cases ry;cases x with|cz=>rw[dZ,SeqAt.EqAt.same _]|bl b=>rw[dZ,SeqAt.EqAt.none_bool b]|int b=>rw[e6 rx,SeqAt.EqAt.none_int b t]|str b=>rw[e6 rx,SeqAt.EqAt.none_str b t]|_=>rw[t_ rl fx])|bl a=>(cases ry;cases x with|cz=>rw[dZ,SeqAt.EqAt.bool_none a]|bl b=>rw[dZ,SeqAt.EqAt.bool_bool a b]|int b=>rw[e6 rx,SeqAt.EqAt.bool_int a b t]|str b=>rw[e6 rx,SeqAt.EqAt.bool_str a b t]|_=>rw[t_ rl fx])|int a=>(rw[Kg ry];cases x with|cz=>rw[dZ,SeqAt.EqAt.int_none a t']|bl b=>rw[dZ,SeqAt.EqAt.int_bool a t' b]|int b=>rw[e6 rx,SeqAt.EqAt.int_int a t' b t]|str b=>rw[e6 rx,SeqAt.EqAt.int_str a t' b t]|_=>rw[t_ rl fx])|str a=>(rw[Kg ry];cases x with|cz=>rw[dZ,SeqAt.EqAt.str_none a t']|bl b=>rw[dZ,SeqAt.EqAt.str_bool a t' b]|int b=>rw[e6 rx,SeqAt.EqAt.str_int a t' b t]|str b=>rw[e6 rx,SeqAt.EqAt.str_str a t' b t]|_=>rw[t_ rl fx])|_=>rw[t_ rl fy]
kK.1(x:V)(u:a!):b!:=match u with|eX=>rX .cz x|.bool b=>rX i! b x|iV i _=>rX tB x|.str z _=>rX (.str z) x|_=>false
aeX{y:V}{u:a!}(r:kI)(f:zm y):kK x u=Fi:=by cases y with|cz=>cases r;rfl|bl b=>cases r;rfl|int i=>rw[e6 r];rfl|str z=>rw[e6 r];rfl|_=>rw[t_ rl f]
HP{xs:bQ}(h:bN xs us):Lz ib->us.any (kK x)=xs.any λ y=>Fi:=by induction h with|b?=>exact λ _=>rfl|bn r t ih=>intro f;rw[FN,jX]at f;rw[rT,rT,aeX r f.1,ih f.2]
E9{A:dr}{s:aN}{v:a!}(rx:eP x v)(fx:zm x){xs:bQ}(h:bN xs us):Lz ib->∀u∈us,SeqAt.EqAt A s u v (kK x u):=by induction h with|b?=>exact λ _ u hu=>by cases hu|bn r t ih=>intro f u' hu;rw[FN,jX]at f;rcases tZ hu with rfl|hu;(.rw[aeX r f.1];exact aG9 r rx f.1 fx);.exact ih f.2 u' hu
gP.1(x:V)(xs:bQ):b!:=xs.any λ y=>Fi
Q_.1(K:b4)(neg:b!):R2:=kL y (∃p xs,y=cv p/\(mH aC p\/mH aJ p)/\zm x/\Lz ib/\Q i! (if neg then !gP x xs else gP x xs) H)
Ke:de X n9 .In (Q_ bb i0):=by intro al s σ H x y v u Q I rx ry h;(rw[b5 (vG h λ p xs arB hq fx fs q=>?_) arB]);cases ry;rcases hq with hq|hq;(.rw[EU fX SeqAt.in_listAt rR]);.rw[EU hC SeqAt.in_tupleAt pl]
aeY:de X n9 .nj (Q_ bb a?):=by intro al s σ H x y v u Q I rx ry h;(rw[b5 (vG h λ p xs aDG hq fx fs q=>?_) aDG]);cases ry;rcases hq with hq|hq;(.rw[EU fX SeqAt.notIn_listAt rR]);.rw[EU hC SeqAt.notIn_tupleAt pl]
W7:Sk (k5 "len") p (Q da FC H):=by intro al s σ H xs us Q I r h;(rw[b5 (aO h λ p ys aBN hq q=>?_) aBN]);(rw[b5 (ah (vE r) au u aKy rx) aKy]);rw[dZ];have hn:=Br;rcases hq with hq|hq;(.rw[PR fX Calls.call_len_list rR]);.rw[PR hC len_tuple pl]
aFV:Sk LH p (∀l,H l=a3->Q bC l qc l ys):=by intro al s σ H xs us Q I r h;(rw[b5 (aO h λ p ys avq hq q=>?_) avq]);(rw[b5 (ah (vE r) au u aJ2 rx) aJ2]);rw[dZ];have eQ:∀(aF:cx),bN ys aF->Dg->∀(h':d0)(c':Y),(∀b o',Kr o'->zR b=ad o')->SA zR {cls:=sC,dict:=a3,rL:=la gY c',slots:=yI}->t4 Q AW Ly s h':=λ aF r' hz h' c' kp e=>tS (on zK kp iK (show sH fw _ h' _ (.lst ys)from(oW hz aF c' r' e))) CF;rcases hq with hq|hq;(.rw[wC fX hq r',BN];obtain⟨o,ho,hc,n,hd⟩:=rR;exact Vg p jH ho hc hd (λ h' c' kp e=>eQ aF r' hz h' c' kp e) BI);.rw[Dc r' hz (hC hq),BN];obtain⟨o,ho,hc,n,hd⟩:=pl;exact Vg p t! ho hc hd (λ h' c' kp e=>eQ aF r' hz h' c' kp e) BI
ayP:kg X T? (λ xs H Q=>∃p ys,xs=[qr]/\((aC bb H p ys/\∀l,H l=a3->Q bC l iU l dM ys)\/(aJ bb H p ys/\Q bC p H))):=by intro al s σ H xs us Q I r h;obtain⟨p,ys,rfl,h⟩:=h;obtain⟨u,rfl,rx⟩:=vE r;rw[dZ];rcases h with⟨hq,q⟩|⟨hq,q⟩;(.rw[Dc r' hz (fX hq),BN,<-call_tuple_list rR A4 h' kp BI];have I1:fz H Ly s h':=on zT kp;have I2:fz iU Vi dM ys jw s (h'.push pE yV (.seq gY)):=on I1.laid (λ b o e=>kj) iK (show sH fw _ _ _ (.dM ys)from#[hz,aF,r',Lr]);exact #[bC Vi,_,I2,rfl,q _ G_ I1.aR.fresh _]);.rw[Dc r' hz (hC hq),call_tuple_same pl #[qr,H,I,rfl,q]]
Ue.1(K:b4)(T:jT)(x:V)(H:Hp):Prop:=match x with|.str _=>T="str"|e5 _=>T="int"|cv p=>(T="list"/\∃xs,mH aC p)\/(T="tuple"/\∃o,K.lookup p=ad o/\o.cls=yV/\o.dict=a3)\/(T="dict"/\((∃aq,dQ p dK aq)\/∃aq,dQ p dT aq))\/(T="set"/\∃S n,H p=ad (.set S n))|_=>nl
ai8{al:eA}{σ:St}{H:Hp}{s:aN}{T:jT}{v:a!}(I:cB)(r:eP x v)(ty:Ue bb T x H):zF v T/\∀a,gp v->∃ob,kq a ob/\T!:=by cases x with|str z=>rw[e6 r];cases(show T="str"from ty);exact #[typeIs_str s z t,LD e e]|int i=>rw[e6 r];cases(show T="int"from ty);exact #[typeIs_int s i t,LD e e]|ref p=>(cases r;rcases ty with⟨rfl,xs,hq⟩|⟨rfl,o,hk,hc,hd⟩|⟨rfl,hk⟩|⟨rfl,S,n,hk⟩;((.rw[h! fX hq λ aF _ pl _=>?_];refine #[U5,gU a e];cases e;refine fR pl λ o n e c hd _=>?_;exact rq hd);.refine #[bm o (I.jL p o hk) hc,gU a e];cases e;exact bm o (I.jL _ o hk) hd);(. (have z:∃o,kq p o/\o.ExactDict:=by rcases hk with⟨aq,hk⟩|⟨aq,hk⟩;(.refine Ws u? p hk λ _ _ _ _ o _ _ e ex _=>?_;exact rq ex);.refine Ws u? p hk λ _ _ _ _ o _ _ e ex _=>?_;exact rq ex);refine ah z au o e ex;refine #[rq ex.1,gU a e2];cases e2;exact rq ex.2.1);.refine F5 u? p hk λ o _ _ _ e ex _=>?_;refine #[rq ex.1,gU a e2];cases e2;exact rq ex.2.1)|_=>rw[KQ ty]
tBM.1(K:b4)(T:jT)(r:ot)(to:TE)(t:TA):TE:=g9 gT to x (Ue K T x H1/\m2 t xs (r x xs H2 Q))
}
variable{o e:a7}{es:cY}{to:TE}{t:TA}{name:a6}{gZ ka:bi}{T id:jT}{r:ot}
def z:={
kT(pa:PlainAttrs T)(slot:Slot T name id)(hty:typeOf zb=dV (Bb "method_descriptor"))(hm:MtR X id r)(ho:bS o to)(ha:D9)(L9:gf C! o name j? j?)(IF:k? J3 Dn gm (MS ka G9 []) gm)(Lj:k? Lc ka.line)(hs:f9)(Bh:nF ((Dn es).any (·.1))):bS (.lV AU o name gZ gm [] ka) (tBM bb T r to t):=by rw[ke,<-wpAny_Call_method_late L9 IF Lj ab (qP ho λ v s1 aEA=>fR aEA λ x H1 I1 r1 ty q1=>?_)];obtain⟨h1,h2⟩:=ai8 I1 r1 ty;refine(Ac T id pa slot hty h1 h2 ?_);have hA:=ha ka al s1 σ H1 _ I1 q1;rw[hs]at hA⊢;refine Vo (by show(false||(Dn es).any (·.1))=false;rw[Bh]<;>rfl) (Vp ?_);exact be hA λ us s2 as5=>aO as5 vd vs r2 (ff hm s2 H2 x vs v us Q I2 r1 r2 q2)
}
section z
def z:={
Lu.1(X:Cx)(id:jT)(r:ot):Prop:=∀(al:eA)(s:aN)(σ:St)(H:Hp)(x:V)(xs:bQ)(v:a!)(us:cx)(Q:VK),cB->eP x v->bN xs us->r x xs H Q->om (call (.vx id) (v::us)) EP
bN.one(h:bN [x] us):∃u,us=[u]/\eP x u:=by cases h with|bn r t=>cases t;exact za r
}
section
variable{X:Cx}{al:eA}{σ:St}{H:Hp}{s:aN}{l b:Z}{xs ys zs:bQ}
def z:={
Inv.NJ{aF:cx}{f:m8->m8}(I:cB)(hH:mJ l)(e:kq l t9)(hf:f gY=U8)(hv:bN ys its')(hz:Dg):fz qc l ys yD s KA l f t':=by have q:=PySem.IsL.update e f;rw[hf]at q;rw[oo (K7 x l l (by rw[hH];exact trivial) jH (λ b' u hb hu=>(HV gX (FH f) hb).ph hu) #[_,q] ?_) (oW hz its' _ hv q)]
Inv.ahd{aF:cx}(I:cB)(hv:bN ys aF)(hz:Dg):fz qc b6 ys yD s sX sP (.seq gY) t':=zK Il iK (oW hz aF 0 hv ow)
Inv.fresh(I:cB):H b6=a3:=tp
Inv.yk(I:cB)(hH:mJ l):Kq/\SO n LI zQ kq l t9:=by refine yJ u? l hH λ z aF n r e=>?_;exact(Fo z aF n r vD e)
V9(h:p6 n):MT n=false:=by unfold MT;exact FQ (by exact aCc h)
}
section z
section
variable{X:Cx}
def z:={
aB0.1:ot:=kL vs (∃l xs y,tE l/\vs=[y]/\mJ l/\ls/\Q .cz qc l (xs++[y]))
uq:Lu X "list.append" aB0:=by intro al s σ H x vs v us Q I rx rv h;(rw[lF (Mc h λ l xs y axE ag8 hH hz q=>?_) axE ag8]);rw[dZ];(rw[eq rv.one au u awC ru awC]);rw[CW n r e,<-MU F.slot_list_append g0 e F.entry_list_append ir F.args_list_append_2 (PySem.list_append l gY n u (by rw[JI Wg hz hl])) #[e,?_],KP (aF++[u]) (FS (.bn ru eN)) q];rw[zN,List.length_singleton];exact Nat.succ_le_of_lt hz
akB.1:ot:=kL vs (∃l b xs zs,JA (vs=[im]) dQ b lst zs (Q .cz qc l Ma))
GZ:Tc akB:=by intro al s σ H x vs v us Q I rx rv h;obtain⟨l,b,xs,zs,rfl,rfl,hH,hB,hz,q⟩:=h;rw[dZ];(rw[eq rv.one au u ax6 ru ax6]);cases ru;rw[CW n r e,<-zg (I.yk hB) λ z2 kb n2 r2 f7 e2=>?_];((have cr:j! (zJ+Vq):=by rw[Cq,Lb hz hl f7]);have aBC:¬(bH (!aF.toArray.isEmpty&&Sg (zJ+Vq))):=by rw[V9 cr,FT];exact MQ);rw[<-Qi (AutoSeq1.list_extend_list_list_0 l gY n b MV n2 aBC (by rw[JI Bn hl z]) gG Vr cr) #[e,e2,?_],KP (aF++kb) (FS r2) q,JF OV hz]
aGL.1:R2:=kL y (∃l b xs zs,JA (y=cv b) dQ b lst zs qL p p yG Ma)
Ud:de X EF .Add aGL:=by intro al s σ H x y v u Q I rx ry h;obtain⟨l,b,xs,zs,rfl,rfl,hH,hB,hz,q⟩:=h;rw[dZ];cases ry;rw[CW n r e,<-zg (I.yk hB) λ z2 kb n2 r2 f7 e2=>?_];(refine PySem.P.add_list e e2 ?_ (by rw[Cq,Lb hz hl f7]);have ea:gY++MV=qi (aF++kb):=by simp);rw[ea];exact(aE bC _ _ (on I.ahd (FS r2) (by rw[JF OV hz])) ab (q _ I.fresh))
}
section z
def z:={
bN.ints:∀{ns:mF}{us:cx},bN mD us->t5 us|[],us,h=>by rw[ul h h,IntsAre.nil]|n::ns,us,h=>by rw[jY]at h;cases h with|bn r t=>obtain⟨k,rfl⟩:=r;exact IntsAre.cons n k (bN.ints t)
bN.Mo:∀{bs:qy}{us:cx},bN BQ us->us=S_|[],us,h=>by rw[ul h h];rfl|b::bs,us,h=>by rw[jY]at h;cases h with|bn r t=>cases r;rw[bN.Mo t,jY]
zV{a:Z}(r:bN [B5] us):us=[rg]:=by cases r with|bn r t=>cases t;cases r;rfl
}
section
variable{eO:ci}{w:ck}{A:dr}{E:d!}{s:aN}{l:Z}{aF:cx}{ns:mF}{Q:d!}
def z:={
as9(hh:uJ)(hl:JW)(hi:t5 aF)(h:∀h' tk t',(∀b o,jE->DI)->Q (.int ns.sum t') qI):kl vi Lp [kw] Q E:=by(obtain⟨xs,e⟩:=MZ;have hn:numsOf (vH xs).toList=ns:=by rw[Km e]);rw[M0]at hn;rw[e]at hl;refine PySem.sum_intListG hh hl λ h' tk t' hk=>?_;have:=h h' tk t' hk;rw[preSum_eq,Vw (by simp),hn];exact cs
aEB(hh:uJ)(hl:JW)(hi:t5 aF)(bf:D_)(h:∀h' tk M t',(∀b o,jE->DI)->iF M->(∀a,iF a->a<=M)->Q (.int M t') qI):kl vi wV [kw] Q E:=by(obtain⟨xs,e⟩:=MZ;have hn:numsOf (vH xs).toList=ns:=by rw[Km e]);rw[M0]at hn;subst hn;rw[e]at hl;rw[jG cr (0<zX) bf,<-PySem.max_intList hh hl cr λ v h' tk hv hk=>?_,Ra hv h1 h2,<-h h' tk _ t hk ?_ λ a ha=>?_];(.rw[M1];exact VA (by rw[QN,VC cr h1]));. (rw[b5 (ah (mem_getD ha) au j hj ap3) ap3]);rw[QI hj h2 j]
}
section z
section
variable{X:Cx}
def z:={
aqf.1(K:b4):nQ:=λ vs H Q=>Is a ns (vs=[B5]/\aC K H a mD/\Q da ns.sum H)
aub.1(K:b4):nQ:=λ vs H Q=>Is a ns (vs=[B5]/\aC K H a mD/\D_/\∀m,iF m->(∀y,iF y->y<=m)->Q IK H)
ajD(hc:cX):kg X Lp (aqf bb):=by intro al s σ H vs us Q I r h;(rw[JV ns avl avl]);rw[uk fX hs hl];rw[zV r];exact as9 (zY hc) z0 M3 λ h' tk t' hk=>(aE da _ H Uv zk q)
ao6(hc:cX):kg X wV (aub bb):=by intro al s σ H vs us Q I r h;(rw[b5 (fR h λ a ns asj hs bf q=>?_) asj]);rw[uk fX hs hl];rw[zV r];exact aEB EB z0 M3 bf λ h' tk m t' hk h1 h2=>(aE da _ H Uv zk (q m h1 h2))
}
section z
def z:={
acU{eO:ci}{w:ck}{A:dr}{E:d!}{s:aN}{l:Z}{Q:d!}(hl:O0 fT)(h:∀hG:aN,hG=jw s sX A9 Pg [kw,iV 0 0]->(s₂.heap.IsListIter b6 l 0/\s₂.heap.IsList l fT)->l≠b6->x0 hG):fo w3 A (pyIter kw) Q E s:=by(have a8:oD l:=by refine ah hl λ _ e _=>?_;exact pi e);exact VE hl (h _ ab #[LP ow,hl.push _] Lv a8)
adm{eO:ci}{w:ck}{A:dr}{bs:qy}{aF:cx}(e:aF=S_):TruthOf eO w A (λ i v=>dE gY i v) (λ i=>y4):=λ i v s Q E hv hq=>by rw[jG o8 dE aF i v hv];rw[e,rU]at o8;(rw[b5 (ah (VF o8) au b hb arf) arf]);(have hg:y4=b:=by rw[VG,hb]<;>rfl);have fD:Q y4 s:=hq;rw[hg]at fD;exact VH fD
M5:∀bs:qy,(u1 bs.length).any (λ i=>y4)=LX|[]=>rfl|b::bs=>by rw[l5,VI,rT,VJ,rT,<-M5 bs];all_goals rfl
M8:∀bs:qy,(u1 bs.length).all (λ i=>y4)=LW|[]=>rfl|b::bs=>by rw[l5,VI,FN,List.all_map,FN,<-M8 bs];all_goals rfl
}
section
variable{X:Cx}
def z:={
awU.1(K:b4):nQ:=λ vs H Q=>RX a bs LX
awV.1(K:b4):nQ:=λ vs H Q=>RX a bs LW
aBq(hc:cX):kg X TW (awU bb):=by intro al s σ H vs us Q I r h;(rw[JV bs afP afP]);rw[uk fX hs hl];rw[zV r];have hb:=rv.Mo;refine call_any_walk (acU z0 EK hG st bf);subst e2;refine #[_,_,_,_,_,_,_,rfl,K? X.A.in1 EB _ a bf gY,st,adm hb,au h' tk hk];refine(aE Bw H (zT f? eo (hk b o mi fu sy eo)) ?_ q);(.rw[P8 fu e1 fu]);.show D5=D5;rw[<-M5,hb,jV,hE]
aus(hc:cX):kg X TY (awV bb):=by intro al s σ H vs us Q I r h;(rw[JV bs afI afI]);rw[uk fX hs hl];rw[zV r];have hb:=rv.Mo;refine call_all_walk (acU z0 EK hG st bf);subst e2;refine #[_,_,_,_,_,_,_,rfl,K? X.A.in1 EB _ a bf gY,st,adm hb,au h' tk hk];refine(aE Bw H (zT f? eo (hk b o mi fu sy eo)) ?_ q);(.rw[P8 fu e1 fu]);.show D5=D5;rw[<-M8,hb,jV,hE]
}
section z
mutual inductive Dp(K:b4)(H:Hp):V->ed FV
 |cz:Dp K H .cz eX
 |bl(b:b!):Dp K H i! b xQ b
 |int(i:a4):Dp K H tB tB
 |str(x:a6):Dp K H (.str x) (.str x)
 |lst{a:Z}{xs:bQ}{ds:uW}:mH aC a->wR K H xs ds->Dp K H eY (.list ds)
 |dM{a:Z}{xs:bQ}{ds:uW}:Ed->wR K H xs ds->Dp K H eY E1 ds inductive wR(K:b4)(H:Hp):bQ->uW->Prop
 |b?:wR K H [] []
 |bn{v:V}{vs:bQ}{d:FV}{ds:uW}:Dp K H v d->wR K H vs ds->wR K H Mj (d::ds)end
section
variable{X:Cx}{al:eA}{σ:St}{H:Hp}{s:aN}
mutual theorem FZ(I:cB):∀(d:FV)(v:V)(u:a!),Dp bb H v d->eP v u->∃as,Reads gX u d as|eX,_,_,h,r=>by cases h;cases r;exact #[_,Reads.none]|.bool b,_,_,h,r=>by cases h;cases r;exact #[_,Reads.bool b]|e5 i,_,_,h,r=>by cases h;rw[e6 r,#[_,Reads.int i t]]|.str x,_,_,h,r=>by cases h;rw[e6 r,#[_,Reads.str x t]]|.list ds,_,_,h,r=>(by cases h with|lst hs ha=>cases r;rw[h! fX hs λ aF rv ala _=>fR ala λ o n ho hc _ hd=>?_];obtain⟨as,hr⟩:=Kv aF ha rv;exact #[_,Reads.list ho hc hd hr])|.tuple ds,_,_,h,r=>(by cases h with|dM hs ha=>cases r;rw[h! hC hs λ aF rv aoc _=>zu aoc EJ ho hc n];obtain⟨as,hr⟩:=Kv aF ha rv;exact #[_,Reads.tuple ho hc hd hr])|.dict _,_,_,h,_=>by cases h theorem VM(I:cB):∀(ds:uW)(vs:bQ)(us:cx),wR bb H vs ds->bN vs us->∃as,ReadsAll gX us ds as|[],_,_,h,r=>by cases h;cases r;exact #[_,ReadsAll.nil]|d::ds,_,_,h,r=>by cases h with|bn h1 h2=>cases r with|bn r1 r2=>obtain⟨as,q1⟩:=FZ I d _ _ h1 r1;obtain⟨bs,q2⟩:=Kv _ h2 r2;exact #[_,ReadsAll.cons q1 q2]end
section z
section
variable{X:Cx}
def z:={
aGm.1(K:b4):R2:=kL y (∃d e,Dp K H x d/\Dp K H y e/\Dv d/\Dv e/\Q i! (M! d e) H)
OQ(hu:S0):de X n9 .Eq (aGm bb):=by intro al s σ H x y v u Q I rx ry h;refine vG h λ d e hd he sd se q=>?_;obtain⟨as,r1⟩:=FZ I d x v hd rx;obtain⟨bs,r2⟩:=FZ I e y u he ry;exact SeqAt.compareEq_shaped r1 r2 sd se hu ql Bw ab q
}
section z
def z:={
YX.2(h:d0)(c:Z)(v:sB):Prop:=h.IsCell c v
aLx.1(c! sc:fU):fU:={c! with c9:=scope.names.map λ qm=>if(H_ (k==fh))then(n,gJ)else qm}
gr.1(zI:bh):lp->bh->bh|[],bd=>bd|EN,bd=>if k==fh then wL r ((n,J_)::bd)else wL r bd
Wb(env:Env)(f:a6×M?->bh->Sem (ForInStep bh))(hf:∀n k c,f qm c=if k==fh then(do let a<-cellOf env n;dV (.yield ((n,a)::c)))else dV (.yield c)):∀(c9:lp)(bd:bh),(∀y∈c9,BX->∃c,Na y.1=ad c)->forIn c9 bd f=dV Lk c9 bd|[],bd,_=>by rw[VS];rfl|EN,bd,h=>by rw[List.forIn_cons,hf];have ih:=λ bd=>Wb env f hf r bd λ y hy=>h y A? hy;show _=dV Pi Lk r ((n,Sc)::bd) Lk r bd;by_cases hk:(bH w? k);(.rw[fl hk,fl hk];obtain⟨c,hc⟩:=h qm F3 iy hk;(have e:cellOf env n=dV c:=by unfold cellOf;rw[hc]);rw[e];(have e2:Sc=c:=by rw[hc];rfl);rw[e2];exact ih _);.rw[ED,ED];exact ih _
awE(h:xx (BX->∃c,Na y.1=ad c)):closureFor c! env=dV (gr env.cells nr []):=by simp only[closureFor];rw[Wb env _ (λ n k c=>rfl) nr [] h];rfl
Nd{l:pD α}{n:a6}{c:α}(h:(n,c)∈l):∃c',l.lookup n=ad c':=by induction l with|b?=>cases h|bn q r ih=>obtain⟨k,v⟩:=q;rw[z1];cases hb:n==k with|a?=>exact zk|false=>rcases Dx with e|h;(.cases e;simp at hb);.exact ih h
ac9:∀{c9:lp}{bd:bh}{n:a6}{c:Z},(n,c)∈KD->(n,c)∈bd\/((n,fh)∈c9/\c=J_):=by intro c9;induction c9 with|b?=>exact λ h=>.inl h|bn q r ih=>intro bd n c h;obtain⟨m,k⟩:=q;have h:(n,c)∈QU m:=h;by_cases hk:(bH w? k);(.rw[fl hk]at h;rw[jG hk (k=fh) hk];rcases ih h with h|⟨h1,h2⟩;(.rcases Dx with e|h;(.cases e;rw[oM #[SE hk,rfl]]);.exact .inl h);.rw[oM #[CR,h2]]);.rw[ED]at h;rcases ih h with h|⟨h1,h2⟩;(.exact .inl h);.rw[oM #[CR,h2]]
aJi:∀{c9:lp}{bd:bh}{p:a6×Z},p∈bd->p∈KD:=by intro c9;induction c9 with|b?=>exact λ h=>h|bn q r ih=>intro bd p h;obtain⟨m,k⟩:=q;show p∈QU m;by_cases hk:(bH w? k);(.rw[kC hk,ih A? h]);.rw[lI hk,ih h]
O3{zI:bh}:∀{c9:lp}{bd:bh}{n:a6},(n,fh)∈c9->(n,J_)∈KD|(m,k)::r,bd,n,h=>by unfold gr;rcases Dx with e|h;(.cases e;exact aJi F3);.split;(.exact O3 h);.exact O3 h
CU:∀{c9:lp}{h:d0}{bd:bh}{x:a6}{c:Z},Jw x->(x,c)∈bd\/((x,gJ)∈c9/\vK<=c/\YX (Nf h c9) c a3)|[],_,_,_,_,h=>.inl h|EN,h,bd,x,c,hm=>by unfold z3 at hm;unfold Nf;split at hm;(.rename_i hk;rw[kC hk,jG hk (k=gJ) hk];rw[<-SM (.cell a3)]at hm;rcases CU hm with hm|⟨h1,h2,h3⟩;(.rcases tZ hm with e|hm;(.cases e;rw[oM (DL SE hk iK _ (VX r _ _ _ ow) ab)]);.exact .inl hm);.rw[Kh h2,oM #[CR,F6 h2,h3]]);.rename_i hk;rw[lI hk];rcases CU hm with hm|⟨h1,h2,h3⟩;(.exact .inl hm);.rw[oM #[CR,h2,h3]]
Ho:∀{c9:lp}{n:Y}{bd:bh}{p:a6×Z},p∈bd->p∈AO n c9 bd|[],_,_,_,h=>h|(m,k)::r,n,bd,p,h=>by unfold z3;split;(.exact Ho A? h);.exact Ho h
JS:∀{c9:lp}{n:Y}{bd:bh}{x:a6},(x,gJ)∈c9->∃c,(x,c)∈AO n c9 bd|(m,k)::r,n,bd,x,h=>by unfold z3;rcases Dx with e|h;(.cases e;exact #[n,Ho F3]);.split;(.exact JS h);.exact JS h
L_:∀{c9:lp}{h:d0}{bd:bh}{x y:a6}{c:Z},(∀p∈bd,p.2<vK)->(∀x y c,(x,c)∈bd->(y,c)∈bd->x=y)->Jw x->Jw y->x=y|[],_,_,_,_,_,_,hi,h1,h2=>ld hi h1 h2|EN,h,bd,x,y,c,hl,hi,h1,h2=>by unfold z3 at h1 h2;split at h1;(.rename_i hk;rw[fl hk]at h2;rw[<-SM (.cell a3)]at h1 h2;refine L_ (h:=h.push _) EO (λ x y c a b=>?_) h1 h2;(.rw[rV];rcases tZ hp with rfl|hp;(.exact Nat.lt_succ_self _);.exact Nh (hl p hp));.rcases FP a with e|a<;>rcases FP b with e'|b;((.cases e;cases e';rfl);.cases e;rw[jk (hl _ b) xz]);(.cases e';rw[jk (hl _ a) xz]);.exact ld hi a b);.rename_i hk;rw[ED]at h2;exact L_ hl hi h1 h2
aMk{A:dr}{E:d!}{s:aN}{Ni:Z}{F7:bh}{fY:a6}{func:lH}{code:a!}{around:Env}{builtins:Z}{Q:sx Env}(h:Q S9 (newEnv c! b6 Ni Hi (b6+1) F7) func code jw s BT):fo M A S9 (V0 c! Ni F7 []) func code Q E s:=by simp only[V0,V3,o?];rw[j' wpAny_alloc ?_,cc bE (wpAny_layCells _ (λ n k c=>rfl) nr F7) ?_];rw[y! (EC {s with rK:=tG}).heap.objs.size SW (rV ..)];rw[VS];exact e! qK h
Ko{sc:fU}:∀{c9:lp}{x:a6}{k:M?},(names.map λ qm=>if(H_ w? k)then S4 else qm).lookup x=ad k->∃k',names.lookup x=ad k'/\(k=k'\/(k'=fh/\k=gJ))|[],_,_,h=>by simp at h|(n,k₀)::r,x,k,h=>by have ih:=@Ko sc r x k;have h':List.lookup x (K5 IY S4 (n,k₀)::(r.map _))=ad k:=h;cases hx:x==n with|a?=>simp only[z1,hx];by_cases hc:(bH IY);(.rw[fl hc]at h';rw[CG hx h'];cases h';simp only[jX,pk]at hc;exact e9 k₀ jn #[hc.1.1,rfl]);.rw[fO hc]at h';rw[CG hx h'];cases h';exact za jH|false=>simp only[z1,hx];by_cases hc:(bH IY);(.rw[fl hc]at h';rw[CG hx h',ih h']);.rw[fO hc]at h';rw[CG hx h',ih h']
}
structure dc(N:dk)(sc c!:fU)(own:q_):Prop where
 kind:scope.kind=wM
 uniq:xx (vL y.1=ad y.2)
 ix:∀p∈own,N[p.2]?=ad p.1
 free:xx (BX->Sm gJ\/Sm fh)
 own:xx (y.2=.local\/y.2=gJ->y.1∈Le\/y.1∉N)
def z:={
wipe.1(σ:St):c_->St|[]=>σ|v::vs=>(nN).set v a3
Pf(σ:St):∀vs:c_,cW nN=σ.length|[]=>rfl|v::vs=>by unfold wipe;rw[Vb,Pf σ vs]
Ka{σ:St}{i:Y}{x:V}:∀{vs:c_},nN[i]?=ad xp->dE σ i xp/\i∉vs|[],h=>#[h,Hv]|v::vs,h=>by unfold wipe at h;by_cases hi:v=i;(.subst hi;by_cases hv:v<cW nN;(.rw[List.getElem?_set_self hv]at h;cases h);.rw[V6 (by simpa using hv)]at h;cases h);.rw[List.getElem?_set_ne hi]at h;obtain⟨h1,h2⟩:=Ka h;exact #[h1,by simp only[List.mem_cons,not_or];exact #[λ e=>hi e.symm,h2]]
Cx.cC.2(X:Cx)(s:aN)(H:Hp)(c!:fU)(eS:Env)(fp:bv):Cx:={X with iw:=s,Ck:=H,env:=eS,br:=X.stack,ex:=fp,fn:=λ x=>vL x==A0,pn:=[],xe:=λ _ _=>nl}
}
section
variable{X:Cx}{al:eA}{σ:St}{H:Hp}{s:aN}
def z:={
akh{fp:bv}(I:cB)(ok:iQ)(hN:e7)(tD:u6 b (p8 o6 H b/\oD b)):Inv sq s H su IW b6 [] v8 H jw s BT:=by(have yM:P0:=λ y hy e=>by rw[Rz (F_ y hy e) k k]);generalize Ad:su IW b6=eS;have kp:∀b o,jE->g3 (BT).get?:=f? e J6 kj;((have hL:z5=b6:=by rw[<-Ad];rfl);have ie:eS.cells=IW:=by rw[<-Ad];rfl);(have bJ:eS.scope=aLx c! Nj:=by rw[<-Ad];rfl);rw[<-rV gX pW]at ie;(have cm:∀{y c},(y,c)∈AV->R8/\oD c:=λ{y c}hm=>by rcases ac9 hm with hm|⟨h1,rfl⟩;(.cases hm);.obtain⟨c,hc⟩:=yM _ h1 ab;rw[hc];obtain⟨w,z⟩:=bE I.cell hc;exact #[rfl,z.lt]);((have mem:∀{y c},m3->(Nl y=ad c/\oD c)\/(b6+1<=c/\YX BT c a3):=λ{y c}e=>by rw[ie]at e;rcases J2 CU with hm|⟨_,h2,h3⟩;(.exact .inl (cm hm));.rw[Kh h2,oM #[h2,h3]]);have look:∀{y},O?->∃c,m3/\R8:=λ{y}hl=>by have hy:(y,VT)∈nr:=Da hl;obtain⟨c',e'⟩:=Nd (Ho (c9:=nr) (n:=PU) (O3 (zI:=V7) (bd:=[]) hy));rw[<-ie]at e';refine bm c' e' ?_;rw[ie]at e';rcases CU (z6 e')with hm|⟨h1,_,_⟩;(.exact(cm hm).1);.have:=Nm _ h1;rw[ii hl cs cs]);(have okB:(sq s H eS).Ok:=by(refine #[I.ok.mod,by show eS.scope.kind=_;rw[ez bJ ok.kind],by show eS.globals=_;rw[<-Ad];exact I.ok.glob,by show eS.builtins=_;rw[<-Ad];exact I.ok.blt,by show b6<=z5;rw[hL];exact kP _,λ y z c e1 e2=>?_,gU y hy,λ y c z e=>?_,zY,I.ok.frames,.inl ab,zw b #[?_,λ y c e z=>?_],I.bs,Lf I.ok.pM I.sz,λ b o e hb=>?_,au b hb z,I.stack,I.TX];(.have e1:m3:=e1;have e2:V8 z=ad c:=e2;rw[ie]at e1 e2;refine L_ EO (λ y z c a b=>I.ok.inj y z c (cm a).1 (cm b).1) (z6 e1) Da e2;rw[rV];exact Nh (cm (y:=p.1) (c:=p.2) hp).2);(.show∃c,m3;(have key:∀k,Nn y=ad k->(k=gJ\/k=fh)->∃c,m3:=λ k hk cj=>by unfold Env.kindOf at hk;rw[bJ]at hk;rw[jP Ko hk au k' e r];(have:k'=gJ\/k'=fh:=by rcases r with rfl|⟨rfl,_⟩;(.exact cj);.rw[oM ab]);rcases cs with rfl|rfl;(.obtain⟨c,hm⟩:=J2 (JS (n:=PU) (bd:=AV));obtain⟨c',e'⟩:=Nd hm;exact #[c',by rw[ez ie e']]);.rw[jP look e λ c h1 _=>?_];exact #[c,h1]);rcases hy with hy|hy;(.exact key _ hy jH);.exact key _ hy t!);.have z:bH (vL y==ad V4):=z;rw[jG z (vL y=ad gJ) z];have e:m3:=e;rw[ie]at e;rcases J2 CU with hm|⟨_,h2,_⟩;(.rcases ac9 hm with hm|⟨h1,_⟩;(.cases hm);.have q:=Nm _ h1;rw[ii z q q]);.rw[Kh h2,F6 h2]);((.show b≠z5;rw[hL];exact nq (fK tD).2);.have e:m3:=e;rcases mem e with⟨h1,_⟩|⟨h1,_⟩;(.exact Ee.2.2.2.2.1 y c h1 z);. (have h2:SW<=b:=by rw[<-z];exact h1);rw[jk (V_ (fK tD).2 (F6 h2)) xz]);(.rcases Ee.2.2.2.1 with z|z;(.exact I.ok.BP b o e z);.rw[jk (V_ (pi e) Lf I.ok.pM z) xz]);.rcases tZ (I.LS b z)with z|z;(.exact Ee.2.1 z);.exact Ee.2.2.1 z);(refine #[okB,rfl,I.bare,Un.kept kp,(bm (λ _=>a3) ?_ λ i y av e1 e2 e3=>?_),au y c e,?_,au y c e,gU p hp,I.aR.kept kp,by rw[ez Pf I.len]];(.show Heap.Ns _ z5 _;rw[hL];exact Heap.Ns.keeps (Heap.Ns.new ..) f? e J6 e);(.obtain⟨e2,bf⟩:=Ka e2;(have Fj:Re:=by(have key:∀k,eS.scope.names.lookup y=ad k->k=.local\/k=gJ\/k=fh->Re:=λ k hk cj=>by have j8:=hk;rw[bJ]at hk;rw[jP Ko hk au k' e r];(have no:¬(k'=.local\/k'=gJ):=λ hh=>by rcases ok.own _ (z6 e) hh with e'|e';(.rw[jP V! e' au p hp hpy];have e3:=ok.ix p hp;have:p.1=y:=hpy;rw[cs]at e3;exact bf (List.mem_map.mpr bm p hp (O6 hN e3 e1)));.exact e' (V? e1));rcases r with rfl|⟨rfl,rfl⟩;(.rcases cj with rfl|rfl|rfl;((.rw[jk jH no]);.rw[jk t! no]);.exact #[e,.inr j8]);.exact #[e,.inl j8]);have e3:nh eS.scope y:=e3;rcases e3 with e3|e3|e3;((.exact key _ e3 jH);.exact key _ e3 jn jH);.exact key _ e3 jn t!);refine ah I.loc au m hn hl;have ahL:G' nh y:=w9 (F_ _ Da Fj.1 ab) (λ k=>.inr g4 k) (λ k=>.inr jn k);rw[<-ah (hl i y av e1 e2 ahL) au w r q,<-bm w r jn #[Fj.2,?_],jP look Fj.1 au c h1 h2];rcases q with⟨k,_⟩|⟨_,c',e',z⟩;(.have k:Hf:=k;rcases F_ _ Da Fj.1 ab with k'|k'<;>rw[show No y=_ from k']at k<;>cases k);.rw[ii h2 e' e',(af c h1 (z.keeps kp))]);.have e:m3:=e;rcases mem e with⟨h1,_⟩|⟨_,z⟩;(.obtain⟨w,z⟩:=I.cell y c h1;exact #[w,z.keeps kp]);.exact #[_,z]);(.show H z5=a3;rw[hL];exact tp);(.have e:m3:=e;rcases mem e with⟨h1,_⟩|⟨h1,_⟩;(.exact I.k6 y c h1);.exact MD (F6 h1));.rw[jk (show p∈([]:eA)++[]from hp) jo]
aw4{E:d!}{D:Z}{xs:bQ}{y:V}{v:a!}{Q:d!}(I:cB)(hD:mJ D)(hz:ls)(r:eP y v)(h:∀s',fz sw H D (xs++[y]) s'->vp eX):wo vi SH [oC,v] Q E:=by refine yJ u? D hD λ G6 aF n ri e=>?_;have hl:=ri.length;refine append_at (cr:=by rw[JI Wg hz hl]) e au h' sb je;refine h Ly s h' (on I.write (by rw[hD];trivial) jH (λ b u hb q=>(fK sb.2).ph q) #[_,je] (oW (by rw[Ry]) (aF++[v]) (n+1) (ri.append (.bn r eN)) ?_));rw[je];simp
AJ.1(X:Cx)(ifs:cY)(t:TT):Prop:=∀(al:eA)(s:aN)(σ:St)(H:Hp)(Q:kS b!),cB->t σ H Q->om QY c r (F' c iW nz c) TP
kd.1:TT:=λ _ H Q=>Q a? H
oV:AJ X [] kd:=λ _ _ _ H _ I h=>wpAny_tests_nil bm H I h
Jd{t:TT}(h:PT X c t):AJ X [c] t:=λ al s σ H Q I hw=>wpAny_tests_one (ff h s H Q I hw)
}
section z
def z:={
ze{t:Sem α}{Q Q':sx α}{A:dr}{E:d!}{s:aN}(h:fo M A t Q uY s)(hQ:∀a s,Q a s->Q' a s):fo M A t Q' E s:=m6 h hQ λ _ _ z=>False.elim z
aJU{eO:ci}{w:ck}{A:dr}{R:Kl}{s:aN}{F!:a7}{ax:bi}{it bd:a!}(I:sx Y)(turn:∀n s,I n s->fo w3 A (pyNext it) (λ r l6=>match r with|a3=>R (.ok .next) l6|jR=>xA (letOwnedTupleGo F! it v) (λ _ X0=>xA (assign F! env v) (λ _ hG=>xA QY c r (F' c env zj c) (λ ok rZ=>Hd ok xA zj elt (λ x s₄=>xA vi SH [bd,x] (λ _ s₅=>∃m,m<n/\I m s₅) s₄) rZ (∃m,m<n/\I m rZ)) hG) X0) l6) OE w e e s)(n:Y)(h:I n s):CY A (.compLoop Qw 0 it bd env) R:=by refine codeAny_loop ab I j_ n s hI n h;show fo _ A ((compTurn Qw 0 it bd env).onRaise qe (do noteFrame x env;theTreesLotGoes x)) _ _ s;refine wpAny_noted ?_;rw[compTurn_list];rw[cc R' m6 (turn n s hI) j_ r l6 h₁ kM _ h' h'];cases r with|a3=>rw[DO h₁]|dL v=>rw[cc m6 h₁ (λ _ X0 h₁'=>?_) kM _ h' h',cc m6 h₁' (λ _ hG h₂=>Tk h₂ j_ ok rZ h₃ kM _ h' h') kM _ h' h'];cases ok with|false=>rw[DO #[rfl,h₃]]|a?=>exact e! (e! m6 h₃ (λ x s₄ h₄=>Tk h₄ (λ _ s₅ h₅=>qK #[rfl,h₅]) kM _ h' h') kM _ h' h')
}
section
variable{X:Cx}
def z:={
mB.1(wi:TI)(g:TG)(tt:TT)(te:TE)(vs:c_):TE:=g9 gT wi J (∀D,oQ D->OT W (J.stop i H/\Q bC D H) (J.go i H/\OR x J.pK x))
P9{al:eA}{s:aN}{σ:St}{H:Hp}{Q:VK}{tg:a7}{ax hJ:bi}{te:TE}{use:nA (a!->Sem Unit)}{Qf:d!}(hc:cX)(hN:e7)(I:cB)(hi:Lw wi)(ok:iQ)(hg:∀(s:aN)(H:Hp)(C:Z)(cl:bh)(fp:bv),mZ PG tg g)(ht:∀(s:aN)(H:Hp)(C:Z)(cl:bh)(fp:bv),mZ AJ ifs tt)(he:∀(s:aN)(H:Hp)(C:Z)(cl:bh)(fp:bv),mZ PE elt te)(hs:∀x,wc fa x=dV x)(h:xb (mB wi g tt te) H Q)(hRR:∀D C s' m H',Do->Q oC H'->s'.heap.Ns C m->p8 o6 H' C->Hw compPost l2 use Qf oC C (.ok .next) s'):wo Qj hJ [] use Qf l2:=by(have yM:P0:=λ y hy e=>by rw[Rz (F_ y hy e) k k]);refine wpAny_comprehension_free (use:=use) ab hs (awE yM) ok.kind (λ y hy e=>by rw[Nm y hy,e]) (qP hi λ xv s1 hx=>be hx au L6 s2 h2);refine yd h2 λ it fp tn J H2 e I2 T r6 f2 q=>?_;subst e;refine FB (aMk ?_) (by show 0<=rM;decide);generalize hD:F?=D;have hDn:H2 D=a3:=I2.aR.fresh (Nt hD);refine ah (q D hDn) λ W aLT turn=>cF aLT gU m0 w0;generalize Xl:EC {s2 with rK:=Q2}=s3;((have I3:fz w! s3:=by rw[<-Xl];refine I2.laid (t':=s2.toks) (λ b o e=>kj) (Nt hD) (oW (Gb _) ([]) 0 eN ?_);rw[<-hD];rw[R5 ab]);have h3:s3.heap=Q2:=by rw[<-Xl]);have sz:u6 b SV:=zw b (by refine ah (T.obj _ _ r6 b hb) λ o e _=>?_;exact pi e);(have f3:u6 b (p8 o6 w! b/\b<l3):=zw b (by have a8:=fK sz;refine #[#[?_,(fK f2).2],by rw[h3,rV];exact Nh a8];rw[aV (by rw[<-hD];exact nq a8)];exact(fK f2).1);have yB:tn 0 s3.heap:=ld T.keep r6 λ b _ o e=>by rw[h3];exact U0 _ e);have I4:=akh I3 ok hN f3;have pg:=IT hg s3;have pt:=IT ht s3;have pe:=IT he s3;show Np _ _ (.compStart tL 0 bC it oC PD) Qm Qf jw s3 PN;have Vx:u6 b (w! b=a3):=zw b (fK f3).1.1;generalize NV:PD=ce at I4 pg pt pe⊢;(have cL:Nu=l3:=by subst NV;rfl);generalize hH3:w!=H3 at I3 I4 pg pt pe w0 Vx f3;generalize Ld:EC {s3 with rK:=PN}=s4 at I4⊢;(have qV:tn 0 s4.heap:=ld T.keep yB λ b _ o e=>by rw[<-Ld];exact J6 kj);have xu:∀{a2:St}{H':Hp}{s':aN},Inv qt [] a2 H' s'->(∀b∈fp,H' b=a3)->u6 b (o6 qt [] H' b):=λ{a2 H' s'}I' hn b hb=>(E3 fK hn ((fK I'.ok.Du).1) fK I'.ok.yL g4 hb (λ x c e=>(fK I'.ok.Du).2 x c e) (λ p hp=>absurd (show p∈([]:eA)++[]from hp) jo));(have loop:Np Ln X.A (.compLoop tL 0 bC it oC ce) Qm Qf s4:=by refine aJU (λ n s'=>P4 i i n) ?_ m0 (jg 0 H3 I4 qV Vx w0);rintro n s5⟨i,H5,I5,uF,n5,w5⟩;rcases turn i n H5 w5 with⟨stop,qq⟩|⟨go,Nx,hNx,step⟩;(.have td:=T.done qt ab ab ab hc i [] s5 _ H5 uY I5 (xu I5 n5) uF stop;refine ze td λ r s6 aBf=>bq aBf gU hr I6;subst hr;(have I7:fz H5 s6:=I3.aIp (ch:=fp) I6.os I6.base I6.aR I6.bare zw b (fG (Em.2.2.2.1) (Em.2.1) (Em.2.2.2.2.1) (Em.2.2.2.2.2));have nC:H5 l3=a3:=by have z:H5 Nu=a3:=I6.free;rw[cL]at z;exact z);refine ah I6.loc λ m hn _=>?_;have hn:s6.heap.Ns Nu m:=hn;rw[cL]at hn;exact hRR D l3 s6 m H5 I7 qq hn (I3.Co (kP _) nC));.have ti:=T.item qt ab ab ab hc i [] s5 _ H5 uY I5 (xu I5 n5) uF go;refine ze ti λ r s6 avL=>ah avL au u hr h6;subst hr;refine ze h6 λ _ s7 aE4=>vG aE4 λ x H7 I7 r7 y7 L8 n7=>?_;have I7':=I7.pinned (xu I7 n7) bE T.obj L8;refine ze (pg _ s7 _ H7 x u _ I7' r7 (step x H7 y7)) λ _ s8 ajr=>aO ajr λ σ8 H8 I8 Yf q8=>?_;refine ze (pt _ s8 σ8 H8 _ I8 q8) λ b s9 afQ=>ah afQ au H9 I9 q9;(have eQ:∀{s':aN}{H':Hp},Inv qt ([]++Bc fp s7.heap) σ8 H' s'->Nx H'->∃m,m<n/\P4 i i m:=λ{s' H'}I' nx=>by refine ah (hNx H' nx) au m' hm w';(have Qr:u6 b (∀o,g3 s7.heap.get?->g3 s'.heap.get?/\H' b=a3):=λ b hb o e=>let z:=I'.pin (b,o) Su Su (IJ hb e);#[z.1,z.2.1];have hl:cW v8=σ8.length:=by rw[<-Yf,Pf]);refine #[m',hm,i+1,H',(I'.FE (al:=[])).weak hl ES v,ld T.keep L8 λ b hb o e=>(Qr b hb o e).1,gU b hb,w'];(.rw[<-Yf]at e;exact(Ka e).1);.refine ah (T.obj _ _ L8 b hb) λ o e _=>?_;exact(Qr b hb o e).2);cases b with|false=>simp only[Nv,Ms]at q9⊢;exact eQ I9 q9|a?=>simp only[o?]at q9⊢;refine ze (pe _ s9 σ8 H9 _ I9 q9) λ z dD aKx=>abR aKx λ yv lU I10 r10 bd aAh V' nx=>?_;exact aw4 (X:=qt) I10 aAh V' r10 λ zL I11=>eQ I11 nx);exact codeAny_compStart_list loop ld (T.self X.A 0) qV loop
wZ{tg:a7}{ax:bi}{te:TE}(hc:cX)(hN:e7)(hi:Lw wi)(ok:iQ)(hg:∀(s:aN)(H:Hp)(C:Z)(cl:bh)(fp:bv),mZ PG tg g)(ht:∀(s:aN)(H:Hp)(C:Z)(cl:bh)(fp:bv),mZ AJ ifs tt)(he:∀(s:aN)(H:Hp)(C:Z)(cl:bh)(fp:bv),mZ PE elt te)(hs:mN):bS tL (mB wi g tt te Uz):=by rw[ke];rw[eval_ListComp];refine P9 hc hN I hi ok hg ht he hs h λ D C s' m H' I' q hn f=>(bm m hn λ h'' sb=>?_);refine lM f EM;exact(aE oC H' EV (I'.turned (t':=s'.toks)) o (Fc fK sb.2 e) ab q)
xS{i:Y}{y:a6}{py:bi}{tg:a7}{ax i7:bi}{te:TE}(hc:cX)(hN:e7)(hy:dE X.N i y)(XS:Hf)(mo:sZ tL ad Ep i7.line=dV a?)(hi:Lw wi)(ok:iQ)(hg:∀(s:aN)(H:Hp)(C:Z)(cl:bh)(fp:bv),mZ PG tg g)(ht:∀(s:aN)(H:Hp)(C:Z)(cl:bh)(fp:bv),mZ AJ ifs tt)(he:∀(s:aN)(H:Hp)(C:Z)(cl:bh)(fp:bv),mZ PE elt te)(hs:mN):PS X (.po [Ep] tL i7) (IU (mB wi g tt te Uz) (dC i)):=by rw[sE D I h];rw[ld exec_Assign_Name_used _ mo];rw[cc R' ?_,k1 X.A (do let _<-Qj (firstIterPos [#[tg,fa,ifs,0]] ax) [] ad so assign Ep) s];have h:xb (mB wi g tt te) H λ x H1=>dC i x σ H1 l7:=h;rw[cc (be (P9 (Qf:=λ _ s'=>SP X al D .next s') hc hN I hi ok hg ht he hs h λ L C s' m H' I' q hn f=>?_) λ _ s' hq=>qK hq),k1 _ (assign Ep iW bC L) _,<-wpAny_assign_Name (Rl (v:=V.ref L) I' hN hy g4 XS ab (λ s2 I2 azy=>ah azy au a sb ha) jn XS),<-lM f EM];(have haC:C≠a:=by rcases ha with z|z;(.rw[ez z f1]);.exact λ e=>f4 y a z e.symm);rw[oo (bm m (hn.sameBut sb haC) λ h3 sb3=>?_) (cD _ H' EV (I2.turned (t':=s2.toks)) o (Fc fK sb3.2 e) q)]
}
section z
def z:={
zH{lo:a4}{te:TE}{vs:c_}{σ:St}{D:Z}(Pv:Bk)(h0:Pv 0 Bg)(hs:∀i H,i<n->qF i (g AC i nN H Oy (GX d1=nN) vq A! vq H3))(hd:∀H,qF n (Qd H)):Ix Mh Mh (Mh).pK:=by rw[Je n (i<=n) n];rintro i m H⟨rfl,hi,p⟩;by_cases a8:i<n;(.rw[Io a8 (λ H' p'=>Iy (n - j6) a8 a8) y];subst e y;exact hs i _ a8 p);.rw[Ds n iK (hd H p)]
Dr{a:Z}{xs:bQ}{te:TE}{vs:c_}{σ:St}{D:Z}(Pv:Bk)(h0:Pv 0 Bg)(hl:∀i H,yZ->qF i mH aC a)(hs:∀i x H,p? i x qF i HB H vq A! vq H3)(hd:Sl):Ix (uB K a) (uB K a) (uB K a).pK:=by rw[Je bL yZ bL];rintro i m H⟨rfl,hi,p⟩;have q:=hl i H hi p;by_cases a8:LG;(.rw[Ps i x y]);.rw[Ds bL (af xs q (kP _)) (hd H p)]
aKk{a:Z}{xs:bQ}{te:TE}{vs:c_}{σ:St}{D:Z}(Pv:Bk)(h0:Pv 0 Bg)(hl:∀i H,yZ->qF i Ed)(hs:∀i x H,p? i x qF i HB H vq A! vq H3)(hd:Sl):Ix (uN K a) (uN K a) (uN K a).pK:=by rw[Je bL yZ bL];rintro i m H⟨rfl,hi,p⟩;have q:=hl i H hi p;by_cases a8:LG;(.rw[Ps i x y]);.rw[Ds bL (af xs q (kP _)) (hd H p)]
acB.1(N:dk)(sc c!:fU)(own:q_):b!:=(match scope.kind with|wM=>a?|_=>false)&&SL bG (vL y.1=ad y.2)&&(own.all λ p=>bG (N[p.2]?=ad p.1))&&SL (match y.2 with|fh=>(match F2 y.1 with|A0=>a?|ad fh=>a?|_=>false)|.local=>bG (y.1∈Le)||bG (y.1∉N)|gJ=>bG (y.1∈Le)||bG (y.1∉N)|_=>a?)
d9{N:dk}{sc:fU}(h:bH (acB N sc c! own)):dc N sc c! own:=by unfold acB at h;simp only[jX,Wa,jZ]at h;refine bq h λ aMb h4=>bq aMb λ aFG h3=>bq aFG gU h1 h2;(refine #[?_,h2,h3,au y hy e,au y hy e];(.split at h1;(.assumption);.cases h1);.have q:=h4 y hy;simp only[e]at q;split at q<;>first|exact .inl (by assumption)|exact .inr (by assumption)|cases q);.have q:=h4 y hy;rcases e with e|e<;>(simp only[e,z7,jZ]at q;exact q)
}
section
variable{κ:Type} [Wc κ]
def z:={
b7.1(aq:fS)(k:κ):oP:=jS s0 aq.find? bG (k!=k) ((·.2))
hM.1(aq:fS)(k:κ)(v:V):fS:=if(bH ui)then r3 (λ kv=>yu (n!=k) v kv)else aq++[(k,v)]
lN{p:κ×V}{r:fS}{k:κ}(e:ng):b7 (p::r) k=ad p.2:=by rw[xq b7 e]
lT{p:κ×V}{r:fS}{k:κ}(e:¬ng):b7 (p::r) k=b7 r k:=by rw[xq b7 e]
xF(k:κ):∀aq:fS,ui=BE lR|[]=>rfl|p::r=>by rw[rT];by_cases e:ng;(.simp only[lN e,z8 e,Bool.true_or,V3]);.rw[ut,FQ e,Bool.false_or];exact xF k r
WV(k j:κ)(y:V):∀aq:fS,b7 (r3 λ kv=>yu (n!=k) y kv) j=jS Fh λ x=>if j=k then y else x|[]=>rfl|p::r=>by have ih:=WV k j y r;rw[jY];by_cases h:ng;(.rw[kC h,Q9 (lN (p:=(p.1,y)) e) (ga (e.symm.trans h)) (lT (p:=(p.1,y)) e)]);.rw[lI h,Q9 (lN (p:=p) e) fO y9 h e.trans (lT (p:=p) e)]
OG(k j:κ)(y:V):∀aq:fS,ji lR->b7 (aq++[(k,y)]) j=if j=k then ad y else Fh|[],_=>by by_cases e:k=j;(.rw[kC e.symm,lN (p:=(k,y)) e]);.rw[lI Bf (e z.symm),lT (p:=(k,y)) e]|p::r,hn=>by rw[List.cons_append];(have hk:¬ng:=λ z=>by rw[lN z]at hn;cases hn);rw[lT hk]at hn;have ih:=OG k j y r hn;by_cases e:p.1=j;(.rw[lN e,lN e,fO y9 hk e.trans]);.rw[ut,ut,ih]
ko(aq:fS)(k j:κ)(y:V):b7 (hM aq k y) j=if j=k then ad y else Fh:=by unfold hM;by_cases a:(bH ui);(.rw[ga a,WV];rw[xF]at a;by_cases e:j=k;(.obtain⟨x,hx⟩:=Option.isSome_iff_exists.mp a;rw[zl,e,hx,Ny,ee ga]);.rw[u8];cases Fh with|a3=>rfl|dL x=>rw[Ny,u8]);.rw[kO a];refine OG k j y aq ?_;rw[xF]at a;cases q:lR with|a3=>rfl|dL x=>rw[q]at a;exact w9 ee a
pA(aq:fS)(k:κ)(v:V):cW oL<=pp+1:=by unfold hM;split;(.rw[ez hE MH]);.rw[zN,l5,Gc];exact aGw
Hj{aq:fS}{k:κ}(v:V)(h:ji lR):oL=aq++[(k,v)]:=by unfold hM;rw[xF,h];exact KL
i8.Bq{o:oP}{u:sB}(r:i8 o u):z9=u.isSome:=by cases o with|a3=>(cases u with|a3=>rfl|dL _=>rw[DE nl r])|dL _=>cases u with|a3=>rw[DE nl r]|dL _=>rfl
i8.getD{o:oP}{u:sB}{d:V}{d':a!}(r:i8 o u)(rd:eP d d'):eP (o.getD d) (u.getD d'):=by cases o with|a3=>(cases u with|a3=>exact rd|dL _=>rw[DE nl r])|dL _=>cases u with|a3=>rw[DE nl r]|dL _=>exact r
KV.val{aq:fS}{vs:yA}(r:o4)(k:κ):i8 (b7 aq k) y5 vs:=by unfold KV at r;induction r with|b?=>rw[yE]|@bn p q ps qs h t ih=>obtain⟨h1,h2⟩:=h;by_cases e:ng;(.rw[QG b y5 Fk Nz]);.have e':¬IO:=λ z=>e (Gd z);(have b:y5 Fk=y5 qs:=by rw[xq Nz e']);rw[ut,b];exact ih
KV.any{aq:fS}{vs:yA}(r:o4)(k:κ):ui=RM:=by unfold KV at r;induction r with|b?=>rfl|bn h t ih=>rw[rT,rT,ih,h.1]
KV.NX{aq:fS}{vs:yA}(r:o4)(k:κ){y:V}{u:a!}(ry:kI):KV (r3 λ kv=>yu (n!=k) y kv) s0 vs.map yu (n!=k) u kv:=by unfold KV at r⊢;induction r with|b?=>exact eN|@bn p q ps qs h t ih=>rw[Kx jY,<-vn ?_ ih];obtain⟨h1,h2⟩:=h;by_cases e:ng;(.rw[zl,SY ga];exact #[h1,ry]);.rw[u8,fO y9 e Gd];exact #[h1,h2]
KV.put{aq:fS}{vs:yA}(r:o4)(k:κ){y:V}{u:a!}(ry:kI):KV (hM aq k y) (Ge vs k u):=by unfold hM Ge;rw[r.any k];by_cases e:(bH RM);(.rw[zl,zl];exact r.NX k ry);.rw[u8,u8];exact Wl r #[rfl,ry]
KV.length{aq:fS}{vs:yA}(r:o4):pp=zE:=NC r
}
section z
def z:={
si{P:ci}{w:ck}{k:Key}{u:a!}(r:eP (kV k) u):bH ((f_ P w).is k u):=by cases k with|inl i=>rw[Sa (Value.int i t) asY i]|inr x=>rw[Sa (Value.str x t) aik x]
Q4{P:ci}{w:ck}:∀{ks:io}{us:cx},bN LV us->ItemsAre (f_ P w) ks us|[],_,r=>by rw[ul r r,eN]|k::ks,_,r=>by rw[Dk r];cases r with|bn h t=>exact vn (si h) (Q4 t)
KT.2(H:Hp):cP (io×V)->u3->Prop:=Paired λ p q=>p.1=q.1/\dQ q.2.1 dM pQ p.1 kV/\eP p.2 q.2.2
KT.val{H:Hp}{xs:u3}(r:va)(k:io):i8 lR ((Ez).map (·.2)):=by induction r with|b?=>rw[yE]|@bn p q ps qs h t ih=>refine bW h λ h1 _ h2=>?_;by_cases e:ng;(.rw[QG b Bm Fk atKey]);.have e':¬IO:=λ z=>e (Gd z);(have b:Bm Fk=Bm qs:=by rw[xq atKey e']);rw[ut,b];exact ih
KT.NX{H:Hp}{xs:u3}(r:va)(k:io){y:V}{u:a!}(ry:kI):KT H s0 r3 yu (n!=k) y kv (xs.map (putAt k u)):=by induction r with|b?=>exact eN|@bn p q ps qs h t ih=>rw[Kx jY,<-vn ?_ ih,<-bW h au h1 h2 h3];unfold putAt;by_cases e:ng;(.rw[zl,SY ga];exact #[h1,h2,ry]);.rw[u8,fO y9 e Gd];exact #[h1,h2,h3]
KT.put{H:Hp}{xs:u3}(r:va)(k:io){b:Z}{y:V}{u:a!}(hb:yf)(ry:kI):KT H (hM aq k y) (storedH xs k b u):=by(have e:ui=BE Ez:=by rw[xF,(r.val k).Bq,ND]);unfold hM storedH;rw[e];by_cases q:(bH BE Ez);(.rw[fl q,fl q];exact r.NX k ry);.rw[fO q,fO q];exact Wl r #[rfl,hb,ry]
KT.keeps{H:Hp}{xs:u3}(r:va)(ht:∀b ys,dQ b dM ys->H' b=ad (.dM ys)):KT H' aq xs:=Paired.Ga r λ _ _ z=>#[z.1,bE ht z.2.1,z.2.2]
}
section
variable{P:ci}{w:ck}{H:Hp}{h:d0}{a:Z}
def z:={
VY{u:HO}(ok:u5)(e:_R H a u):Ey a u:=e.ok ok
uQ{aq:gS}(ok:u5)(e:u4 dK):x?/\uo/\∃vs,o4/\h.DictOf (f_ P w) a vs:=show Ey a (.dK aq)from VY ok e
Vt{aq:gS}(ok:u5)(e:yr):x?/\uo/\∃vs,o4/\h.DictOf (f_ P w) a vs:=uQ ok Fb
xw{ks:io}(ok:u5)(e:dQ a dM LV):(DH).is h ks a:=by obtain⟨_,aF,r,o,h1,h2,n,h3⟩:=(show Ey a (.dM LV)from ok a _ e);exact(b8 o gY n h1 h2 h3 (by simpa using Q4 r))
wH(ok:u5)(e:u4 dT):x?/\uo/\∃xs,va/\h.DictOfH DH a xs:=by obtain⟨z,y,xs,r,o,es,ep,h1,h2,h3,h4,h5⟩:=(show Ey a (.dT aq)from VY ok e);refine #[z,y,xs,r,o,es,ep,h1,h2,h3,h4,gU x hx,h5];(have all:∀{l:cP (io×V)}{m:u3},KT H l m->∀x∈m,(DH).is h x.1 x.2.1:=by intro l m q;induction q with|b?=>intro x hx;exact nomatch hx|@bn p q ps qs hq t ih=>intro x hx;rcases tZ hx with e|hx;(.subst e;exact xw ok (by rw[<-hq.1];exact hq.2.1));.exact ih x hx);exact all r x hx
abh(ok:u5)(e:yt):x?/\uo/\∃xs,va/\h.DictOfH DH a xs:=wH ok Fb
}
section z
def z:={
dJ.1(H:Hp)(a:Z)(y:V)(r:oP):Prop:=(∃aq k,u4 dK/\y=Mn/\r=lR)\/∃aq k b,u4 dT/\y=cv b/\yf/\r=lR
ja.1(H:Hp)(a:Z)(y v:V)(H':Hp):Prop:=(∃aq k,yr/\y=Mn/\Dz/\H'=iU a dK oL)\/∃aq k b,yt/\y=cv b/\yf/\Dz/\H'=iU a dT oL
dJ.k{H:Hp}{a:Z}{aq:gS}{k:Key}(e:yr):dJ H a (kV k) lR:=.inl (aE aq k Fb ab ab)
dJ.t{H:Hp}{a b:Z}{k:io}(e:yt)(eb:yf):dJ H a im lR:=.inr (b8 aq k b Fb ab eb ab)
ja.k{H:Hp}{a:Z}{aq:gS}{k:Key}{v:V}(e:yr)(hl:Dz):ja H a Mn v iU a dK oL:=.inl (jg aq k e ab hl ab)
ja.t{H:Hp}{a b:Z}{k:io}{v:V}(e:yt)(eb:yf)(hl:Dz):ja H a im v iU a dT oL:=.inr (oZ aq k b e ab eb hl ab)
}
section
variable{X:Cx}{al:eA}{σ:St}{H:Hp}{s:aN}{a:Z}{y v:V}{u r:a!}{o:oP}{A:dr}{E:d!}
def z:={
Inv.Cy(I:cB):oD Gg:=by have h:oD mainGlobals:=(I.mod.glob.keeps I.bk).lt;exact r4 fe h
alo{Q:d!}(hu:uA)(I:cB)(g:mz H jR)(ry:kI)(h:∀w' s',Dw->eP v w'->vp w'):xV (rP eY u) Q E:=by rcases g with⟨aq,k,e,ey,l⟩|⟨aq,k,b,e,ey,eb,l⟩;(.subst ey;rw[wx uQ hd vs,<-ah (i8.some_of (v:=v) (o:=y5 vs) (by rw[l];exact NE k)) au w' hw cZ,wpAny_getItem_of (si ry) NG hw D1 h w' cZ]);.subst ey;rw[xL ry wH xs,<-ah (i8.some_of (v:=v) (o:=jS Ez ((·.2))) (by rw[l];exact NE k)) au w' hw cZ,jP VF hw au p hp En,J8 wpAny_getItem_heap dd hp];rw[En];exact D1 h w' cZ
aCS{Q:d!}(hu:uA)(I:cB)(g:mz H o)(ry:kI)(h:∀s',Dw->vp xQ z9):xV (MR .In u eY) Q E:=by rcases g with⟨aq,k,e,ey,l⟩|⟨aq,k,b,e,ey,eb,l⟩;(.rw[Qa wpAny_in_of hd l]);.subst ey;rw[xL ry wH xs,J8 wpAny_in_heap hd dd];have q:=ID;rw[ND]at q;rw[<-q,<-l];exact h _ xl
afx{Q:d!}(hu:uA)(I:cB)(g:mz H o)(ry:kI)(h:∀s',Dw->vp xQ (!z9)):xV (MR .nj u eY) Q E:=by rcases g with⟨aq,k,e,ey,l⟩|⟨aq,k,b,e,ey,eb,l⟩;(.rw[Qa wpAny_notIn_of hd l]);.subst ey;rw[xL ry wH xs,J8 wpAny_notIn_heap hd dd];have q:=ID;rw[ND]at q;rw[<-q,<-l];exact h _ xl
N0{ob:HO}(I:cB)(mu:B7 (H a))(hs:Heap.SameBut a gX h')(he:KC q a q)(new:sH fw (upd H a ob) h' a ob):fz (upd H a ob) wf s h' t':=K7 x a a mu jH (λ b q hb z=>(fK hs.2).ph z) he new
Wi{P:ci}{w:ck}{aq:gS}{vs:q5}(z:x?)(hd:uo)(rel:o4)(dd:NL (f_ P w) a vs):fw P w H' h' a (.dK aq):=(DL z hd vs rel dd)
aA8{Q:sx Unit}(hu:uA)(I:cB)(g:ja H a y v H')(ry:kI)(rv:eP v r)(h:∀s',Do->vp ()):xV (setItem eY u r) Q E:=by rcases g with⟨aq,k,e,ey,l,eH⟩|⟨aq,k,b,e,ey,eb,l,eH⟩;(.subst ey eH;rw[wx Vt hd vs];((have hz:p6 zE:=by rw[<-rel.length];exact z);have hl:j! cW oL:=by have:=pA aq k v;exact vC cs l);refine wpAny_setItem_pairs (cr:=hz) (si ry) dd λ h' vv hs=>h _ ?_;(have he:KC q a q:=by obtain⟨q,_,_,hq,_⟩:=vv;exact #[q,hq]);exact N0 I (by rw[e];rw[yE]) hs he (Wi hl hd (rel.put k rv) vv));.subst ey eH;rw[xL ry abh xs];((have hz:Kq:=by rw[<-NC rel];exact z);have hl:j! cW oL:=by have:=pA aq k v;exact vC cs l);refine wpAny_setItem_heap (cr:=hz) (NI hu) Ii dd λ h' vv hs=>h _ ?_;obtain⟨q,es,ep,hq,h2,h3,h4,_,h5⟩:=vv;refine N0 I (by rw[e];rw[yE]) hs #[q,hq] #[hl,hd,_,(rel.put k eb rv).keeps au c ys ec,q,es,ep,hq,h2,h3,h4,h5];rw[aV (vS ec e Bf (nomatch z))];exact ec
}
section z
def z:={
Ek.1(i:a7):Prop:=∀ov iv,FG i i0 ov iv=MN [ov,iv] (rP ov iv)
alB{eO:ci}{w:ck}{A:dr}{E:d!}{s:aN}{i3 l4:a7}{ax:bi}{T id:jT}{Q:d!}(hl:Sx Fd=dV ad zb)(hs:Ek l4)(h:kl zj i3 (λ o l6=>(tq A zj l4 λ i hG=>s₂.TypeIs o T/\tq A Ui Q E hG) E l6) E):kl zj AY i3 l4 Q E:=by refine MB m6 h (λ o l6 h₁=>m6 h₁ j_ i hG h₂ kM _ x x) kM _ x x;obtain⟨hT,h₂⟩:=h₂;rw[qN MC ?_];rw[getitemInPython_of_ne hT.not_modules];rw[cc (wpAny_specialOf hT hl ?_)];(have eQ:(tq A (FG l4 i0 o i) λ r rZ=>tq A (letTemporaryGo i3 o r>>=(eF dV r)) Q E rZ) E hG:=by rw[hs o i];exact wpAny_operating m6 h₂ (λ r rZ h₃=>e! wq wpAny_letTemporaryGo h₃) kM _ x x);first|exact e? (e! eQ)|rw[DQ Iz e? eQ]|rw[DQ eQ]
aK5{X:Cx}{al:eA}{σ:St}{H:Hp}{s:aN}{a:Z}{y:V}{o:oP}(I:cB)(g:mz H o):zF eY "dict":=by rcases g with⟨aq,k,e,_,_⟩|⟨aq,k,b,e,_,_,_⟩;(.rw[sK uQ rS λ _ _ vs _ dd=>?_];exact z!);.rw[sK wH rS λ _ _ xs _ dd=>?_];exact z!
ajp.1(td ty:TE):TE:=g9 gT td x m2 ty y JU v jR n3
azc.1(ty td:TE):TE:=g9 gT ty y m2 td x JU o o fI i! z9
aoe.1(ty td:TE):TE:=g9 gT ty y m2 td x JU o o fI zA z9
aF0.1(td ty tv:TE):TS:=λ D σ H=>gT tv v m2 td x (ty σ H2 λ y H3=>∃a H4,gp x/\ja H3 a y v H4/\l7 σ H4)
}
section
variable{X:Cx}{o i e i3:a7}{ax hJ RC:bi}{td ty tv:TE}
def z:={
asA(hu:lw)(ho:zh)(hi:bS i ty)(hs:Ek i):bS q7 i (ajp td ty):=by rw[ke,<-alB PySem.F.slot_dict_getitem.lookup hs (qP ho λ u s1 ath=>aO ath (uh x rx or hi λ iv s2 agK=>qg agK λ y H2 I2 ry a v ex g q2=>?_)),ya (u=rg) rx,#[aK5 I2 g,alo hu I2 g ry λ w' s3 I3 cZ=>Ef v I3 cZ]]
aat(hu:lw)(hi:bS i ty)(ho:zh):PC X .In i o (azc ty td):=by rw[ke,<-be (ff hi s H _ I h) λ iv s1 ah5=>aO ah5 (uh y ry or ho λ u s2 aDt=>qg aDt λ x H2 I2 rx a ov ex g q2=>?_),ya (u=rg) rx,aCS hu I2 g ry λ s3 I3=>Ef i! ov.isSome I3 ab]
aF4(hu:lw)(hi:bS i ty)(ho:zh):PC X .nj i o (aoe ty td):=by rw[ke,<-be (ff hi s H _ I h) λ iv s1 amq=>aO amq (uh y ry or ho λ u s2 aHR=>qg aHR λ x H2 I2 rx a ov ex g q2=>?_),ya (u=rg) rx,afx hu I2 g ry λ s3 I3=>Ef zA ov.isSome I3 ab]
tV(hu:lw)(ho:zh)(hi:bS i ty)(hv:bS i3 tv)(hs:sZ i3 ad (.Mz o i hJ) Gh=dV i0):PS X gt po [.Mz o i hJ] i3 (aF0 td ty tv):=by rw[sE D I h,<-wpAny_Assign_Subscript (be (ff hv s H _ I h) λ r s1 akA=>aO akA (uh v rv or ho λ u s2 apE=>aO apE (vd x rx C_ hi H2 λ iv s3 aAG=>qg aAG λ y H3 I3 ry a H4 ex g q3=>?_))) hs,ya (u=rg) rx,aA8 hu I3 g ry rv λ s4 I4=>(cD σ H4 I4 q3)]
}
section z
def z:={
WQ{P:ci}{w:ck}{H:Hp}(h:d0)(hb:T3):fw P w H (h.push pW) vK (.dK []):=(DL Lm Sv (zO (nq hb)) ([]) eN (Wm h))
anj{P:ci}{w:ck}{H:Hp}(h:d0)(hb:T3):fw P w H (h.push pW) vK (.dT []):=#[Lm,Sv (zO (nq hb)),[],eN,_,yI,0,ow,#[rfl,rfl,rfl],rfl,rfl,List.nodup_nil]
ank.1:TE:=λ _ H Q=>qL p p iU p dK []
ar1.1:TE:=λ _ H Q=>qL p p iU p dT []
}
section
variable{X:Cx}{ax:bi}
def z:={
Bp:bS gt Dict [] [] ank:=λ al s σ H Q I h=>PJ dK WQ
XR:bS gt Dict [] [] ar1:=λ al s σ H Q I h=>PJ dT anj
}
section z
def z:={
IM.1:Ea->St->Hp->(i_ V V->ia)->Prop|[],_,H,Q=>Q [] H|(tk,tv)::r,σ,H,Q=>gT tk x m2 tv y (IM r σ H2 λ ps H3=>Q ((x,y)::ps) H3)
VV.2:i_ V V->AN a!->Prop:=Paired λ p q=>eP p.1 q.1/\eP p.2 q.2
F4.1(X:Cx)(ax:bi)(keys:cP uX)(z?:cY)(tP:Ea):Prop:=∀(al:eA)(s:aN)(σ:St)(H:Hp)(Q:i_ V V->ia),cB->IM tP σ H Q->fo Ln X.A (evalPairs (pairTrees keys z? iW ax)) (λ vs s'=>∃ps H',Do/\VV ps vs/\Q ps H') l2 s
abx{X:Cx}{ax:bi}:F4 X ax [] [] []:=λ al s σ H Q I h=>pairTrees_nil_walk ql [] eN h
RU{X:Cx}{ax:bi}{k v:a7}{ks:cP uX}{vs:cY}{tk tv:TE}(hk:bS k tk)(hv:bS v tv)(hr:F4 X ax ks vs tP):F4 X ax (ad k::ks) Mj ((tk,tv)::tP):=λ al s σ H Q I h=>pairTrees_cons_walk (qP hk λ u s1 azr=>aO azr (uh x rx or hv λ w2 s2 arW=>aO arW (vd y ry C_ hr H2 λ ws s3 aop=>aO aop λ ps H3 I3 rel q3=>(aE ((x,y)::ps) H3 I3 (.bn #[rx,ry] rel) q3))))
nX.1(aq kR:gS):gS:=more.foldl (λ bd kv=>hM bd n! qu) aq
KV.merge:∀{kR:gS}{rs:q5}{aq:gS}{vs:q5},KV kR rs->KV aq vs->KV (nX aq kR) (Gi vs rs):=by intro kR rs aq vs r;unfold KV at r;induction r generalizing aq vs with|b?=>intro q;exact q|@bn p q ps qs h t ih=>intro r0;(have e:KV (hM aq p.1 p.2) (Ge vs q.1 q.2):=by have:=r0.put p.1 h.2;rw[<-h.1];exact cs);exact ih e
LO:∀(kR aq:gS),cW (nX aq kR)<=pp+more.length|[],aq=>by show pp<=pp+0;exact Qz|p::r,aq=>by have h1:=LO r (hM aq p.1 p.2);have h2:=pA aq p.1 p.2;show cW (nX (hM aq p.1 p.2) r)<=_;rw[l5];exact aaj h1 h2
aet{P:ci}{w:ck}:∀{aq:gS}{ws:AN a!},VV s0 r3 (Fe,qu) ws->∃rs,Carries (f_ P w) ws rs/\KV aq rs|[],_,r=>by rw[ul r r,bm [] True.intro eN]|p::aq,_,r=>by rw[Dk r];cases r with|@bn a b as bs h t=>rw[jP (aet (P:=P) (w:=w)) t au rs c q];obtain⟨b1,b2⟩:=b;exact bm ((p.1,b2)::rs) #[si h.1,rfl,c] (.bn #[rfl,h.2] q)
ax7.1(tP:Ea):TE:=g9 (∀p,H p=a3->IM tP σ iU p dK [] λ ps H2=>H2 p=ad (.dK [])/\∃aq:gS,ps=r3 (λ kv=>(Fe,qu))/\pp<=15/\Q bC p (upd H2 p (.dK vj)))
VZ{X:Cx}{ax:bi}{keys:cP uX}{z?:cY}(h:F4 X ax keys z? tP)(b9:keys.all (·.isSome)=a?)(hl:Wn=values.length)(h0:keys≠[])(h15:Wn<=15):PE X gt Dict keys z? (ax7 tP):=by rw[sE Q I q];have hn:=G_ MD b6;have I1:=on (O! a dK [] (h':=Ft pW)) Il iK (WQ gX I.Cy);refine wpAny_Dict_walk (knd:=f_ l1 X.w) b9 hl h0 h15 (be (ff h _ _ _ I1 (q _ hn)) λ ws s2 aKu=>aAn aKu λ ps H2 I2 rel e aq ep lk q2=>?_);subst ep;rw[jP K9 aet P X.w rel au rs c rk,sK Vt I2.aR λ z hd vs0 r0 dd=>?_];cases r0;refine(aZ rs c dd (λ h' vv hs=>tS ?_ q2));((have hz:j! cW vj:=by have h1:=LO aq [];rw[Gc]at h1;rw[sizeLine_eq];exact at3 h1 lk);have he:KC q b6 q:=by obtain⟨q,_,_,hq,_⟩:=vv;exact #[q,hq]);exact N0 I2 (by rw[e];rw[yE]) hs he (Wi hz hd (rk.merge eN) vv)
}
structure M2(X:Cx)(o:a7)(m:a6)(gZ:bi)(e f:a7)(ka:bi):Prop where
 ca:C! o m j?=j?
 few:bH J3 Dn [e,f] (MS ka G9 []) ([e,f]:cY)
 line:bH Lc ka.line
 trees:backTo ka pC [e,f]=[Hb e,v! f]
def z:={
Kz.1(H:Hp)(a:Z):Prop:=(∃aq,u4 dK)\/∃aq,u4 dT
am6{X:Cx}{al:eA}{σ:St}{H:Hp}{s:aN}{a:Z}(I:cB)(d:Kz H a):zF eY "dict"/\(∀b,rg=cv b->∃ob,Kr ob/\T!)/\uo:=by rcases d with⟨aq,e⟩|⟨aq,e⟩;(.rw[sK uQ rS λ _ hd vs _ dd=>?_];refine #[z!,gU b q,hd];cases q;refine gF dd λ ob _ _ h1 h2 _=>?_;exact bm ob h1 h2.2.1);.rw[sK wH rS λ _ hd xs _ dd=>?_];refine #[z!,gU b q,hd];cases q;refine gF dd λ ob _ _ h1 h2 _=>?_;exact bm ob h1 h2.2.1
}
section
variable{X:Cx}{al:eA}{σ:St}{H:Hp}{s:aN}{a:Z}{y d:V}{u r:a!}{o:oP}{A:dr}{E:d!}
def z:={
az5{Q:d!}(hu:uA)(I:cB)(g:mz H o)(ry:kI)(rd:eP d r)(h:∀w' s',Dw->eP (o.getD d) w'->vp w'):xV vi (k5 "dict.get") [eY,u,r] Q E:=by rcases g with⟨aq,k,e,ey,l⟩|⟨aq,k,b,e,ey,eb,l⟩;(.subst ey;rw[wx uQ hd vs,<-RE (meets_dict_get_default (f_ l1 X.w) a (si ry) hd r) gk NG D1 h _ ?_];rw[l];exact wT HR rd);.subst ey;rw[xL ry wH xs,<-RE (meetsH_dict_get_default (tupleKind (f_ l1 X.w)) a b hd r) (Fo (NI hu) k xs Ii dd D1 h _ ?_)];rw[l];exact wT HR rd
}
section z
def z:={
ard.1(td ty tx:TE):TE:=g9 gT td x (∃a,gp x/\Kz H1 a/\m2 ty y (tx σ H2 λ z H3=>∃o,mz H3 o/\Q (o.getD z) H3))
}
section
variable{X:Cx}{o e f:a7}{gZ ka:bi}{td ty tx:TE}
def z:={
apA(hu:lw)(ho:zh)(he:bS e ty)(hf:bS f tx)(m:M2 X o "get" gZ e f ka):bS (.lV (xd o "get" gZ) [e,f] [] ka) (ard td ty tx):=by rw[ke,<-wpAny_Call_method m.base m.few m.line PySem.F.plainAttrs_dict Wp PySem.F.type_dict_get (qP ho λ u s1 aF8=>abR aF8 λ x H1 I1 rx a ex d q1=>?_),ya (u=rg) rx,<-bW (am6 I1 d) λ t1 t2 _=>?_,<-#[t1,t2,?_]];rw[m.trees];refine Vo ab (Vp (Wr (or he λ iv s2 aLZ=>aO aLZ vd y ry (Wr (C_ hf H2 λ fv s3 ajw=>jd ajw λ z H3 I3 rz ov g q3=>Calls.spliced_nil ?_)))));exact az5 hu I3 g ry rz λ w' s4 I4 cZ=>(aE _ H3 I4 cZ q3)
}
section z
def z:={
aiC:typeLookup LH "keys"=dV a3:=am_miss_of_fast (by first|rw[v6]|rfl)
Ip:entryFor table "dict.update.loop"=ad Builtin.«dict.update.loop»:=entryFor_of_tree (by kernel_rfl)
pH:bH (plainId "dict.update.loop"):=by rw[v6]
}
section
variable{eO:ci}{w:ck}{A:dr}{E:d!}
def z:={
acr{s:aN}{a:Z}{o:Obj}{xs:m8}{k:Y}{Q:sB->LA}(hx:kq a o)(hc:o.cls=sC)(mM:o.data=la xs k)(hd:o.dict=a3)(hA:uJ)(h:∀h' tk,(∀b ob,Kr ob->zR b=ad ob)->Q a3 qI):kl (getAttr? eY "keys") Q E:=by obtain⟨c,dct,dat,sl⟩:=o;simp only at hc mM hd;subst hc mM hd;obtain⟨hp,g,d,tk,os⟩:=s;have hT:∀QP,(EC #[hp,g,d,QP,os]).TypeIs eY "list":=eF g0 hx;have av5:=aiC;((have amV:(["__module__","__name__","__qualname__","__doc__","__annotations__"]:dk).contains "keys"=false:=by rw[v6]);have cr:j! (cW ("keys":a6)+100):=by first|size_fits|rw[v6]);have f1:=sub_AttributeError;have f3:=PySem.F.slot_list_getattribute.lookup;have f4:=PySem.F.slot_list_getattribute.bind eY;have f5:=am_list_getattr_none;unfold getAttr? getAttrBy? getAttrBy;(repeat(any_goals(first|assumption|exact hT _|((with_reducible rw[k1 _ (call (Value.builtin "list.__getattribute__") _ _) _]);refine MU PySem.F.slot_list_getattribute (hT _) am_entry_list_getattribute ir PySem.F.args_list_getattribute_2 (meets_getattribute_miss_list a xs k sl "keys" _ av5 amV cr) #[hx,hA,λ h' QP e d_=>?_])|wp_step)));rw[<-gM d_.there au t' u' he,k1 _ bE jB Wv _ _];unfold Wv;(repeat(any_goals(first|assumption|wp_step)));all_goals first|exact bE h d_.keeps|(dsimp only;repeat(any_goals(first|assumption|exact bE h d_.keeps|wp_step)))
S'{R:Kl}{S I l:Z}{fT:m8}{res:a!}(hh:uJ)(we:l≠I)(rE:S≠I)(Cc:S≠l):∀(c?:q5)(i:Y)(bd:q5)(ix:a4)(t:Tok)(s:aN),g?=i+NO->j! (acc.length+NO)->(∀(j:Y)(q:Key×a!),dE c? j q->∃(b:Z)(u:a!),fT[i+j]?=ad im/\b≠S/\b≠I/\Iu vy gX b/\bH (qY q.1 u))->s.heap.IsListIter I l i->Vu l fT->yO s.heap.DictOf S bd->(∀h' tk,yO NL S (Gi bd c?)->vm (b≠S->b≠I->jE->DI)->R (.ok (.ret res)) qI)->CY A (k5 "dict.update.loop" #[[bC S,cv I,iV ix t,res],[]]) R|[],i,bd,ix,t,s,cr,lS,ht,hit,hl,hm,hR=>by rw[PQ Ip (NP pH _) (wpAny_pyNext_list_end (A:=pr) hh hit hl (by first|exact Array.getElem?_eq_none (Nt cr)|(simp at cr;simp;omega)) gU h' he),jl (Builtin.Dict.addKeywords S []>>=_) _,cc qK ?_,hR h' zM (hm.extBut he rE) λ b o _ hb e=>he b o hb e]|q::c?,i,bd,ix,t,s,cr,lS,ht,hit,hl,hm,hR=>by refine vG (ht 0 q ab) λ b u hb hbS Lo NK hk=>?_;rw[l5]at cr lS;rw[PQ Ip (NP pH _) (wpAny_pyNext_list_item (x:=cv b) hit hl iy hb au h1 KJ fH)];have Md:Iu vy h1 b:=D? NK.extBut Lo;have fk:Tb:=D? hl.extBut we;have pN:yO h1.DictOf S bd:=D? hm.extBut rE;rw[<-zu (id Md) EJ ho hc n,jl (pw [OM] _>>=_) _,j' zG ?_,j' Wx ?_,qN Builtin.Dict.pairItems (FA (T:="tuple") bm o ho hc ?_)];rw[ga (by first|decide|rfl|simp)];rw[cc Kj ho hd ?_,jl (pw [u,q.2] (dictSet S u q.2)) _,<-zG (wpAny_dictSet_pairs (knd:=f_ eO w) (k:=q.1) hk pN j_ h2 m9 d4 gG Wz lS),<-e? #[KF,S' (fT:=fT) hh we rE Cc c? j6 (Ge bd q.1 q.2) (ix+1) 0 _ (show g?=i+1+NO by exact IV cr) ?_ ES q' ?_ ?_ m9 λ h' tk jD k=>?_]];((.have z:=stored_length_le bd q.1 q.2;exact acn lS z);.refine vG (ht ni q' iy e) λ b' u' iE Ce Aw NN cj=>?_;refine(fM b' u' ?_ Ce Aw ((D? NN.extBut Aw).extBut Gj Ce) cj);rw[show i+1+j=i+ni by exact yK];exact iE);((.exact KJ.at λ o' e=>Gj I o' (zO rE) e);.exact fk.extBut Gj (zO Cc));.exact hR h' tk jD λ c oc h3 h4 e=>k c oc h3 h4 (Gj c oc h3 (fH.extBut c oc h4 e))
aIt{s:aN}{l:Z}{ol:Obj}{prs:q5}{Q:d!}(hh:uJ)(hl:kq l ol)(hc:ol.cls=sC)(hd:ol.dict=a3)(mM:ol.data=la fT n)(cr:g?=NS)(lS:p6 NS)(ht:QB q fT im)(h:∀h' tk,yO NL b6 (Gi [] prs)->vm (jE->DI)->x0 qI):kl vi Ug [kw] Q E:=by refine callType_codes (Q₁:=λ obj l6=>obj=cv b6/\l6=jw s tG) PySem.F.kt_called_dict (PySem.F.kt_typeCall_dict_1 _) PySem.F.entry_dict_init (kt_code_dict_new _ #[rfl,rfl]) ?_;rintro obj l6⟨rfl,rfl⟩;have uV:yO (tG).DictOf b6 []:=Wm gX;have k0:∀b o,jE->g3 (tG).get?:=f? e kj;rw[<-#[uV.typeIs,ir PySem.F.args_dict_init_2,?_],qN Builtin.«dict.__init__» ?_,qN Builtin.Dict.selfAndRest (wpAny_notOrdered_dict uV.typeIs ?_)];show fo _ _ (rN (b6,[FU l])) _ _ _;rw[<-e? ?_,k1 _ (WE "dict.__init__" b6 kw [] eX) _,qN WE (FA (T:="list") bm ol bE k0 hl hc ?_)];rw[ga (by first|decide|rfl|simp)];rw[cc (acr bE k0 hl hc mM hd hh au h1 LJ cH),kC (show bH (a3:sB).isNone from rfl),j' wpAny_rule ?_];(have fk:Tb:=(Ih ol bE cH bE k0 hl hc n mM);have nk:b6<WF:=by have e:SA (tG).get? pW:=ow;exact pi j3 cH);rw[cc (VE fk ?_)];have k2:∀b o,g3 h1.get?->g3 (P?).get?:=f? e kj;have a8:oD l:=pi hl;have key:=S' (eO:=eO) (w:=w) (A:=pr) (R:=wants (λ r hG=>r=eX/\x0 hG) E) (S:=b6) (I:=WF) (l:=l) (fT:=fT) (res:=NU) hh (nq (r4 a8 nk)) Lv nk (WH a8) prs 0 [] 0 0 yD s P? LJ E_ cr Gm (by rw[Gc,Gm];exact lS) (λ j q e=>by refine aO (ht j q e) λ b u e1 e2 e3=>?_;have hb:oD b:=e2.lt;exact(fM b u (by rw[ez Gm e1]) (nq hb) (nq (r4 hb nk)) (e2.keeps λ c o z=>bE k2 bE cH bE k0 z) e3)) LP ow (fk.at λ o e=>j3 k2) ((uV.at λ o e=>j3 cH).at λ o e=>j3 k2) (λ h' tk jD k=>#[rfl,h h' tk jD f? e (k b o KM Lv (r4 (pi e) nk) bE k2 bE cH j3 k0)]);first|rw[DO #[KF,key]]|rw[DQ qK #[KF,key]]
}
section z
section
variable{X:Cx}
def z:={
aGJ{al:eA}{σ:St}{H:Hp}{s:aN}(I:cB){ps:bv}{aq:gS}(p:kD (λ p kv=>aJ bb H p [Fe,qu]) ps aq):∃prs:q5,KV aq prs/\G! NS/\QB q ps b:=by induction p with|b?=>exact(aZ ([]) eN ab (λ j q e=>by simp at e))|@bn p kv _ _ h t ih=>rw[<-bM ih λ prs r hl hp=>?_,uk hC h ht,<-aO (vals2 rv) λ u y ei ru ry=>?_];subst ei;refine(aZ ((k!,y)::prs) (.bn #[rfl,ry] r) (by rw[l5,l5,hl]) ES q);cases j with|zero=>have e':(k!,y)=q:=ME e;subst e';exact(aE p u ab ht (K9 si P X.w ru))|succ j=>refine aO (hp j q iy e) λ b u' e1 e2 e3=>?_;exact(aE b u' iy e1 e2 e3)
ON:∀{ps:bv}{us:cx},bN Ub us->us=ps.map FU|[],us,r=>by rw[ul r r];rfl|p::ps,us,r=>by rw[Dk r];cases r with|bn h t=>cases h;rw[jY,<-ON t]
atB(Og:cX):kg X Ug (λ xs H Q=>∃(a:Z)(ps:bv)(aq:gS),xs=[eY]/\aC bb H a Ub/\kD (λ p kv=>aJ bb H p [Fe,qu]) ps aq/\qL p p iU p dK vj):=by intro al s σ H xs us Q I r q;obtain⟨a,ps,aq,ex,hq,hp,q⟩:=q;subst ex;rw[jP vE r au u eu rx];subst eu;rw[dZ,Dc rv hz (fX hq)];have ei:=ON rv;subst ei;rw[hE]at hz;obtain⟨prs,rel,hl,ik⟩:=aGJ I hp;obtain⟨o,n,ho,hc,hd,mM⟩:=pl;refine aIt (prs:=prs) (zY Og) ho hc hd mM (by simp[hl]) (by rw[ez hl hz]) ES q' λ h' tk jD k=>?_;(.obtain⟨b,u,e1,e2,e3⟩:=ik j q' e;exact #[b,u,by simp[e1],e2,e3]);. (have hm:(b6==Gg)=false:=NM (WH I.Cy);have bF:j! cW vj:=by rw[dP vC (LO aq [])];rw[Gc,Gm,rel.length,hl];exact hz);exact #[AW,iU b6 dK vj,zK (t':=tk) k iK (show sH fw _ _ _ (.dK vj)from#[bF,hm,Gi [] prs,KV.merge rel eN,jD]),rfl,CF]
}
section z
section
variable{X:Cx}
def z:={
anL{tg:a7}{al:eA}{σ:St}{H:Hp}{s:aN}{R:kS It}{J:It}{tn:Y->ed d0}{tk:Y}(I:cB)(o:Obj)(T:sH Turn bb tg J [b6] b6 tn)(st:tn 0 (Ft o))(q:R J H):p8 KU σ tg R AW yD s sX o tk:=by rw[<-(lA b6 ([b6]) tn J H ab (zT λ b ob e=>kj) T st A4 b hb q),jG e (b=b6) hb];subst e;exact I.Co (kP _) tp
}
section z
def z:={
C4.1(lo c:a4)(n:Y):It:=#[λ i _=>i<n,λ i H x H'=>H'=H/\x=e5 ET,λ i _=>n<=i]
}
def avn{P:ci}{w:ck}{tg:a7}(it:Z)(lo c:a4)(n:Y):Turn P w K tg EW [it] it (λ i h=>WI h it ET (nc - wj i) c)where mem:=Hv;obj:=(λ i h st b hb=>by rw[jG e (b=it) hb];subst e;exact(gk st λ v z=>nomatch z));keep:=λ i h h' st k=>k it jo _ st;item:=(by intro X hP hw hK hc i al s σ H E I hf st hg;subst hP hw hK;refine lM (hf it jo) EM;have W:=K9 Walks.range eO X.w EB it lo c n;rw[<-W.item i s _ _ hg st λ v h' tk hv jv kk=>?_,e6 hv];have I1:fz H qI:=EV I.turned o (kk b o iy hb e);exact za (FY (s:=qI) (n:="range_iterator") jv ab ab fe (fM da ET H I1 #[t,rfl] #[rfl,rfl] jv (λ b hb=>(fK hf).1))));done:=(by intro X hP hw hK hc i al s σ H E I hf st hg;subst hP hw hK;refine lM (hf it jo) EM;exact wpAny_pyNext_range_end (zY hc) st (by have:n<=i:=hg;exact aac cs) λ h' eb=>#[rfl,EV on I.turned o (eb b o hb e)]);self:=λ A i s Q E st h=>wpAny_pyIter_rangeiter st h
def z:={
mI.1(i j c:a4)(n:Y):Prop:=c≠0/\c.natAbs<1073741824/\bH (Builtin.Range.small i j c)/\WJ i j c=n
mI.neg{i j:a4}(ha:AT i)(ha':i<2^62)(hb:AT j)(iE:j<2^62):mI i j (-1) gC (i - j):=(fG fe fe (PySem.W.small_down ha ha' hb iE) (PySem.W.rangeSize_downNat i j))
aFa.1(ta:TA):TI:=λ σ H R=>gT ta vs (∃(i j c:a4)(n:Y),vs=[tB,e5 j,e5 c]/\mI i j c n/\R (C4 i c n) H1)
}
section
variable{X:Cx}{tg:a7}
def z:={
AD{a b:a7}{ta:TA}{p ax:bi}(hg:OC)(hm:rc)(ha:PA X [a,b,c] ta)(hs:kZ [a,b,c] a vt)(a_:nI vt):PI X tg nG (G8 p) [a,b,c] (aFa ta):=by rw[sE R I h,<-Call_ (yw I hg hm boot_range (UH (be (ha ax al s σ H _ I h) λ us s1 aJn=>aO aJn EG vs I1 q1) hs a_)),<-F5 q1 λ i j k n e aoC q=>dm aoC λ c0 c1 c2 c3=>?_];subst e;cases r1 with|bn r rr=>cases rr with|bn r' rr=>cases rr with|bn r'' rr=>cases rr;rw[e6 r,Kg r'];obtain⟨t'',rfl⟩:=r'';refine call_range_3 c0 ?_ g4 (PyProof.noPylong_small c1);refine wpAny_pyIter_range (IsRange.new ..) c2 ?_;have I2:fz H1 jw s1 (s1.heap.push A9 (mc "range") [.int i t,iV j t',iV k t'']):=I1.kept (t':=s1.toks) f? e kj;refine anL (tk:=s1.toks) I2 _ (avn _ i k n) ?_ q;((have e1:i+Er*k=i:=by simp);have e2:dy - Er=WJ i j k:=by rw[c3];simp);show WI _ _ (i+Er*k) (nc - Er) k;rw[e1,e2];rw[R5 ab]
}
section z
def z:={
Am{lo c:a4}{tb:TS}{D:Ends}{σ:St}{H:Hp}(Pv:Y->kS St)(h0:Pv 0 σ H)(hs:∀i σ H,i<n->Pv i σ H->g da ET σ H λ d1 H2=>w4 tb {D with nx:=Pv j6,ct:=Pv j6,bk:=l7})(hd:∀σ H,Pv n σ H->l7 σ H):∃W:Y->Y->kS St,(∃m,W 0 m σ H)/\∀i m σ H,W i m σ H->((EW).stop i H/\l7 σ H)\/((EW).go i H/\∃N:kS St,(∀a2 H',N a2 H'->∃m',m'<m/\W j6 m' a2 H')/\∀x H',(EW).pK i H x H'->g x σ H' λ d1 H2=>w4 tb {D with nx:=N,ct:=N,bk:=l7}):=by refine bm (λ i m σ H=>m=n - i/\i<=n/\Pv i σ H) (aZ n jo (Gb _) h0) ?_;rintro i m σ H⟨rfl,hi,p⟩;by_cases a8:i<n;(.rw[Io a8 (λ a2 H' p'=>Iy (n - j6) a8 a8) y];subst e y;exact hs i σ _ a8 p);.rw[Ds n iK (hd σ H p)]
AR{β:Type}{G:α->ed β}{l₁:kJ}{l₂:cP β}(h:kD G l₁ l₂):∀{i:Y}{a:α},dE l₁ i a->∃b,dE l₂ i b/\G a b:=by induction h with|b?=>intro i a e;simp at e|@bn a b l₁ l₂ r t ih=>intro i a' e;cases i with|zero=>simp only[List.getElem?_cons_zero,Option.some.injEq]at e;subst e;exact e9 b r|succ j=>simp only[List.getElem?_cons_succ]at e⊢;exact ih e
}
section _L
section
namespace yn
open lW l0
variable{x:a4}
def z:={
acK(k:Y)(hx:0<=x):WL x (2^k - 1)=x%2^k:=by obtain⟨n,rfl⟩:=Int.eq_ofNat_of_zero_le hx;have hp:0<2^k:=Nat.two_pow_pos k;(rw[two_pow_cast];have e:eZ (2^k) - 1=eZ (2^k - 1):=by generalize(2:Y)^k=m at hp;exact Ah hp);rw[e,bitAnd_pp lQ rY lQ aMj,vz,vz,Nat.and_two_pow_sub_one_eq_mod];first|rfl|exact Int.natCast_emod _ _|simp
aGq{y:a4}(hx:0<=x)(hy:0<=y):Builtin.bitOr x y=eZ (x.toNat|||y.toNat):=by have e:=nat_or_add_and x.toNat y.toNat;rw[bitOr_and,bitAnd_pp hx hy];exact akW hx hy e
}
section yn
section z
namespace _L
open lW pd l0
variable{x fY:a6}{st:px}{f:Z}{fd:Gn}{H:Hp}{ps:dk}
def z:={
E0.2:XK:=λ _ _ _=>nl
mO{X:Cx}:qQ eL X E0:=λ _ _ _ _ _ _ _ h=>h.elim
}
section
variable{P:ci}{w:ck}{K:b4}{mg:g7}{ca:d0}
def z:={
gd.ok{N:dk}{k:Y}{sp:Sp}(F:wN gd x f)(S:ky)(len:∀vs H Q E,sp vs H Q E->SQ)(A3:∀(aK:a!)(A:dr)(br:m?)(s:aN)(H:Hp)(vs:bQ)(Q:VK)(E:XK),bX k A2->sp vs H Q E->∃t,ij (A1 f aK A br s H E).jh sG t/\t {nx:=λ _ H'=>Q .cz H',rt:=Q} (start N vs) H):rj mL ej dp fd ps sp:=by obtain⟨oc,od,kV,doc,pm,an,aK,ct,rW,rfl,lk,gj⟩:=F.ex;refine arn lk gj S len λ A br s H vs Q E hr jA=>?_;refine ah (A3 aK A br s H vs Q E hr jA) au t h q;exact bm t h.jh q
gd.binds(F:wN gd x f)(h:∀(kV doc pm:a!)(an:lH)(aK ct:a!)(us:cx),qM):y6:=by obtain⟨oc,od,kV,doc,pm,an,aK,ct,rW,rfl,lk,gj⟩:=F.ex;exact .all (h kV doc pm an aK ct)
}
section z
def z:={
jO{A:dr}{k:Y}(hr:bX k A):uA:=Go (Nat.add_le_add_left (fe:1<=64) _) hr.units
}
section
variable{X:Cx}
def z:={
pv(i:Y){ax:bi}(hN:mx i x)(hv:CB nh x)(hd:fN)(gj:B?):PE X Eb (sS i):=Bo hN hv hd gj
}
section z
def z:={
jU{A B:Prop}(h:B):if rl then A else B:=by rw[lI MQ,h]
i'{A B:Prop}(h:A):if a?=a? then A else B:=by rw[ee ga];exact h
fC{c A B:Prop} [Decidable c](h1:c->A)(h2:¬c->B):if c then A else B:=by by_cases h:c;(.rw[kC h,h1 h]);.rw[lI h,h2 h]
aj.1(H H':Hp):Prop:=∀b o,g3 H->g3 H'
r5(H:Hp):aj H H:=kM _ h h
aj.trans{H1 H2:Hp}(a:aj H H1)(b:aj H1 H2):aj H H2:=λ c o h=>b c o (a c o h)
aj.free{H':Hp}(e:lO){l:Z}(h:H' l=WO):H l=WO:=by cases q:H l with|a3=>rfl|dL o=>rw[e l o q]at h;cases h
}
section
variable{κ:Type} [Wc κ]
def z:={
amK{aq:fS}{k:κ}(h:ji lR):¬k∈r3 (·.1):=by intro m;rw[jP V! m au p hp e];have q:bH ui:=List.any_eq_true.mpr (af p hp (z8 e));rw[xF,h]at q;rw[jk q jo]
}
section z
section _L
namespace _X
open lW pd l0
variable{Q:d!}
def z:={
awl(a d:a!):argsOk "max" #[[a],[(SF,d)]]:=by unfold argsOk;kernel_rfl
}
section
variable{eO:ci}{w:ck}{A:dr}{R:Kl}{I:Z}{fp wr:bv}{n:Y}{P:Y->ed a!}{St:Y->ed d0}{dv:a!}
def z:={
pG.2(dv:a!):pD a!:=[(SF,dv)]
an2(Wk:Kd I n P)(bt:Y->LT)(cmp:Ks .Gt P bt)(S:Z)(tX:S∉fp):∀(k j:Y)(s:aN)(l9:a!)(c:Y),n - ni=k->j+1<=n->St ni gX->P LN l9->kq S {cls:=sC,dict:=a3,rL:=la (vA [l9,l9]) c,slots:=yI}->(∀v h2 tk,KG v (zv->b≠S->jE->t0) (R (.ok (.ret v)) x5))->CY A (k5 "max.loop" #[[Bu,eX,cv S],pG dv]) R:=by rw[PY S q nm];intro k;induction k with|zero=>intro j s l9 c e0 e1 at_ pb tM eQ;(have last:j+1=n:=by exact av2 e1 e0);rw[IN tM _ s,Jj Ty s (last▸at_) h2 sJ S,jl (NZ S zy yI>>=_) _,cc ?_,oo (Gp sJ ab (e! R!)) (eQ l9 _ tk (by rw[<-last];exact pb) λ b o q1 q2 e=>(Jv).ph y0)]|succ k ih=>intro j s l9 c e0 e1 at_ pb tM eQ;(have kR:j+1<n:=by exact Nat.lt_of_sub_eq_succ e0);rw[IN tM _ s,Jj (Wk.item ni s _ _ kR at_ λ v h2 tk pv at2 i4=>?_) sJ S,jl (tryCatch (pw [v,v] (richCompare .Gt v l9>>=_)) _>>=_) _,HU Iz zG (cmp ni LN v l9 _ _ _ pv pb ?_),cc (zG (VH ?_)),cc R!];cases up:bt ni LN with|a?=>simp only[o?];rw[cc ?_,<-Gp sJ ab (e! (N2 ?_))];rw[nm];rw[Cp (ih ni _ v _ gG aes e0 kR (KS at2 λ b inf o e=>?_) (by simp only[Aa,up,o?];exact pv) RR sJ L0 v2 Bi Ak)];(.exact Fc (R3 λ q:S=b=>tX (by rw[ez q inf])) e);.exact eQ v2 h3 Bi Ak KE A6 q2 ((Jv).ph y0)|false=>rw[Db Nv,j' N2 ?_];rw[nm];rw[Cp (ih ni _ l9 c gG aes e0 kR at2 (by simp only[Aa,up,Nv,Ms];exact pb) sJ L0 v2 Bi Ak),eQ v2 h3 Bi Ak KE A6 q2 y0]
aG0(Wk:Kd I n P)(bt:Y->LT)(cmp:Ks .Gt P bt)(S:Z)(tX:S∉fp){s:aN}{c:Y}(at_:St 0 gX)(tM:kq S {cls:=sC,dict:=a3,rL:=la (vA []) c,slots:=yI})(none_:n=0->∀h2 tk,vm (zv->b≠S->jE->t0)->R (.ok (.ret dv)) x5)(eQ:0<n->∀v h2 tk,KG v (zv->b≠S->jE->t0) (R (.ok (.ret v)) x5)):CY A (k5 "max.loop" #[[Bu,eX,cv S],pG dv]) R:=by rw[PY S q nm,IN tM _ s];by_cases ax:0<n;(.rw[Jj (Wk.item 0 s _ _ ax at_ λ v h2 tk pv at2 i4=>?_) sJ S,jl (NZ S zy OI [v,v]>>=_) _,cc ?_,<-Gp sJ ab ?_];rw[nm];rw[Cp (an2 Wk bt cmp S tX _ 0 _ v _ ab ax (KS at2 λ b inf o e=>?_) pv RR sJ L0 v2 Bi Ak)];(.exact Fc (R3 λ q:S=b=>tX (by rw[ez q inf])) e);.exact eQ ax v2 h3 Bi Ak KE A6 q2 ((Jv).ph y0));. (have z:n=0:=by exact Nat.eq_zero_of_not_pos ax);rw[HU Ty s (z▸at_) h2];show tq pr (rule (O2++NY ".default")>>=(eF (ret dv))) _ _ _;rw[DQ wq wpAny_rule (none_ z _ tk λ b o q1 q2 e=>y0)]
}
section z
section
variable{eO:ci}{w:ck}{A:dr}{E:d!}{s:aN}{dv:a!}
def z:={
aBc{x:a!}(h:fo w3 pr (pyIter x) (λ it s2=>∃I fp wr n P St bt,it=cv I/\Kd I n P/\St 0 s2.heap/\(∀b∈fp,SV)/\Ks .Gt P bt/\(n=0->∀h2 tk,vm RA zv->Q dv wf s2 h2 tk)/\(0<n->∀v h2 tk,KG v RA zv (Q v wf s2 h2 tk))) E s):kl (call wV [x] (pG dv)) Q E:=by(have nm:Pc jT:=by decide);rw[<-kmk_tree F.kind_max F.plain_max F.entry_max ir awl ?_,jl (Rd 0 #[[],pG dv]>>=_) s,cc (wpAny_of_eq (show Rd 0 #[[],pG dv]=dV [a3,ad dv]from rfl) ?_),j' e? ?_,cc m6 h j_ it s2 h2 kM _ e e];obtain⟨I,fp,wr,n,P,St,bt,rfl,Wk,at_,low,cmp,q0,q1⟩:=h2;rw[j' FB ?_];have tX:F?∉fp:=λ hm=>VL _ (low _ hm);rw[nm];rw[Cp (aG0 Wk bt cmp F? tX (KS at_ λ b _ o e=>kj) ow (λ z h3 tk i4=>?_) λ z v h3 tk pv i4=>?_)];(.exact q0 z h3 tk λ b o q e=>i4 b o q KM kj);.exact q1 z v h3 tk pv λ b o q e=>i4 b o q KM kj
}
variable{l:Z}{xs:Array (a4×Tok)}{aF:cx}{ns:mF}
def z:={
aKZ(hh:uJ)(hl:JW)(hi:t5 aF)(h0:ns=[]->∀h2 tk,vm (jE->t0)->Q dv x5)(h:D_->∀h2 tk M t,(∀b o,jE->t0)->iF M->(∀a,iF a->a<=M)->Q (.int M t) x5):kl (call wV [kw] (pG dv)) Q E:=by(obtain⟨xs,e⟩:=MZ;have hn:numsOf (vH xs).toList=ns:=by rw[Km e]);rw[M0]at hn;subst hn;rw[e]at hl;refine aBc (iter_intList hl λ s2 e2 st tD we=>?_);subst e2;refine #[_,_,_,_,_,_,_,rfl,K? pr hh _ l we (vH xs),st,tD,CmpOf.ints_gt (numAt xs) AK Vz,λ z h2 tk i4=>?_,λ z v h2 tk pv i4=>?_];(. (have z':zX=0:=by rw[Ki z]);exact h0 (by rw[List.map_eq_nil_iff];exact List.eq_nil_of_length_eq_zero (by simpa using z')) h2 tk (old_kept i4));. ((have z':0<zX:=by rw[Ki z]);have iq:jQ ((vH xs)[Aa (λ i j=>bG (numAt xs i>numAt xs j)) (zX - 1)]?):=by rw[Ki pv]);rw[Ra iq q1 q2,<-h iy z' h2 tk _ t (old_kept i4) ?_ gU a ha];(.rw[M1];exact VA (by rw[QN,VC z' q1]));. (rw[b5 (ah (mem_getD ha) au j hj aU) aU]);rw[QI hj q2 j]
}
section z
section _X
namespace _M
open lW pd l0 _L
variable{e:a7}{P:bD}{H':Hp}{c?:cY}{op lP:CmpOp}{g:a4->a4->V}{g':Eg}{u:V}
def z:={
bc.1(P:ia)(H:Hp):Prop:=∀H',aj H H'->P H'
bc.now{P:ia}{H:Hp}(h:bc P H):P H:=h H (r5 H)
bc.later{P:ia}{H:Hp}(h:bc P H)(s:lO):bc P H':=nL (h H2 (Ab s2))
bc.pure{p:Prop}{H:Hp}(h:p):bc (λ _=>p) H:=λ _ _=>h
cS{H:Hp}{p:Z}{o:HO}(h:H p=a3):aj H (upd H p o):=λ b u e=>by rw[aV (c7 e h)];exact e
}
variable{X:Cx}{σ:dt}{H:Hp}
def z:={
Ev.1(X:Cx)(σ:dt)(H:Hp)(e:a7)(P:bD):Prop:=fg tF v CH (∀al s,yj->om nz e EP)
aB.2(X:Cx)(σ:dt)(H:Hp)(e:a7)(v:V):Prop:=fr e λ u _=>u=v
Ev.later(h:oI)(s:lO):Ev X σ H' e P:=yS
Ev.imp{P':bD}(h:oI)(k:∀v H1,hX (P v H1->P' v H1)):fr e P':=λ H1 s1 Q q al s I=>h H1 s1 Q (λ v H2 s2 p=>q v H2 s2 j1 (k v H3 db (p H3 s3))) al s I
aL.1(X:Cx)(e:a7):TE:=g9 (∃P,oI/\∀v H2,qa H v n3)
aI:bS e L?:=λ al s σ H Q I vR=>BW vR P (yN H Q q al s I)
eU{t:TE}(h:bS e t)(r:fg tF v CH (t σ H1 Q)):oI:=λ H1 s1 Q q al s I=>ff h s H1 Q I El
aL.v{e:a7}{v:V}{Q:VK}(h:kA e)(q:q? H n3):aL X e σ H Q:=(gk h λ u H2 s2 p=>by have e:=p.now;subst e;exact q H2 s2)
l_{e:a7}{P:bD}{Q:VK}(h:oI)(q:∀v H2,qa H v n3):aL X e σ H Q:=bm P h q
aa(i:Y){x:a6}{ax:bi}{v:V}(e:j0 (σ[i]?) jR)(hN:mx i x)(hv:CB nh x)(hd:fN)(gj:B?):kA Eb:=fi (Bo hN hv hd gj) gh sU v wn q v v?
ai{i:a4}{j ax}:ef gt N3 tB j i:=fi ki xO
cM{b:b!}{j ax}:dX gt N3 xQ b j b:=fi Cj xO
ag{x:a6}{n:a4}{ax:bi}(g:GI g! x n)(hg:kh)(hd:fN):ef Eb n:=by obtain⟨t,g⟩:=g;exact eU (XM hg g (v:=e5 n) #[t,rfl] hd) xO
lK{x:a6}{a:Z}{ax:bi}(g:g! x=ad eY)(hg:kh)(hd:fN):f6 Eb eY:=eU (XM hg g (v:=cv a) ab hd) xO
}
variable{a b c:a7}{ax:bi}{i j k:a4}{x y:b!}
def z:={
aY{op:N6}(ho:de X EF op (jx g))(ha:f')(hb:lr):f6 (.BinOp a op b ax) lB:=DJ Ar ho oe (aE i j ab ab jC)
iu{op:N6}{C:a4->ed a4}(ho:de X EF op (rI C g))(ha:f')(hb:lr)(hc:C i j):f6 (.BinOp a op b ax) lB:=DJ Ar ho oe (jg i j ab ab hc jC)
oz(ha:f'):ef H! USub a (-i):=eU (avy ajL aI) k8 e9 i ur
gO(ho:de X n9 op (jx g))(ha:f')(hb:lr)(hm:n1 ip op b):f6 DM [op] [b] lB:=fi kH tK ho oe (aE i j ab ab jC)
aay{v:V}(ha:f6 a u)(hb:kA b)(hs:k? (La u v))(hm:Cb):dX km Eq [b] bG (u=v):=fi kH tK aeW oe #[hs,jC]
dY(ha:f')(hb:lr)(hm:Cb):dX km Eq [b] y2:=(aay ha hb ab hm).imp wQ v e (by rw[e];simp)
tH{g:Eg}(ho:xZ op i lB)(je:xZ lP i (g' i j))(ha:f')(hb:lr)(hc:ef c k)(hm:Rv (lastMarks [op,lP] vt)):dX DM [op,lP] vt (lB&&g' j k):=yU (alV ho je aI aI) hm PK e (aE j k ab ab (q _ H4 g5 gl (by rw[e,pB]))) pS gl (by rw[e,WP])
bZ{op}(h:gA a):gA gt BoolOp op [a]:=eU (aiI aI) gh bm P LM q
cn(ha:dX a x)(hb:x=a?->dX jN And E? y):dX jN And vc (x&&y):=yU ahh aI k8 e9 x (by rw[A7 pY n4 ee hb jC ur])
fP(ha:dX a x)(hb:oS->dX jN Or E? y):dX jN Or vc (x||y):=yU aB3 aI k8 e9 x (by rw[A7 ur pY n4 ee hb jC])
iT(ha:dX a x):dX Kt (!x):=eU (akf aI) k8 e9 x ur
Te.1(X:Cx)(σ:dt)(H:Hp)(e:a7)(b:b!):Prop:=C' Q ve m_ fI b (∀al s,yj->om (F' e iW nz e) TP)
Tw.1(X:Cx)(σ:dt)(H:Hp)(e:a7)(b:b!):Prop:=C' Q ve m_ fI b (∀(whole:Sem a!)al s,yj->om Ph TP)
Te.later(h:my e)(s:lO):Te X σ H' e x:=yS
Tw.later(h:kB e x)(s:lO):Tw X σ H' e x:=yS
Tw.te(h:kB e x):my e:=λ H1 s1 Q q al s I=>h H1 s1 Q q _ al s I
tTe.1(X:Cx)(e:a7):TT:=g9 (∃b,h? e b/\q? H fI b)
dz:PT X e (tTe X e):=λ al s σ H Q I AX=>ah AX λ b h q=>yN H Q q al s I
tTw.1(X:Cx)(e:a7):TT:=g9 (∃b,kB e b/\q? H fI b)
Y7:PW X e (tTw X e):=λ wh al s σ H Q I Dh=>ah Dh λ b h q=>yN H Q q wh al s I
vO{t:TT}(h:PT X e t)(r:C' Q ve m_ fI x (t σ H1 Q)):my e:=λ H1 s1 Q q al s I=>ff h s H1 Q I El
Af{t:TT}(h:PW X e t)(r:C' Q ve m_ fI x (t σ H1 Q)):kB e x:=λ H1 s1 Q q wh al s I=>h wh al s σ H1 Q I El
bO(h:dX e x)(he:Rh v v v):my e:=vO (RW aI he) AA Ae e9 x qp
bP{g:Eg}(ho:xZ op i lB)(ha:f')(hb:lr)(hm:n1 ip op b):h? DM [op] [b] lB:=o1 kH uK ho oe xN (wY i j ab ab) uu
eT(ha:f')(hb:lr)(hm:Cb):h? km Eq [b] y2:=o1 kH uK aeW oe (eI ab _ ab (by rw[HL bG (iY i=iY j) y2];exact q H3 u2))
gg(ha:f')(hb:lr)(hm:n1 ip .NotEq b):h? km NotEq [b] (!y2):=o1 kH uK SJ oe (eI ab _ ab (by rw[HL bG (iY i=iY j) y2];exact q H3 u2))
sh{g:Eg}(ho:xZ op i lB)(je:xZ lP i (g' i j))(ha:f')(hb:lr)(hc:ef c k)(hm:Rv (lastMarks [op,lP] vt)):h? DM [op,lP] vt (lB&&g' j k):=vO (aqP ho je aI aI aI hm) PK e xN (wY j k ab ab) (by rw[e,pB]at q;exact q H4 g5) za (by rw[e,WP]at q;exact q H3 u2)
dF(ha:uP):h? Kt (!x):=vO (T2 dz) Jg
c4(ha:uP):kB jN And [a] x:=Af (ajz dz) Jg
eB(ha:uP):kB jN Or [a] x:=Af (akj dz) Jg
cE(ha:uP)(hb:x=a?->kB jN And E? y):kB jN And vc (x&&y):=Af (aKo dz Y7) gh tJ x p4 Ch Lq y JJ uu qp
du(ha:uP)(hb:oS->kB jN Or E? y):kB jN Or vc (x||y):=Af (avw dz Y7) gh tJ x p4 Ch qp Lq y JJ uu
Ic(hc:my c)(ha:x=a?->gA a)(hb:oS->gA b):gA Tp:=DJ aIz dz gh tJ x LE (Ch (bm P Bv ha λ v H3 s3 p=>tY p) bm P JJ λ v H3 s3 p=>tY p)
kG{v:V}(hc:my c)(ha:x=a?->f6 a u)(hb:oS->kA b):f6 Tp (if x then u else v):=Ic hc (λ e=>(ha e).imp λ w _ _ h=>by rw[h,e];rfl) (λ e=>(hb e).imp λ w _ _ h=>by rw[h,e];rfl)
}
section _M
namespace _M
open lW pd l0 _L
variable{X:Cx}{σ:dt}{H:Hp}
variable{xs vs:bQ}{z:b!}{Py:bD}{eb lo ea:a7}{mW:eE}{hi:a4}{H':Hp}{i7:bi}{r:nQ}
def z:={
fB.1(X:Cx)(σ:dt)(H:Hp)(es:cY)(PL:m1):Prop:=Rp Q vs (∀ax al s,yj->fo Ln X.A (spliced nE es) p8 AP σ Q l2 s)
eM.2(X:Cx)(σ:dt)(H:Hp)(es:cY)(vs:bQ):Prop:=fq fB es λ us _=>us=vs
fB.later{es:cY}{PL:m1}(h:DU)(s:lO):fB X σ H' es PL:=yS
B'.1(X:Cx)(es:cY):TA:=g9 (∃PL,DU/\∀vs H2,k4 H (PL vs) fI vs)
dU{es:cY}:PA X es (B' X es):=λ ax al s σ H Q I bx=>BW bx P (yN H Q q ax al s I)
fB.of{es:cY}{t:TA}{PL:m1}(h:PA X es t)(r:Rp Q vs (t σ H1 Q)):DU:=λ H1 s1 Q q ax al s I=>h ax al s σ H1 Q I El
ao:fq eM [] []:=fB.of fQ xO
ae{e:a7}{es:cY}{v:V}(h:kA e)(r:q!)(hs:f9):fq eM gm Mj:=fB.of (iz aI dU hs) AA Ae R9 H3 s3 Q7 gc
cq{e:a7}{es:cY}{P:bD}{PL:m1}(h:oI)(r:DU)(hs:f9):fq fB gm λ us H=>∃v r,us=v::r/\P v H/\PL r H:=fB.of (iz aI dU hs) sv l_ Ae j5 v hv R9 H3 s3 pS il (aE v us ab (hv.later s3 H4 s4) o7 e)
RP.2:=bQ->Hp->(V->ia)->Prop
z_.1(R:RP):Sp:=λ vs H Q _=>∃P,R vs H P/\∀v H2,qa H v n3
aM.1(P:ci)(w:ck)(K:b4)(mg:g7)(ca:d0)(k:Y)(x:a6)(R:RP):Prop:=∃f fd ps,yC/\bH S5 tA/\y6/\rj mL ej k fd ps (z_ R)
e_.1(P:ci)(w:ck)(K:b4)(mg:g7)(ca:d0)(k:Y)(C:Z)(m:a6)(R:RP):Prop:=∃f fd ps,mY K C m f/\y6/\rj mL ej k fd ps (z_ R)
}
section
variable{k:Y}{x m:a6}{R:RP}{e o:a7}{es:cY}{p ax gZ:bi}{C a:Z}
def z:={
QH{PL:m1}{P:bD}(F:qG aM R)(hr:oR)(ha:q4)(hR:qC CN R vs v)(hg:kh)(d5:fN)(he:f9)(a_:iJ):t7:=by refine gQ F λ f fd ps hm hk hb G=>?_;refine eU (R4 G hr hg hm hk hb eN mO dU d5 he a_) gh bm PL p4 B1 H2 s2 ?_;obtain⟨P',r,i⟩:=jf hR vs hv;rw[CT bm P' r λ v H3 s3 hp=>tY il lx i v o7 hp]
Mi{pl:EQ}{PL:m1}{P:bD}(c:rC)(F:wv e_ vQ k C m R)(hr:oR)(ho:rb eY)(hi:fg (∃dx fs,H1 a=ad mq/\uy))(ha:q4)(hR:qC CN R (eY::vs) v)(bw:f9)(a_:iJ)(ht:Ci Cr (pw [ov] (Gs ov m pl)) gm):gA Cr:=by refine gF F λ f fd ps hm hb G=>?_;refine eU (Ml aI c hm G hr hb eN mO dU bw a_ ht) Cw ?_;refine df HD hi λ dx fs h1 h2=>?_;refine #[a,dx,fs,rfl,h1,h2,PL,kU r9,λ vs H3 s3 hv=>?_];obtain⟨P',r,i⟩:=hR vs H3 db hv;rw[CT bm P' r λ v H4 s4 hp=>q v H4 g5 λ H5 s5=>i v H5 (s4.trans s5) (hp H5 s5)]
}
section z
section
variable{a b:a7}{es:cY}{ax hJ:bi}{i:a4}{x1:Y}
def z:={
iI(ha:q!)(hl:um):ly gt Tuple es x1 v pZ dQ a dM vs:=eU (Uw dU) gh oq us #[by rw[ez gc hl],λ p hp=>q _ _ GY cS hp il e9 p bE s4 E_ aX gc]
Dm(ha:f')(hb:q!)(hf:xT)(hl:um)(hm:nF ip .In w1):dX km In Di y8:=fi kH tK Ke k8 iS n4 (iI hb hl) λ v H3 s3 hv=>by(rw[CJ aS e aS]);exact(fM p vs ab jn (ge e) ab hf jC)
QF(ha:f')(hb:q!)(hf:xT)(hl:um)(hm:nF ip .nj w1):dX km nj Di (!y8):=fi kH tK aeY k8 iS n4 (iI hb hl) λ v H3 s3 hv=>by(rw[CJ aU e aU]);exact(fM p vs ab jn (ge e) ab hf jC)
sO(ha:f')(hb:q!)(hf:xT)(hl:um)(hm:nF ip .In w1):h? km In Di y8:=o1 kH uK Ke k8 iS n4 (iI hb hl) λ v H3 s3 hv=>by(rw[CJ a9 e a9]);exact #[p,vs,rfl,.inr (ge e),rfl,hf,_,rfl,uu]
aAB(ha:f')(hb:q!)(hf:xT)(hl:um)(hm:nF ip .nj w1):h? km nj Di (!y8):=o1 kH uK aeY k8 iS n4 (iI hb hl) λ v H3 s3 hv=>by(rw[CJ bu e bu]);exact #[p,vs,rfl,.inr (ge e),rfl,hf,_,rfl,uu]
}
section z
section
variable{o e:a7}{ax:bi}{a p:Z}{f:a6}{v:V}{n:a4}
def z:={
cQ(ho:rb eY)(hf:fg (∃C dx fs,H1 a=ad mq/\rC/\cb bb C f/\jy f v))(hb:gf C! o f j? j?):kA gt zU o f:=yU acI hb Cw (by refine gQ HD hf λ C dx fs h1 h2 h3 h4=>?_;exact Ua C fs ur)
cN(ho:rb qr)(hi:ef e n)(hx:fg (∃xs,pX aC p/\jQ (kF xs n)))(hs:J! (oT e)):kA q7 e:=fi (Y5 aq1 aI aI hs) Cw pY vT (by refine ah (hx H3 db) au xs h1 h2;exact(B0 p xs n v ab ab h1 h2 jC))
bU(ho:rb qr)(hi:ef e n)(hx:fg (∃xs,oK p/\jQ (kF xs n)))(hs:J! (oT e)):kA q7 e:=fi (Y5 arz aI aI hs) Cw pY vT (by refine ah (hx H3 db) au xs h1 h2;exact(B0 p xs n v ab ab h1 h2 jC))
}
section z
def z:={
Bd.1(X:Cx)(σ:dt)(H:Hp)(mW:eE)(N:lb)(P:bD):Prop:=Q8 D N (∀al s,yj->wo so execs mW (SP X al D) l2)
Rn.2(X:Cx)(σ:dt)(H:Hp)(mW:eE)(P:bD):Prop:=D6 H mW uY
Bd.later{N:lb}{P:bD}(h:i? σ H mW)(s:lO):i? σ H' mW:=yS
yp.1(X:Cx)(mW:eE):TS:=λ D σ H=>∃N P,i? σ H mW/\(∀a2 H2,k4 H (N a2) IE)/\∀v H2,qa H v (D.rt v H2)
fJ:ij X mW (yp X mW):=λ al s σ H D I cw=>aO cw λ N P h n p=>yN H D n p al s I
Bd.of{t:TS}{N:lb}{P:bD}(h:ij X mW t)(r:Q8 D N (t D σ H1)):i? σ H mW:=λ H1 s1 D n p al s I=>ff h s H1 D I (r H1 s1 D n p)
}
section
variable{e c:a7}{ax hJ:bi}{c? a b:eE}{N:lb}{P:bD}{x:b!}
def z:={
c5(h:bc (N σ) H):i? σ H []:=mA dg D wn n σ LM
bg(h:oI):jp (.Return zt ax):=mA (aP (dG aI) fJ) D bm P LM λ v H2 s2 hv=>p v H2 s2 hv
aG{v:V}(h:kA e)(hv:bc (P v) H):jp (.Return zt ax):=bg (h.imp λ u H1 s1 e=>by rw[e];exact hv H1 s1)
aW(hc:my c)(ha:x=a?->D6 H a uY)(hr:oS->i? σ H c?):jp (.If c a [] ax):=mA (aP (iA dz fJ dg) fJ) D tJ x LE Ch sF Bv ha (λ a2 H3 s3 h=>h.now.elim) AQ v p v xC Bv hr
qJ{N1:lb}(hc:my c)(ha:x=a?->D6 H a N1)(hb:oS->D6 H b N1)(hr:mj a2 (N1 a2) xr):jp (.If c a b ax):=mA (aP (iA dz fJ fJ) fJ) D #[x,LE,nL (by have go:∀{q:eE},Bd X σ H q N1 P->yp X q {D with nx:=yp X c? D} σ H2:=λ{q}h=>sF kU Ae (λ a2 H3 s3 h3=>(sF (hr a2 H3 db h3) (λ σ4 H4 s4 h4=>n σ4 H4 g5 h4) λ v H4 s4 h4=>p v H4 g5 h4)) AQ v p v;rw[A7 (go (ha ab)) (go (hb ab))])]
gI(i:Y){y:a6}{P1:bD}(hN:e7)(he:fr e P1)(hr:mj v (P1 v) i? KR v H1 c?)(hi:qw)(hx:qx)(hs:gf sZ e ad mk Gh dV i0)(hf:qv):jp gt po [mk] e:=mA (aP (bY (i:=i) hN hi hx aI hs hf) fJ) D bm P1 (Gv s1) λ v H2 s2 hv=>xC jf hr v hv
bz(i:Y){y:a6}{v:V}(hN:e7)(he:kA e)(hr:i? KR v H c?)(hi:qw)(hx:qx)(hs:gf sZ e ad mk Gh dV i0)(hf:qv):jp gt po [mk] e:=gI i hN he kc H1 s1 (by rw[gc];exact hr.later s1) hi hx hs hf
}
section z
def z:={
axc{P:ci}{w:ck}{K:b4}{mg:g7}{ca:d0}{x fY:a6}{st:px}{f:Z}{fd:Gn}{N ps:dk}{k:Y}{R:RP}(F:wN gd x f)(S:ky)(len:∀vs H Q,R vs H Q->SQ)(A3:∀(aK:a!)(A:dr)(br:m?)(s:aN)(H0 H:Hp)(vs:bQ)(Q:bD)(E:XK),bX k A2->R vs H Q->Rn (qd A1 f aK A E).jh (start N vs) H sG Q):rj mL ej dp fd ps (z_ R):=F.ok S (λ vs H Q E dA=>ah dA λ P h _=>len vs H P h) λ aK A br s H vs Q E hr eG=>BW eG P #[_,fJ,_,P,A3 aK A br s H H vs P E hr h,λ a2 H2 s2 n=>n.now.elim,j5 v hv (q v H2 s2 hv)]
}
section
variable{o e:a7}{es:cY}{ax p p2 gZ:bi}{x:a6}{n:a4}{k:Y}{R:RP}{P Po:bD}{PL:m1}
def z:={
uU{id:jT}(hc:kg X zb r)(hm:Eo x)(hv:C1 x vx id)(ha:q4)(hr:qC tF v CH (r vs H1 Q))(hg:kh)(hn:CS x)(d5:fN)(he:f9)(a_:iJ):t7:=Qc VB hv Q
Ik{T:jT}(hc:kg X Fd r)(hm:Eo x)(hv:C1 x type T)(ha:q4)(hr:qC tF v CH (r vs H1 Q))(hg:kh)(hn:CS x)(d5:fN)(he:f9)(a_:iJ):t7:=Qc amP hv Q
dj{m:Y}(hm:ji (g! "len"))(ho:fj)(hx:j9 (∃q xs,nP u/\(pX aC q\/oK q)/\LI m))(hg:hW (nS "len"))(he:mK)(a_:oj):ef qS (e4 "len") m:=o3 (uU W7 hm PySem.boot_len rD) Q (by(rw[lF (aO nt λ u r aU _ a9=>?_) aU a9]);obtain⟨a,xs,rfl,h1,h2⟩:=hx u H1 s1 nL (by refine aO (hv H2 s2) λ u' r' e1 h _=>?_;cases e1;exact h);exact m7 xs wn q _ gl (by rw[h2]))
r_{Po:bD}{H:Hp}(h:bc (λ H=>∃v r,vs=v::r/\Po v H/\r=([]:bQ)) H):∃v,vs=[v]/\bc (Po v) H:=by(rw[lF (aO vU λ v r bu _ bV=>?_) bu bV]);exact #[v,rfl,nL (by refine aO (h H2 s2) λ v' r' e1 h' _=>?_;cases e1;exact h')]
vP{bs:qy}(hc:cX)(hm:ji (g! "all"))(ho:ux o v pZ (aC bb H a BQ))(hv:j0 (rJ "all") TY)(hg:hW (nS "all"))(he:mK)(a_:oj):dX qS (e4 "all") LW:=o3 y1 aus hv rD Q (by(rw[qE cI h cI]);(rw[qH vU dB dB]);exact m7 bs wA)
zd{bs:qy}(hc:cX)(hm:ji (g! "any"))(ho:ux o v pZ (aC bb H a BQ))(hv:j0 (rJ "any") TW)(hg:hW (nS "any"))(he:mK)(a_:oj):dX qS (e4 "any") LX:=o3 y1 aBq hv rD Q (by(rw[qE d6 h d6]);(rw[qH vU fL fL]);exact m7 bs wA)
Jn(F:qG aM R)(hr:oR)(hR:fg CN R [] v)(hg:kh)(d5:fN):gA nG (e4 x p) []:=by refine gQ F λ f fd ps hm hk hb G=>?_;refine eU (aFJ G hr hg hm hk hb eN mO d5) D4;refine ah (hR H1 s1) au P' r i;exact(bm P' r λ v H3 s3 hp=>q v H3 s3 il lx i v o7 hp)
tR{hi:a7}{i j:a4}(ho:fj)(hl:ef lo i)(hh:ef hi j)(hx:Q0 q p (g_ xs vg ad j)):gA q7 yX ad lo ad hi:=IS IA (zc aI) (aL.v (hh.later db) il #[j,rfl,by(rw[b5 (aO (hx u H4 (i5 g5) (Gx (r! s4))) λ a xs iH h1 h2=>?_) iH]);exact m7 xs Fa (q _ _ Ou (s4.trans (cS hl)) Mp)])
adz{i:a4}(ho:fj)(hl:ef lo i)(hx:Q0 q p (g_ xs vg a3)):gA q7 yX ad lo a3:=IS IA TF (by(rw[b5 (aO JD λ a xs jF h1 h2=>?_) jF]);exact m7 xs Fa Kf _ hl Mp)
xg(hu:lw)(ho:fj)(hi:yQ)(hx:OS v jR (bc (P v) H1))(hs:J! (Ek e)):gA q7 e:=fi (asA hu aI aI hs) n? iS vT λ y H3 s3 hy=>by(rw[b5 (aO (hx u y H3 db (Gx s3) hy) λ a v lX h1 h2=>?_) lX]);exact m7 v tY h2
aeB(hu:lw)(hi:yQ)(ho:fj)(hx:IX r r)(h1:n1 ip .In o):dX AL e .In [o] z:=fi (ayO (aat hu aI aI) h1) sv l_ vT j5 y hy iS r? λ u H3 s3 hu=>by(rw[Js r kE kE]);exact m7 r Q7 h2
Zp(hu:lw)(hi:yQ)(ho:fj)(hx:IX r r)(h1:n1 ip .In o):h? AL e .In [o] z:=o1 (Qu (aat hu aI aI) h1) sv l_ vT j5 y hy iS r? λ u H3 s3 hu=>by(rw[Js r jJ jJ]);exact xN (wY a r ab h1) (by rw[h2];exact q H3 u2)
O1(hu:lw)(hi:yQ)(ho:fj)(hx:IX r r)(h1:n1 ip .nj o):h? AL e .nj [o] (!z):=o1 (Qu (aF4 hu aI aI) h1) sv l_ vT j5 y hy iS r? λ u H3 s3 hu=>by(rw[Js r kx kx]);exact xN (wY a r ab h1) (by rw[h2];exact q H3 u2)
n_(ho:fr e Po)(hx:j9 (xc bb u H1 z))(he:Rh v v v):h? e z:=vO (arV aI he) n? bm z J1 qp
}
section z
section
variable{e c:a7}{ax hJ p1 p2:bi}{c? eV:eE}{N:lb}{P:bD}{y:a6}
def z:={
lh(i:Y){op:N6}{g:a4->a4->a4}{m k:a4}(ho:Hy X op (JR g))(hN:e7)(hv:dE σ i ad IK)(he:ef e k)(hr:i? KR da (g m k) H c?)(hi:qw)(hx:qx)(hf:qv):jp (.AugAssign mk op e ax):=mA (aP (G0 (i:=i) hN hi hx aI ho hf) fJ) D gk hv (aL.v (Gv s1) nL #[m,k,rfl,rfl,_,_,kU hr.later,λ a2 H3 s3 h=>v9 n a2 h,λ v H3 s3 h=>v9 p v h])
mw(J:x_)(mono:∀m a2 H1 H2,m_ (J m a2 H1->J m a2 H2))(m0:Y)(hp:xU)(h0:J m0 σ H)(hs:∀m a2 H1,hX (J m a2 H1->∃x,Te X a2 H1 c x/\(x=a?->Bd X a2 H1 eV wE d1 (∃m',m'<m/\w4 J m') P)/\(x=false->xr))):jp (.While c eV [] ax):=mA (aP (nH hp dz fJ) fJ) D (by refine bm (λ m a2 H'=>pV H1/\J m a2 H') bm m0 Pk (jB mono s1 h0) ?_;rintro m a2 H'⟨s2,j⟩;refine bM (hs m a2 H' (i5 s2) j) λ x hc hb hr=>?_;refine Lq x hc ?_;cases x with|a?=>refine i' #[wE d1 (aj H1 H2/\∃m',m'<m/\w4 J m'),λ d1 H2 bx=>iN bx λ s4 m' hm h=>(aZ m' hm s4 h),_,_,(ee hb).l! s3,λ d1 H2 s4 h=>#[g5,vU],λ v H2 s4 h=>ue H2]|false=>exact jU sF ((ee hr).l! s3) wa d1 H2 (n d1 H2 g5 h) wa v H2 ue H2)
MW(i:Y){lo:a4}(J:x_)(hp:xU)(qh:cX)(hN:e7)(hm:rc)(ha:CZ)(gw:DG)(h0:Ej J)(hb:∀k a2 H1,hX (uI->CA (J k a2) pT dp))(hr:mj a2 (J n0 a2) xr)(hg:uc)(hs:BY)(d4:t8)(ft:qw)(hx:qx)(hf:qv)(mC:BR):CK wU nO:=CE (iB hp qh (Cm hg hm dU hs d4) DZ ft hx hf) fJ (by refine oq vs (aE lo hi gc gw (Eu BS (pV H1/\bc (J k a2) H') #[s2,Ir] ?_ ?_));(.rw[yF k a2 j,oA (hb k a2 H' (i5 s3) hk j) D2 lx p v h]);.rintro a2 H'⟨s3,j⟩;rw[oA (hr a2 H' (i5 s3) j) lx n d1 h lx p v h])
U1(i:Y)(J:x_)(hp:xU)(qh:cX)(hN:e7)(hm:rc)(ha:fq eM qf [da hi])(gw:HJ/\HT)(h0:Ej J)(hb:∀k a2 H1,hX (Us->CA (J k a2) E6 dp))(hr:mj a2 (J Gz a2) xr)(hg:uc)(hs:t8)(ft:qw)(hx:qx)(hf:qv)(mC:wb x (wc wU qf x=dV x)):CK wU qf:=CE (iB hp qh (Cz hg hm dU hs) DZ ft hx hf) fJ (by refine oq vs (fE hi gc gw.1 gw.2 (Eu BS (pV H1/\bc (J k a2) H') #[s2,Ir] ?_ ?_));(.rw[yF k a2 j,oA (hb k a2 H' (i5 s3) hk j) D2 lx p v h]);.rintro a2 H'⟨s3,j⟩;rw[oA (hr a2 H' (i5 s3) j) lx n d1 h lx p v h])
Fu(i:Y){fa:a7}{Po:bD}(J:x_)(hp:xU)(qh:cX)(hN:e7)(ho:lv)(hx:t3)(h0:Ej J)(hb:∀k v a2 H1,hX p? k v CA (J k a2) v dp)(hr:P3)(ft:qw)(d_:qx)(hf:qv)(mC:mN):CK fa:=CE (iB hp qh (l8 aI) DZ ft d_ hf) fJ (by rw[x! H2 s2 hu];(rw[xM kn hl kn]);have dW:∀H3,aj H2 H3->aC bb H3 a xs:=j1 (by rw[xE hu e h]);refine Sz tm cw cw;(.rintro k v a2 H' hk⟨s3,j⟩;rw[oA (hb k v a2 H' db hk j) D2 ue H4]);.rintro a2 H'⟨s3,j⟩;rw[oA (hr a2 H' db j) (n d1 H4 g5 h) ue H4])
Ng(i:Y){fa:a7}{Po:bD}(J:x_)(hp:xU)(qh:cX)(hN:e7)(ho:lv)(hx:ww u u oK a)(h0:Ej J)(hb:∀k v a2 H1,hX p? k v CA (J k a2) v dp)(hr:P3)(ft:qw)(d_:qx)(hf:qv)(mC:mN):CK fa:=CE (iB hp qh (AZ aI) DZ ft d_ hf) fJ (by rw[x! H2 s2 hu];(rw[xM lZ hl lZ]);have dW:∀H3,aj H2 H3->aJ bb H3 a xs:=j1 (by rw[xE hu e h]);refine Sz Kk dA dA;(.rintro k v a2 H' hk⟨s3,j⟩;rw[oA (hb k v a2 H' db hk j) D2 ue H4]);.rintro a2 H'⟨s3,j⟩;rw[oA (hr a2 H' db j) (n d1 H4 g5 h) ue H4])
}
section z
section
variable{elt fa:a7}{c!:fU}{own:q_}{ax hJ p1 p2:bi}{y:a6}
def z:={
j4.1(X:Cx)(c!:fU)(elt:a7):TE:=λ a2 H' Q=>∃v,(∀(s:aN)(H0:Hp)(C:Z)(cl:bh)(fp:bv),aB mn a2 H' elt v)/\q? H' n3
pU(s:aN)(H0:Hp)(C:Z)(cl:bh)(fp:bv):PE mn elt sQ:=λ al s' a2 H' Q I eG=>Se eG h kc H2 s2 (by rw[uw e' e',q H2 s2])
wm.1(X:Cx)(c!:fU)(c:a7):TT:=λ a2 H' Q=>∃b,(∀(s:aN)(H0:Hp)(C:Z)(cl:bh)(fp:bv),Te mn a2 H' c b)/\q? H' fI b
KW{c:a7}(s:aN)(H0:Hp)(C:Z)(cl:bh)(fp:bv):PT mn c xf:=λ al s' a2 H' Q I kz=>Se kz h A_ qp
aao(i:Y){Po:bD}{f:gV}(ho:lv)(hx:t3)(hw:ju)(hl:ls)(he:∀(s:aN)(H0:Hp)(C:Z)(cl:bh)(fp:bv)(k:Y)(x:V),tW):J? vb Ai kd:=by intro H1 s1 Q q;rw[x! H2 s2 hu];(rw[xM nJ fk nJ]);have dW:∀H3,aj H2 H3->aC bb H3 a xs:=j1 (by rw[xE hu e h]);refine Pl Dr lD lD;(.rw[yF k x e,<-#[hw x,?_]];(refine(bm (f x) sT ((re fp k x hk).l! db) λ H4 s4=>xh _ p9 ?_);(.rw[Qt]);.exact f? hb (by rw[aV (c7 hb hD)];exact yh));.rw[aX,N8,hk];simp);.rw[I_]
pR(i:Y){Po:bD}{f:gV}(hc:cX)(hN:e7)(ok:iQ)(ho:lv)(hx:t3)(hw:ju)(hl:ls)(he:∀(s:aN)(H0:Hp)(C:Z)(cl:bh)(fp:bv)(k:Y)(x:V),tW)(hg:∀(s:aN)(H:Hp)(C:Z)(cl:bh)(fp:bv),mT)(hs:mN):ly t6 v mE vb:=Rj wZ l8 aao
abN(i j:Y){z:a6}{pz:bi}{c?:eE}{N:lb}{P:bD}{Po:bD}{f:gV}(hc:cX)(hN:e7)(ok:iQ)(ho:lv)(hx:t3)(hw:ju)(hl:ls)(he:∀(s:aN)(H0:Hp)(C:Z)(cl:bh)(fp:bv)(k:Y)(x:V),tW)(hg:∀(s:aN)(H:Hp)(C:Z)(cl:bh)(fp:bv),mT)(hr:Jf a a vb)(hz:mx j z)(nM:CC)(mo:B9 t6)(hs:mN):jp CX t6:=JP l8 xP (aao i ho hx hw hl he H1 s1 KZ j5 v hv (by(rw[eq nt au a oJ ha oJ]);exact xC jf hr a ha))
adu(i:Y){Po:bD}{f:gV}(ho:lv)(hx:ww u u oK a)(hw:ju)(hl:ls)(he:∀(s:aN)(H0:Hp)(C:Z)(cl:bh)(fp:bv)(k:Y)(x:V),tW):J? vb Z4 kd:=by intro H1 s1 Q q;rw[x! H2 s2 hu];(rw[xM qW fk qW]);have dW:∀H3,aj H2 H3->aJ bb H3 a xs:=j1 (by rw[xE hu e h]);refine Pl aKk ou ou;(.rw[yF k x e,<-#[hw x,?_]];(refine(bm (f x) sT ((re fp k x hk).l! db) λ H4 s4=>xh _ p9 ?_);(.rw[Qt]);.exact f? hb (by rw[aV (c7 hb hD)];exact yh));.rw[aX,N8,hk];simp);.rw[I_]
zB(i:Y){Po:bD}{f:gV}(hc:cX)(hN:e7)(ok:iQ)(ho:lv)(hx:ww u u oK a)(hw:ju)(hl:ls)(he:∀(s:aN)(H0:Hp)(C:Z)(cl:bh)(fp:bv)(k:Y)(x:V),tW)(hg:∀(s:aN)(H:Hp)(C:Z)(cl:bh)(fp:bv),mT)(hs:mN):ly t6 v mE vb:=Rj wZ AZ adu
aqH(i j:Y){z:a6}{pz:bi}{c?:eE}{N:lb}{P:bD}{Po:bD}{f:gV}(hc:cX)(hN:e7)(ok:iQ)(ho:lv)(hx:ww u u oK a)(hw:ju)(hl:ls)(he:∀(s:aN)(H0:Hp)(C:Z)(cl:bh)(fp:bv)(k:Y)(x:V),tW)(hg:∀(s:aN)(H:Hp)(C:Z)(cl:bh)(fp:bv),mT)(hr:Jf a a vb)(hz:mx j z)(nM:CC)(mo:B9 t6)(hs:mN):jp CX t6:=JP AZ xP (adu i ho hx hw hl he H1 s1 KZ j5 v hv (by(rw[eq nt au a nY ha nY]);exact xC jf hr a ha))
Qe(i:Y){c:a7}{lo:a4}{f:gV}{t:ne}(hc:cX)(hN:e7)(ok:iQ)(hm:rc)(ha:CZ)(gw:DG)(hw:ju)(hl:y? n0)(ht:∀(s:aN)(H0:Hp)(C:Z)(cl:bh)(fp:bv)(k:Y),uI->Te mn xK H c uE)(he:∀(s:aN)(H0:Hp)(C:Z)(cl:bh)(fp:bv)(k:Y),uI->t pT=a?->wl aB xK uD)(hg:∀(s:aN)(H:Hp)(C:Z)(cl:bh)(fp:bv),mT)(qX:uc)(rO:BY)(d4:t8)(hs:BR):ly IR v mE tr rm w6 u1 n0:=by refine eU (wZ hc hN K! ok hg Lt pU hs) D4;refine oq vs (aE lo hi gc gw ug (I? E7 tt te xk rm Jt ub ?_ ?_));(.rw[DS k s3 e];(refine B_ uE (ht s H0 C cl) L3;have We:(w6 u1 dp).GB t=(Jt).GB t++KO pT [iY (lo+k)] []:=by rw[GC,nu,N'];congr 1;rw[jY,My,N!];rfl);cases et:uE with|a?=>rw[Ju uD (re fp k hk et).l! s5];((.rw[Dj];have h1:=JT t (Bz).map wz k Hs;rw[Iq N? h1,BL h1 (r4 hk hl)]);.exact f? hb (by rw[aV (c7 hb hD)];exact xo yh));.rw[aX,We,fl et,nu];rfl|false=>refine jU #[zf,?_];rw[p9,We,kO (by rw[et];simp),Ag]);.rw[xa s3 e,Bt q _ D]
}
section z
section _M
namespace _M
open lW pd l0 _L
variable{xs vs:bQ}{z dx:Z}{ns:mF}{H':Hp}{eb ea:a7}{PL:m1}{hi i lo:a4}{g:a6}{R:RP}{i7:bi}{l:uH}
def z:={
RQ.1{α:Type}(hO:lJ)(d?:lC)(fZ:lz):RP:=λ vs H P=>∃a,vs=k_/\d? a H/\P=s?
}
section
variable{P:ci}{w:ck}{K:b4}{mg:g7}{ca:d0}{x fY:a6}{st:px}{f:Z}{fd:Gn}{N ps:dk}{k:Y}{α:Type}{hO:lJ}{d?:lC}{fZ:lz}
def z:={
Zn(F:wN gd x f)(S:ky)(bF:qz)(eV:∀(a:α)(aK:a!)(A:dr)(br:m?)(s:aN)(H0 H:Hp)(E:XK),xD xy):rj mL ej dp fd ps (z_ og):=axc F S (λ vs H Q bx=>bM bx λ a e _ _=>by rw[e];exact bF a) λ aK A br s H0 H vs Q E hr cw=>bM cw λ a e hp e2=>by subst e e2;exact eV a aK A br s H0 H E hr hp
c6(h:xY yC)(S:ky)(hb:∀(kV doc pm:a!)(an:lH)(aK ct:a!)(us:cx),qM)(bF:qz)(eV:∀(a:α)(f:Z)(aK:a!)(A:dr)(br:m?)(s:aN)(H0 H:Hp)(E:XK),xD xy):mL aM ca dp x og:=by refine df h λ f fd hm F=>?_;exact(b8 f fd ps hm F.kp Ur (Zn F S bF λ a=>eV a f))
K6{C:Z}(h:xY (mY K C x f))(S:ky)(hb:∀(kV doc pm:a!)(an:lH)(aK ct:a!)(us:cx),qM)(bF:qz)(eV:∀(a:α)(f:Z)(aK:a!)(A:dr)(br:m?)(s:aN)(H0 H:Hp)(E:XK),xD xy):Jy e_ dp x:=by refine df h λ f fd hm F=>?_;exact(lL f fd ps hm (F.binds hb) (Zn F S bF λ a=>eV a f))
}
section z
section
variable{X:Cx}{σ:dt}{H:Hp}{k:Y}{x m:a6}{e o:a7}{es:cY}{p ax gZ:bi}{C b:Z}{α:Type}{hO:lJ}{d?:lC}{fZ:lz}
def z:={
aT(F:qG aM og)(hr:oR)(a:α)(ha:fq eM gm k_)(hp:C6)(hg:kh)(d5:fN)(he:f9)(a_:iJ):fr sV s?:=QH F hr ha (λ us H1 s1 e1=>LL (aZ a Aj EX ab) u h) hg d5 he a_
cJ{pl:EQ}(c:rC)(F:wv e_ vQ k C m og)(hr:oR)(a:α)(ho:rb im)(hi:fg (∃dx fs,CV/\uy))(ha:fq eM gm vs)(hv:k_=cv b::vs)(hp:C6)(bw:f9)(a_:iJ)(ht:Ci Cr (pw [ov] (Gs ov m pl)) gm):fr Cr s?:=Mi c F hr ho hi ha (λ us H1 s1 e1=>LL (aZ a (by rw[ez Aj hv.symm]) EX ab) u h) bw a_ ht
}
section z
structure Fr where
 f:Z
 aK:a!
 A:dr
 br:m?
 s:aN
 H0:Hp
 E:XK
def z:={
xI.1(N:dk)(fY:a6)(st:px)(P:ci)(w:ck)(K:b4)(mg:g7)(ca:d0)(e:Fr):Cx:=(A1 e.f e.aK e.A e.outer e.s e.H0 e.E).jh
}
section
variable{P:ci}{w:ck}{K:b4}{mg:g7}{ca:d0}{x fY:a6}{st:px}{N ps:dk}{k:Y}{α:Type}{hO:lJ}{d?:lC}{fZ:lz}
def z:={
bp(h:xY yC)(S:ky)(hb:∀(kV doc pm:a!)(an:lH)(aK ct:a!)(us:cx),qM)(bF:qz)(eV:∀(a:α)(e:Fr)(H:Hp),bX k (CI).A->d? a H->DW U a HC CI N a):mL aM ca dp x og:=EA c6 S λ a f aK A br s H0 H E hr hp=>TC f s E
iG{C:Z}(h:xY (mY K C x f))(S:ky)(hb:∀(kV doc pm:a!)(an:lH)(aK ct:a!)(us:cx),qM)(bF:qz)(eV:∀(a:α)(e:Fr)(H:Hp),bX k (CI).A->d? a H->DW U a HC CI N a):Jy e_ dp x:=EA K6 S λ a f aK A br s H0 H E hr hp=>TC f s E
k7(h:xY yC)(S:ky)(hb:∀(kV doc pm:a!)(an:lH)(aK ct:a!)(us:cx),qM)(bF:qz)(eV:∀(a:α)(f:Z)(aK:a!)(A:dr)(br:m?)(s:aN)(H0 H:Hp)(E:XK),xD DW U a xy):mL aM ca dp x og:=EA c6 S λ a f aK A br s H0 H E hr hp=>qd (eV a f aK A) H E hr hp _ λ _ h=>h
QC{C:Z}(h:Lg (mY K C x f) (gd K x) st)(S:ky)(hb:∀(kV doc pm:a!)(an:lH)(aK ct:a!)(us:cx),qM)(bF:qz)(eV:∀(a:α)(f:Z)(aK:a!)(A:dr)(br:m?)(s:aN)(H0 H:Hp)(E:XK),xD DW U a xy):Jy e_ dp x:=EA K6 S λ a f aK A br s H0 H E hr hp=>qd (eV a f aK A) H E hr hp _ λ _ h=>h
}
section z
section
variable{X:Cx}{σ:dt}{H:Hp}{o e f:a7}{ax gZ p p2:bi}{P Po:bD}
def z:={
Tx{Py Pz:bD}(hu:lw)(ho:fj)(he:yQ)(hf:fr f Pz)(hd:j9 (∃a,gp u/\Kz H1 a))(hx:∀a y z H1,hX (bc (Po eY) H1->bc (Py y) H1->bc (Pz z) H1->∃r,mz H1 r/\bc (P (r.getD z)) H1))(m:i6 (M2 X o "get" gZ e f ax) aLF._auto_1):gA un (xd o "get") [e,f]:=fi (apA hu aI aI aI m) n? (by(rw[qH jf hd u hu aS aS]);refine(BB h1 iS Gv λ y H3 s3 hy=>l_ (hf.later db) λ z H4 s4 hz=>?_);refine ah (hx a y z H4 (i5 g5) (Gx (r! s4)) (hy.later s4) hz) au r h2 h3;exact bm r h2 (q _ H4 g5 h3))
NH(ho:fj)(hf:j9 (∃a C dx fs v,gp u/\H1 a=ad mq/\rC/\cb bb C g/\jy g v/\bc (P v) H1))(hb:gf C! o g j? j?):gA gt zU o g:=yU acI hb n? (by(rw[b5 (yd jf hf u hu λ a C dx fs v aU h1 h2 h3 h4 h5=>?_) aU]);exact Ua C fs (q _ H2 s2 h5))
aHM(hm:ji (g! "list"))(ho:fj)(hx:j9 tC (pX aC q\/oK q))(hv:j0 (rJ "list") LH)(hg:hW (nS "list"))(he:mK)(a_:oj):ly qS (e4 "list") v mE xs:=o3 (Ik aFV hm hv rD) Q (by(rw[qE a9 h a9]);(rw[qH (hx u H1 s1 h) bu bu]);exact m7 xs Fa (q _ _ (cS hl) j1 e9 l zp aX))
E2(hm:ji (g! "tuple"))(ho:fj)(hx:j9 tC pX aC q)(hv:j0 (rJ "tuple") T?)(hg:hW (nS "tuple"))(he:mK)(a_:oj):ly qS (e4 "tuple") v pZ dQ a dM xs:=o3 (Ik ayP hm hv rD) Q (by(rw[qE bV h bV]);(rw[qH (hx u H1 s1 h) cI cI]);exact(cD a xs ab g4 #[h1,λ l hl=>q _ _ (cS hl) j1 e9 l zp aX]))
nU{es:cY}(ha:q!)(hl:um):ly (.List es ax) v mE vs:=eU (ny dU) gh oq us #[by rw[ez gc hl],λ p hp=>q _ _ GY cS hp il e9 p bE s4 E_ aX gc]
HA{a b:a7}{ys:bQ}(ha:ux a v (∃q,nP v/\mJ q))(hb:ux b v (∃q,nP v/\dQ q lst ys))(hl:Rw):ly (.BinOp a .Add b ax) v (∃q,nP v/\dQ q lst Mb):=DJ Ar Ud AM r9 u iS Gq λ v H3 s3 hv=>by(rw[eq GA (λ l dB _=>?_) dB]);refine ah (hu H3 s3) au l' e' h1;cases e';(rw[eq nt au r d6 h2 d6]);exact(Az l r xs ys ab ab h1 h2 hl (λ p hp=>Kf _ hp il e9 p bE s4 aX))
aan{lo:a7}(ho:fj)(hl:ef lo i)(hx:j9 (∃q xs,nP u/\oK q/\gb bL 0 vg≠0/\∀p,bc (P qr) (upd H1 p (.dM (g_ xs vg a3))))):gA q7 yX ad lo a3:=IS aFj TF (by(rw[b5 (fR JD λ a xs fL h1 bf h2=>?_) fL]);exact(jg a xs ab h1 (λ h=>bf h.1) Fa Kf _ hl Mp))
aFe{a:a7}{ta:TE}(ha:bS a ta):bS Kt λ σ H Q=>gT ta x (∃k,xc bb x H1 k/\Q zA k H1):=by rw[ke,<-UnaryOp_ (qP ha λ v s1 bx=>jd bx λ x H1 I1 r1 k ht q1=>?_),not_of (be (ff abU s1 H1 x v wE b fI zA b I1 r1 bm k ht q1) λ b s2 cw=>ah cw λ H2 I2 q2=>Ef zA b I2 ab)]
azS{z:b!}(ho:fj)(hx:j9 (xc bb u H1 z)):dX H! Not o (!z):=eU (aFe aI) n? bm z J1 ur
nZ{k:Y}{x:a6}{es:cY}{α:Type}{hO:lJ}{d?:lC}{fZ:lz}(F:qG aM og)(hr:oR)(ha:q4)(hp:qC (∃a,vs=k_/\Bs/\∀v H2,m_ (fZ a v H2->P v H2)))(hg:kh)(d5:fN)(he:f9)(a_:iJ):t7:=QH F hr ha (λ us H1 s1 e1=>by refine bM (hp us H1 s1 e1) EK a h1 h2;exact gk (aZ a e2 h1 ab) h2) hg d5 he a_
}
section z
def z:={
aIS(l:Z)(fT:m8)(n:Y)(b:Z)(Dd:m8)(cr:j! (g?+Dd.size)):Meets (Builtin.«list.extend» #[[kw,cv b],[]]) (λ _ R s=>kq l sP (la fT n)/\(∃o n2,jE/\o.cls=yV/\o.data=la Dd n2)/\R (.ok (.ret NU)) jw s KA l (λ x=>x++Dd)):=by intro eO w A R s zz;rw[<-bW zz λ hS zz hR=>aO zz EJ n2 ho hc,jl (WT kw im eX) s,qN WT (FA bm o ho hc ?_)];(have h1:bH (Builtin.List.listSameRef kw im||KI==Value.type "list"||KI==KI):=by simp);rw[Kw h1,cc ?_,qN Builtin.List.listItems Kj ho hd ?_,cc ?_,cc Kj hS ab ?_];(have h2:(!items.isEmpty&&Sg (g?+Dd.size))=false:=by rw[V9 cr,FT]);simp only[h2];rw[jl (NZ l (· ++ Dd)>>=(eF (ret NU))) s,cc (Gp hS ab ?_ (hz:=nW Wz cr) (_hz':=by rw[Array.size_append];exact Vr cr)),DO hR]
ake.1(K:b4):ot:=kL vs (∃l b xs zs,JA (vs=[im]) (aJ K H b zs) (Q .cz qc l Ma))
aFI{X:Cx}:Tc (ake bb):=by intro al s σ H x vs v us Q I rx rv h;obtain⟨l,b,xs,zs,rfl,rfl,hH,hB,hz,q⟩:=h;rw[dZ];(rw[eq rv.one au u a9 ru a9]);cases ru;rw[CW n r e,h! hC hB λ kb r2 bu fV=>zu bu EJ ho hc n2];have f7:=r2.length;rw[<-Qi (aIS l gY n b MV (by rw[Cq,Lb hz hl f7])) #[e,(aE o n2 ho hc hd),?_],KP (aF++kb) (FS r2) q,JF OV hz]
}
section
variable{X:Cx}{σ:dt}{H:Hp}{elt fa:a7}{c!:fU}{own:q_}{ax hJ p1 p2:bi}{y:a6}
def z:={
atm(i:Y){f:gV}(hc:cX)(hN:e7)(ok:iQ)(hm:rc)(ha:CZ)(gw:DG)(hw:ju)(hl:y? n0)(he:∀(s:aN)(H0:Hp)(C:Z)(cl:bh)(fp:bv)(k:Y),uI->wl aB xK uD)(hg:∀(s:aN)(H:Hp)(C:Z)(cl:bh)(fp:bv),mT)(qX:uc)(rO:BY)(d4:t8)(hs:BR):ly HY .lV nO [] v mE tr w6 u1 n0:=by refine eU (wZ hc hN K! ok hg xP pU hs) D4;refine oq vs (aE lo hi gc gw ug (Ig E7 kd te xk Jt ub ?_ ?_));(.rw[DS k s3 e];(refine(B_ uD re λ H5 s5=>xh _ j3 s5 ?_);(.rw[Sh hE hk hl]);.exact f? hb (by rw[aV (c7 hb hD)];exact bE s5 bE s3 hb));.rw[C9 aX GC nu];rfl);.rw[xa s3 e,Bt q _ D]
aAb(i:Y){f:gV}(hc:cX)(hN:e7)(ok:iQ)(hm:rc)(ha:fq eM qf [da hi])(gw:HJ/\HT)(hw:ju)(hl:AG Gz)(he:∀(s:aN)(H0:Hp)(C:Z)(cl:bh)(fp:bv)(k:Y),Us->wl aB GW E6 (f E6))(hg:∀(s:aN)(H:Hp)(C:Z)(cl:bh)(fp:bv),mT)(qX:uc)(rO:t8)(hs:wb x (wc wU qf x=dV x)):ly HY .lV qf [] v mE tr pQ u1 Gz wz k (0+wj k):=by refine eU (wZ hc hN (Cz qX hm dU rO) ok hg xP pU hs) D4;refine oq vs (fE hi gc gw.1 gw.2 ug (Ig E7 kd te xk pQ Bz wz k (0+wj k) ub ?_ ?_));(.rw[DS k s3 e];(refine(B_ (f E6) re λ H5 s5=>xh _ j3 s5 ?_);(.rw[Sh hE hk hl]);.exact f? hb (by rw[aV (c7 hb hD)];exact bE s5 bE s3 hb));.rw[C9 aX GC nu];rfl);.rw[xa s3 e,Bt q _ D]
aLC{a o:a7}{Po:bD}(ha:f')(ho:fj)(hx:j9 tC (aJ bb H1 q vs))(hf:xT)(hm:nF ip .In o):dX km In [o] y8:=fi kH tK Ke k8 iS r? λ v H3 s3 hv=>by(rw[eq (hx v H3 db hv) au p aS e aS]);exact(fM p vs ab jn e ab hf jC)
}
section z
section
variable{X:Cx}{σ:dt}{H:Hp}{o e a b:a7}{es:cY}{ax gZ p kp:bi}{P Po Pa Pb:bD}
def z:={
Lh.1(S:TD (Hp->Z->bQ->Prop))(K:b4):R2:=kL y (∃(a b:Z)(ns ms:mF),gp x/\y=cv b/\S K H a mD/\S K H b T8/\Q i! BD H)
agm(hu:F1<vI):de X n9 .LtE (Lh aJ bb):=by intro al s σ H x y v u Q I rx ry h;(rw[lF (yP h λ a b ns ms aS aU ha hb q=>?_) aS aU]);rw[dZ];cases ry;obtain⟨aF,r1,⟨⟨cls,dd,rL,sl⟩,ho,hc,n,hd⟩,_⟩:=hC ha;obtain⟨kb,r2,⟨⟨S6,kW,data2,lg⟩,oY,uC,n2,hd2⟩,_⟩:=hC hb;rw[Qv (R? op .LtE g0 ho g0 oY PySem.F.slot_tuple_le PySem.F.entry_tuple_le ir PySem.F.args_tuple_le_2 (S! _E.axy _ _ i1 i2) #[ho,oY,?_] hu) x I]
akV(hu:F1<vI):de X n9 .LtE (Lh aC bb):=by intro al s σ H x y v u Q I rx ry h;(rw[lF (yP h λ a b ns ms dB d6 ha hb q=>?_) dB d6]);rw[dZ];cases ry;obtain⟨aF,r1,⟨⟨cls,dd,rL,sl⟩,n,ho,hc,_,hd⟩,_⟩:=fX ha;obtain⟨kb,r2,⟨⟨S6,kW,data2,lg⟩,n2,oY,uC,_,hd2⟩,_⟩:=fX hb;rw[Qv (R? op .LtE g0 ho g0 oY PySem.F.slot_list_le PySem.F.entry_list_le ir PySem.F.args_list_le_2 (S! _E.ap7 _ _ i1 i2) #[ho,oY,?_] hu) x I]
TV{S:TD (Hp->Z->bQ->Prop)}(ho:de X n9 .LtE (Lh S bb)){ms:mF}(ha:fr a Pa)(hb:fr b Pb)(h1:mj u (Pa u) tC (S bb H1 q mD))(h2:mj u (Pb u) tC (S bb H1 q T8))(hm:n1 ip .LtE b):h? km LtE [b] BD:=o1 kH uK ho AM r9 u iS Gq λ v H3 s3 hv=>by(rw[eq (h1 u H3 db Id) au l kE e1 kE]);(rw[eq (h2 v H3 db hv) au r jJ e2 jJ]);exact #[l,r,ns,ms,rfl,rfl,e1,e2,_,rfl,uu]
aJD.1(K:b4):ot:=kL vs (∃(l:Z)(ns:mF)(k:a4),tE l/\vs=[da k]/\aC K H l mD/\Q da (Uo:Y) H)
ayK:MtR X "list.count" (aJD bb):=by intro al s σ H x vs v us Q I rx rv h;(rw[lF (gQ h λ l ns k kx kn hs q=>?_) kx kn]);rw[dZ];(rw[lF (aI7 (vE rv) λ u lZ t nJ=>?_) lZ nJ]);rw[h! fX hs λ aF r hl _=>?_];exact count_list_ints z0 r.ints (aE da _ H xl zk q)
aDX{k:a4}(ho:fj)(he:ef e k)(hx:B4)(L9:gf (Vl o "count" iW j?) j?)(IF:k? J3 nE [e] G? [] ([e]:cY))(Lj:k? Lc Gh)(hs:kZ [e] e [])(a_:oj):ef un (xd o "count") [e] (Uo:Y):=eU (kT PySem.F.plainAttrs_list PySem.F.slot_list_count PySem.F.type_list_count ayK aI dU L9 IF Lj hs a_) n? (by(rw[eq J1 au l oJ h1 oJ]);refine(eI g4 (kX ab _ h1) _ kU n4 (ae he ao hs) (λ vs H3 s3 e3=>?_));refine ah (hx _ H3 db Id) au l' e' h2;cases e';exact(b8 l ns k ab e3.now h2 jC))
auP(hc:cX)(hm:ji (g! "sum"))(ho:fj)(hx:B4)(hv:j0 (rJ "sum") Lp)(hg:hW (nS "sum"))(he:mK)(a_:oj):ef qS (e4 "sum") ns.sum:=o3 y1 ajD hv rD Q (by(rw[qE qW h qW]);(rw[qH (hx u H1 s1 h) nY nY]);exact m7 ns wA)
auH{m:a4}(hc:cX)(hm:Es)(ho:fj)(hx:B4)(bf:D_)(i9:Rk k k k)(hv:Cl)(hg:CO)(he:mK)(a_:oj):ef qS (e4 "max") m:=o3 y1 ao6 hv rD Q (by(rw[qE w_ h w_]);(rw[qH (hx u H1 s1 h) xm xm]);exact(jg a ns ab h1 bf (λ k h2 h3=>wn q _ gl (by rw[i9 k h2 h3]))))
asK{j:a4}(hc:cX)(hm:Es)(ha:f')(hb:lr)(hv:Cl)(hg:CO)(he:kZ [a,b] a [b])(JM:kZ [b] b [])(a_:nI [b]):ef nG (e4 "max" p) [a,b] (if j>i then j else i):=o3 y1 ags hv (ae ha (ae hb ao JM) he) Q (cD i j nt wA)
aCh{t td:TE}{d:a7}(hc:cX)(hm:Es)(ho:bS o t)(hd:bS d td)(hg:CO)(hv:Cl)(bw:mK)(he:gf nE [o] (v! o::nE []))(Bh:nI [o])(b9:PH all)(M9:PF)(Nr:PP a6):bS (.lV (e4 "max" p) [o] [Hz dL d kp] ax) λ σ H Q=>gT t x QO m k m:=by rw[O9 (yw I hg hm hv ?_),<-callWith_kw (be (ff (iz ho fQ bw ax) s H (λ xs H1=>match xs with|[x]=>QO m k m|_=>nl) I h) au us s1 iD) he Bh b9 M9,<-aO iD EG xs I1 q1];rcases xs with _|⟨x,_|⟨x',xs⟩⟩;(.rw[KQ q1]);(. (rw[b5 (ah (vE r1) au u xn ru) xn]);refine kws_cons (or hd λ w s2 bx=>anN bx λ y H2 I2 ry l ns ex hl q0 q2=>kws_nil ?_);subst ex;cases ru;rw[uk I2.list hl hL];rw[Nr];refine _X.aKZ (I2.ok.hd hc) hL.isList M3 (λ e h2 tk hk=>(aE y H2 (I2.kept hk) ry (q0 e))) λ hp h2 tk M t' hk h3 h4=>(aE da M H2 (I2.kept hk) zk (q2 hp M h3 h4)));.rw[KQ q1]
}
section z
section
variable{X:Cx}{σ:dt}{H:Hp}{e:a7}{es:cY}{ax p:bi}{P:bD}{k:Y}{x:a6}
def z:={
n6.1(Pr:ci)(w:ck)(K:b4)(mg:g7)(ca:d0)(k:Y)(f:Z)(R:RP):Prop:=∃fd ps,bH S5 tA/\y6/\rj o0 ej K k fd ps (z_ R)
aM.at_{Pr:ci}{w:ck}{K:b4}{mg:g7}{ca:d0}{x:a6}(h:o0 aM K ca k x R):∃f,yC/\o0 n6 K ca k f R:=by refine gQ h λ f fd ps h1 h2 h3 h4=>?_;exact(wF f h1 fd ps h2 h3 h4)
n6.mono{Pr:ci}{w:ck}{K:b4}{mg:g7}{ca:d0}{j:Y}{f:Z}{R:RP}(h:o0 n6 K ca k f R)(hj:k<=j):o0 n6 K ca j f R:=by refine aO h λ fd ps h2 h3 h4=>?_;exact(aE fd ps h2 h3 (h4.mono hj))
SN{f:Z}{fd:Gn}{ps:dk}{sp:Sp}{t:TA}(i:Y)(F:wv ej vQ eL k f fd ps sp)(hr:oR)(hk:bH (WS bb tA))(hb:Binds bb fd ps [])(ha:D9)(hN:mx i x)(hv:CB nh x)(hd:fN)(gj:B?)(he:f9)(a_:iJ):bS sV λ σ H Q=>dE σ i ad tA/\gT t vs (sp vs H1 Q E0):=by intro al s σ H Q I#[h0,h];refine UF (be (ff (Bo (ax:=p) hN hv hd gj) s H (λ v H1=>v=cv f/\H1=H) I LP h0) λ u s1 cw=>fR cw λ v H1 I1 r1 e1 e2=>?_);subst e1 e2;cases r1;refine PySem.W.callWith_K (h₀:=vQ) I1.ok.mod.zP hk (be (ha ax al s1 σ H1 _ I1 h) λ us s2 dA=>aO dA vd vs r2 #[I2.jL,?_]) he a_;exact BC F hr hb eN mO I2 r2 (by rw[ez Ag q2])
Jo{f:Z}(i:Y)(F:wv n6 vQ k f R)(hr:oR)(h0:dE σ i ad tA)(ha:q4)(hR:qC CN R vs v)(hN:mx i x)(hv:CB nh x)(hd:fN)(gj:B?)(he:f9)(a_:iJ):t7:=by refine aO F λ fd ps hk hb G=>?_;refine eU (SN i G hr hk hb dU hN hv hd gj he a_) gh (eI h0 PL (r9 s1) B1 H2 s2 ?_);refine ah jf hR vs hv au P' r i;exact(bm P' r λ v H3 s3 hp=>tY il lx i v o7 hp)
}
section z
section
variable{Pr:ci}{w:ck}{K:b4}{mg:g7}{ca:d0}{k:Y}{x:a6}{α:Type}{hO:lJ}{d?:lC}{fZ:lz}{C:Z}
def z:={
spI.1(C:Z)(hO:lJ)(d?:lC)(fZ:lz):Sp:=λ vs H Q _=>∃a x dx H1,vs=cv x::k_/\H=upd (upd H1 dx (.own x)) x mm []/\oQ x/\oQ dx/\dx≠x/\Bs/\∀H2,k4 H1 L' bC x fI .cz
me.1(Pr:ci)(w:ck)(K:b4)(mg:g7)(ca:d0)(k:Y)(x:a6)(C:Z)(hO:lJ)(d?:lC)(fZ:lz):Prop:=∃f fd ps,mg x=ad bC C/\Mk K C f/\y6/\rj o0 ej K k fd ps (spI C hO d? fZ)
BO{st:px}{fY:a6}{N ps:dk}(hm:mg x=ad bC C)(h:Lg (Mk K C f) (gd K "__init__") st)(S:ky)(hb:∀(kV doc pm:a!)(an:lH)(aK ct:a!)(us:cx),Hk->SB kV an aK=Hl)(bF:∀a,Hr (Hm+1))(eV:∀(a:α)(f:Z)(aK:a!)(A:dr)(br:m?)(s:aN)(E:XK)(z dx:Z)(H1:Hp),bX k A2->oQ z->oQ dx->dx≠z->d? a H1->∃t,ij (iC eL Pr w K mg ca N fY (aA st) f aK A br s Jx E).jh sG t/\∀D:Ends,(∀a2 H2,k4 H1 L' wG IE)->t D L1 Jx):sM (o0 me K ca dp x C):=by refine df h λ f fd M F=>?_;refine(b8 f fd ps hm M Ur (F.ok S (λ vs H Q E eG=>D7 eG λ a z dx H1 e _=>by rw[e,l5];exact bF a) λ aK A br s H vs Q E hr kz=>asD kz λ a z dx H1 e eH h1 h2 h3 h4 q=>?_));subst e eH;refine ah (eV a f aK A br s E z dx H1 hr h1 h2 h3 h4) au t ht hq;exact bm t ht (hq _ j5 a2 n (q H2 s2 n))
}
section z
section
variable{X:Cx}{σ:dt}{H:Hp}{e:a7}{es:cY}{ax p:bi}{P:bD}{k:Y}{x:a6}{α:Type}{hO:lJ}{d?:lC}{fZ:lz}{C:Z}
def z:={
By{H1:Hp}{o o':HO}(h1:oQ z)(h2:oQ dx):aj H1 mS (upd H1 dx o) o':=λ b u e=>by rw[aV (c7 e h1),aV (c7 e h2)];exact e
OF(M:sM qG me C)(hr:bX dp X.A)(ha:q4)(hp:qC (∃a,vs=k_/\Bs/\∀v H2,m_ (fZ a v H2->P v H2)))(hg:kh)(d5:fN)(he:f9)(a_:iJ):t7:=by rw[<-gQ M λ f fd ps hm M hb G=>?_,<-eU (Ss M G hr hg hm hb eN mO dU d5 he a_) (gh bm PL p4 λ vs H2 s2 hv z dx h1 h2 h3=>?_),<-bM jf hp vs hv EK a h4 h5,CT (Df a z dx H2 (by rw[e2]) ab h1 h2 h3 h4 (λ H3 s3 n=>#[rfl,pS il lx h5 _ o7 n]))]
uL(M:sM qG me C)(hr:bX dp X.A)(a:α)(ha:fq eM gm k_)(hp:C6)(hg:kh)(d5:fN)(he:f9)(a_:iJ):fr sV s?:=OF M hr ha (λ vs H1 s1 e1=>(aZ a Aj EX (λ _ _ _ h=>h))) hg d5 he a_
az7(M:sM qG me C)(hr:bX dp X.A)(a:α)(ha:k_=[])(hp:C6)(hg:kh)(d5:fN):fr nG (e4 x p) [] s?:=by refine gQ M λ f fd ps hm M hb G=>?_;refine eU (aBy M G hr hg hm hb eN mO d5) λ H1 s1 Q q z dx h1 h2 h3=>?_;exact(Df a z dx H1 (by rw[ha];rfl) ab h1 h2 h3 EX (λ H3 s3 n=>#[rfl,q _ H3 s3 n]))
rB{t:TS}{D:Ends}{fs:m5}(hc:rC)(hn:cb bb C g)(hl:TH)(he:Ev X σ H' e P)(hr:∀v H2,qa H' v (qZ H2->t D σ mS H2 mm (bK g v fs)))(hz:qZ H')(ho:σ[0]?=ad Ec):oX (DA bb zD L? g) t D σ H':=by refine l_ he j5 v hv #[_,ho,z,C,dx,fs,rfl,tT hz,hc,hn,hl,?_];exact hr v H2 s2 hv tT hz
}
section z
def z:={
Ku{f:a6}{v:V}:∀{fs:m5},f∉yT->bK f v fs=fs++[(f,v)]|[],_=>rfl|(g,x)::r,h=>by have hg:¬g=f:=λ e=>h (by rw[Kx e,.head _]);show(if g=f then(g,v)::r else(g,x)::bK f v r)=_;rw[fO hg,Ku λ m=>h (.tail _ m)];rfl
dn.1:dk->b!|[]=>a?|vw=>r.all (λ y=>!bG (x=y))&&dn r
Kc:∀{l:dk},dn l=a?->l.Nodup|[],_=>eN|vw,h=>by unfold dn at h;rw[jX,Wa]at h;refine vn j_ y hy e (Kc h.2);have:=h.1 y hy;rw[e]at cs;simp at cs
}
inductive Fv
 |v(x:V)
 |p(P:bD)
def z:={
Got.1(H:Hp):uH->(m5->Prop)->Prop|[],k=>k []|(f,.v x)::l,k=>Got H l zr (k ((f,x)::fs))|(f,.p P)::l,k=>∀x,P x H->Got H l zr (k ((f,x)::fs))
Al{H:Hp}:∀{l:uH}{k k':m5->Prop},Got H l k->(∀fs,k fs->k' fs)->Got H l k'|[],_,_,h,q=>q _ h|(f,.v x)::l,_,_,h,q=>Al (l:=l) h zr (q _)|(f,.p P)::l,_,_,h,q=>λ x hx=>Al (l:=l) (h x hx) zr (q _)
SX.1(z C dx:Z)(H H':Hp):Prop:=vm (b≠z->g3 H->g3 H')/\∃fs,qZ H'
A8.1(z C dx:Z)(ns:dk)(P:bD):Prop:=∀v H fs gE,qZ H->(∀f x,jy f x->iF f)->P v H->P v mS H mm gE
auR{C:Z}{ns:dk}{P:bD}{v:V}{H:Hp}{fs:m5}(k:A8 z C dx ns P)(hz:qZ H)(hf:∀f x,jy f x->iF f)(s:SX z C dx H H')(n:bc (P v) H):bc (P v) H':=nL (by obtain⟨s1,gE,e⟩:=s;have e2:=j3 s2;have g:aj H mS H2 mq:=f? hb (by by_cases h:b=z;(.subst h;rw[aX,<-hz];exact hb);.rw[aV h];exact tT (s1 _ _ h hb));have:=k v _ fs gE aX hf (n _ g);(have q:mS mS H2 mq mm gE=H2:=funext λ b=>by by_cases h:b=z;(.subst h;rw[aX,e2]);.rw[aV h,aV h]);rw[q]at cs;exact cs)
}
inductive nB(X:Cx)(σ:dt)(z C dx:Z)(ns:dk)(H:Hp):eE->uH->Prop
 |b?:rn C [] []
 |v{e:a7}{f:a6}{p1 p2 p3:bi}{v:V}{r:eE}{l:uH}(hn:cb bb C f)(he:kA e)(h:rn C r l)(hs:I0 e:=by rfl):rn C Jq ((f,.v v)::l)
 |p{e:a7}{f:a6}{p1 p2 p3:bi}{P:bD}{r:eE}{l:uH}(hn:cb bb C f)(he:oI)(hk:A8 z C dx ns P)(h:rn C r l)(hs:I0 e:=by rfl):rn C Jq ((f,.p P)::l)
def z:={
SX.go{C:Z}{H2 H3:Hp}{o:HO}(s2:aj H' H2)(s3:SX z C dx mS H2 o H3):SX z C dx H' H3:=#[λ b u n hb=>s3.1 _ _ n (by rw[aV n];exact tT hb),s3.2]
BH.1(X:Cx):eE->TS|.po [.zU _ f _] e _::r=>oX (DA bb zD L? f) (BH X r)|_=>Z9
aav{f:a6}{x:V}:∀{fs:m5},jy f x->f∈yT|(g,y)::r,h=>by by_cases e:f=g;(.rw[e];exact .head _);.refine .tail _ (aav (x:=x) ?_);rw[z1,NM e]at h;exact h
nB.run{X:Cx}{σ:dt}{C:Z}{H:Hp}{ns:dk}(ho:∀p,bS (wI p) zD)(cl:rC)(hσ:σ[0]?=ad Ec)(hz:H z=a3)(hd:ns.Nodup)(hn:zW<1000){st:eE}(h:rn C st l):ij X st (BH X st)/\∀(D:Ends)(H':Hp)(fs:m5)(T:ia),aj H H'->qZ H'->yT++T'=ns->ve (aj H H2->SX z C dx H' H2->Got H2 l λ r=>H2 z=ad mm (fs++r)->T H2)->ve k4 H T (l7 σ H2)->BH X st D σ H':=by((have up:∀{H2:Hp}{o:HO},aj H H2->aj H mS H2 o:=λ s b u hb=>by rw[aV (c7 hb hz)];exact bE s hb);have ap:∀{f:a6}{v:V}{fs r:m5},fs++(f,v)::r=fs++[(f,v)]++r:=λ{f v fs r}=>by rw[Oa];rfl);(have sub:∀{fs:m5}{f:a6}{r:dk},yT++f::r=ns->f∉yT/\TH/\∀g x,jy g x->iF g:=λ{fs f r}e=>by subst e;refine #[λ m=>(List.nodup_append.mp hd).2.2 _ m _ (.head _) ab,?_,λ g x h=>List.mem_append_left _ (aav h)];rw[zN,hE]at hn;omega);induction h with|b?=>exact #[dg,λ D H' fs T s e _ k q=>q H' s λ H3 s3=>k H3 (Ab s3) #[λ b o _ hb=>zp hb,fs,j3 s3] (by rw[CT j3 s3])]|@v e f p1 p2 p3 v r l hn he h hs ih=>refine #[aP (ic (ho p1) aI hs) ih.1,λ D H' fs T s e en k q=>?_];have b:=sub en;refine rB cl hn b.2.1 Ut (λ u H2 s2 hu e2=>?_) e hσ;cases GA;rw[Ku b.1];refine ih.2 D _ (fs++[(f,v)]) T (up (Ab s2)) aX (by rw[nu,Oa];exact en) j_ H3 s3 x3 q;exact Al (l:=l) (k H3 s3 (x3.go s2)) λ gE w e=>w (by rw[ez ap e])|@p e f p1 p2 p3 P r l hn he hk h hs ih=>refine #[aP (ic (ho p1) aI hs) ih.1,λ D H' fs T s e en k q=>?_];have b:=sub en;refine rB cl hn b.2.1 Ut (λ u H2 s2 hu e2=>?_) e hσ;rw[Ku b.1];refine ih.2 D _ (fs++[(f,u)]) T (up (Ab s2)) aX (by rw[nu,Oa];exact en) j_ H3 s3 x3 q;exact Al (l:=l) (k H3 s3 (x3.go s2) u (auR hk e2 b.2.2 (x3.go (r5 _)) hu).now) λ gE w e=>w (by rw[ez ap e])
nB.go{X:Cx}{σ:dt}{C:Z}{H:Hp}{ns:dk}{st:eE}{D:Ends}(T:ia)(ho:∀p,bS (wI p) zD)(cl:rC)(hz:H z=a3)(h:rn C st l)(s:lO)(e:H' z=ad mm [])(k:q? H (Got H2 l λ r=>H2 z=ad mm r->T H2))(q:∀H2,k4 H T (l7 σ H2))(en:hW (T'=ns))(hσ:j0 (σ[0]?) Ec)(hd:k? (dn ns))(hn:Ri):BH X st D σ H':=(RF (h.run ho cl hσ hz) Kc hn).2 D H' [] T s e en mt H2 s2 wu k q
}
inductive Et(X:Cx):eE->Prop
 |b?:Et X []
 |bn{e:a7}{f:a6}{p1 p2 p3:bi}{r:eE}(h:Et X r)(hs:I0 e:=by rfl):Et X Jq
def z:={
axQ{X:Cx}(ho:∀p,bS (wI p) zD){st:eE}(h:Et X st):ij X st (BH X st):=by induction h with|b?=>exact dg|bn h hs ih=>exact aP (ic (ho _) aI hs) ih
fm0{α:Type}{p:ed α}:∀y∈([]:kJ),p y:=LD h h
fm{α:Type}{p:ed α}{x:α}{l:kJ}(h:p x)(t:∀y∈l,p y):∀y∈x::l,p y:=List.forall_mem_cons.mpr #[h,t]
}
section
variable{Pr:ci}{w:ck}{K:b4}{mg:g7}{ca:d0}{k:Y}{x:a6}{C:Z}{α:Type}{hO:lJ}{d?:lC}{fZ:lz}
def z:={
HM{st:px}{fY:a6}{N ps:dk}(hm:mg x=ad bC C)(h:Lg (Mk K C f) (gd K "__init__") st)(S:ky)(hb:∀(kV doc pm:a!)(an:lH)(aK ct:a!)(us:cx),Hk->SB kV an aK=Hl)(bF:∀a,Hr (Hm+1))(cl:dO K C)(ns:dk)(eV:∀(a:α)(e:Fr)(z dx:Z)(H:Hp),bX k (HQ N Pr K).A->d? a H->∃l,nB HQ N Pr K L1 z C dx ns H sG l/\sa (·.1)=ns/\q? H (Got H2 l zr (qZ H2->fZ a wG H2)))(h0:i6 (∀a z,L1[0]?=ad Ec) agX._auto_1)(hN:j0 (N[0]?) ("self":a6))(hv:i6 (nh (aA st) "self") wD._auto_1)(hd:k? (dn ns))(hl:Ri):sM (o0 me K ca dp x C):=by refine BO hm h S hb bF λ a f aK A br s E z dx H1 hr hz nV bf hp=>?_;obtain⟨l,hi,en,q⟩:=eV a #[f,aK,A,br,s,Jx,E] z dx H1 hr hp;obtain⟨ht,k⟩:=RF (hi.run (λ p=>Bo hN hv) cl (h0 a z) hz) Kc hl;exact #[_,ht,λ D nn=>k D _ [] L' wG (By hz nV) aX en mt H2 s2 qp λ H2 s2 n=>nn _ _ s2 n]
}
section z
section
variable{X:Cx}{σ:dt}{H:Hp}{elt fa:a7}{c!:fU}{own:q_}{ax hJ p1 p2:bi}{y:a6}
def z:={
qo.1(lo:a4)(n:Y)(t:ne)(f:gV):bQ:=jS rm w6 T4 f
NR(lo:a4)(n:Y)(t:ne)(f:gV):y_ (n+1)=y_ n++KO AC n [f AC n] []:=by unfold qo;rw[C9 GC nu N'];congr 1;rw[jY,My,N!];split<;>rfl
awi(lo:a4)(n:Y)(t:ne)(f:gV):cW y_ n<=n:=by unfold qo;rw[Dj];have h1:=JT t (T4).map wz k Hs;rw[Iq N? h1,h1]
apZ(i:Y){c:a7}{f:gV}{t:ne}(ha:CZ)(gw:DG)(hw:ju)(hl:y? n0)(ht:∀(s:aN)(H0:Hp)(C:Z)(cl:bh)(fp:bv)(k:Y),uI->Te mn xK H c uE)(he:∀(s:aN)(H0:Hp)(C:Z)(cl:bh)(fp:bv)(k:Y),uI->t pT=a?->wl aB xK uD):fg tF D (oQ D->m_ (sA H2 D y_ n0->fI oC)) xb (mB (K3 (B' X nO)) Cv xf sQ) H1 Q:=by intro H1 s1 Q q;refine oq vs (aE lo hi gc gw ug (I? E7 tt te (λ k H'=>pV H2/\sA H' D y_ k) ub ?_ ?_));(.rw[DS k s3 e,<-B_ uE (ht s H0 C cl) L3];cases et:uE with|a?=>rw[Ju uD (re fp k hk et).l! s5];((.rw[BL (awi lo k t f) (r4 hk hl)]);.exact f? hb (by rw[aV (c7 hb hD)];exact xo yh));.rw[aX,NR,fl et]|false=>refine jU #[zf,?_];rw[p9,NR,kO (by rw[et];simp),Ag]);.rw[xa s3 e,q D H' (s2.free hD) u2 e]
azu(i j:Y){z:a6}{pz:bi}{c:a7}(hc:cX)(hN:e7)(ok:iQ)(hm:rc)(hg:∀(s:aN)(H:Hp)(C:Z)(cl:bh)(fp:bv),mT)(qX:uc)(rO:BY)(d4:t8)(hz:mx j z)(nM:CC)(mo:B9 IR)(hs:BR):PS X CX IR (λ D σ H=>xb (mB (K3 (B' X nO)) Cv xf sQ) H λ x H2=>l7 (Gu j xp) H2):=xS (i:=j) hc hN hz nM mo K! ok hg Lt pU hs
}
section z
section
variable{X:Cx}{σ:dt}{H:Hp}{a b:a7}{c?:cY}{ax:bi}{x:b!}
def z:={
tN(ha:uP)(hx:oS):kB jN And vc i0:=by(have h:=LK cE (b:=b) (c?:=c?) (ax:=ax) ha λ e=>by rw[ii hx e e]);rw[SI,h]
DK(ha:dX a x)(hx:oS):dX jN And vc i0:=by(have h:=LK cn (b:=b) (c?:=c?) (ax:=ax) ha λ e=>by rw[ii hx e e]);rw[SI,h]
}
section z
def z:={
aDT{k:Y}{v:V}(h:0<k)(e:jQ (xs[k - 1]?)):jQ (kF xs (j2 k - 1)):=by rw[show(j2 k - 1)=eZ (k - 1)by exact Ah h];exact b_ e
}
section
variable{X:Cx}{σ:dt}{H:Hp}{elt fa c:a7}{c!:fU}{own:q_}{ax hJ p1 p2:bi}{y:a6}
def z:={
aAr(i:Y){Po:bD}{f:gV}{t:ne}(ho:lv)(hx:t3)(hw:ju)(hl:ls)(ht:∀(s:aN)(H0:Hp)(C:Z)(cl:bh)(fp:bv)(k:Y)(x:V),p? k x (Te mn AB H c (t x)))(he:∀(s:aN)(H0:Hp)(C:Z)(cl:bh)(fp:bv)(k:Y)(x:V),dE xs k x->t x=a?->Hh):J? tr Uh Ai xf:=by intro H1 s1 Q q;rw[x! H2 s2 hu];(rw[xM aS fk aS]);have dW:∀H3,aj H2 H3->aC bb H3 a xs:=j1 (by rw[xE hu e h]);refine BB #[xs,fk] ug (I? (Dr (xs:=xs) (g:=Cv)) tt te xk rm IG ub (λ k H' _ bx=>bq bx λ s3 _=>dW H' s3) ?_ ?_);(.rw[yF k x e];(refine(eI (hw x) (t x) sT ((ht s H0 C cl fp k x hk).l! db) L3);have jA:jS rm (N7 dp) f=jS rm IG f++KO x [f x] []:=by rw[C9 N8 hk N'];congr 1;show jS rm [x] f=_;rw[N!];split<;>rfl);cases et:t x with|a?=>rw[Ju (f x) (re fp k x hk et).l! s5];((.rw[Dj];have h1:=JT t N7 k;rw[Fx]at h1;rw[BL (show _<=bL by exact azY h1) hl]);.exact f? hb (by rw[aV (c7 hb hD)];exact xo yh));.rw[aX,jA,fl et]|false=>refine jU #[zf,?_];rw[p9,jA,kO (by rw[et];simp),Ag]);.rw[I_]
aF1(i j:Y){z:a6}{pz:bi}{c?:eE}{N:lb}{P:bD}{Po:bD}{f:gV}{t:ne}(hc:cX)(hN:e7)(ok:iQ)(ho:lv)(hx:t3)(hw:ju)(hl:ls)(ht:∀(s:aN)(H0:Hp)(C:Z)(cl:bh)(fp:bv)(k:Y)(x:V),p? k x (Te mn AB H c (t x)))(he:∀(s:aN)(H0:Hp)(C:Z)(cl:bh)(fp:bv)(k:Y)(x:V),dE xs k x->t x=a?->Hh)(hg:∀(s:aN)(H:Hp)(C:Z)(cl:bh)(fp:bv),mT)(hr:Jf a a tr Uh)(hz:mx j z)(nM:CC)(mo:B9 Hn [c])(hs:mN):jp CX Hn [c]:=JP l8 Lt (aAr i ho hx hw hl ht he H1 s1 KZ j5 v hv (by(rw[eq nt au a aU ha aU]);exact xC jf hr a ha))
}
section z
section
variable{X:Cx}{σ:dt}{H:Hp}{o d:a7}{ax p kp:bi}{Po:bD}
def z:={
ajK{dd m:a4}(hc:cX)(hm:Es)(ho:fj)(hd:ef d dd)(hx:B4)(h0:ns=[]->m=dd)(h1:Rk k k k)(hg:CO)(hv:Cl)(bw:mK)(he:gf nE [o] (v! o::nE []))(Bh:nI [o])(b9:PH all)(M9:PF)(Nr:PP a6):ef (.lV (e4 "max" p) [o] [Hz dL d kp] ax) m:=fi (aCh hc hm aI aI hg hv bw he Bh b9 M9 Nr) n? pY hd.later (by(rw[eq JD au l a9 h2 a9]);exact(jg l ns ab h2 (λ e=>Q6 (h0 e)) (λ _ k hk hm=>Q6 (h1 k hk hm))))
}
section z
section _M
namespace _P
open lW pd l0 _L _M
def z:={
fsB.1(N P:dk)(sc:fU):b!:=bG (sc.kind=wM/\sc.isCoroutine=false/\sc.isGenerator=false/\N.Nodup/\N.take P.length=P/\(∀x∈P,Sy .local\/Sy gJ)/\∀y∈sc.names,y.2≠fh)
aH{N P:dk}{sc:fU}(h:bH (fsB N P sc)):aD N P sc:=by obtain⟨a,b,c,d,e,f,g⟩:=GD h;exact #[a,b,c,d,e,f,g]
anQ:a5 ["number","bit"] ["number","bit"] acE:=O
aju:ln X_:=O
YA:oy ["numbers","number"] Dy:=O
auw:uf aaR:=O
aDQ:uf Z5:=O
aAd:uf abD:=O
aBH:uf ZI:=O
aJ7:uf RH:=O
aCA:uf acY:=O
Be:a5 ["scalar","offset","trailing","leading","vowel"] ["scalar"] Qp:=O
Vj:oy ["numbers","records","at","kind"] Fy:=O
P_:oy ["numbers","records","at","record","behind","kind"] Hq:=O
aa2:oy ["numbers","records","at","record","key_end","behind","key","kind"] Ib:=O
FI:a5 ["records","record"] ["records"] xB:=O
Uk:a5 ["self","rows","records"] ["self","rows"] zC:=O
OK:a5 ["self","part","kind"] ["self","part","kind"] adS:=O
wy:O_ ["self","kind","scalar","ranges","low","high","middle"] WM:=O
af0:a5 ["self","bit","scalar"] ["self","bit","scalar"] UB:=O
yW:JZ ["self","row","classes","place","scalar"] n8:=O
aw6:P! Tg:=O
akX:P! XO:=O
asJ:a5 ["self","kind","key"] ["self","kind","key"] RN:=O
ayd:Jr aeD:=O
C5:HW ["self","scalar","row","turn","step"] W':=O
aEY:Jr Xe:=O
acO:JZ ["self","row","stepped","scalar","step"] TQ:=O
LY:JZ ["self","row","scalar"] FF:=O
Cn:HW ["self","scalar","row","steps"] Ym:=O
awL:Jr S2:=O
abC:yg ["self","counts","record"] aa8:=O
alG:Cf Qh:=O
ZR:PX WU:=O
Nb:PX U6:=O
ayo:Dt ZP:=O
afc:a5 ["marks","text","mark"] ["marks","text"] Ha:=O
Xy:R1 ["marks","begin","at"] acQ:=O
Sb:R1 ["marks","begin","must","place"] E8:=O
aLP:a5 ["self","kind","begin","end"] ["self","kind","begin","end"] Vn:=O
aDw:a5 [] [] QT:=O
agh:a5 ["book","kind","scalar"] ["book","kind","scalar"] aa1:=O
UJ:a5 ["book","text","kinds","begin","end","kind","scalar","is_mark","unit","general"] ["book","text","kinds","begin","end"] aas:=O
XW:a5 ["kinds","begin","end"] ["kinds","begin"] Qs:=O
Si:Rg ["book","ways","text","kinds","units","begin","end","scalar"] Hg:=O
aqk:Cg acJ:=O
aaQ:a5 ["book","text","units","first","last","cost"] ["book","text","units","first","last"] Vv:=O
ad2:Qn ["book","text","units","first","behind","least","lasts","begin","last","cost","whole"] V2:=O
Vh:Qn ["book","text","units","first","behind","lasts","cuts","begin"] T1:=O
Zu:a5 ["book","text","units","cuts","first","behind","unit"] ["book","text","units"] Yy:=O
aqt:Dt SR:=O
aqT:Dt ZS:=O
aH3:Dt SU:=O
anr:Cg abY:=O
Vy:Cg RV:=O
VQ:a5 ["self","units","place","is_cut","no_space"] ["self","units","place","is_cut"] aaE:=O
anE:a5 ["holds"] ["holds"] QW:=O
akM:ev Zb:=O
auh:ev aci:=O
aIv:ev VD:=O
aG6:ev aaH:=O
aoJ:ev VR:=O
ax8:ev Wo:=O
aDC:ev aaC:=O
aFn:ev Uq:=O
ad0:nK ["at","begins"] RG:=O
adg:nK ["at","ends"] WK:=O
azJ:ev aef:=O
aoB:ev X6:=O
an5:ev TB:=O
aCw:ev Tv:=O
apd:ev aa4:=O
aFx:ev U3:=O
M6:nK ["at","is_hyphen","begins"] Rx:=O
RT:nK ["at","is_hyphen"] So:=O
aih:ev WC:=O
N4:Rt Uc:=O
aaq:Cg adC:=O
aJx:ev abL:=O
FL:nK ["at","x","y","digits_open"] U9:=O
aF2:a5 ["x","y"] ["x","y"] TU:=O
O5:Rt aei:=O
asw:ev ZT:=O
agE:a5 ["unit"] ["unit"] aaJ:=O
aIf:ev Zl:=O
aj7:ev Vm:=O
aqU:ev V5:=O
acM:OO ["units","place","back"] UR:=O
ako:ev Wj:=O
ajZ:ev abb:=O
Uu:nK ["at","rule","said"] Yv:=O
W_:Rg ["book","ways","text","units","cuts","marks","place","scalar"] Ff:=O
aow:Cf Yk:=O
ama:Cf T9:=O
auG:Cf acC:=O
ae8:a5 ["self","book","text","scalar"] ["self","book","text"] qR:=O
aDd:a5 ["a","b"] ["a","b"] WW:=O
C0:Ij ["signs","begin","place","linked","back"] UP:=O
K0:PV VW:=O
LU:PV YZ:=O
M7:Ij ["signs","begin","place","a","b"] Xc:=O
ab6:a5 ["signs","begin","end","ends","place"] ["signs","begin","end"] D0:=O
QZ:O' ["book","ways","scalar","width"] ae6:=O
Xz:a5 ["self","book","ways","text","scalar"] ["self","book","ways","text"] wg:=O
Sj:a5 ["sheet","begin","end","column","cluster","number"] ["sheet","begin","end","column"] YD:=O
aaX:Rc ["sheet","begin","end","column","at","border"] ZC:=O
X2:Rc ["sheet","begin","end"] aaM:=O
UC:a5 ["sheet","columns","begin","places","fits","place"] ["sheet","columns","begin","places"] Gk:=O
R6:a5 ["sheet","columns","splits","begin","chances","end","borders"] ["sheet","columns","splits","begin","chances"] Y2:=O
U':a5 ["sheet","columns","splits","marks","lines","begin","end"] ["sheet","columns","splits","marks"] Xw:=O
AF:HH ["book","scalar","steps","step"] Vs:=O
Gy:hY ["book","record","behind","scalar"] L5:=O
N_:xH Kp:=O
aiz:ll T_:=O
NF:xH JO:=O
avo:ll Rr:=O
ayL:ll aff:=O
afG:ll Xt:=O
Nc:hY ["book","record","scalar","row"] Zx:=O
Mf:Ja aa3:=O
apn:ll abl:=O
aog:a5 ["book","kind","record"] ["book","kind","record"] Sq:=O
ajP:ll U4:=O
O8:hY ["book","record","scalar","bracket"] Uy:=O
aap:xH Ul:=O
G5:hY ["book","record","nought","digit"] M_:=O
aJk:a5 ["book"] ["book"] Zt:=O
aFs:ll ac5:=O
IZ:hY ["book","record","script"] J5:=O
Nk:Ja aeg:=O
aJ8:a5 [] [] Ht:=O
KH:a5 ["record","scalar"] ["record"] FJ:=O
acF:Qg acv:=O
Xf:xH T7:=O
aJm:a5 ["book","scalar","first"] ["book","scalar","first"] ab2:=O
aKe:RJ Wf:=O
JQ:a5 ["book","first","second","cluster","wanted"] ["book","first","second"] Q1:=O
Z8:hY ["book","record","row"] YK:=O
azN:ln aaf:=O
axf:ln P6:=O
aqC:ln UM:=O
atc:ln abj:=O
ajx:ln YT:=O
ayY:ln adK:=O
FK:hY ["book","record","row","place","number"] acW:=O
EH:hY ["book","record","key","scalar"] PM:=O
axX:ll Tj:=O
aHy:ll YE:=O
S7:Qg Tu:=O
aIs:ll YR:=O
aec:HH ["book","scalar","folded","parts","part"] RO:=O
ab5:Ja aee:=O
Iv:hY ["book","record","wanted","scalar"] IP:=O
O7:xH PB:=O
ai0:a5 [] [] FR:=O
ZG:a5 ["book","rule","part","kind","holds","record"] ["book"] afd:=O
U_:a5 ["sheet","columns","begin","end","is_last","lack"] ["sheet","columns","begin","end","is_last"] Qk:=O
aJt:RJ abS:=O
Sw:a5 ["sheet","columns","places","must","least","ends","at","begin","end","badness"] ["sheet","columns","places"] WG:=O
WB:a5 ["sheet","columns","marks","lines","begin","places","ends"] ["sheet","columns","marks"] Z7:=O
agQ:a5 ["last","first"] ["last","first"] ac6:=O
ab8:Im ["numbers","at","kind","first","last","follows","value"] ae5:=O
adh:oy ["numbers","at","rule"] acS:=O
WA:oy ["numbers","place"] Zy:=O
aID:a5 ["kind","row"] ["kind","row"] acT:=O
Yj:Q! ["numbers","at","before","kind","scalar","follows","many","row"] aeF:=O
aHO:QE Vc:=O
ajB:QE W1:=O
acH:a5 ["numbers","at","kind","many"] ["numbers","at","kind"] UW:=O
XG:Q! ["numbers","at","before","kind","length","key","follows"] aaL:=O
UN:Im ["numbers","at","key_end"] WR:=O
abe:a5 ["numbers","record_rule","record_end","before","at","record","rule"] ["numbers","record_rule","record_end"] UA:=O
aMh:ln Wt:=O
aFy:ln Ql:=O
ZD:a5 ["name","letter"] ["name"] F8:=O
ain:a5 ["name","number","names"] ["name","number","names"] ab1:=O
aca:oy ["numbers","names","at","name"] adO:=O
agy:a5 ["kind","value"] ["kind","value"] W6:=O
acs:oy ["numbers","walked","at"] P5:=O
Ve:a5 ["rows","broken"] ["rows"] aai:=O
aFf:ln V1:=O
aqx:a5 ["self","number"] ["self","number"] abm:=O
au4:a5 ["w","text"] ["w","text"] Zd:=O
abE:a5 ["w","columns","text","marks","refused"] ["w","columns","text","marks"] Zq:=O
aBK:yg ["self"] aaN:=O
adA:a5 ["self","rows","broken","book","row"] ["self","rows"] MJ:=O
amt:OU ["self","w","text"] Zf:=O
acN:Jb RB:=O
XB:Jb Ro:=O
U2:PZ QQ:=O
UG:PZ US:=O
aeN:Jb W4:=O
awj:a5 ["self","numbers"] ["self","numbers"] Td:=O
awI:yg ["self"] adQ:=O
adk:yg ["self","number"] ZO:=O
YB:yg ["self","many","row"] Rb:=O
Ru:Q? ["desk","call","reader","w","text"] Vk:=O
Vd:Q? ["desk","call","reader","w","columns","text","marks"] afm:=O
Wu:a5 ["desk","reader","call","row"] ["desk","reader"] Oc:=O
T6:a5 ["calls","desk","reader","told","answer"] ["calls"] Ov:=O
}
section _P
namespace _P
open lW pd l0 _L _M
variable{P:ci}{w:ck}{K:b4}{mg:g7}{ca:d0}{c:Cs}
variable{l:c_}{C z dx:Z}{α β:Type}{H':Hp}{g:LT}{R:α->ed β}{m:cP β}{xs:bQ}{u:V}{ns:dk}
def z:={
iP.1(n:a4)(b:a4):b!:=bG (Tz (n/2^b.toNat) 1=1)
RI.2(g:a4->V):RP:=RQ (λ n:a4=>[da n]) oN mt n v (v=g n)
ml(A:bB):jK "has_bit" (RQ ig (a4×a4) [da a.1,e5 d2] (λ a _=>0<=d2) lm (iP a.1 d2)):=c6 A.aoR anQ ee b2 f8 λ a f aK A' br s H0 H E hr hp=>oO (dY (aY tf (iu F0 bA el hp) ai) ai)
zi.1(n:a4):b!:=bG (0<=n)&&bG (n<=1114111)&&!(bG (55296<=n)&&bG (n<=57343))
ua(A:bB):m4 (jK "is_scalar") RI zi:=iO A.aGQ aju λ a f aK A' br s H0 H E hr hp=>oO (cn u7 d7 ai A.g.azF eF (bZ (iT u7 d7 er A.g.Z6 A.g.Q5)))
Fl.1(n:a4):b!:=bG (4352<=n)&&bG (n<=4370)
Gw.1(n:a4):b!:=bG (4449<=n)&&bG (n<=4469)
DX.1(n:a4):b!:=bG (4519<n)&&bG (n<=4546)
sD.1(n:a4):b!:=bG (44032<=n)&&bG (n<=55203)
VO(A:bB):m4 (jK "is_leading") RI Fl:=iO A.aLj auw λ a f aK A' br s H0 H E hr hp=>oO u7 d7 er A.g.acy A.g.aLz
XQ(A:bB):m4 (jK "is_vowel") RI Gw:=iO A.apO aDQ λ a f aK A' br s H0 H E hr hp=>oO u7 d7 er A.g.adb A.g.ax3
ZU(A:bB):m4 (jK "is_trailing") RI DX:=iO A.amb aAd λ a f aK A' br s H0 H E hr hp=>oO u7 cK er A.g.VU A.g.alY
HK(A:bB):m4 (jK "is_syllable") RI sD:=iO A.afs aBH λ a f aK A' br s H0 H E hr hp=>oO u7 d7 er A.g.N5 A.g.aIM
NQ.1(n:a4):b!:=sD n&&bG (Ew=0)
afR(A:bB):m4 (lu "is_lv_syllable") RI NQ:=iO A.apS aJ7 λ a f aK A' br s H0 H E hr hp=>oO (cn lc HK a eF (bZ (dY (iu xt (aY cV bA (ag A.g.N5)) (ag A.g.Pt) fe) ai)))
lG.1(n:a4):b!:=Fl n||(Gw n||(DX n||sD n))
xJ(A:bB):m4 (lu "is_hangul") RI lG:=iO A.aKd aCA λ a f aK A' br s H0 H E hr hp=>oO (fP lc VO a eF (fP lc XQ a eF (fP lc ZU a eF (bZ lc HK a))))
gs{S:α->ed β}(h:∀x y,R x y->S x y){l:kJ}(p:kD R l m):kD S l m:=_L.Paired.Ga p h
pj{l:kJ}{i:Y}{y:β}(h:kD R l m)(e:dE m i y):∃x,dE l i x/\R x y:=by induction h generalizing i with|b?=>simp at e|bn r t ih=>cases i with|zero=>cases e;exact za r|succ i=>refine ah (ih (i:=i) (by simpa using e)) au x h1 h2;exact bm x iy h1 h2
iX{l:kJ}(h:kD R l m):vW=m.length:=NC h
cT.1(H:Hp)(v:V)(l:c_):Prop:=pZ dQ a dM nb
mG.1(H:Hp)(v:V)(x:T0):Prop:=pZ dQ a dM [vN x.1,vN x.2.first,vN x.2.last,vN x.2.i3]
jt.1(H:Hp)(v:V)(x:LF):Prop:=DF y dQ a dM [vN x.1,vN x.2.scalar,y] (cT H y x.2.to)
lq.1(H:Hp)(v:V)(x:Y×GE):Prop:=∃a y z,gp v/\dQ a dM [vN x.1,y,z]/\cT H y x.2.key/\cT H z x.2.to
eC.1(R:Hp->V->ed α)(H:Hp)(v:V)(l:kJ):Prop:=DF xs dQ a lst xs kD (R H) xs l
Up.1(R:Hp->V->ed α):Prop:=∀H H' v x,aj H H'->R H v x->R H' v x
gN:Up cT:=qO H bx xG bx e sU a t?
lY:Up mG:=qO H cw xG cw e sU a t?
jW:Up jt:=qO H dA (aO dA λ a y e h t=>(aE a y e t? (jB gN s t)))
mX:Up lq:=qO H eG (gQ eG λ a y z e h t u=>(b8 a y z e t? (jB gN s t) (jB gN s u)))
gn{R:Hp->V->ed α}(h:Up R):Up (eC R):=qO H kz (aO kz λ a xs e h1 p=>(aE a xs e L2 (gs (λ _ _=>ld h _ s) p)))
}
structure bR where
 ps:i_ Y sf
 ms:i_ Y nv
 ss:i_ Y GE
 ns:cP Mt.Bytes
def z:={
bR.book.1(d:bR):An:=#[D! Mt.PROPS sg,D! Ob d.ms,D! Mt.SEQS d.ss,d.ns]
qU.1:dk:=["records","value","has_flag","in_order","row","has_row","number_of","canonical_step","taken_apart","k_step","stepped_by_k","has_k_step","find_by_k","by_k","composing_counts"]
}
structure jj(C:Z)(H:Hp)(b:Z)(d:bR):Prop where
 dh:wk _B.di
 ex:∃dx fs pa p0 p1 p2,H b=ad mq/\jy ("parts":a6) bC pa/\(∀m∈qU,uy)/\dQ pa lst [p0,p1,p2]/\eC (eC mG) H p0 (_B.eJ 14 sg)/\eC (eC jt) H p1 (_B.eJ 15 d.ms)/\eC (eC lq) H p2 (_B.eJ 3 d.ss)
def z:={
jj.later{H:Hp}{b:Z}{d:bR}(h:jj C H b d)(s:lO):jj C H' b d:=by refine xW h.ex λ dx fs pa p0 p1 p2 h1 h2 h3 h4 h5 h6 h7=>?_;exact #[h.dh,dx,fs,pa,p0,p1,p2,L2,h2,h3,bE s h4,LR lY _ h5,LR jW _ h6,LR mX _ h7]
R7(d:bR){k:Y}(h:k<14):mP=_B.pick k sg:=_B.jq sg (show k<Mt.PROPS from h)
aKF.2(C:Z):RP:=RQ ig (vh×Y×a4) [j7,Bl,e5 cd] jm (jj C H a.1.1 md/\dR<14) mt a v (v=vN (Od Ay md dR cd))
Zj(z:a4):zi z=a?↔0<=z/\js Oe:=by rw[_B.p_];unfold zi;simp only[jX,jZ,WX,WY,Ao];exact ahM
Cd(A:bB):wp 2 hV "value" (aKF hV):=w7 A.bj.ahR wy λ a e H hr hp U hU=>by rw[JY d k z,qB];(rw[b5 (xW vX λ dx fs pa p0 p1 p2 hb qD hm wK aS _ _=>D8 aS aU rA) aU]);(rw[b5 (vV (pj u_ EE sg) λ vk k9 ak rs a9 pF sY=>?_) a9]);(have bF:rs.length=cW mP:=by rw[iX sY,R7 d hk,_B.DB]);(have dq:∀(i:Y)(q:sf),mP[i]?=ad q->∃r a',dE rs i bC a'/\dQ a' dM [vN r,vN q.first,vN GF,vN q.value]:=λ i q hq=>by rw[R7 d hk,<-_B.mR,rU]at hq;cases e:(_B.cU k sg)[i]? with|a3=>rw[ii e hq hq]|dL y=>rw[ii e hq hq];obtain⟨v,h1,a',rfl,h2⟩:=pj sY e;exact(cD _ a' h1 h2));have yq:fg (aC K H1 ak rs):=s_ s1 (l? gq pF);rw[jb];generalize hn:cW mP=n at bF;rw[dP (bz 3 Ap (v:=cv ak)) (cN (cN (cQ bA dw Bj fs A.bj.wW qD) er A.g.Xq dw g0 (l? gq wK)) el HG rA b_ k9),<-bz 4 Ap ai ?_,dP (bz 5 Ap (v:=e5 n)) (dj vY g8 B2 KN ak rs (yq H1 s1)),dP (mw mt m a2 (∃(lo hi:Y)(mv:oP),a2=[rh,na k,ad da z,ad bC ak,na lo,na hi,mv]/\m=hi - lo/\lo<=hi/\hi<=n/\QS q (i<lo) (D3<z)/\QS q (hi<=i) (z<=D3)) (λ _ _ _ _ _ h=>h) n GG) #[0,n,a3,rfl,by exact apu,Lm,iK,λ i q h=>by exact w9 (nD h),λ i q h e=>by rw[Rf le_of_eq_of_le hn h]at e;cases e]];rintro m a2 H1 s1⟨lo,hi,mv,rfl,rfl,h1,h2,h3,h4⟩;refine(aZ _ (bP cK kN (aa 5)) dl dl);(. ((have a8:lo<hi:=by rw[uT]);have em:((j2 lo+cG hi)/2)=eZ nf:=by exact aFM);rw[dP fF (bz 6 Ap) nf ((iu tU zq kN (aa 5) ai Li).imp d8 (by rw[e,em]))];obtain⟨q,hq⟩:∃q,mP[nf]?=ad q:=#[_,As (by exact aAj a8 h2 hn)];refine df (dq _ q hq) λ r a' mh nR=>?_;have hF:=List.pairwise_iff_getElem.mp (hR.dh.N9 k hk);(have hle:∀(i j:Y)(p q:sf),i<=j->mP[i]?=ad p->mP[j]?=ad q->p.last<=GF:=λ i j p q tI hp hq=>by rw[Qq li hp,Qq lj hq];by_cases e:i=j;(.subst e;exact kP _);.have h5:=hF i j li lj (by exact Nat.lt_of_le_of_ne tI e);have h6:=(hR.dh.hZ k _ hk (List.getElem_mem lj)).le;dsimp only at h6;exact aLg h5 h6);refine qJ (bP cK JL nT GF Mr nR cO) Uf (bz 4) zq Mr ai H2 Uf (bz 5) Mr H2 (λ d1 H2 s2 h=>c5 h);(.rw[jG d_ (D3<z) hx,<-#[hi - (nf+1),nW awW a8,He/2+1,hi,na nf,rfl,rfl,nW aoG a8,h2,λ i p ft hp=>?_,h4]];have:=hle i nf p q gG Nat.le_of_lt_succ ft hp hq;exact azq d_ cs);.rw[jG d_ (z<=D3) hx,<-#[nf - lo,nW aBY a8,lo,He/2,na nf,rfl,rfl,nW agZ a8,by exact aKT a8 h2,h3,λ i p ft hp=>?_]];have:=hle nf i q p ft hq hp;exact av7 d_ cs);. (have heq:lo=hi:=by(have:¬(cG lo)<hi:=by rw[uT]);exact K8 h1 cs);subst heq;have bJ:=Zj z;by_cases pf:lo<n;(.obtain⟨q,hq⟩:∃q,mP[lo]?=ad q:=#[_,As (by exact BU pf hn)];refine df (dq _ q hq) λ r a' mh nR=>?_;have hz:=h4 lo q (kP _) hq;refine aW vf (cE (bP cK kN (dj vY g8 kc H2 s2 KN ak rs HZ)) eF (cE (bP d7 JL nT q.first kN nR cO) eF (c4 (bO G3 ua z cO)))) dl dl;(.rw[Jh hx,<-bW hx λ _ hf hs=>?_];obtain⟨hz0,tO⟩:=bJ.mp hs;rw[<-fF aG q.value JL bU kN nR gl ?_,DY];rw[fl #[hz0,tO],_B.atM hR.dh hk (c:=Oe) (λ i p hi hp=>by rw[oF (h3 i p hi hp) Ji]) hq gG anu hz gG aGx hf]);.rw[<-aG ai gl ?_,DY];split;(.rename_i hs;have pJ:=bJ.mpr hs;rw[Ta c low lo (λ i p hi hp=>by rw[oF (h3 i p hi hp) Ji]) EO];(.rfl);.rw[ii hq hp hp];(have Jp:(cG lo)<dy:=by exact Bx pf);rw[z8 Jp,pJ,pB,Bool.and_true,Ao]at hx;omega);.rfl);. (have Jp:¬(cG lo)<dy:=by exact ad3 pf);rw[<-aW vf (LK cE (bP cK kN (dj (m:=n) vY g8 kc H2 s2 KN ak rs HZ)) λ hx=>absurd (GD hx) Jp) (λ hx=>by rw[ii FT hx hx]) zy ?_,<-aG ai gl ?_,DY];split;(.rename_i hs;rw[Ta c low lo (λ i p hi hp=>by rw[oF (h3 i p hi hp) Ji]) EO];(.rfl);.rw[Rf awe hn pf]at hp;cases hp);.rfl
Yc(n:Y):sD n=Ts:=by unfold sD vZ;rw[ye];simp only[jX,jZ];exact ayX
aFW(A:bB):jK "syllable_step" (RQ (λ n:Y=>[vN n]) (λ n _=>vZ n=a?) (λ n v H=>cT H v (WZ n))):=iO A.aol Be λ n f aK A' br s H0 H E hr hp=>by(have hb:44032<=n/\n<44032+11172:=by unfold vZ at hp;simpa using hp);rw[dP fF (bz 1 Be.nd) p! ((aY cV bA (ag A.g.N5)).imp d8 (by rw[e];rw[oB gG ar0 hb])),dP fF (bz 2 Be.nd) Ew ((iu xt el (ag A.g.Pt) fe).imp d8 (by rw[e];rw[oB lQ atL])),<-aW (bP gL cO ai) dl dl];(. (have h0:¬Ex=0:=by(have:(0:a4)<eZ Ew:=by rw[uT]);exact atA cs);rw[QA (fF ae (n - Ex) (e8 (aY cV bA cO) d8 (by rw[e];rw[oB lQ ayT])) (fF ae (4519+Ex) (e8 zq er A.g.VU cO d8 (by rw[e];rw[oB lQ ahU])) ao)) bx bx,lI h0];rfl);. (have h0:Ex=0:=by(have:¬(0:a4)<eZ Ew:=by rw[uT]);exact aJL cs);rw[dP fF (bz 3 Be.nd) (p!/588) ((iu tU el (ag A.g.Wq) Li).imp d8 (by rw[e];rw[oB lQ ah3])),dP fF (bz 4 Be.nd) (p!%588/28) ((iu tU (iu xt el (ag A.g.Wq) fe) (ag A.g.Pt) Li).imp d8 (by rw[e];rw[oB lQ ase])),QA (fF ae (4352+p!/588) (e8 zq er A.g.acy g8 d8 (by rw[e];rw[oB lQ aCq])) (fF ae (4449+p!%588/28) (e8 zq er A.g.adb kN d8 (by rw[e];rw[oB lQ asI])) ao)) cw cw,kC h0];rfl
vo.1(H:Hp)(v:V)(sj:cP nv):Prop:=DF aq yr kD QJ aq sj
keyOf.1(l:c_):io:=sa λ(n:Y)=>yH
u0.1(H:Hp)(v:V)(sj:cP GE):Prop:=DF aq yt kD Pj (io×V) GE (keyOf r.key) aq sj
B6:Up vo:=QV dA dA h
DV:Up u0:=QV eG eG h
tj.1(B:An)(l:c_):Y:=cW ((Mt.canonRows B).GB λ q=>q.to==l&&!v0 B 15 q.scalar)
}
structure bI(C:Z)(H:Hp)(b:Z)(d:bR)(kk:Z):Prop where
 parts:jj C H b d
 ex:∃dx fs mr sr co aq,H b=ad mq/\jy ("map_rows":a6) mr/\jy ("sequence_rows":a6) sr/\Rm a6/\jy ("composing":a6) bC co/\jy ("known_by_k":a6) bC kk/\(∀m∈qU,uy)/\eC vo H mr W0/\eC u0 H sr d.book.seqs/\dQ co dT aq/\(∀l:c_,0<BV tj->b7 aq (keyOf l)=ad (vN BV tj))
def z:={
bI.later{C:Z}{H H':Hp}{b kk:Z}{d:bR}(h:bI C H b d kk)(s:lO):bI C H' b d kk:=by refine wX h.ex λ dx fs mr sr co aq h1 h2 h3 h4 h5 h6 h7 h8 h9 fc eD=>?_;exact #[h.parts.later s,dx,fs,mr,sr,co,aq,L2,h2,h3,h4,h5,h6,h7,gn B6 _ _ _ _ s h8,gn DV _ _ _ _ s h9,bE s fc,eD]
bI.dh{C:Z}{H:Hp}{b kk:Z}{d:bR}(h:bI C H b d kk):wk _B.di:=h.parts.dh
VP(d:bR){k:Y}(h:k<15):dE W0 k Kb:=by(have e:d.book.maps.length=15:=by show cW D! Ob d.ms=15;unfold Mt.byKind;simp[Ob]);rw[VG,As (by exact Wh h e)];rfl
QK{H:Hp}{aq:gS}{sj:cP nv}(h:kD QJ aq sj)(n:Y):match rows.find? λ r=>y3 with|ad r=>∃v,jQ Dq b7 aq/\cT H v r.to|a3=>ji Dq b7 aq:=by induction h with|b?=>rfl|@bn kv r aq sj q t ih=>unfold b7 at ih⊢;by_cases e:eW=n;(. ((have e1:bH (eW==n):=by simpa using e);have e2:decide (k!=yH)=a?:=by rw[q.1,e];simp);rw[RZ (λ(r:nv)=>y3) e1,RZ (λ(kv:IL)=>bG (k!=yH)) e2];exact e9 qu q.2);. ((have e1:¬(bH (eW==n)):=by simpa using e);have e2:¬decide (k!=yH)=a?:=by rw[q.1,jZ];intro h;have:=Sum.inl.inj h;exact aHC cs e);rw[RY (λ(r:nv)=>y3) e1,RY (λ(kv:IL)=>bG (k!=yH)) e2];exact ih
BK.2:=Z×bR×Z
eg.2(C:Z)(a:BK)(H:Hp):Prop:=bI C H a.1 dR cd
EL(A:bB):B! (ym "row") (qj/\dR<15) o2 (cT H v Sf):=w7 A.bj.ayf aw6 λ a e H hr hp U hU=>by rw[BJ d k n,qB];obtain⟨dx,fs,mr,sr,co,aq,hb,L4,_,_,_,_,_,⟨am,xs,rfl,sN,Aq⟩,_⟩:=vX;(rw[b5 (vV (pj Aq (VP d hk)) λ vk k9 ak vF aU pF sY=>?_) aU]);have hl:=QK sY n;rw[jb,<-bg (Tx (jO hr) Px cN L4 sN cO (iI ao) B2 bm ak gc g4 #[vF,.inl gq pF] (λ a' y z H1 s1 e1 e2 e3=>?_))];have vB:=Aj;cases vB;have oE:=e2.now;subst oE;refine tJ Dq b7 vF (dJ.k (k:=At dy) gq pF) ?_;unfold Au;cases hf:(Kb).find? (λ r=>y3)with|dL r=>rw[hf]at hl;refine ah hl au v hv ht;rw[hv];exact jB gN (i5 s2) ht|a3=>rw[hf]at hl;rw[hl];(rw[eq wu e3 au az a9 haz a9]);exact e9 az haz
uG(A:bB):B! (ym "has_row") (qj/\dR<15) o2 (v=.bl (!(Sf==[]))):=w7 A.bj.azC akX λ a e H hr hp U hU=>by rw[BJ d k n,qB];obtain⟨dx,fs,mr,sr,co,aq,hb,L4,_,_,_,_,_,⟨am,xs,rfl,sN,Aq⟩,_⟩:=vX;(rw[b5 (vV (pj Aq (VP d hk)) λ vk k9 ak vF bV pF sY=>?_) bV]);have hl:=QK sY n;rw[jb,<-bg (aeB (jO hr) cO Px cN L4 sN (λ u y H1 s1 e1 e2=>?_))];have vB:=Aj;have oE:=e2.now;subst vB oE;refine(aE ak Dq b7 vF ab (dJ.k (k:=At dy) gq pF) ?_);unfold Au;cases hf:(Kb).find? (λ r=>y3)with|dL r=>(rw[hf]at hl;refine ah hl au v hv ht;rw[hv];have iZ:=(hR.dh.row k r hk (List.mem_of_find?_eq_some hf)).ax;dsimp only at iZ;cases kQ:r.to with|b?=>rw[kQ]at iZ;simp at iZ|bn x l=>simp[kQ])|a3=>rw[hf]at hl;rw[hl];rfl
bI.cp{H:Hp}{b kk:Z}{d:bR}(h:bI C H b d kk){m:a6}(hm:m∈qU):fg (∃dx fs,CV/\uy):=by obtain⟨dx,fs,mr,sr,co,aq,hb,_,_,_,_,_,ku,_⟩:=h.ex;exact s_ s1 (cD dx fs Hu (ku m hm))
jj.cp{H:Hp}{b:Z}{d:bR}(h:jj C H b d){m:a6}(hm:m∈qU):fg (∃dx fs,CV/\uy):=by obtain⟨dx,fs,pa,p0,p1,p2,hb,_,ku,_⟩:=h.ex;exact s_ s1 (cD dx fs Hu (ku m hm))
E'{B:An}{k n:Y}(h:js n):Od B k dy=GL B k n:=by rw[DY];rw[vz,fl #[lQ rY,h]]
jc(n b:Y):iP dy cG b=n.testBit b:=by unfold iP;(have e1:(nc/2^(gC cG b))=eZ (n/2^b):=by rw[vz];norm_cast);(rw[e1];have e2:Tz eZ (n/2^b) 1=eZ (n/2^b%2):=by rw[PyProof.Rows.bitAnd_m1];norm_cast);rw[e2,Nat.testBit_eq_decide_div_mod_eq];congr 1;simp only[eq_iff_iff];exact aw5
z4(A:bB):DC "has_flag" (RQ ig (vh×HS) [j7,Bl,vN cd] jm (x8/\js cd) lm (v0 Ay md dR cd)):=w7 A.bj.aDb af0 λ a e H hr hp U hU=>by rw[JY d k n,qB,jb,<-bg (e8 (aT (ml A) qb ((gz 13 n:a4),oU) (ae (e8 (g6 Cd hr (o5,13,dy) bA fb sk h_ A.g.MP pP cO ab dw #[qn,oh ((13:Y)<14)]) d8 (by rw[e,E' hk])) wO) HE) d8 ?_)];rw[e];exact ma np ir jc
w8(A:bB):Ca (wp 2 hV "canonical_step") BK o2 (cT H v (Av k3 d2)):=iG A.bj.aMd ayd ee b2 f8 λ a e H hr hp U hU=>by rw[Ct b d a,<-aW (bO G3 HK dy el) dl dl];(.rw[Yc]at hx;rw[CD (aT (aFW A) hr n pP el AK hx) AS n Av,kC hx,h]);.rw[Yc]at hx;rw[CD (g6 EL hr (iL,0,n) bA fb sk BM A.g.GH ab dw #[qn,oh (EY<15)]) AS n Av];rw[kO (by rw[hx];simp)];exact h
ba.1(H:Hp)(v:V)(l:c_):Prop:=mE nb
gB:Up ba:=qO H bx xG bx e sU a t?
Xs{i:Y}(h:yZ):g_ xs ad cG i a3=xs.drop i:=by unfold g_;((have e1:gb bL 0 ad cG i=i:=by rw[_H.uS];exact Nat.min_eq_left h);have e2:gb bL bL a3=bL:=by unfold gb;rfl);rw[e1,e2,Vw (by rw[Mv];exact kP _)]
apG{x:V}{r:bQ}:g_ (x::r) (dL 1) a3=r:=Xs (xs:=vw) (i:=1) (by simp)
QR(A:bB):Ca (DC "k_step") BK o2 (cT H v (sm k3 d2)):=iG A.bj.aLq aEY ee b2 f8 λ a e H hr hp U hU=>by rw[Ct b d a,<-aW (bO Pp uG (iL,1,n) ((1:Y)<15)) dl dl];(.rw[jG d_ (¬uO 1 n=[]) hx,CD Pp EL (iL,1,n) ((1:Y)<15) uM sm,lI d_,h]);. (have d_:uO 1 n=[]:=by rw[uT]);rw[CD (g6 w8 hr (iL,n) bA fb sk wO ab dw qn) uM sm,kC d_,h]
Fg{K:b4}{H:Hp}{v:V}(h:cT H v l):xc K v H (!Mm):=by obtain⟨a,rfl,h⟩:=h;refine .inr g4 #[_,ge h,?_];cases l<;>rfl
MY(A:bB):Ca (DC "taken_apart") BK o2 (ba H v (Mt.full k3 d2)):=iG A.bj.aBO C5 ee b2 f8 λ a e H hr hp U hU=>by rw[Ct b d a,<-gI 2 C5.nd (nU wO) λ v H1 s1 hv=>?_,dP (U1 3 (hi:=8) BS (∃v t st,a2=[rh,na n,jR,t,st]/\ba H' v Dl) GG ab C5.nd A.g.gW tu A.g.Nw fe A_ (tQ v a3 a3 ab wu hv)) ?_];(.intro k a2 H2 s2 hk j;(rw[b5 (lE j.now λ v t st aS hl=>?_) aS]);(rw[eq hl au a1 aU oa aU]);(obtain⟨x,r,FX⟩:∃x r,Dl=vw:=by cases h:Dl with|b?=>rw[jk h (_B.Mg k n)]|bn x r=>exact(d3 x r ab));rw[FX]at oa;have bF:=hR.dh.xi k n;rw[jG qT (k<8) hk,<-gI 4 C5.nd P7 x wt fF cN x cO xR wB (l? zp oa) L7 j ab (GM db) λ vs H3 s3 hs=>?_];have ie:=hR.dh.Ls x;refine qJ (N1:=λ d1 H4=>∃v t st,d1=[rh,na n,jR,t,st]/\ba H4 v (Mt.apart nw dp n)) (n_ kN kc H4 s4 (by rw[uw e' e',Fg o7 hs])) dl dl wa d1 H4 (c5 h);(.rw[jG bf (¬q6=[]) hx,<-gI 2 C5.nd (HA (xs:=jS q6 vN) (ys:=r.map vN) (aHM A.g.azg kN kc H4 s4 (by rw[uw e' e'];(rw[eq o7 hs au q a9 hq a9]);exact e9 q jn (ge hq))) (adz cO ai kc H4 s4 (by rw[uw e' e',<-(aE a1 _ ab (l? bE zf oa) (λ p H5 s5=>e9 p xo ?_))];rw[aX,jY,apG])) ?_) λ v5 H5 s5 h5=>c5 λ H6 s6=>(tQ v5 _ _ ab ?_)];(.rw[HX hE];(have:cW Dl=vD+1:=by rw[FX];rfl);have hz:rM=16777216:=rfl;exact atz ie hz qT cs bF);. (rw[eq (h5 H6 s6) au q bu hq bu]);refine e9 q ?_;rw[hq,_B.Oh,FX];show _=ad (HO.lst ((if q6=[]then vw else q6++r).map vN));rw[fO bf,nu]);. (have bf:q6=[]:=by rw[uT]);refine c5 il #[bC a1,_,_,rfl,a1,rfl,?_];rw[bE zf oa,_B.Oh,FX];show _=ad (HO.lst ((if q6=[]then vw else q6++r).map vN));rw[kC bf]);.intro a2 H2 s2 j;(rw[b5 (lE j.now λ v t st bV hl=>?_) bV]);exact aG cO j1 (jB gB s3 hl)
eR.1:V->Y|e5 i=>FD|_=>0
gR(n:Y):L!=n:=vz n
eK{k:Y}{x:V}(h:nb[k]?=ad x):∃n,dE l k n/\x=vN n:=by rw[rU]at h;cases e:l[k]? with|a3=>rw[ii e h h]|dL n=>rw[e]at h;exact e9 n (KK).symm
YI.1:eE->uX|.po _ e _::_=>zt|.Return ad (.lV _ (e::_) _ _) _::_=>zt|_=>a3
mU.1(l:eE):fU:=match YI l with|ad (.Nq _ _ sc _)=>sc|_=>{kind:=wM,c9:=[],isGenerator:=false,isCoroutine:=false}
aFw.1(l:eE):a7:=match YI l with|ad (.Nq e _ _ _)=>e|_=>.N3 eX 0 #[0,0,0,0]
TZ.1(H:Hp)(v:V)(l:c_):Prop:=ba H v l\/cT H v l
aeO(A:bB):DC "in_order" (RQ ig (vh×V×c_) [j7,dR] jm (x8/\TZ H dR cd/\K4 (cd).all/\cW cd<=1000) lm (Oi Ay md cd)):=QC A.bj.aEf yW ee b2 f8 λ a f aK A' br s H0 H E hr hp U hU=>by rw[JY d v l,<-dm hp λ hR hv bJ bF=>?_];dsimp only at hR hv bJ bF;have ava:∀(k n:Y),dE l k n->js n:=λ k n h=>List.all_eq_true.mp bJ n (V? h);((have cr:y? cW nb:=by rw[hE];exact Go bF fe);have ie:jS nb qe Kn=jS BA n H? vN:=by rw[GN,GN];rw[Sr];intro n _;show vN (gz 0 L!)=vN H?;rw[gR];rfl);have eh:dc ["self","row","classes","place","scalar"] (aA n8) _ [("scalar",4)]:=fb (d9 (c!:=LQ));((have main:∀ac H1,hX (sA H1 ac (pQ nb λ x=>Kn)->Bd (qd Jk mg f A' E).jh [rh,jR,ad bC ac,a3,a3] H1 (cu n8).tail uY (λ u _=>u=.bl BV Oi)):=by intro ac H1 s1 jI;rw[ie]at jI;have OX:∀H2,m_ (aC K H2 ac JB):=nL (l? tT jI);rw[dP (MW 3 (lo:=1) (hi:=cG vW) mt k a2 ((∃p q,a2=[rh,jR,ad bC ac,p,q])/\∀(i x y:Y),i<k->dE l i x->l[j6]?=ad y->uz=0\/DT<=uz) GG ab yW.nd A.g.gW (ae ai (ae (dj (m:=vW) vY cO kc H2 s2 (aE ac _ gc g4 wu OX jo)) ao)) gG aGI bF (λ _ _=>#[bE d3 ab,λ i x y h=>by exact w9 (nD h)])) ?_];(.intro k a2 H2 s2 hk j;(rw[b5 (bq j.now λ aS hj=>gM aS au p q aU) aU]);(have cj:k+1<vW:=by exact OH hk);obtain⟨x,hx⟩:∃x,dE l k x:=#[_,As (by exact Nat.lt_of_succ_lt cj)];obtain⟨y,hy⟩:∃y,l[dp]?=ad y:=#[_,As cj];((have gx:JB[k]?=ad (vN DT):=by rw[rU,rU,hx];rfl);have gy:JB[dp]?=ad (vN uz):=by rw[rU,rU,hy];rfl);(have e1:(1+oU)=eZ dp:=by exact ZZ);refine aW (sh cK cK ai (fF cN uz cO g8 xR gk Hx OX H3 (by rw[e1];exact b_ gy)) (fF cN DT cO (aY cV g8 ai) xR gk Hx OX H3 (by rw[show(1+oU - 1)=oU by exact azQ];exact b_ gx))) mi d_ mi d_;(.rw[qk,Jh d_];rw[Oj,W2];intro hs;have:=(TJ).mp hs k x y hx hy;exact ag7 d_ cs);.refine c5 j1 #[bE d3 ab,λ i x' y' hi cg yo=>?_];by_cases e:i=k;(.subst e;rw[hx]at cg;rw[ii hy yo cg];cases yo;(have:¬((0:a4)<(uz:Y)/\(eZ uz)<(DT:Y)):=by simpa[WY]using d_);exact aFt cs);.exact hj i x' y' (by exact o_ hi e) cg yo);.intro a2 H2 s2 j;(rw[b5 (bq j.now λ a9 hj=>gM a9 au p q bu) bu]);rw[qk];rw[Oj];rw[<-(TJ).mpr λ i x y hx hy=>hj i x y ?_ hx hy,oF (ML hy).1 ab4]);have Sn:∀(s':aN)(dH:Hp)(C:Z)(cl:bh)(fp:bv)(k:Y)(x:V),nb[k]?=ad x->aB ((qd Jk mg f A' E).jh.cC s' dH LQ (compEnvC LQ cl C (qd Jk mg f A' E).jh.env) fp) [rh,jR,a3,a3,xp] H (aFw (cu n8)) Kn:=by intro s' dH C cl fp k x hk;(rw[b5 (ah (eK hk) au n hn bV) bV]);exact(g6 Cd qb (o5,0,dy) bA fb sk h_ A.g.v7 pP kN ab dw #[qn,oh (EY<14)]).imp d8 (by rw[e,E' (ava k n hn),gR]));rw[jb];rcases hv with⟨av,rfl,gi⟩|⟨av,rfl,gi⟩;(.exact QM (abN 4 2) l? Sn QD main);.exact QM (aqH 4 2) ge Sn QD main
FO{X:Cx}{H:Hp}(h:cT H u l):∃q xs,nP u/\(aC bb H q xs\/aJ bb H q xs)/\LI vW:=by obtain⟨a,rfl,h⟩:=h;exact #[a,_,rfl,.inr (ge h),by rw[Dj]]
Pd(l:c_):bG (j2 vW>0)=!Mm:=by cases l with|b?=>rfl|bn x l=>(have:pO (x::l).length>0:=by rw[ez l5 aJG]);rw[z8 cs];rfl
aqQ(A:bB):wP (wp 4) "has_k_step" (RQ ig (BK×V×c_) [j7,dR] jm (qj/\ba H dR cd/\cW cd<=1000) lm (!_B.gu k3 cd)):=QC A.bj.aIw LY ee b2 f8 λ a f aK A' br s H0 H E hr hp U hU=>by rw[BJ d v l,<-bW hp λ hR aS bF=>ah aS au av hv gi];dsimp only at hR hv gi bF;subst hv;rw[lf];have eh:dc ["self","row","scalar"] (aA FF) _ [("scalar",2)]:=fb (d9 (c!:=mU (cu FF)));((have cr:y? cW nb:=by rw[hE];exact Go bF fe);have rf:jS nb qe ER (sm nw (eR x))=jS BA n (!(uM==[])) np:=by rw[GN,GN];rw[Sr];intro n _;show ER pI sm L!=ER uM;rw[gR]);rw[jb,<-bg (e8 (zd (bs:=BA n (!(uM==[]))) ab A.g.zx (e8 (pR 2 (f:=λ x=>ER (sm nw (eR x))) ab LY.nd eh el B2 (af av e (l? gq gi)) f8 cr (λ s' dH C cl fp k x hk=>?_) (λ _ _ _ _ _=>cy LY.nd ab jH t!)) wQ u bx xG bx e (af a e (l? E_ h rf)))) wQ u e ?_)];(. (rw[b5 (ah (eK hk) au n hn aU) aU]);refine(gO gL (dj (m:=cW uM) vY O4 QR (iL,n) pP cO (λ u H1 s1 h=>FO vU)) ai).imp λ u _ _ e=>?_;rw[e,gR];exact ma np (Pd _));.rw[e];rw[dP ma np];unfold _B.gu;rw[VJ,List.not_all_eq_any_not];rfl
amL(A:bB):ym "records" (RQ ig (vh×Y) [j7,iV 0,vN d2] jm (x8/\d2<14) o2 (eC mG H v (_B.cU d2 (md).ps))):=Jz OK λ a e H hr hp U hU=>by obtain⟨⟨b,d⟩,k⟩:=a;rw[qB];(rw[b5 (xW vX λ dx fs pa p0 p1 p2 hb qD hm wK a9 _ _=>D8 a9 bu rA) bu]);rw[<-ah (pj u_ EE sg) au vk k9 hL,IH v qD lY]
Xj(A:bB):ym "records" (RQ ig (vh×Y) [j7,iV 1,vN d2] jm (x8/\d2<15) o2 (eC jt H v (_B.cU d2 (md).ms))):=Jz OK λ a e H hr hp U hU=>by obtain⟨⟨b,d⟩,k⟩:=a;rw[qB];(rw[b5 (xW vX λ dx fs pa p0 p1 p2 hb qD hm wK _ bV _=>D8 bV cI rA) cI]);rw[<-ah (pj u_ EE d.ms) au vk k9 hL,IH v qD jW]
azm(A:bB):ym "records" (RQ ig (vh×Y) [j7,iV 2,vN d2] jm (x8/\d2<3) o2 (eC lq H v (_B.cU d2 (md).ss))):=Jz OK λ a e H hr hp U hU=>by obtain⟨⟨b,d⟩,k⟩:=a;rw[qB];(rw[b5 (xW vX λ dx fs pa p0 p1 p2 hb qD hm wK _ _ dB=>D8 dB d6 rA) d6]);rw[<-ah (pj u_ EE d.ss) au vk k9 hL,IH v qD mX]
M4.1(B:An):Y->c_->b!|0,l=>l==[]|_+1,[]=>a?|n+1,a::_=>M4 B n Eh a
zS(B:An):∀n c,GO B n c=M4 B n Eh c|0,c=>rfl|n+1,c=>by show(match Eh c with|[]=>a?|a::_=>GO B n a)=_;cases h:Eh c with|b?=>rfl|bn a r=>exact zS B n a
aDo(A:bB):Ca (uv "firsts_end") BK lm (GO k3 Mt.STEPS d2):=iM A.aCl AF λ a e H hr hp U hU=>by rw[Ct b d a,<-bz 2 AF.nd ai ?_,<-gI 3 AF.nd (g6 w8 hr (iL,n) bA fb sk wO ab dw qn) λ v H1 s1 hv=>?_,<-mw (λ m a2 H'=>∃(k:Y)(st:V)(l:c_),a2=[rh,na n,na k,ad st]/\cT H' st l/\k<=8/\m=Fn/\M4 nw (8 - k) l=SZ) (λ _ _ _ _ s2 cw=>gF cw λ k st l h1 h2 h3=>(lL k st l h1 (jB gN s2 h2) h3)) 8 GG (oZ 0 v _ ab nt fe ab ((wk zS 8 n).symm)) ?_];rintro m a2 H2 s2⟨k,st,l,rfl,bw,hk,rfl,he⟩;refine(aZ _ vf (cE (n_ g8 kc H3 s3 (by rw[uw e' e',Fg (jB gN s3 bw)])) eF (c4 (bP cK cO (ag A.g.Nw)))) dl dl);(.rw[Jh hx];obtain⟨h1,h2⟩:=hx;(have qT:k<8:=by exact aK3 h2);cases l with|b?=>simp at h1|bn x r=>(rw[eq bw au ast fL vJ fL]);refine gI 3 AF.nd P7 x wt nT x g8 xR wB (ge zp vJ) L7 j ab (GM db) λ v3 H3 s3 KY=>?_;refine lh 2 p5 AF.nd ab ai (c5 il #[8 - dp,nW aiU h2,k+1,v3,_,rfl,o7 KY,nW at8 h2,rfl,?_]);rw[<-he,show Fn=(8 - dp)+1 by exact avt h2];rfl);.refine aG (azS g8 kc H3 s3 (by rw[uw e' e',Fg (jB gN s3 bw)])) gl Hc;rw[Ol];show Mm=SZ;rw[<-he];cases l with|b?=>cases Fn<;>rfl|bn x r=>(have:¬oU<8:=by have h1:bH (!(x::r==[])):=rfl;rw[h1,pB,Ao]at hx;exact hx);rw[show Fn=0 by exact aiY cs];rfl
jM.2(C:Z)(d?:bR->ed nv)(g:bR->nv->b!):RP:=Q3 LF (eg C a.1 H/\jt H dR cd/\cd.2.to≠[]/\d? Ax cd.2) g
CQ(n:Y):lG n=(Ts||Om n):=by unfold lG Fl Gw DX sD vZ Om;rw[ye];simp only[z7,jX,jZ];exact aEk
ak4(A:bB):uv "scalar_is_no_hangul" (wP jM oN rG (!tz vZ&&!tz Om)):=iM A.avk aiz λ a e H hr hp U hU=>by rw[kf v dm λ hR aS _ _=>uR aS y bo];dsimp only at hR hv bo ty;rw[oi,<-bg (e8 (iT (aT (xJ A) qb TK wS G2 _)) d8 ?_)];rw[e,CQ,Bool.not_or]
am4(A:bB):ox (lu "has_no_canonical_row") oN (uO 0 eW==[]):=iM A.anP ayL λ a e H hr hp U hU=>by rw[kf v dm λ hR aU _ _=>uR aU y bo];rw[lf];dsimp only at hv bo ty;rw[oi,<-bg (e8 (iT (g6 uG hr (iL,0,eW) bA fb sn h_ A.g.GH wS ab dw #[tc,oh (EY<15)])) d8 ?_)];rw[e,Ol]
aCd(A:bB):ox (pL 4 "taken_apart_in_order") (λ d r=>K4 (KX).all) pI Oi KX:=iM A.aqI avo λ a e H hr hp U hU=>by rw[kf v dm λ hR a9 _ bJ=>uR a9 y bo];rw[lf];dsimp only at hv bo ty bJ;subst hv;have bF:=tz (aQ.dh.xi 8);rw[jb,<-bg (Mi Of (aeO A) hr bA fb sn (cq Pm MY ao) B1 H1 s1 ?_)];(rw[qE bu hu bu]);exact LL (aZ (o5,u,KX) ab (fG Iw g4 GA bJ Lf bF fe) ab) v h
ayE(A:bB):ox (lu "simply_folded_stays") rG TN (r.to.all λ x=>uO 6 x==[]):=c6 A.aqy apn ee b2 f8 λ a f aK A' br s H0 H E hr hp=>by rw[kf v dm λ hR bV _ h1=>jd bV λ ar y hv bo ay hy cR=>?_];have aQ:bI hV H b d kk:=hR;dsimp only at hv bo hy cR h1⊢;rw[RD x h1];rw[hx]at cR⊢;refine bg (e8 (iT (g6 uG hr (iL,6,x) bA fb sn h_ A.g.Tn wt nT x xj (bU (v:=cv ay)) dw g0 (ge gq cR) ab dw #[tc,oh ((6:Y)<15)])) d8 ?_);rw[e,Ol];simp
dN.1(l:c_):uW:=sa λ(n:Y)=>KB
wJ{K:b4}{H:Hp}:∀l:c_,wR K H (sa vN) rH|[]=>eN|n::l=>vn da dy (wJ l)
K_:∀l:c_,GP (dN l)=0|[]=>Ie GP|n::l=>by have:=K_ l;show GP (KB::rH)=0;simp[GP,Oo,cs]
MA:∀l:c_,bH (GQ (dN l))|[]=>Ie GQ|n::l=>by have:=MA l;show GQ (KB::rH)=a?;simp[GQ,Op,cs]
E4(l:c_):Dv E1 rH:=by unfold M';simp[Op,Oo,K_,MA]
aeI(l:c_):Dv (.list rH):=by unfold M';simp[Op,Oo,K_,MA]
F9:∀l m:c_,GR (dN l) Mq=(l==m)|[],[]=>J4|[],y::m=>J4|x::l,[]=>J4|x::l,y::m=>by have ih:=F9 l m;show GR (On cG x::rH) (On cG y::Mq)=_;rw[GR,ih,M!,List.cons_beq_cons];congr 1;rw[ye];simp only[pk];exact W3
ajI{X:Cx}{σ:dt}{H:Hp}{a b:a7}{ax:bi}{m:c_}(hu:S0)(ha:ux a v (cT H v l))(hb:ux b v (cT H v m))(hm:Cb):dX km Eq [b] (l==m):=fi (tK (OQ hu) aI aI hm) AM r9 u iS Gq λ v H3 s3 hv=>by refine ah (hu H3 s3) au q1 e1 h1;refine ah nt au q2 e2 h2;subst e1 e2;refine(fM E1 rH E1 Mq (.dM (ge h1) (wJ l)) (.dM (ge h2) (wJ m)) (E4 l) (E4 m) pS gl Hc);rw[M!,F9]
De{A:dr}{k:Y}(hr:bX k A):A.units+64<vI:=hr.units
abH(A:bB):lu "goes_both_ways" (RQ ig (BK×Y×V×LF) [j7,Bl,cd.1] jm (qj/\dR<15/\jt H cd.1 cd.2/\cd.2.2.to≠[]) lm (Au k3 dR (a.2.2.2.2.to.headD 0)==[a.2.2.2.2.scalar])):=c6 A.ak3 aog ee b3 f8 λ a f aK A' br s H0 H E hr hp=>by obtain⟨⟨b,d,kk⟩,k,v,num,r⟩:=a;refine dm hp λ hR hk aS bf=>jd aS λ ar y hv bo ay hy cR=>?_;have aQ:wP bI H b d kk:=hR;dsimp only at hv bo hy cR hk bf⊢;subst hv hy;(obtain⟨x,l,hx⟩:∃x l,r.to=x::l:=by cases h:r.to with|b?=>rw[jk h bf]|bn x l=>exact(d3 x l ab));rw[hx]at cR⊢;exact bg (ajI (De hr) (g6 EL hr (iL,k,x) bA fb sn (ae el wt nT x (bU (v:=cv ay) cO ai G1) dw wB (ge gq cR) L7 j ab) ab dw #[tc,hk]) (iI Ox cO))
asR(A:bB):ox (pL 4 "mirror_holds") rG C2 (uO 7 D'==Um&&tz (HI 13)):=iM A.agI ajP λ a e H hr hp U hU=>by rw[kf v dm λ hR fA bf bJ=>?_];rw[lf,<-aO (id fA) λ ar y hv bo ty=>?_];dsimp only at fA hv bo ty bJ bf;rw[oi,bg (cn (aT (abH A) qb (iL,7,cv ar,num,r) (ae bA BM A.g.T5) ST (7:Y) fA bf) eF (bZ Pn (o5,13,eW) A.g.amd bJ))]
aob(A:bB):ox (uv "scalar_has_no_class") rG C2 (AI eW==0):=iM A.ag2 aIs λ a e H hr hp U hU=>by rw[kf v dm λ hR aU bf bJ=>uR aU y bo];rw[lf];dsimp only at hv bo ty bJ bf;rw[oi,mQ (dY (e8 (g6 Cd hr (o5,0,TK) bA fb sn h_ A.g.v7 wS ab dw #[Iw,oh (EY<14)]) d8 (by rw[e,E' bJ])) ai)];rw[GJ];unfold Mt.ccc;simp
JH(A:bB):ox (pL 4 "scalar_is_cased") rG C2 (HI 2 eW):=iM A.ahN aHy λ a e H hr hp U hU=>by rw[kf v dm λ hR a9 bf bJ=>uR a9 y bo];rw[lf];dsimp only at hv bo ty bJ bf;rw[oi,bg Pn (o5,2,eW) A.g.aba bJ]
p7.2(C:Z)(d?:bR->ed sf)(g:bR->sf->b!):RP:=Q3 T0 (eg C a.1 H/\mG H dR cd/\d? Ax cd.2) g
Oq.1(d:bR):Prop:=Tt
abP(A:bB):jK "script_count" (RQ (λ a:BK=>[bC a.1]) jm (eg hV a H/\Oq dR) mt a v (v=vN (max 3 (dR).zW))):=bp A.al6 aJk ee b1 f8 λ a e H hr hp U hU=>by obtain⟨b,d,kk⟩:=a;obtain⟨hR,hn⟩:=hp;have aQ:wP bI H b d kk:=hR;have v_:Tt:=hn;obtain⟨dx,fs,mr,sr,co,aq,hb,_,_,hnc,_⟩:=aQ.ex;have acA:fg (∃C dx fs,CV/\dO K C/\cb K C "name_count"/\Rm a6):=s_ s1 Bj fs A.bj.P2 hnc;rw[dP hU _,<-aW (eT (cQ bA acA) ai) dl dl];(. (have h0:IB:=by rw[oF (GD hx) Ys]);exact aG (ag A.g.af4) gl (ma iY (by dsimp only;exact aF9 h0)));. (have h0:¬IB:=by rw[oF (W5 hx) aww]);exact aG (cQ bA acA) gl (ma iY (by dsimp only;exact arw v_ h0))
alc(A:bB):lu "script_is_named" (p7 hV (λ d _=>Oq d) (λ d r=>bG (v1<max 3 d.book.scripts.length))):=iM A.aCI aFs λ a e H hr hp U hU=>by rw[kf v bW λ hR aS hn=>ah aS au ar hv bo];rw[lf];dsimp only at hv bo hn;rw[oi,mQ (gO cK xj nT v1 (aT (abP A) hr (b,d,kk) pP bA dw #[tc,hn]))];rw[GJ,jZ,jZ];show(ra<eZ Tr)↔v1<Tr;exact Int.ofNat_lt
aHk(A:bB):lu "flags_agree" (p7 hV oN rG ((!yx||yy)&&!S3)):=iM A.asr acF λ a e H hr hp U hU=>by rw[Pu aU aU acF.nd,<-aW vf (cE (bO xX (ra,7) A.g.amD) eF (c4 (dF (bO (aT (ml A) hr (ra,8) (ae cO tu A.g.aLD) HE))))) dl dl];(.rw[y! (oH 7) yx (o! 7),show oH 8=yy from o! 8]at hx;rw[qk];revert hx;cases yx<;>cases yy<;>simp);.rw[y! (oH 7) yx (o! 7),show oH 8=yy from o! 8]at hx;rw[mQ (iT xX (ra,16) A.g.alS)];rw[y! (oH 16) S3 (o! 16)];revert hx;cases yx<;>cases yy<;>simp
aud(A:bB):lu "letter_case_is_cased" (p7 hV oN rG (!(Tf||Th)||Ti)):=iM A.aGd S7 λ a e H hr hp U hU=>by rw[Pu a9 a9 S7.nd,mQ (fP xX (ra,2) A.g.aba eF (bZ (iT (fP xX (ra,0) A.g.aEr eF (bZ xX (ra,1) A.g.ajk)))))];rw[y! (oH 2) Ti (o! 2),show oH 0=Tf from o! 0,show oH 1=Th from o! 1,Bool.or_comm]
aoN(A:bB):ox (uv "weighed_has_no_step") oN (J0==[]):=iM A.aK2 axX λ a e H hr hp U hU=>by rw[kf v dm λ hR bu bf _=>uR bu y bo];rw[lf];dsimp only at hv bo ty bf;rw[oi,mQ (dY (dj (m:=cW J0) vY Pm w8 (λ u H1 s1 h=>FO vU)) ai)];cases J0 with|b?=>rfl|bn x l=>rw[FQ (by rw[ez l5 aeL])];rfl
ahV(A:bB):jK "conjuncts_follow" (RQ ig HS [vN a.1,vN d2] oN lm (if a.1=2\/a.1=3 then d2==3 else if a.1=1 then d2==1||d2==3 else a?)):=iM A.aoK aKe λ a e H hr hp U hU=>by(obtain⟨m,n⟩:=a;have jz:(bH (gP da cG m [.int 2,iV 3]))↔(m=2\/m=3):=by rw[Sd ((bH (EZ==cG m||((3:a4)==cG m||false)))↔_) pk pk,aua]);rw[jb,<-aW (sO bA h_ A.g.Cu tu A.g.DD) dl dl];(.rw[ga (jz.mp hx)];rw[mQ (dY el (ag A.g.DD)),x7,agf]);.rw[lI (λ h=>by rw[jz.mpr h]at hx;cases hx),<-aW (eT bA (ag A.g.Gf)) u9 u9];(.rw[ga (by rw[oF (GD cg) RL])];rw[mQ (Dm el h_ A.g.Gf tu A.g.DD),ye,Sd ((bH (u! dy||(u! dy||false)))↔_) pk pk];simp only[z7,pk,jZ];exact aoA);.rw[kO (by rw[oF (W5 cg) Zr])];exact aG cM v?
}
section
variable{X:Cx}{σ:dt}{H:Hp}{o ek e:a7}{gZ ax:bi}{b kk:Z}{d:bR}
def z:={
fW{pl:EQ}(A:Fs bb g! c)(hr:bX 2 X.A)(k n:Y)(hR:AH)(hk:k<14)(hs:js n)(ho:rb im)(h1:f6 ek (vN k))(h2:f6 e (vN n))(fH:kZ [e] e [])(bw:kZ vr ek [e])(a_:nI [e])(ht:Ci un SS vr (pw [ov] (Gs ov "value" pl)) vr):f6 un SS [ek,e] (vN HN GL):=(Tq Cd (o5,k,dy) hk).imp d8 (by rw[e,E' hs])
Ba{pl:EQ}(A:Fs bb g! c)(hr:bX 3 X.A)(k n:Y)(hR:AH)(hs:js n)(ho:rb im)(h1:f6 ek (vN k))(h2:f6 e (vN n))(fH:kZ [e] e [])(bw:kZ vr ek [e])(a_:nI [e])(ht:Ci un SD vr (pw [ov] (Gs ov "has_flag" pl)) vr):dX un SD [ek,e] HN v0:=Tq z4 (o5,k,n) hs
}
section z
def z:={
yb(a b:Y):(!bG (j2 a=cG b))=!(a==b):=by congr 1;rw[x7,W3]
aot(A:bB):B! (pL 4 "as_the_first") (qj/\js dR/\js cd) lm (uj==wd 2 cd&&(CM==CL&&v0 k3 12 dR==v0 k3 12 cd)):=bp A.aKV aJm ee b3 f8 λ a e H hr hp U hU=>by rw[Qy m hp hn,<-aW (gg (kt (C3 2) m hm bA er GS el) (kt (C3 2) n hn bA er GS cO)) dl dl];(.rw[yb]at hx;rw[Jc hx x9]);.rw[yb]at hx;refine aW (gg (kt (C3 3) m hm bA er A.g.sI el) (kt (C3 3) n hn bA er A.g.sI cO)) u9 u9;(.rw[yb]at cg;rw[qk];revert hx cg;first|(generalize x9=b0;generalize C?=b1;revert b0 b1;decide)|(cases x9<;>cases C?<;>simp));.rw[yb]at cg;rw[mQ (aay TR m hm el TR n hn cO)];revert hx cg;first|(generalize x9=b0;generalize C?=b1;generalize DP m=b2;generalize DP n=b3;revert b0 b1 b2 b3;decide)|(cases x9<;>cases C?<;>cases DP m<;>cases DP n<;>simp)
aEb(A:bB):ox (uv "partner_holds") (λ d r=>C2/\TN/\K4 r.to.all/\x6<=2) (x6 !=0&&(gz 9 D'+x6==3&&(uO 8 D'==Um&&tz (gz 8)==13))):=iM A.ahJ O8 λ a e H hr hp U hU=>by rw[kf v uZ λ hR fA bf bJ h1 mf hle=>?_];rw[lf,<-jd (id fA) λ ar y hv bo ay hy cR=>?_];dsimp only at fA hv bo hy cR bJ h1 mf hle bf;rw[RD x h1];(have yl:js x:=by rw[hx]at mf;simpa using mf);rw[jb,dP fF (bz 2 O8.nd) eW xj bU,<-bz 3 O8.nd (kt (rF 9) eW bJ bA er A.g.Fw cO) ?_,<-aW vf (du (eT g8 ai) eF (eB (gg (kt (rF 9) x yl bA er A.g.Fw (nT x xj (bU (v:=cv ay)) ai dw gk (ge gq cR) (by rw[hx];rfl))) (aY cV ai g8)))) mi hq mi hq];(.rw[qk];rw[Oj,W2,hx];simp only[List.headD_cons,ne_eq,jX,bne_iff_ne,pk];simp only[z7,jZ,WX,Ao]at hq;exact λ z=>asx hq z.1 z.2.1);.simp only[Bool.or_eq_false_iff,Ao,Os,jZ]at hq;rw[mQ (cn (aT (abH A) hr (iL,8,cv ar,num,r) (ae bA BM A.g.OD) ST (8:Y) fA bf) eF (bZ (dY (kt (rF 8) eW bJ bA er A.g.aCz cO) (ag A.g.aAo))))];((have g1:bH (x6 !=0):=by simp;exact aIy hq);have g2:bH (gz 9 D'+x6==3):=by rw[hx];simp;exact aMf hq);rw[g1,g2,pB,pB];congr 1;rw[x7,Yt]
akp(A:bB):B! (uv "second_follows") (qj/\js dR/\js cd) lm ((uj==0||(uj==4||(uj==8||uj==10)))&&(wd 2 cd==(if uj=10 then 10 else 4)&&(if CM=2\/CM=3 then CL==3 else if CM=1 then CL==1||CL==3 else a?))):=bp A.aCv JQ ee b3 f8 λ a e H hr hp U hU=>by rw[Qy m hp hn,<-bz 3 JQ.nd (kt (rF 2) m hm bA er GS el) ?_];generalize En:gz 2 m=p2;(have jz:gP da cG p2 [.int 0,iV 4,iV 8,iV 10]=TL p2 p2 p2:=by rw[ye];show(bH (u! pO _||(u! pO _||(u! pO _||(u! pO _||false)))))↔_;simp;exact aDe);refine aW (aAB g8 h_ A.g.JN h_ A.g.EI h_ A.g.av8 tu A.g.MM) dl dl;(.rw[jz]at hx;rw[Jc hx TL p2 p2 p2]);.rw[jz,Os]at hx;rw[hx,pB];rw[dP fF (bz 4 JQ.nd) (if p2=10 then 10 else 4) ((kG (eT g8 (ag A.g.MM)) zy er A.g.MM zy er A.g.EI).imp d8 ?_)];(.rw[e];by_cases fc:p2=10;(.rw[fl fc,z8 (by exact aK0 fc)];rfl);.rw[fO fc,FQ (by exact UD fc)];rfl);refine aW (gg (kt (rF 2) n hn bA er GS cO) kN) u9 u9;(.rw[yb]at cg;rw[Jc cg (gz 2 n==if p2=10 then 10 else 4)]);.rw[yb,Os]at cg;rw[cg,pB];exact bg (aT (ahV A) qb (gz 3 m,gz 3 n) (ae (kt (rF 3) m hm bA Ux el) (ae (kt (rF 3) n hn bA Ux cO) ao)) G2 _)
yi.2(g:Y->V):RP:=RQ (λ n:Y=>[vN n]) oN mt n v (v=g n)
LB(A:bB):jK "first_weight" (yi λ n=>vN (GT n)):=iO A.ar4 azN λ n f aK A' br s H0 H E hr hp=>by rw[Pq (S? (nc/2^(gC (15:a4))) 16) ((EZ^16 - 1)=65535) GT]
JG(A:bB):jK "second_weight" (yi λ n=>vN (Ot n)):=iO A.aIL axf λ n f aK A' br s H0 H E hr hp=>by rw[Pq (S? (nc/2^(gC (5:a4))) 10) ((EZ^10 - 1)=1023) Ot]
S8(A:bB):jK "third_weight" (yi λ n=>vN (GU n)):=iO A.aFF aqC λ n f aK A' br s H0 H E hr hp=>by refine bg (e8 (aY tf bA ai) d8 ?_);rw[e];rw[dP ma iY];have h:=W8 dy 5;rw[Ia ((EZ^5 - 1)=31)]at h;rw[h];unfold GU;norm_cast
BG(n:Y):bG ((0:a4)<dy)=(n !=0):=by rw[x7,Nat.pos_iff_ne_zero]
B8(n:Y):bG (nc=0)=!(n !=0):=by rw[x7]
IQ.1(n:Y):b!:=GT n !=0&&(!K'&&!(GU n !=0))
azA(A:bB):m4 (lu "is_first_weight_alone") yi IQ:=iO A.aER atc λ n f aK A' br s H0 H E hr hp=>by refine bg (e8 (cn (gO gL lc LB n ai) eF (cn (dY Jl ai) eF (bZ (dY lc S8 n ai)))) d8 ?_);rw[e,BG,B8,B8];rfl
qA.1(n:Y):b!:=!(GT n !=0&&!K')&&(!K'||GU n !=0)
aAE(A:bB):m4 (lu "weights_fit") yi qA:=iO A.aIR ajx λ n f aK A' br s H0 H E hr hp=>by refine aW vf (cE (bP gL lc LB n ai) eF (c4 (eT Jl ai))) dl dl;(.rw[BG,B8]at hx;rw[qk];unfold qA;rw[hx];rfl);.rw[BG,B8]at hx;refine bg (e8 (fP (dY Jl ai) eF (bZ (gO gL lc S8 n ai))) d8 ?_);rw[e,BG,B8];show _=np (qA n);unfold qA;rw[hx];rfl
}
end
mutual section
def z:={
O:=Nat
cr:=Bool
o6:=n.testBit
t2:=base
R:=rfl
cs:=outer
bG:=Int
bH:=true
c!:=some
aF:=none
hA:=Mt.Book
xF:=_B.fZ
I0:=l.take
I1:=List.take_add_one
o8:=Nat.le_trans
fz:=m.length
I2:=List.length_append
mD:=List.length_cons
je:=l.length
dk:=aC.of
jf:=List.length_map
Vk:=Mt.joinsWell
Pz:=Mt.prop
jh:=r.scalar
mE:=c.Book
ji:=Mt.scalar
t3:=r.to.length
eJ:=d.book
jV:=aJ.of
gd:=r.to
CU:=absurd
kA:=cons
I3:=List.all_cons
ed:=Bool.and_eq_true
fH:=aQ.later
jW:=congrArg
bQ:=V.bl
Vl:=List.headD_cons
I4:=A.g.cf
t4:=e.now
I5:=Bool.and_true
eo:=Bool.true_and
PA:=List.drop_zero
CW:=decide
jj:=Bool.false_or
ee:=_L.St
dl:=Expr
cL:=pos
ef:=Pos
mF:=aL.v
q8:=s1.trans
CX:=s2.trans
Vm:=Mt.elementsFine
a3:=hlen
a0:=σ'
kB:=PassesOwn.never
q9:=A.g.gW
PC:=Nat.lt_of_succ_le
CY:=List.getElem?_eq_getElem
o9:=l.map
nQ:=List.getElem?_map
Vn:=Int.zero_add
hE:=false
PD:=eq_comm
az:=this
c0:=σ2
CZ:=Tw.te
gh:=if_pos
PE:=Nat.sub_lt_of_lt
c?:=if_neg
t5:=decide_eq_false
q!:=Bool.eq_iff_iff
PH:=Int.toNat_natCast
q?:=Mt.Range
PJ:=List.range
e8:=V.int
ey:=r.first
C1:=filter
Vo:=List.map_id
PK:=List.filter_map
hG:=List.map_map
mJ:=r.last
nS:=scope
xG:=Nat.lt_of_le_of_lt
Vp:=List.mem_filter.mp
C3:=List.mem_of_getElem?
I6:=A.g.Cu
gk:=beq_iff_eq
t6:=Bool.or_eq_true
dX:=decide_eq_true_eq
rc:=Bool.not_eq_true'
xI:=decide_eq_false_iff_not
xL:=Bool.or_eq_false_iff
rd:=Bool.not_eq_false'
xO:=List.all_eq_true
Vq:=List.getElem_of_mem
C4:=sizeLine
Vr:=List.length_filter_le
t':=Mt.isSyllable
t!:=Mt.isJamo
PN:=r.to.map
C5:=A.g.zx
PP:=Bool.not_or
xQ:=List.any_map
Vs:=List.not_any_eq_all_not
xT:=A.g.xo
Vt:=decide_eq_decide.mpr
C6:=List.all_map
nT:=r.value
a5:=Addr
t?:=Mt.Seq
PQ:=Mt.canon
o!:=r.key
I7:=A.bj.cl
C7:=aQ.cp
I8:=List.length_drop
I9:=List.map_drop
jY:=hu.now
PT:=Bool.not_not
C8:=eO.later
I_:=j'.now
Vv:=List.mem_filter.mpr
PV:=List.mem_map.mpr
ud:=List.mem_map.mp
PW:=Bool.and_eq_false_iff
Vx:=beq_eq_false_iff_ne
Vz:=of_decide_eq_true
VA:=of_decide_eq_false
uh:=keyOf
PY:=Mt.joined
re:=Bool.false_and
C9:=Bool.and_false
C_:=z.toNat
PZ:=d.book.seqs.getD
P0:=List.getD_eq_getElem?_getD
mK:=numOf
C':=Mt.sequence
jZ:=MtLine.Ways
um:=fs.lookup
a4:=Str
C!:=y.how
C?:=y.all
up:=y.words
ut:=y.tab
Da:=y.split
P2:=jP.later
xU:=MtLine.scalarWidth
xV:=MtLine.in_
Db:=A.eU.cl
P3:=A.eU.IX
P4:=Mt.hangul
P5:=Mt.ownClass
I':=l.contains
VB:=List.map_cons
I!:=List.contains_cons
jm:=pos'
uw:=vs.length
xW:=NotIn
P6:=MtLine.plain
xX:=A.g.ID
o?:=A.g.AL
I?:=A.g.CM
Ja:=A.g.NS
uB:=MtLine.sort
VC:=MtLine.resolve
uC:=contains
P7:=A.eU.Jj
Dc:=A.g.HL
pa:=A.g.NU
Jb:=A.g.H2
Jd:=A.g.H3
Jf:=A.g.JL
Dd:=A.g.JV
Dh:=A.g.JT
uD:=A.g.BK
rg:=A.g.qM
rj:=A.g.qw
uF:=A.g.NL
rk:=A.g.SP
Di:=A.g.ZW
Dj:=Mt.Info
gl:=x.cls
Jg:=x.pict
uJ:=X.mg
P8:=attributeBase
kC:=X.env
P9:=Subscript
Dl:=Attribute
Do:=A.mz.cl
P_:=A.mz.Kx
uM:=Bool.or_false
Dp:=Mt.linked
uN:=z.conj
Ji:=_W.back
Dq:=Nat.le_of_succ_le
Jk:=Nat.le_refl
VD:=Nat.le_sub_one_of_lt
xZ:=decide_eq_true
Jm:=Bool.or_true
uQ:=y.cls
P':=dropWhile
uU:=z.cls
P!:=takeWhile
P?:=List.length_nil
VH:=List.takeWhile_cons_of_pos
VL:=List.takeWhile_cons_of_neg
Qa:=Bool.not_false
VM:=Bool.or_assoc
Qb:=List.range'
rl:=List.map_append
Dt:=_W.ends
VN:=PySem.F.slot_list_append
VP:=PySem.F.type_list_append
Du:=List.append_nil
jp:=t.map
Jp:=_W.inf
VR:=Nat.testBit_or
VS:=Nat.lt_of_lt_of_le
Qc:=Nat.le_of_not_lt
VT:=Builtin.bitAnd
Jq:=starEach
Dv:=MtLine.waysOf
da:=t.length
VU:=MtLine.hangs
kK:=h.ex
Qf:=h9.later
Qg:=A.fF.cl
Js:=A.fF.Dn
x2:=PySem
x3:=PySem.Spec
x4:=PyProof.Rows
Qh:=Program
Qi:=PySem.W.Frag
pb:=MtLine.Bad
rm:=MtLine.row
Jv:=Nat.min_eq_left
VV:=List.map_take
iv:=aL.p
kS:=hv.now
VW:=Int.ofNat_inj
VX:=MtLine.clusterWidth
Qk:=take_snoc
Ql:=getLast?.getD
uV:=Nat.lt_of_succ_lt
Qm:=List.getLast?_append
VY:=List.getElem_mem
x_:=List.pairwise_iff_getElem.mp
V0:=MtLine.width
x!:=f9.later
Dw:=List.take_length
Qp:=MtLine.measure
V1:=MtLines.marksFine
Dx:=m.map
Dz:=A.g.zA
V2:=List.any_eq_false
V3:=List.getLast?_eq_some_getLast
V4:=Nat.le_add_right_of_le
Qq:=Nat.lt_of_le_of_ne
DB:=A.g.jk
DC:=Places
hH:=L.length
Qr:=List.getLast?_eq_getElem?
DG:=_W.nj
Jw:=A.g.DW
Qs:=MtLines.pairs
DJ:=pairs_len
V5:=MtLine.linesBy
V6:=MtLine.unmarked
Jx:=dn.length
V8:=Nat.le_of_eq
Qt:=List.append_assoc
Qu:=x.lines
V9:=MtLine.lineBad
nW:=h.lo
rn:=h.en
DL:=L.drop
ro:=putK
V_:=Nat.ne_of_lt
Qv:=List.drop_eq_getElem_cons
Qw:=List.drop_drop
DM:=List.getElem?_drop
Qy:=Nat.add_lt_of_lt_sub'
Qz:=Option.some.inj
V!:=List.take_of_length_le
jq:=drop
uW:=same
Jy:=ev.now
V?:=List.drop_eq_nil_of_le
x?:=V.ref
u0:=sH.trans
Jz:=k_.trans
JA:=A_.trans
DN:=small
Wb:=Bool.not_true
Wd:=Nat.le_succ_of_le
QA:=MtLine.raggedBy
ya:=_W.kD
DP:=s3.trans
gm:=c.Unit
QC:=fs.length
JC:=A.dr.cl
QD:=A.dr.Kb
QE:=A.dr.NP
QG:=A.dr.OZ
JD:=A.dr.H_
QH:=A.dr.O9
QI:=A.dr.Jr
QJ:=A.dr.Ks
QK:=A.dr.LP
QL:=A.dr.Ox
QM:=A.dr.M'
jr:=MtLine.Unit_
fJ:=u.is.cls
JE:=MtLine.isEast
yb:=Ch.wz
JG:=A.g.D2
QO:=MtLine.ends
DQ:=Bool.and_comm
DR:=MtLine.Sort_
DS:=Ch.fI
JH:=S.length
u_:=r.length
We:=Nat.zero_add
JI:=A.g.Eo
QP:=MtLine.isMark
JJ:=Nat.succ_le_of_lt
JK:=MtLine.Say
Wf:=List.contains_nil
JP:=sA.trans
JQ:=MtLine.begin_
mL:=Ch.bS
cc:=us.length
Wg:=List.getElem?_eq_none
Wh:=List.sum_append
DT:=MtLine.units
QQ:=hU.later
u!:=Ch.m5
QR:=hO.later
u?:=Ch.rK
pc:=Ch.cX
va:=Ch.pE
c2:=cut
QS:=c.Place
pe:=Ch.gX
pg:=Ch.gY
DU:=Ch.m8
DV:=Ch.gZ
DZ:=h.later
QT:=vY.later
Wi:=List.head?_drop
yd:=Ch.gS
D1:=Ch.num
D3:=Ch.seg
D4:=A.g.xP
D6:=A.g.GL
D7:=A.g.HY
JR:=A.g.CL
D9:=A.g.CP
JS:=A.g.SY
JW:=A.g.OP
ye:=A.g.QU
yj:=A.g.IS
J2:=Bool.not_and
QV:=MtLine.kernel
rp:=MtLine.digits
QW:=Nat.sub_self
yk:=A.g.PR
ym:=A.g.PO
QX:=MtLine.says
J4:=MtLine.pieceCost
D_:=Ch.texts
yo:=jH.later
Q1:=sM.trans
Q4:=GX.trans
J6:=own.map
Q7:=MtLine.marksFrom
Q8:=uy.is.sa
Wj:=List.map_set
Wk:=List.eq_nil_of_length_eq_zero
D':=_B.kJ
aH a b:=a _ _ b
fn a b:=c! (a b)
ac a:=ag a
db:=a.2
fO a:=List a
an a:=c! a
Z:=aa 0
dL:=a.1
cd a:=a R
nY a b c:=ae a (ae b c)
kU a:=a eJ
ap:=aa 1
bi a:=λ _=>a
ct a:=fn .ref a
iw a b c:=a X σ H b c
dZ a:=aH s1 a
n1 a:=.pure a
bD a:=(a:bG)
ax a b c:=λ a b c=>?_
a?:=λ _=>rfl
b!:=by decide
c3 a b:=by refine a b ?_
as a:=a=bH
ad:=aa 2
bt a b:=nY a b ao
kW:=kU Pz
vc a b:=autoParam a b
dp a:=(a:bG)
a!:=db.1
D! a b c:=a b w c mg t2
gn:=D! aM P K
Y:=Fs K mg c
b?:=db.2
ei a b:=a (v:=b)
bE a:=λ H1 s1=>a
iy a:=a A h Z
aD:=fO O
j0 a b:=iw aB a b
bn a:=fn vN a
dd a b:=af _ a b
rr a b:=jW a b
d1 a:=vc a aw._auto_1
fo a b c:=a (b us c)
e! a b:=MtLine.is a b
j1 a:=λ a=>?_
a6 a:=(a).length
dP a:=.ref a
ch a b c:=λ a=>aG b c
aN:=aa 3
br:=db.2.2
iC a:=(a:bG)
eC a:=.ref a
n2 a:=a (by decide)
bN a b:=by exact a b
rs a b c:=CZ (a b c)
dS a b c:=aH a aH b c
ci a b:=by refine a;subst b
bd a b c:=a[b]?=an c
bA:=b?.1
d2:=dL.2
iE a b:=a eJ b
k0 a b:=ei a (vN b)
fS a b c:=a (by exact b c)
cx:=by rw[c3 hU _];dsimp only
ph a:=Option a
mM:=dL.2.2
mN a b c:=dd (a dZ b) c
ca a:=CW a
bF a:=iC (a:O)
d4:=n2 hr.mono
hK:=dL.1
a7 a b c:=by rw[a]at b;cases c
cm a b:=bt ac a ac b
bB:=j1 hx
ej a:=.bl a
ce:=fO jr
bm:=aa 4
be b c:=λ a:b=>c
iJ a b c:=D_ a b c
k6:=n1 rr bQ ?_
pi a b:=a A iy b
J7:=cd Or.inl
ep a:=ae a ao
bC b:=λ a H=>b
js:=cO c H a us p c2
gp a:=aH s2 a
pm a b c:=λ u a b e=>c
iL a:=eval a kC
vh a:=dp a - 1
pn a:=a _ _ _ _
k8 a b:=af a e b
po a b c:=a (uk A iy b) ac c
n3 a b:=fO (a×b)
eH:=by rw[jf]
fr a b:=a nd R J7 b
d' a:=dk a
k! a b c:=a b ai bE mN jV c R
mP a:=pi uk a
fT a b:=af a R b
j_ a:=a (by decide+kernel)
cz a b:=by refine a hp b
cA:=gn 2
cP a b c:=show a by exact b c
ck:=aa 5
f3 a:=.int a
d! a:=λ H2 s2=>a
cY a b c:=bp a b cd b1 a? c
k? a b c:=a b=fn .dK c
dT a:=λ x=>a
J8 a:=List.getElem?_eq_some_iff.mp a
la a:=(a:O)
iO a:=aj H1 a
vj a:=DL a
yp b d e:=by obtain⟨b,us,d,c2⟩:=e;have h:js:=hp
rt a b c:=λ a _ _ b=>c
jt a b c:=a eJ b c
jv:=kW 2
yq a b:=λ a v _=>v=b
de a b c:=nY ac a ac b c
mR:=n1 rr e8 ?_
pp a:=mL us a
hQ a:=e! fo pe Bf p a
el:=k+1
vl:=J+1
J9:=pn D3
ds a b:=rs cE a bi b
lc a:=a eJ y n t
pr a b e:=by have a:bI mE H b d kk:=e
cU a b:=λ a b=>?_
eq:=tx t us
d0:=by rw[yp a p q,c3 hU _]
c':=Fs X.K uJ c
dt:=by conv in J9=>whnf
d?:=n1 ?_
gr a b:=by refine aG a b
n4:=rt v e ?_
e? a b c:=a b=an (.lst (c vN))
dv b:=yq a b
yr a:=fK (a A) b! b!
dV a b c:=by rw[a];exact b c
gs:=bD n
eL:=p+1
gt a b:=(a).map b
iQ a:=k0 bU a
dw a:=by exact a az
Q_ a b c:=d1 (a kC (eval b kC)=iL c)
mS a:=e! fo pg Af p a
gu a b:=by exact a b
er a:=Q_ a o o
fv:=vj vl
fa a b c:=aP a (aP b c)
ru a:=k! a ap bo
f4 a b c:=by exact a b c
jw a:=a jh
eS a b c:=a R b c
eb:=ph jr
vn:=λ _ _=>trivial
mW a b:=bg ((a).imp b)
ec:=gn 1
fb:=a!.2
ps a:=(a:bG)
dy:=eV c
f5:=by rw[pr aQ b hR]
iU:=mM.2
mX a:=pm H1 s1 a
eW a:=λ h=>a
fd:=d2.1
et:=P8 o
J':=kU Mt.flag
yv a b c:=upd a b (.dK c)
eu:=.Dl o
ew a b:=cn a bi b
ld:=bD m
lf:=kW 1 n
n5 a b:=j0 a eC b
lg a b:=j0 a f3 b
f6:=eC hK
li a:=gp dZ a
D?:=.inr R
Ea:=.inl R
em a:=.int a
fe a b:=rs du a bi b
iV a:=by exact a
pt a b c:=λ a H1 _ b=>c
rv a b c:=Qp eJ y a b c
vo b c d:=ah b λ a e h=>k8 c d
ff:=n1 R
lj a:=bi ac a
lk a:=ia A hr a
e5:=Jk _
mY a:=λ _ _ _ _ _=>a
f8 a:=a=aF
fh:=h.2
pu a b:=xV a b
jx:=bD k
f_:=.int
gx b:=λ a v H=>b
fw a b:=po a px b
gy:=mM.1
ll:=kW 3
j! a b:=k? a b ke
f?:=rm t b e
fx a b c:=bp a b cd b2 a? c
ga a b c:=aW a ch b cM k6 c
rx a:=Qs a
n7:=.tail
n8 a b c:=dj (m:=a) I4 b c
gb a b:=by subst a;have nd:=b
gz a:=bO a
j?:=dp n
pB a b:=ei a dP b
ry a:=aY cV a ai
fj a b:=by rw[a];exact b
lm a:=bt ap a
ln a:=a=bH
e6 a b:=(a).imp b
n_ a b:=iw Ev a (OU c b)
fy:=n3 Key V
mZ a:=fr a aI
vp a b:=fo a pc b
fl a:=a cL
gB a:=mW a n4
yw a b c:=bE (b8 _ dx fs dZ h1 a b c)
gc:=mP py
pC:=cd gh
gD a:=(J8 a).1
hV:=vh k
iX:=vN a!
n! a b:=λ a a0 _=>b
hY:=(b,d,kk)
lr a:=ba H v a
rz a:=Ji I b a
gJ a b:=um a=fn .bl b
hZ:=Mt.inside r
m0 a:=λ hx=>a
J! a b c:=.Compare a [b] c cL
m1 a:=aY bT a ai
i0 a b:=(a).imp b
Ee a b:=behindInMarks a b=false
h' b c d:=pt u b vo c a d
pD:=kU Mt.map
h! a:=(a).map
ls:=a!.1
g0:=pp i
i1:=k - 1
i2 a:=by rw[gr a k6]
h?:=gn 3
i3:=by obtain⟨⟨b,d,kk⟩,v,num,r⟩:=a
J? a b c:=a (uB b c)
g':=ph V
lv:=o9 vN
rB:=iJ l J bh
ii a:=c? a
ij:=ct a
lw a b c:=ah aS ax a b c
m2 a:=fn .int a
Ef a b:=n1 rr a (b).symm
g!:=fO V
rE a:=λ d r=>a
m3 a b d:=a gm H b d
m4 a b c:=by obtain⟨a,b⟩:=J8 c
g?:=aa 6
i5 a b:=by rw[aV (c7 hb a)];exact b
pG a b:=λ a H=>b
ik:=.Name
i6 b c:=J! a .b c
Eg a:=by rw[c3 jW a]
vq a:=dd R a
yz:=kW 6 n
n? a:=by exact xG a b!
Eh a:=dp a+1
im:=j1 h1
rH:=v=dP q
ka a b c:=q yr a (q yr b c)
kb:=ct qt
io a:=gh a
lx:=J? jp eJ y
Ei:=.Tuple es x1 jm
jy a:=j_ (d9 (nS:=a))
rI a:=ru iQ a
i8 a:=fn bQ a
kc a:=(a).toNat
pH a:=aH s a
pI:=k - 1
i_:=aa 7
kf a b c:=aW a ch b ac DB mR c
yB:=ji n
Ka a b:=a (Jp b)
rJ a b:=a (by exact b)
yC a:=(a).book
jC:=n5 o a
rL a b:=ro ke (kN a) (vN b)
jE:=gn 4
yD a b:=a (c! b)
ip:=hx.2
pK a b c:=by refine bW hp ax a b c
yE:=J' 12
jG a b:=j0 a ej b
vr:=la k
jI a:=gt a vN
lB:=ct bb
pM a:=a->cr
i! a:=λ v H=>a
m6 a b:=po a py b
pO:=j+1
it:=.bl
jL:=bn n
jS a b:=um a=b
vt a b:=hQ a&&mS b
m' a:=λ _ _=>a
m? a:=a<=da
rN a b c:=dM (l:=a) (b:=c)
na a b c:=List.all_eq_true.mp a b c
Kc:=by rw[eH]
oa:=Ka jp eJ
pP a b c:=a b u c t4
lC a b c:=(a).map λ b=>c
nb a b c:=dc a (aA b) _ [c]
kg a b c:=j0 a (.bl (b c))
nc a b:=by rw[ci (bq j.now a) b]
lD a:=a kl ke
vu a b c:=aT (a A) d4 b c vn
kp:=O×O
lE a:=by exact aG lk a Ef e8 (iK _)
vv a:=Ch.cst B iJ l a bh
yH:=aj H H1
lF a:=vp a eL
kq a:=by show Rn _ _ _ _ a
i?:=bz 2
vw a b:=yv a l1 b
lO:=Nat.zero_le _
kr a b:=by exact CU a b
lP a:=xG a b!
oc a b c:=by have a:b:=c;rw[cx]
ks a b:=by exact a b az
kt a:=by rw[c? a]
nf:=fH s1
rO a:=b7 kl (kN a)
ng a b c:=a b (C3 c)
lR:=by repeat(first|rw[cW,pC]|rw[cW,n2 c?])
rR a b:=(a).uC b
lS a b:=by show a=_;rw[b]
vD:=by rw[Eg bQ]
kw a b c:=aZ a R b c
ky a b c:=(a).all λ b=>c
pQ:=_W.d8 m k q
lV:=iO H2
l0:=lg e i
l_ a b:=fS c? a b
l! a b:=fS gh a b
pS a b c:=cJ I7 (a A) b c
yJ:=kW 7 n
Ej a:=aH d3 a
rT a b c:=λ u a b hu=>c
Ke a b:=yw A.eE.cl a b
l? a b:=um a=an b
rU a:=dS s4 s3 a
ma a b c:=a b=an (.ins c dx fs)
nh a b c:=d1 (Jq a kC=(false,b)::Jq c kC)
kz a:=e8 a
mb a b:=j0 a (vN b)
ni a b c:=aT (a A) hr b ep c vn
vE:=fJ==38
mc a:=k0 mF a
md a:=ps (a:O)
nk a b c:=by rw[ci (ah (eK hk) ax a hn b) c]
mi a b:=iw Te a b
Em a b c:=∃q xs,u=dP q/\(a\/b)/\xs.length=c
mk a:=bN a hj
rW a b c:=dM (l:=a) (b:=c)
nl a b c:=bp a b cd b3 a? c
nm a:=bN Dq a
r0 a b:=fS xZ a b
np a:=by rw[nQ,a];rfl
r3:=64*i
nq a:=by have:=Vz a
mm:=br.1
yL a:=c5 (.pure a)
mn:=Ch.il x r
od:=iO H'
nt:=n_ o u
nv:=mP px
pV:=p - 1
nw:=q+1
vG a b:=Ch.g9 a b
mq:=an uv
r4:=jv n
mt a b:=a (bs:=b)
mx a:=(a:O)
my a:=a->Prop
Kg a b c:=a cL (b c kC)
oe:=(a,(bb,d,kk),y,t)
ol a b c:=by refine Bd.of a λ H1 s1 b c p=>?_
on a b c:=fT a aH b c
vH a b c:=a eJ y n b c
op:=e! o l
r5 a b:=nY Z a b
vJ a b:=jP c.Ways H a b
mA:=a.1.1
r6:=by simpa using hx
nA:=fO Dj
oq a b:=by refine a;refine b
yM a b:=vc Ee .a b _L.gH._auto_1
or a:=b7 ke (kN a)
pW a b c:=ae ac a cm b c
yP a:=rv t b a<=n
nC:=eR x
yQ:=lz.cls==47
r7 a:=pm H2 s2 a
nF a b:=ei a (.bl b)
nJ a:=yD a u
Kh a b c:=by generalize a=b;generalize c=b1
nK a b:=CW a=b
yR a:=m.getD a 0
os:=bY (i:=5)
ot a:=cG (dG a)
En:=pv 8
ou:=fO (jr×aD)
Es:=yz==39
yT a:=Ch.hX B rB a
yW:=lc _W.lb
vK a b c:=a b a? hsz c mY (cy nd R Ea D?)
r9 a:=(a:O)
ox a:=kh us a
Kk:=QO gl
vM:=rx dn
vO a:=dS s3 s2 a
pX a b c:=cQ (v:=a) ho Ke b c hb
r! a:=cy a R Ea D?
oy:=n3 O O
oA:=j? - ld
vQ a:=∃q,rH/\a
oC:=ct ar
vR:=pD 5
vS:=ps _==iC _
Et a:=fn e8 a
Ew a b:=a (CX b)
oD:=a6 d2
yY a:=pB a ay
oH:=ry ad
oJ a:=ja.k (k:=kN a)
vZ:=bd L j x
nN a:=(a).cls
r?:=(dL).B
pY:=r.to.headD 0
oL a:=a<=cc
oN a b:=fP a bi b
pZ a b:=ch a b mR
v4:=hH - 1
oO a:=k0 cN a
oP:=Ej R
Ey a b:=d1 ((Kg backTo Jq a).b (·.1)=false)
y1 a:=a<C4
sb a:=.pure (a ?_)
p0:=vh n
oQ:=br.2
oR a c d:=rM a c ho (λ fs b e h=>d) hb
y2 a:=pc us a
sd:=n - 1
oU:=λ _ _=>True
y3:=jp vN
oW a:=c4 (bO a)
p2 a b:=by have a:=VA b
p3 a b c:=k7 a b cd b2 a? c
oY a:=(a).isSome
o0 a b:=yd a=b
o1:=Bf us p
o2 a:=m_ H v a
p4:=by have f9:kM c H a (bb,d,kk) y t:=hS
EA a b:=by rw[q!,a,b]
Q' a:=vc a oG._auto_1
EC a:=a (i:=6)
se:=by simp
p9 a b c:=by refine(aZ hE rs tN a b m0 (nomatch hx) bi c)
EE:=ro kl (kN x0) bv
sf a b c:=∀(H2:Hp)(u:V),a->u=dP b->Em (aC K H2 q xs) (aJ K H2 q xs) c
y4 a b:=by obtain⟨a,b⟩:=hp
o3 a:=λ _=>a
y5 a:=λ _ r=>a
p! a b c:=by rw[c3 (mw n! m a (λ _ _ _ _ _ h=>h) b kB) c]
v5 a b c:=λ a u b e=>c
o4:=iM h1
p? a:=λ i=>a
si:=a6 iU
qa a b c:=sT _ R a R _ R b c
EF:=as yB
qd a b c:=λ a b=>fC bB c
qf:=kW 0
EJ a:=bt aN a
qh a:=as (ji a)
qi:=eg mE dL H
qj:=ct l1
ql:=ct l2
qn a b c:=a b=fn .lst c
y7 a:=a (q8 s2)
EL:=pu yJ [2,3,4]&&!Kk
qp:=by simp at az⊢
v6:=ct r
qq:=ct l
y!:=bD ey
qr a:=pG v lr a
y? a b:=d! (b8 _ dx fs li h1 Qg a b)
sj a c d:=by rw[e];refine gM a ax b c hh;exact(d3 b d (hh.later s1))
sl a:=show a by decide
qs a b:=dd d' a b
qv a b:=.Call a b [] cL
EO a b c:=aE a _ b (.inl (dk c)) Kc
v':=e.testBit 31
qx a b:=show a by exact b
qy a b:=show a by exact b
qz:=bn b
qC:=by rw[az];rfl
za:=CX s3
sm:=V×aD
zc a b c:=j_ (d9 (N:=a) (sc:=aA b) (own:=[c]))
Ko:=bK "joined"
EP a:=a=cc
Kr a b:=mX k8 a (jV dZ b)
sq:=sF c dL H
ze:=Eh b
qD:=i=la j
qE:=ic En aI R
zg a:=bP eF a ai
qH a:=λ n:O=>a
v! a b c:=a n aQ b! hs Z ac b c
zh:=#[_,rfl]
EQ:=vN b?
qO:=aj H' H2
st:=Q' (oT e)
zk a:=bY (a:=4)
qQ:=bD b
sw:=fW A hr
qT a b:=bP cK a b
qU a b:=λ u H1 s1 a=>b
v? a:=aH s7 a
qV a:=aH s6 a
sz:=d1 (vs.all ib=bH)
sG a b c:=c6 a b cd b1 a? c
Ku a:=rJ t5 a
sJ:=j0 a (.int (kI o))
wc a b c:=a uP b R ai yL c
sK a b:=by have a:=Vz b
ER a b c:=vq (p _ _ a λ H4 b=>c)
E0:=fW A d4
qW a b c:=λ v a b hv c=>?_
qX a:=bZ (iT a)
qY a:=λ h1=>a
sL:=vc (uw<=C4) kY._auto_1
sP:=dp ey+vr
qZ:=a.2.2
q4 a:=λ n=>a
sR:=[Ei]
sU a b c:=H a=an (.lst (b c))
we:=fO DR
sV:=.P9 o e jm
Kw:=iE PQ n
s_ a b c:=bi (bZ (a b ac c))
wh a b:=ch a b d?
zl:=iE Mt.full n
E4 a:=by unfold a;dsimp only
wi a:=gz vu a gs ep ap
wj a b c:=_B.mT (if a then aF else l[b]?) c
s?:=ct qm
wk a:=iE Mt.ccc a
wm a:=rN us i a
tb a b c:=by rw[<-a b l,<-hv];exact c ha hb hf hl hm
Q!:=bK "spaceless"
tc:=ct b
td:=rz k
tg a:=∀H1,yH->a
wn a:=ca a=false
zn a:=show a by decide
zs a b:=fa a b dg
th a b c:=c4 (a b ac c)
q6:=i+1
ti:=pv 4
tk:=iw eM es vs
zt:=hS.later s1
tl a:=by cases a<;>rfl
tn a:=by rw[gh a]
tp a b:=j7 c.k5 H a b
tq a:=a6 a<=64
tr:=hH - 1
wp:=vN bA
zu:=_W.jR I b p
ts a b:=∀{a:Hp},b
ty a b c:=c! (a b c)
tA:=(bb,d,kk)
Ky:=O×cr
tB:=pM O
Kz:=dZ eP
tC:=aH dD pd
tD a b c:=by exact a b c
KB:=ep ad
KC a:=lc _W.jK mu x0 fv a
KD:=Q! ej Es (Ko ej yQ fs)
zv a b c:=by revert a;rw[Kh b b0 c];revert b0 b1;decide
tE a b:=λ a:O=>b
tF a b:=∃a:O,b
tH:=L.map vN
tJ a b c:=jQ a H b us c
tK:=xq A hr n
tL a:=dF (bO a)
wq:=d1 (vs=lv)
tM:=b_ (j:=0)
wr a b c:=λ a a0 b=>c
tP:=bD p
tQ:=aj H H'
KF:=.head _
ws:=ln b
KG a b:=iE Ch.cst iJ eq a b
wt a b c:=#[a,λ i b c=>by exact(nD h).elim]
zw:=vv j
wu a b c:=c6 a b cd b2 a? c
wv:=by have e1:=jY;have e2:=hz.now;subst e1 e2
ww:=by rw[ed]at hx
tS a b:=λ a _=>b
tT a:=λ m=>a
wx:=λ _ _ h=>h
tU:=oz ai
KJ a b c:=iB kB R a (b nd R J7) c
wy a b e:=a (jM mE b rE e)
wA:=rR [13,47] gl
KK:=lf==16
wB a:=by rw[jf,a]
wC a b c:=by rw[<-a];exact dJ.k (k:=kN b) c
wD a b:=n8 a ad b
wE:=by rw[q!]
wF:=m2 bD J
wH a:=as ((a).all ji)
tX:=h1.2
tY:=.nil
zC:=jc _
wI:=vN e
wK:=m3 iS hK d2
wL a:=(a).P! λ u=>vE
zD a:=nH kB dz a
zE a:=jt Ch.m7 eq a
wM a:=f8 rO a
wO a:=.P9 a e cL
wP a b c:=LI a L b J x0 c kl ke
KL a:=by unfold P4 a
E5 a b c:=a (q8 (b c))
zF a:=Et (a - 1)
tZ:=pv 3
t0:=pv 6
t1:=aa 9
wR a:=by rw[gh a];rfl
wS:=DT l
wT a:=iE Jp a
Q? a:=a×jZ
wW a b c:=by exact(aE a _ R b c)
wY:=by assumption
wZ:=bn bh
w0:=bn fi
w1:=iy px
w2:=pp pO
w3 a b c:=WI B l bh J a b c
zG:=Ey [] any
zH:=yv vw H' EE l2 rL x0 e
w4 a b:=a (us.drop b)
w5:=bn k
zJ a b c:=a b (DL c)
w7:=by split<;>rfl
w9:=bn e
zK:=d1 Ee .In Ei
zM:=ru yY bU
w_:=r.to.drop 1
w' a:=fT qt a
w! a b:=a ap ac b
zO a:=bO (cQ ap a)
zP a b c:=λ qu vs a b c=>?_
zQ:=by rw[eH,n? a3]
w?:=bA.2
zS:=vh p
zT:=gs - 1
xa a b:=gg a ac b
xb:=Pz B
xc a:=rT H2 s2 a
KM:=dZ dR
zU a b c:=λ u a b c hu hz=>?_
zV:=L.filter λ p=>ca yP p
zX:=yM Eq b
z1:=.cluster
KQ:=bK "east"
xd a b:=by refine a kS b
xe:=gh h
z6:=EC bY
z_:=by rw[EA dX gk]
E9 a b c:=aT (Ax A) hr ((eC qu,us),a) lm b c
xf a:=(a).length
z!:=Af us p
xl a:=aH s8 a
xm:=an u
xn:=an b
xp:=(iW,k)
KS:=Kr ay cR
E' a:=by rw[P0,a];rfl
z? a:=d1 (a=ld)
Ad a b:=kG a lj b lj A.g.uc
xr:=f_ 0
xu a:=λ h=>a
xv:=hs hm
E!:=[f6,iX,EQ]
Ae a:=by exact o8 a b!
Ag:=rv t b e
Ak:=jw yE==yE x
Al:=yT el
At:=by rw[PD,Bool.eq_false_iff]
Av:=by simp only[ed,dX]
E? a:=bN VD a
Aw a:=by rw[cx];unfold a
AA:=jw ll==ll x
AB:=jw jv==jv x
AC:=by rw[vD];congr 1
Rb a:=f4 Qq a e
KT a b c:=kT PySem.F.plainAttrs_list a b c
AE a b:=fS t5 a b
KU:=n7 _ (n7 _ KF)
xw:=h1.1
Fa:=kN n
xz:=.int
KV a b c:=by generalize a=b;generalize c=b2
Fe a b:=e? a b L.map
AF:=y1 a6 y3
AG a b e:=a (p7 mE b rE e)
AH:=Ew q8 s3
AJ:=lf==17
AM:=Kw==[]
Fg a b c:=by refine ah (eK hk) ax m hm a;subst b;refine i0 c n4;rw[e,gR]
AO a b:=by rw[a,b,hG];rfl
AQ:=vJ ls fb
AR:=ba H bA br
Fh:=ce×Ky
AT a b:=free (a:=.ins gm eQ b)
Fi:=EP uw
xA:=b+1
xB:=pv 5
AU:=n - 1
xC a:=bh - a
xD:=Gl X
AX a:=by rw[a,jj]
AY:=L.Pairwise (· < ·)
AZ a b c:=V9 a b c
A0 a b:=by simp at a⊢;exact b h1
Fj:=Q? a5
A3:=D! me P K
A4:=J' 11
A6:=iE Mt.full x
A7 a b c:=ah a λ b e1 e2=>(af q e1 c)
A!:=O×V×aD
A? a:=(a).P! dT (gl==6)
Bc a:=dS s5 s4 a
KW:=iE Jp n
Fm a b c:=a (b:=eJ) (w:=c)
Be a b:=fT a gp b
Bh a b c:=aE a _ jY b c
Bi:=lw qt fq dQ
Bj a b c:=∀{H':Hp}{a:HO},b->c
Bk a b:=by unfold a;rw[b];rfl
Bl:=n3 a4 V
Fn:=rz p
Bm:=k::pQ
Fo a b c:=λ a b=>QT c
Bo a:=by cases a<;>rfl
Bq b c:=b c a! b?
KX a:=.inl (dk a)
KY a:=(a).map (·.cls)
KZ:=e1.testBit 31
Br a:=a6 a<=200
Bs a:=eS kX _ d' a
Fp:=m1 ad
Bu:=yC fd
Fq a b:=show a=b from rfl
Fr a b c:=show a by exact b c
Bv a b:=cq a (cq b ao)
K2:=m' (by simp)
K3 a:=ke.length<=a
Rd:=bK "initial"
Bw:=P4 n
Bz:=bn a
BC a b c:=D3 a b c k
BF:=.int (kI o)
Fv:=Rd ej KK (KQ ej EL KD)
BH a b:=aZ _ R a b
K6 a:=a da 0
BI a:=.kA (.kA a)
BL:=y5 (rP r)
BM a b:=eT a ac b
BN:=ey+k
BP:=0+jx
BR:=I.getD p _W.no
BT:=dZ dQ
BX:=ey+i
B1:=uQ==4
B3 a b:=af a b R
B4:=j1 h2
B5:=j1 cg
B6 a:=A2 A hr a
B7 a:=by rw[e,a]
B8:=pH h2
B9 a:=upd H' a o
B' a:=wo (cu a)
B!:=aH pA _
B? a b c:=tV hU a b c R
Fw a e f:=by obtain⟨⟨a,e,kk⟩,n⟩:=f;rw[y4 hR hs,f5]
Ca a:=o!==a
Cc:=_<=1000
Ce:=an vb
Fy:=eC hK.1
Re:=uh l
Cf a:=aH s3 a
Cg:=dP qt
Ck:=fh.2.2
Cl a:=aH s4 a
Fz c d e:=by obtain⟨⟨a,I⟩,b,c⟩:=q;rw[pK hS kH d];dsimp only at hS kH e
FA a b:=by simp only[a,ed,dX]at b;rw[KL t']
FB a b c:=v5 H2 a EO b e c
Cn a b:=λ a b=>?_
Co a:=λ fs h=>a
Ct:=vN db
Cv:=O->V
FC a b c:=KJ eS a q9 dU b c
FD:=vG a (KG a m).2
Cy a:=λ p=>a
CA a:=.inl a
CE:=J+k+1
CH:=bX 1 X.A
CI:=vl+k
FE a b c:=aT (a A) hr b r5 ap KB c
FF:=KC el
K7 a b c:=aE a _ t4 (.inr (b c)) Kc
FG a b c:=bE (b8 _ dx fs dZ a Db b c)
FI:=mY (cy nd R Ea D?)
CK:=e::es
CR:=dE 33
FM a:=ER za s4 a
FN:=λ j=>yW mu vj j
FR a b:=mX k8 a (dk dZ b)
FS:={kind:=.function,names:=[],isGenerator:=false,isCoroutine:=false}
FT a b:=bE mN dk a b
FU:=n==9676&&!([9,15,30,31,13,47].uC gl)
FV b c:=rx (b r? gy a! iU (V6 c))
K9:=mS [33]
FW:=by rw[Ch.uA];rw[E4 JQ]
FX a b:=by have:a:=eW (b (xZ h))
Rf:=gu VD hk
FY:=Rb hj
F1 a b c:=by refine ah jY ax a b c;exact(af q e1 d' e2)
F4:=jt xU y n
CS:=aa 8
F5:=r0 G9 iF
F7:=Ku Ge
F8 a b c:=∃qe a ke,v=dP qe/\j! H b/\c
K_ a:=Qv a
F_:=max 3 d.book.scripts.length
Ri a:=bN Wd a
F' a b c:=c6 a b cd b3 a? c
F! a:=CY a
F?:=vO KM
Ga:=(V×ce)×O
Rj a b c:=Ci A d! li a (QQ s1) R Z b c hu
Gb a b c:=vq (p _ _ a λ b s7=>c)
Gc:=by rw[q!];simp
Gd:=vS||false
Gg a:=a (DP (s4.trans s5))
Gh a:=by rw[a,dX]
Gi:=n1 rr vN ?_
Gj b:=gx vQ b
Gn a:=by rw[a,eo]at hx
Rk:=[13,47].uC gl
Rl:=Vp hn
Go a b:=by have a:b:=by rw[r6]
Gp a b c:=by rw[a,b,eo,c]
Gr a b:=jt P5 a b
Gs a b c:=by obtain⟨a,b⟩:=EW (t:=t) c
Gt a b:=lc DG a b
Gu:=r4==0
Gv:=EJ bm
Gx a b c:=∀a x,b->vZ->c
GA a:=pm H2 s3 pP a H2 s3
GD:=vR y==[]
GE a:=(fv).getD a
K' a b c:=c5 λ a b=>#[zh,c]
GF a:=λ v l h=>pn gN a h
Rm:=pp cc
GG a b c:=jW (λ a=>fn HO.lst z) (HD b c)
GH a b c:=by have a:=f9.len;have b:=c
GI a b c:=a (p:=λ b:Dj=>c) oF
K!:=iE PQ x
K?:=cO c H dL a! bA br
GJ:=eg mE hK H
GM:=ze+jx
GN:=ca (kv.1=Re)
GO:=D! n6 P K
GP:=J' 15
GQ a c d:=a0=a/\b<=k/\c/\m=k - b/\d
La a:=as (a ji)
GR:=c? (by simp)
GT:=e! o [m]
GU:=bP eF aN ap
G1 a b c:=if(as a)then b else c
Ro a b:=if a then b else aF
G2 a:=fn HO.tup a
G3:=ct qe
G4:=ct qL
G6:=ct wa
G7:=ct ay
G_:=ct qu
G' a b c:=.v a cM (.v b cM c)
G! a b d:=a (Ft c λ I b p=>.bl d)
G? a b c:=lD (WE a b bh c)
Lb c d e:=c (d:=e) (a:=b) (k:=pI)
Hb:=yC hK.2.1
Hf:=by dsimp only at hs
Hh:=("kinds":a4)
Hj a b c:=upd a b (.lst c)
Hm:=iC r9 n
Hn a b c:=by rw[a (Ne.symm b)];exact c
Ho a:=og (uY A) hr a
Hq:=_W.lb B y n t
Hr a:=a6 a<=1000
Hs:=iy F2
Ht:=iy HH
Hv:=PJ n
Rq:=ln up
Hw:=zg ap
Ld a b:=fH (a b)
Hx:=bn mu
Hy a b d:=a (Ia mE λ b n=>d)
HB:=br.2.2
HC:=i<cc
HE:=br.2.1
HF:=V×aD
HG:=yR pV !=0
Le:=fH s2
HJ:=q8 s2
HP:=j=v4
HQ a:=a+1<hH
HR:=PJ (mJ+1 - ey)
HS a b:=a b (uh l)
HT a b:=∃(a:O),b
HU:=ph O
HW a b c:=vW (α:=O) a b c
HX:=lG gs
HZ:=bK "final"
H!:=fO dl
H? a:=aY tf a ai
Ib:=iV y_
Id:=DS x r
Lf:=dZ cR
Ig:=aH dD uX
Ih:=.ListComp _ _ sc _
Ii:=yC bk.2.1
Ik a:=(a).flatten
Io:=fO Key
Lg:=eC dL
Ip:=pH h1
Iq a:=us.drop a
Ir:=L.take k
Is a:=gO eF a ap
It a:=ey+a
Lh a b:=(a).C1 b
Rr:=n==8208
Ix:=la i
Iy:=e8 0
IA:=an x
IB a:=λ H5 s5=>a
IC a:=λ H4 s4=>a
IE:=z.1.sa
IF:=max m (a+1)
Li a b c:=a KS a? (Im a3) b mY r! c
Lj a b c:=vK (pR 3 (f:=dT a) R nd b ad) r7 k8 av d' gp gi c
IG:=λ _ _ _ h=>h
II:=cS hl
IJ:=j<=bh
Lk a b c:=by obtain⟨a,hz⟩:=rW I i pI (by exact b c a_);have cH:(hV)=bF i1:=by exact yh hk
Lm:=yv vw H' (ro kl (kN J) (vN iW)) l2 rL J (J+k)
Ln:=k0 cQ ut Z y? A.fF.vT h4
IM:=dE 37
IO:=e - j+1
IR:=n==m
Lo a:=zc ["book","record","scalar"] a ("scalar",2)
Lp:=Rj eP ap iF
Rs:=rI mJ
Lr:=lC f? n bF (KW).cls
Lt:=n8 cc Z mX (aE qu vs t4 KX Kz hl)
IU:=n+1
IY:=e+1
Lu a b c:=iQ a b ai bE mN jV cR c
Lw:=n8 fz Z mX pP w6 H1 s1
Lx a b c:=aT (a A) hr b (ae Z lm ad) c
Ly a:=nb ["self","book","text","scalar"] a ("scalar",3)
Lz:=n7 _ (n7 _ KU)
LA a b c:=by generalize a=b0;rw[KV b b1 c];revert b0 b1 b2;decide
LF a b c:=by rw[a,q!,b,dX];exact c
LH a b c:=aT (a A) d4 b c K2
LJ a c d:=#[i1 - b,gu D8 hk,pI,a,Rf,gu c k2,rfl,d]
LK a b:=yw Qg a b
LL:=KY lx
Rt a b c:=bE (b8 _ dx fs dZ a I7 b c)
LM a b c:=by rw[nc (λ a hj=>gM b ax p q c) a9]
LN a b c:=d1 (P8 a g kC iL b=iL c)
LO a b c:=aP mZ a (cG (b dz c dg))
LS a b:=fS CY a b
LT a b c:=by rw[oc a (∀b∈hZ,EF) (λ c hn=>Rl.2)]
LW a:=m6 a ye
LY a b c:=EV A a bE Kz hU R b c R
LZ a e f:=by obtain⟨⟨a,d,kk⟩,⟨wa,e⟩,n⟩:=f;rw[pK hR hW hs,f5]
L0 a b c:=E0 0 a aQ b! b Z ac A.g.v7 c
L2 a b c:=by rw[I2,List.length_singleton];exact a b c
L3:=E_ A zt Z bm cH hz
L4 a b c:=∀(i a:O),b->bd l i n->as c
L6:=Rr&&!Rk
L8:=mZ zk i
L9:=mZ (bY (i:=7))
L_ a b c:=by rw[ci (ah (eK hk) ax a hm b) c]
L! a:=by apply List.map_congr_left;intro a _
L?:=DT (jp iE uB y)
Mb:=fT l rU ?_
Mc a b c:=by(have om:a:=by exact Nat.eq_zero_of_not_pos b);subst c
Md:=by rw[xL]at h1
Me a b c:=∀{a:O}{b:O},bd c k n->EF
Mg a b c:=by obtain⟨⟨uv,us⟩,p⟩:=q;obtain⟨⟨qu,vs,gV,eP,a⟩,hp⟩:=b;dsimp only at gV eP hU hp⊢;rw[gb gV c]
Mh:=pu ux.is.cls [3,22]&&pu uy.is.cls [3,22]
Mj a:=a (lo:=y!) (hi:=bD mJ+1)
Mk a b:=by rw[dV I8 a b]
Ml a:=na bJ a (C3 h)
Mm:=Ro Rq an m
Mn a:=gu JJ a
Mo a:=by have:=VA a
Mp a:=Dt oa b a
Mq a:=beq_eq_false_iff_ne.mpr a
Mr:=K6 List.replicate
Ms:=C3 hn
Mu a b:=E5 a Jz b
Mv:=by exact Int.ofNat_eq_zero
Mw a b c:=[lB,kb,a,v6,b,bn m,c]
Mx:=y7 x!
MA a:=by exact aG a ff
MG a:=by rw[ed]at a
MH a b c:=by dsimp only at hv bo a cR b c;subst hv hy
MI a b:=vc ((a==("__debug__":b))=false) c8._auto_1
MJ a b c:=by dsimp only at a b hle c;subst hv
ML a:=jt uB y a
MM a b c:=by refine ah (hU.2 _ a hv) ax b c hO
MO:=pu fJ [42,26]
MP a:=by rw[a,hG];rfl
MS a b:=J4 B a b
MT a b d:=(free (o:=.ins gm eQ a) b).trans d
MU a b c:=by dsimp only at a b hv c;subst hv
MV:=pT λ p=>!zu
MX:=by unfold QP
M0:=n3 cr JK
M1 a b c:=a (VU b y c)
M2:=λ x=>bQ (g (eR x))
M3:=Rm=da
M4 a c:=kU C' 2 (rm a b c)
M8 a:=by rw[a,eo]
M9:=rU hL
M! a b c:=a (pB cQ sg Z b) c
M?:=n::zl
Na a:=kZ gm H v a b e
Nf a b c:=j0 (.Dl a b cL) c
Nh:=tx mM fb
Nj:=t3<=1000
Nl:=r.value.testBit 12
No a:=PV a
Np:=(nf).parts
Nq:=jp λ n=>yB
Nr:=dp lo+vr
Ns:=jt _W.wf y t 0 b (L.take k)
Nt a b c:=by cases a<;>cases b<;>cases c
Nu:=dp hH - 2
Nv a b c:=if(as a)then b else c
Nw a b:=(a).Ql b
Nx:=!t' c&&!t! c
Ny a:=dk dZ a
Nz:=bP cK ap ad
NA:=cb X.K gm g
NB a b:=o8 a b
Ru:=Eh mJ
Rv:=sb bad
NC:=bF (D1 s)
ND a:=r.to.all dT a
NE a:=zn (¬a)
NG:=f4 o_ hi e
NI a b c:=tR (P:=a) b ap ad c
NJ a b:=HO.lst ((a).map b)
Rw a:=DP (a s5)
NK:=dp ey - nT+1
NM a b c:=a (b:=c) (w:=w) (t2:=t2)
NN a:=z'=cc - a
NO:=jt Fk y t
NT a:=fo pe a p
NW:=dp uN
NX:=I' n
NZ:=λ h=>CU h se
N0 a:=iE a gd
N2:=a4->ph Value
N3 a:=wipe a (J6 (·.2))
N5:=f4 OB hle i9
N8:=ry bm
N9:=ry aN
N!:=m1 ap
N?:=y2 el
Oa:=X.A.units+1<cLine
Ob a:=a+1<cc
Oc a b c:=a (n:=b) c ck i_ R
Oe a b c:=DO a hz (λ b _ c h=>nomatch h)
Of a:=h.hi j x a hx
Og:=a!<65536
Oh:=ph cr
Oi:=ji x
Oj:=ug.later s1
Ok:=x! s1
Om:=PN vN
On:=yR (b+k)
Op:=_<=1114112
Oq:=o6 2
Os:=o6 3
Ot a:=(a).Pairwise (· < ·)
Ov:=vh fi
Oz:=vh bh
OA:=kc (8:bG)
OC:=j<je
OE:=y2 n
OF a:=a=cc
OG:=λ b' o' hb=>?_
OH:=nT=2
OI:=nomatch hb
OJ:=ac A.g.LR
OK:=ac A.g.OL
OM:=ac A.g.yc
ON:=fO Stmt
OS:=iV Ou
OT:=iV A5
OV:=Eh a
OX a:=dJ.k (k:=a)
OY:=v? oj
O0:=aH j6 yf
O2:=aH j6 OR
O3 a b c:=λ q a b h1 h2 c=>?_
O6:=mJ+1
O8:=uN=3
O':=uQ==5
O!:=bK "ring"
O?:=fO a4
Pa:=j1 h3
Pb:=l.getD j 0
Pc:=I0 k
Pe:=vN gl
Pf:=b7 aq Fa
Pg:=(0:bG)
Pi:=n<16384
Pj:=(2:bG)
Pm a:=bY (a:=3)
Pp a:=bY (a:=9)
Pq:=_B.di B
Pr:=jp g
Ps a:=λ h2=>a
Pt:=pO - i
Pu:=ul - 1
Pv:=nO r
Pw:=x::r
Rx a b c:=by rw[ol (aP fr zk i (ny fQ) fa fr os ki zD (aP mZ z6 a) ot ti) D n',<-#[lO,λ l hl=>#[wr z H' b,c,?_]]]
Py:=a+k
Ry a b c:=by rw[m4 a1 a2 p6,m4 b1 b2 a];have:=x_ GC j b a1 b1 c
Rz a c f:=by rw[Fg aU aU (aT (a A) d4 (hY,m) lm c d! #[Le,f])];rfl
RB a b c:=gz (pS uG d4 a Z j_ kL.cp bt ac b aN R bE #[kL.later s1,sl (c<15)])
RC a b c:=c0=a/\m? k/\z'=da - k/\lV/\e? H2 l h! vM/\dn++lc b m k=vH c t m 0/\Jx<=k
RE a b c:=a0=a/\m? k/\z=da - k/\od/\e? H' l h! vM/\dn++lc b m k=vH c t m 0/\Jx<=k
RF a b c:=.p a E9 b Fp Fo H6 s6 s6 n2 Cq c
RG a b c:=by rw[<-wc a nd (BE sd f4 Je iF hm sd ?_ bN b hn R c),lS [_,zF p0] iF]
RH:=n8 t3 aN r7 K7 ay jV gp cR
RI a c d:=by(have z3:k=b:=by exact a c d);subst z3;have fU:wn (hV>=jx):=Ku OO
RJ a c e:=pS a d4 (hY,n) Z j_ c ep aN R bE e
RK a b c:=pB a b (cQ Z Rt hb A.bj.LD c) ap bE mN dk sN (b_ k9)
RM a c e:=pS a hr (hY,n) Z j_ c KB R bE e
RN a b c:=zs (lI (KT PySem.F.slot_list_extend PySem.F.type_list_extend a b (iz aI fQ))) c
RO a b c:=zs (lI (KT VN VP a b (iz aI fQ))) c
RR:=de uD rg de rj uF cm rk Di
RS:=bt rI ey m1 Rs
RV a b c:=zB 3 (f:=dT (bQ (!(iE PQ nC==[])))) R a zc b c ("scalar",3) ad
RW a b c:=ds zO d! (b8 _ dx fs li hw Db a b) c
RX b c d:=b (RQ (λ a:WD=>[Fy,fd,ls,wp,vN br]) c gx d)
RZ a b c:=by obtain⟨u,hu⟩:=rW us i AU (by exact a b c);have iF:zT=bF sd:=by exact Ah h0
R0 a b c:=by rw[Fq ([33,36,35]:aD) ([33]++[36,35]),t_,a]at b;(conv in J9=>whnf);simp only[kR,uR];revert c;rw[Kh hQ [3,22] b0 K9]
R1:=vt [27,29,28,20,21] [35]
R2:=vt [27] [27,29,20,21]
R3 a b c:=a0=a/\od/\k? b l1 kl/\j! H' l2/\c/\kl.length<=1+r3/\K3 r3
R4 b d e:=b (RQ be (d×Fh) [Lg] bC K? dv e)
R5:=vt [36] [24,16,17]||hQ [24,16,17]&&mS [35]
R7 a b c:=by rw[a,jj,show iP bD e 31=v' from zC 31,show iP b 31=KZ from zC 31]at c;rw[aR];rw[zv hq v' KZ]
R9 a b c:=∀(a:Hp)(u:V),yH->u=dP b->Em (aC K H1 q xs) (aJ K H1 q xs) c
R_ b c d:=b (RQ be (BK×Fj×sm) [f6,dP ls,bA] bC c gx d)
R' b d e:=b (RQ be (d×kp) E! bC (sq/\a!<=b?/\b?<=si) dv e)
R!:=rI ey
R?:=rI nT
Sc a b c:=k? H2 l1 kl/\j! a l2/\b/\kl.length<=1+r3+k/\K3 c
Se:=vt [29,20] [29,28]
Sf:=vt [28,21] [28]
Sg a b c:=Fe a qP/\j! b qe/\e? c l h! vM/\dn++((zJ yW nw j).2++lc ya m nw)=vH ya t m 0/\Jx<=x
Sk a b c:=aW a ch b ac A.g.uc mR wh h1 (kG c lj D4 lj DB)
Sm:=v! (E0 1) A.g.Pk ad
Sn a b c:=by(have hn:kc (Ru - y!)=a - b:=by exact c);rw[cx]
So b c e:=b/\j! c r/\(Ch.ir (tx t us) a\/ox e=false)/\rb ke p? (i<a/\zE i)/\ke.length<=a
Sp a b c:=aT (a A) d4 b EJ ck (λ H4 s4=>c)
Sq a b c:=by obtain⟨a,b⟩:=fS wm p uV c
Sr a b c:=by simp only[xL,a,b,xI]at c
Sv c e f:=aT (IW A) hr (oe,b,c) (ae Z bt ad e) bE f
Sz a b c:=sw 2 n a b! ng b n hn Z ac A.g.tw c
SB a:=nb ["self","book","ways","text","scalar"] a ("scalar",4)
SC a b c:=by rw[m4 a b c];rw[K_ h1,h2,rJ V? Ww]
SD a b c:=aT (Jt A) hr a ep ap bE #[pn lY b fA,c]
SE a b c:=(∃p q,a0=a)/\∀(i n:O),i<k->bd gd i n->as ((b).all λ y=>c)
SF a b c:=by rw[E' (CY (by exact a b c))]
SH a b c:=Fu 3 (xs:=jI a) n! k' b kB R c
SK a b:=by have:a:=eW (b (List.length_eq_zero_iff.mp h))
SL a b c:=by obtain⟨a,hy⟩:=fS rW I i (b - 1) PE a_;have c:(zS)=bF pV:=by exact yh kH
SM c e f:=by rw[<-k3];have:=Lb Fm c B y t e E? hk hn f;rw[cP (pI+1=k) zj cH]at az;exact this.symm
SN:=hQ [35,36,23,26]
SO a b c:=a (xs:=b) n! k c kB R nd
SQ a b c:=by rw[ci (ah (ud a) ax i hi b) c]
SR a b c:=by simp only[t6,rc,xI,a,b,c]at h1
SS a b c:=d! (b8 _ dx fs dS s2 su a Db b c)
ST:=pW pa yk ym
SU a b c:=by refine ah (h.2 i v hv) ax a h1 h2;exact(af b h1 c)
SV a b c:=by obtain⟨⟨uv,us⟩,a⟩:=q;rw[cz aO zP gV eP hU];dsimp only at gV eP b⊢;subst gV;have hl:Fi:=hU.1;unfold c
SW a b c:=aW fe a b ch c cM Rv (λ hq=>c5 λ H3 s3=>good ?_ H3)
SX a b c:=#[λ c0 H2=>∃z',z'<a - b/\c,wx,?_]
SZ:=r.key.all dT (K!==[])
S0 a b c:=a/\aj H2 b/\e? c r dn.map/\dn++vG j zw.2=vG fi (vv fi).2/\Jx<=j
S2 a b c:=xg (P:=λ v _=>v=wI) hU g? bm zU a b c
S4:=Dt oa b e
S6:=Ew q8 Rw s4.trans
S7 a b c:=a (Ch.zm u) (b u) (JE u) (Ch.vX u) (Ch.vi u) (c u) (Ch.xR u) (Ch.yV u)
S8 a b c:=(∃p q,a)/\∀(i e':O),i<k+1->bd l i e'->as wj (b=0) (i - 1) c
S' a:=vN jt xU y a
S! a b c:=#[on a s4 b,c,show fz<=64 by exact le_of_eq_of_le g8 a3]
S? a b:=by simp only[rd,a]at b
Tc:=by(conv=>lhs;rw[<-List.dropLast_concat_getLast h0]);rw[rl];rfl
Td a:=by rw[<-a,List.not_all_eq_any_not]
Tf:=lF rp
Tg a b:=VL (a:=b)
Th:=by intro n hn;obtain⟨i,hi,rfl⟩:=Vq hn
Ti:=rx vH QA t (V6 m)
Tj a:=Fr (p<cc) uV a
Tk a b c:=rS _ _ _ kl ke R a b c ?_ Ri c9 Ri gT
Tl a b c:=∃a j',or x=bn e/\j<j'/\bd L j' e/\(F j).2=(b,c)::(F j').2
Tm a b:=fS a Dq b
Tn a b:=cP a Qc b
To a b:=List.find?_cons_of_pos (p:=a) b
Tp a b:=List.find?_cons_of_neg (p:=a) b
Tt:=by rw[PD,xO]
Tu:=by rw[ii hg,c? (by simpa using hg)];rfl
Tv:=by rw[Vs]
Tx a b c:=by refine gI 2 a (P1:=pG u b) c λ u H1 s1 hu=>?_
Ty:=CY h
Tz:=vp rp n
TA a b c:=by rw[sZ]at hi;obtain⟨J,hJ⟩:∃J,a=J+1:=#[b,gu c hi]
TB a:=λ i=>by rw[<-a,DM]
TC a b c:=∀{H1:Hp}{i:O}{a:DR},yH->b->∃xs,aC K c qk xs/\kF xs bD i=bn uU
TD:=cd Nat.le_of_ble_eq_true
TE a b:=jt Q7 a b
TF a:=gu Wd a
TG a b c:=a (b c) e.s.heap.objs.size e.f e.aK
TI:=wk jh==0
TK a b c:=aW a ch hx cM n1 (jW bQ (Er hn ?_)) m0 K' b s4 (EK hm ?_ c)
TM a b:=Vt (a b)
TO a:=bN Qc a
TP a:=DT (jp (uB B a))
TQ:=ph (pb×O)
TR a b c:=by refine gB (a (dY (b I4 ad mX (aE ay _ t4 (.inr (jV Lf)) R)) ai) c);rw[e];rw[vD];unfold BZ Vk;rw[hx]
TT a:=a×jZ×aD
TU a b c:=k? a l1 wV/\k? b l2 vA/\c/\wV.length<=1+r3+el/\vA.length<=r3+el
TW:=bQ (ji (eR x))
TX:=La r.to.all
T0:=gh (by simpa using hg)
T1:=y7 hb.later
T2:=jt uB y n
T4:=PY pY (r.to.getD 1 0)
T5 a b c:=Az l a _ _ R R b c ?_ ?_
T6 a:=a×DR×we
T7 a b c:=mB (Ai X.K (aL a iter)) (dC i) kd (j4 X nS elt) (J6 (·.2)) σ b c
T9:=if jv x=10 then 10 else 4
T_ a:=P6 a yz lf
T' a:=Ld JP a
T! a:=Vv a
T? a b c:=(Mt.info a Mt.Rules.none z1 b).c
Ub:=kU Mt.canonRows
Uc a:=as (QP a)
Ue a b c:=.ListComp a [#[ik y jm,b,c,0]] nS cL
Uf:=jw ji
Ug:=m? fz
Uh:=vh cc
Ui:=if ws then 0 else -1
Uj a:=Lh a ji
Uk a b:=show a by simpa using b
Ul a b e:=by rw[cz uZ a,pr aQ bb hR];dsimp only at fq dQ b hW e jX fY⊢
Un:=max 3 d.ns.length
Up:=pp el - 1
Uq:=o6 7=false
Ut:=t' n
Uv:=(gy).split
Uw:=MtLine.lacks o||op
Ux:=Mt.weight3 e !=0
Uy:=Mt.weight2 e !=0
Uz:=Mt.weight1 e !=0
UA a:=Dp a Fn
UB a:=vN (m.getLast a)
UD:=t3==2
UE:=la je
UG:=KN.later (xh.trans s4)
UH a:=a (DP s4)
UK:=t3=2
UL:=PJ 10
UM:=("kind":a4)
UN:=o6 31
UO:=q.testBit 31
UP:=(16255:O)
UR:=cc - 1
US:=ha.later s1
UT:=c2&&uO (pg z!)
UU a:=eW #[by omega,a]
UV:=G8.trans s6
UW:=jh::gd
UY:=0<da
U0:=sorts hK d2 fb
U2:=iV acj
U3 a:=fl (a "kind")
U4:=BS.xN p hp
U6:=x.conj==2
U9:=up&&!C?
U!:=ac DB
U?:=Mt.flag B
Vb:=ac Dz
Vc:=C!==2
Vd:=uU==4
Ve:=Dx vN
Vg:=o9 g
Vj:=e - b - 1
yN.1(n:O):cr:=Mt.weight1 n !=0||!UN
aJf(A:Y):cA "variable_fits" (yi q4 (it (yN n))):=sG A.atr ayY λ n f aK A' cs s H0 H E hr hp=>by refine gB (fP (gO gL ni LB n Z ai) o3 qX (aT (ml A) hr (j?,31) bt Z OJ K2));rw[e,BG,show iP gs 31=UN from zC 31];rfl
Iw(p:HU)(e:O):_B.mT p e=G1 (IQ e) (match p with|an q=>UO==v'|aF=>false) (qA e&&yN e):=by unfold _B.mT IQ qA yN Mt.variable_;cases p with|aF=>dsimp only;rw[Kh Uz b0 Uy];generalize Ux=b2;generalize v'=b3;revert b0 b1 b2 b3;decide|c! q=>dsimp only;generalize Uz=b0;rw[KV Uy b1 Ux];generalize v'=b3;generalize UO=b4;revert b0 b1 b2 b3 b4;decide
Rp{B:hA}{i n:O}(h:bd l i n):xF B (I0 q6)=xF B (I0 i)++_B.lQ B n:=by rw[I1,h,_B.ZQ];simp[xF]
adZ{B:hA}(F:Pq)(n:O):a6 (_B.dI B n)<=18:=by unfold _B.dI;split;(.rw[Ae (F.Ls n)]);.rename_i h;refine bM (_B.map_some h) λ r h1 _ h3=>?_;rw[h3];exact(F.row 1 r b! h1).most
aaw{B:hA}(F:Pq):∀m:aD,a6 (xF B m)<=18*fz|[]=>by simp[xF]|x::m=>by have ih:=aaw F m;(have h1:a6 (_B.lQ B x)<=18:=by unfold _B.lQ;split;(.simp);.exact adZ F x);unfold xF at ih⊢;rw[List.flatMap_cons,I2,mD];exact Ki h1 ih
JB{X:Cx}{H:Hp}(h:ba H u l):Em (aC X.K H q xs) (aJ X.K H q xs) je:=by obtain⟨a,rfl,h⟩:=h;exact #[a,_,rfl,.inl (dk h),by rw[eH]]
BZ.1(B:hA)(r:Mt.Row):cr:=Vk B r&&jw (xb 2)==xb 2 pY&&(jw (U? 12)==U? 12 pY&&(jw (xb 3)==xb 3 pY&&(w_).all dT (xb 2 x==(if xb 2 pY=10 then 10 else 4))))
aEq(A:Y):wy (gn 5 "canonical_row_stays_cluster") y5 (as Uf/\TX/\t3<=2) iE BZ r:=fx A.aJK Z8 λ a e H hr hp U hU=>by rw[i3,cz lM λ hR fA bf bJ mf hle=>?_];rw[f5,<-jd (id fA) λ ar y hv bo ay hy cR=>?_];dsimp only at fA hv bo hy cR bJ mf hle bf;subst hv hy;rw[cx,c3 yY (i? Z8.nd) ru bU];(obtain⟨x,l,hx⟩:∃x l,gd=x::l:=by cases h:gd with|nil=>rw[kr h bf]|kA x l=>exact(d3 x l R));(have yl:as Oi:=by rw[hx,I3,ed]at mf;exact mf.1);rw[hx]at cR;refine aW tL (aT (aot A) hr (hY,jh,x) (ae Z bt rI jh Lu x ad cd tM) bE #[nf,bJ,yl]) j1 hq j1 hq;(.rw[i2 cM];unfold BZ;rw[hx];simp only[Vl];revert hq;dsimp only;first|(rw[LA AB AA Ak])|(cases AB<;>cases AA<;>cases Ak<;>simp));. (have fD:as AB/\as AA/\as Ak:=by revert hq;dsimp only;first|(rw[LA AB AA Ak])|(rw[Nt AB AA Ak]<;>simp));cases l with|nil=>rw[TR (fP (y:=false)) (dj (m:=1)) (λ h=>by cases h)];simp[fD.1,fD.2.1,fD.2.2]|kA z l'=>(obtain rfl:l'=[]:=by rw[hx]at hle;cases l' with|nil=>rfl|kA _ _=>simp at hle);(have tO:qh z:=by rw[hx]at mf;simp at mf;exact mf.2);rw[TR fP (dj (m:=2)) xu (bZ (aT (akp A) d4 (hY,x,z) (ae Z bt k! iQ x ad cR k! iQ z ad cR) bE #[nf,yl,tO]))];simp only[Vl,fD.1,fD.2.1,fD.2.2,I5,eo,List.drop_succ_cons,PA,I3,List.all_nil];rw[zn wn (ps (2:O)=1),jj];show _=((_&&_)&&(jv z==T9));generalize(jv x==0||(jv x==4||(jv x==8||jv x==10)))=q1;generalize(jv z==T9)=q2;generalize(if ll x=2\/ll x=3 then ll z==3 else if ll x=1 then ll z==1||ll z==3 else bH)=q3;first|(revert q1 q2 q3;decide)|(cases q1<;>cases q2<;>cases q3<;>rfl)
J1.1(H:Hp)(v:V)(l:aD):Prop:=∃a x y z,v=dP a/\H a=fn .tup [x,y,z]/\cT H z l
aA2(x y:cr):(!ca (bQ x=bQ y))=!(x==y):=by cases x<;>cases y<;>decide
aHb{X:Cx}{σ:ee}{H:Hp}{a b:dl}{cL:ef}{x y:cr}(ha:jG a x)(hb:jG b y)(hm:yM NotEq b):mi i6 NotEq [b] (!(x==y)):=Te.of (uK SJ aI aI hm) λ H1 s1 Q q=>mF US λ H2 s2=>mF T1 λ H3 s3=>(eI R _ R (by rw[aA2];exact q H3 za))
Rc(A:Y):h? "weights_hold" (RQ be (V×V×aD) [a.1,a!] bC (J1 H a! b?/\Hr b?) dv (it (Vm aF b?))):=fx A.aL4 FK λ a e H hr hp U hU=>by obtain⟨vb,v,l⟩:=a;obtain⟨⟨ar,x0,y0,z0,hv,bo,ay,hz,cR⟩,a3⟩:=hp;dsimp only at hv bo hz cR a3;subst hv hz;rw[cx,c3 yY (i? FK.nd) ru bU,c3 (U1 3 (hi:=bD je) n! k ((∃p q,a0=[Ce,oC,G7,p,q])/\∀(i e:O),i<k->bd l i e->as wj (i=0) (i - 1) e) kB R FK.nd q9 ep wD je r7 K7 ay jV gp cR bN als a3 m' wt oP e h) ?_];(.intro k a0 H2 s2 hk j;(rw[LM aU aU a9]);(have cj:k<je:=by exact PC hk);obtain⟨e,he⟩:∃e,bd l k e:=#[_,F! cj];(have ge:lv[k]?=w9:=by rw[np he]);have Sh:∀H3,aj H2 H3->aJ K H3 ay lv:=λ H3 s3=>jV vO cR;rw[c3 k0 (bz 4 FK.nd) e (bU ad aN (λ H3 s3=>dd (Sh H3 s3) (by rw[dV Vn b_ ge])))];have good:as wj (k=0) i1 e->∀H3:Hp,S8 ([Ce,oC,G7,m2 BP,w9]=[Ce,oC,G7,p,q]) i e':=λ h H3=>#[oP,λ i e' hi pL=>by by_cases R8:i=k;(.subst R8;rw[a7 he pL pL,h]);.exact hj i e' f4 o_ hi R8 pL];have bad:wj (k=0) i1 e=false->(bQ hE=bQ (Vm aF l)):=eW (by rw[vD,At];intro b9;have:=(_B.Ph l aF).mp b9 k e he;rw[a7 h az az]);refine qJ (N1:=λ c0 H3=>S8 (c0=[Ce,oC,G7,p,q]) i e') gz ni azA e bm bB bB (λ c0 H4 s4 h=>c5 h);(.by_cases j8:k=0;(.subst j8;refine aW rs (du (y:=bH)) (eT aN ai) NZ bi (aG cM Rv) NZ;rw[Iw,io hx,pC]);.obtain⟨e1,he1⟩:∃e1,l[i1]?=an e1:=#[_,LS PE cj];(have ge1:lv[i1]?=bn e1:=by rw[np he1]);(have aR:wj (k=0) i1 e=(KZ==v'):=by rw[Iw,io hx,ii j8,he1]);have h0:wn (Pg+jx=0):=AE avF j8;refine SW (eT aN ai) (eB (aHb LH ml (dp e,31) bt bm OJ LH ml (dp e1,31) bt (iQ e1 ad N9 (λ H3 s3=>dd (Sh H3 s3) (by rw[cP ((BP - 1)=bF i1) amH j8];exact b_ ge1))) OJ)) hq;(.rw[R7 h0 bD e1 hq]);.rw[R7 h0 bD e1 hq]);. (have aR:wj (k=0) i1 e=(qA e&&yN e):=by rw[Iw,c? (by rw[hx];simp)]);refine SW tL ni aAE e bm (eB (dF (bO ni aJf e bm))) hq;(.rw[aR];rw[zv hq (qA e) (yN e)]);.rw[aR];rw[zv hq (qA e) (yN e)]);.intro a0 H2 s2 j;(rw[nc (λ bu hj=>gM bu ax p q bV) bV]);rw[i2 cM];rw[PD];refine(_B.Ph l aF).mpr λ i e he=>hj i e ?_ he;have:=gD he;rw[dw PC]
JU.1:(pM V)|em z=>zi z|_=>false
oK(n:O):zi gs=yB:=by rw[EA Zj PH];constructor;(.exact eW fh);.exact eW #[iV rY,h]
aHZ(r:q?)(n:O):(Lh lC Hv k kz sP JU).map id=jI Uj lC Hv i It i:=by rw[Vo,PK,PK,hG];(have e:(JU∘λ(k:O)=>kz sP)=(ji∘λ i=>It i):=by funext k;show zi sP=ji BN;rw[<-oK];congr 1);rw[e];rw[L! k];show e8 sP=kz bF BN;congr 1
rP.1(r:q?):Prop:=ey<=mJ/\mJ<1114112
Jt(A:Y):cA "scalars_of" (RQ be (V×O×q?) [a.1] bC (mG H dL db/\rP b?) gx lr (Mt.inside b?)):=k7 A.at1 KH cd b1 a? λ a f aK A' cs s H0 H E hr hp U hU=>by obtain⟨v,num,r⟩:=a;rw[cz bW λ aS hle i9=>lw ar hv bo];rw[MJ hv bo i9];have eh:nb ["record","scalar"] FJ ("scalar",1):=jy (mU [match cu FJ with|.Return an e p::_=>.Assign [] e p|_=>.Pass #[0,0,0,0]]);rw[Sn O6 ey JF,<-mW (Mj (Qe 1) (f:=id) (t:=JU) R KH.nd eh q9 bt k! iQ ey Z bo m1 k! iQ mJ Z bo N5 a? (by rw[hn];rw[n? cP Op Vf i9]) (λ s' dH C cl fp k hk=>gz ni ua sP ap) (λ s' dH C cl fp k hk ht=>ap) mY r! KH.nd) h' bx bx ?_];rw[h,aHZ,hn];rfl
aKG(A:Y):AG (h? "combining_extends") BL ky hZ n (r4==4&&ll n !=2):=fx A.ak0 Xf λ a e H hr hp U hU=>by rw[i3,pK hR fA aR,f5];dsimp only at fA aR;rw[LT Cb n n,<-Fu 2 (xs:=jI hZ) n! k ((∃p,a0=[tc,an v,p])/\∀(i n:O),i<k->hZ[i]?=an n->as (r4==4&&ll n !=2)) kB R Xf.nd SD (v,num,r) s1 aR qU cw vo cw a d' h m' wt zh n h ?_ ?_];(.intro k x a0 H2 s2 hk j;(rw[nc (λ aU hj=>cF aU cU p a9) a9]);(rw[nk n bu bu]);have hs:=ng Cb n hn;have eO:=fH s2;refine aW fe xa (sw 2 n eO b! hs Z ac A.g.tw ad) A.g.EI (eB (eT (sw 3 n eO b! hs Z ac A.g.sI ad) ac I6)) bB bB;(.rw[i2 cM,At];intro b9;have h1:=na b9 n Ms;simp only[ed,gk,bne_iff_ne,ne_eq]at h1;simp only[t6,dX,rc,xI]at hx;exact aB4 h1 hx);.refine K' H3 s3 (λ i m hi hm=>?_);by_cases e:i=k;(.subst e;rw[a7 hn hm hm,Sr rd dX hx];simp only[ed,gk,bne_iff_ne,ne_eq];exact aq6 hx);.exact hj i m NG hm);.intro a0 H2 s2 j;(rw[nc (λ bV hj=>cF bV cU p cI) cI]);rw[i2 cM,Tt,Th,hj i _ (by rw[eH,hi]) F! hi]
HD(g:tB)(l:aD):(lv).map M2=gt Vg bQ:=by rw[hG,hG];rw[L! n];show bQ (g (eR (vN n)))=bQ (g n);rw[gR]
Im(h:je<=1000):y1 a6 lv:=by rw[eH,n? h]
abq{r:q?}(h:rP r):y1 a6 hZ:=by have h1:a6 hZ<=a6 lC HR i It i:=Vr _ _;rw[jf,List.length_range]at h1;obtain⟨h2,h3⟩:=h;rw[n? (show Op by exact am1 h1 h3)]
aD9(A:Y):h? "canonical_row_without_hangul" (jM mE y5 Nj y5 ky UW c Nx):=p3 A.auD N_ λ a f aK A' cs s H0 H E hr hp U hU=>by rw[i3,cz dm λ hR aS _ a3=>jd aS λ ar y hv bo ay hy cR=>?_];dsimp only at hR hv bo hy cR a3;subst hv hy;rw[cx,<-gB (cn (iT vu xJ bD jh ep rI jh) o3 qX eS mt zd (PN tE n HX) C5 e6 Li (zB 2 (f:=dT (bQ (lG mx nC))) R N_.nd Lo Kp zM) (λ s' dH C cl fp k x hk=>by(rw[nk n aU aU]);exact(vu xJ gs ep ad).imp rt v e B7 gR) N_.nd h' bx bx (dk (by rw[h];exact GG z qH HX gd)))];rw[e,CQ,PP];rw[vD];rw[I3,xQ];congr 1;rw[Tv];congr 1;funext n;show(!HX)=_;rw[CQ,PP]
ara(A:Y):wy (cA "scripts_are_named") rE (namesOk d/\Nj) ND ca (x<F_):=p3 A.aku IZ λ a f aK A' cs s H0 H E hr hp U hU=>by rw[i3,cz gG λ hR a9 _ Ep a3=>jd a9 λ ar y hv bo ay hy cR=>?_];rw[f5,MH hy a3 Ep,cx,<-gB eS mt vP (PN tE n ca (n<F_)) xT e6 Li (zB 2 (f:=dT (bQ (CW (nC<F_)))) R IZ.nd zc ["book","record","script"] J5 ("script",2) zM) (λ s' dH C cl fp k x hk=>by(rw[nk n bu bu]);refine i0 (gO cK ad (aT (abP A) hr (b,d,kk) ep Z bE #[nf,Ep])) n4;rw[e,gR];refine jW bQ (Vt ?_);show(j?<bF Un)↔n<Un;exact Int.ofNat_lt) IZ.nd h' cw cw (dk (by rw[h];exact GG z qH ca (n<F_) gd))];rw[e,C6];rfl
ajA(A:Y):AG (h? "pictures_hold") BL (!Nl||ky hZ n Gu):=p3 A.atd O7 λ a f aK A' cs s H0 H E hr hp U hU=>by rw[i3,pK hR fA aR,f5,<-ah (id fA) ax ar hv bo,MU fA aR bo,LT Cb n n,<-ga tL LH ml (dp nT,12) bt rI nT OM hx m0 gB eS mt vP gt hZ tE n Gu xT e6 (pR 2 (f:=dT (bQ (jv (eR x)==0))) R O7.nd Lo PB SD (eC ar,num,r) s1 aR qU dA vo dA a d' h a? (by rw[eH,abq aR]) (λ s' dH C cl fp k x hk=>by(rw[nk n bV bV]);refine i0 (dY Sz aQ Cb ad ac A.g.JN) n4;rw[e,gR];rw[vD,z_,Mv]) mY r! O7.nd) h' eG eG (dk (by rw[h];exact GG z qH Gu hZ))];(.rw[show iP bD nT 12=Nl from zC 12]at hx;rw[hx];rfl);.rw[show iP bD nT 12=Nl from zC 12]at hx;rw[e,hx,C6];rfl
MQ(g:tB)(l:aD):an NJ lv M2=an NJ Vg bQ:=GG z g l
abV.2(C:a5)(pre:bR->my t?)(g:bR->pM t?):RP:=RQ be (BK×V×O×t?) [f6,a!] bC (eg C dL H/\lq H a! b?/\pre fd br) dv (it (g fd br))
att(A:Y):jE "contraction_holds" (abV mE (λ d s=>s.key≠[]/\La s.key.all/\s.key.length<=1000) (λ d s=>(s.key.all dT (K!==[]))&&(iE Mt.sorted s.key&&wk (s.key.headD 0)==0))):=p3 A.asW EH λ a f aK A' cs s H0 H E hr hp U hU=>by rw[i3,cz gG λ hR aS bf bJ a3=>gQ aS λ ar y z hv bo aU tz=>ah aU ax ay hy cR];rw[f5];dsimp only at hv bo hy cR a3 bf bJ;subst hv hy;(obtain⟨x,l,hk⟩:∃x l,o!=x::l:=by cases e:o! with|nil=>rw[kr e bf]|kA x l=>exact(d3 x l R));rw[oc hx as Oi na bJ x (by rw[fj hk List.mem_cons_self]),c3 yY (i? EH.nd) ru bU,<-ga (bO (mt zd (r.key.map tE n (!AM)) R C5 e6 Li RV EH.nd ["book","record","key","scalar"] PM (λ s' dH C cl fp k x hk=>by(rw[nk n a9 a9]);refine i0 (gO gL (dj (m:=a6 Kw) I4 RJ w8 C7 nf qU h (FO h.now)) ai) rt u e ?_;rw[e,gR];exact jW bQ (Pd _)) EH.nd h' bx bx (dk (by rw[h];exact MQ qH (!AM) o!)))) hq λ hq=>gB (cn (pS aeO hr ((b,d),dP ay,o!) Z j_ C7 KB R bE (fG Np (.inr fT ay Lf) bJ a3)) o3 (bZ (dY L0 x hx Lu x ad (by rw[dV hk tM R]) ai)))];(.rw[xQ]at hq;(have:SZ=false:=by rw[Td rc,hq]);rw[qC]);.rw[xQ]at hq;(have:as SZ:=by rw[Td rd,hq]);rw[Gp e az hk,AC,z_];show bF (qf x)=0↔qf x=0;rw[Mv]
agU(A:Y):wy (jE "canonical_steps_end") rE Nj (jt Mt.ends Mt.STEPS jh&&((w_).all dT (K!==[]))):=p3 A.aIq Gy λ a f aK A' cs s H0 H E hr hp U hU=>by rw[i3,cz dm λ hR bu bf a3=>jd bu λ ar y hv bo ay hy cR=>?_];rw[f5,MH hy a3 bf];(have hsz:Hr w_:=by rw[Mk aBm a3]);rw[cx,Tx Gy.nd (cT H u w_) (aan (i:=1) zM ai mX (jg ay Om t4 (jV dZ cR) ?_ (λ p H2 s2=>Be p ?_)))];(.rw[Fq (1:bG) iC (1:O),_H.uS,jf];rw[SK (t3≠0) bf,dw aq0]);(.rw[aX,show(1:bG)=iC (1:O)from rfl,Xs (by rw[eH,SK (t3≠0) bf,dw anD]),I9]);. (rw[ci (ah jY ax au bV vg) bV]);have fg:=fH s1;refine gB (cn (aT (aDo A) hr (hY,jh) bt Z (iQ jh ap ai d! dd (jV li bo) R) d! (fg.later s2)) o3 qX eS mt zd gt w_ tE n (!AM) C5 e6 (RV Gy.nd ["book","record","behind","scalar"] L5 Kr au vg a? (Im hsz) (λ s' dH C cl fp k x hk=>by(rw[nk n cI cI]);refine i0 (gO gL (dj (m:=a6 Kw) I4 RJ w8 fg.cp (fg.later s1) qU h (FO h.now)) ai) rt u e ?_;rw[e,gR];exact jW bQ (Pd _)) mY r! Gy.nd) h' cw cw (dk (by rw[h];exact MQ qH (!AM) w_)));rw[e,xQ];rw[AC,Tv];congr 1;funext n;rw[lS (!!AM) PT]
Ez(h:L4 n (i<a6 lv) (g n)):as (l.all g):=by rw[xO];rw[Th,h i _ (by rw[eH,hi]) F! hi]
Er{k n:O}(hn:bd l k n)(h:g n=false):false=l.all g:=by rw[At];intro b9;rw[na b9 n Ms]at h;cases h
EK{k n:O}(hn:bd l k n)(h:as (g n))(hj:L4 n (i<k) (g n)):L4 n (i<k+1) (g n):=by intro i m hi hm;by_cases e:i=k;(.subst e;rw[a7 hn hm hm,h]);.exact hj i m NG hm
azb(A:Y):wy (jE "prototype_stays") rE (∀x∈gd,(wH A6)) ND ky A6 y (pD 9 y==[]&&!A4 y):=fx A.aFc Nk λ a e H hr hp U hU=>by rw[i3,cz dm λ hR aS bf bJ=>jd aS λ ar y hv bo ay hy cR=>?_];rw[f5,MH hy bJ bf,cx,<-Ng 2 (xs:=Om) n! k SE [tc,oC,p,q] zl (pD 9 y==[]&&!A4 y) kB R Nk.nd zM KS m' wt oP n h ?_ ?_];(.intro k x a0 H2 s2 hk j;(rw[LM aU aU a9]);(rw[nk n bu bu]);have eO:=fH s2;refine SH zl ((∃q,a0=[tc,oC,jL,q])/\∀(i y:O),i<k'->zl[i]?=an y->as (pD 9 y==[]&&!A4 y)) Nk.nd RM MY eO.cp (C8 s1) qU bx vo bx a d' h m' wt zh n h ?_ ?_;(.intro k' x a0 H3 s3 cj j';(rw[ci (bq I_ λ bV ju=>cF bV cU q' cI) cI]);(rw[ci (ah (eK cj) ax m hm dB) dB]);have kL:=C8 s3;have ku:qh m:=na ng bJ n hn m (C3 hm);refine TK fe RB (hY,9,m) A.g.UQ (9:O) (eB (bO (pS z4 d4 ((b,d),11,m) Z j_ kL.cp bt ac A.g.adj aN R bE #[(kL.later s1).parts,ku]))) H4 ju;(.rw[<-(Er hm ?_).symm,zv hx (pD 9 m==[]) (A4 m)]);.rw[zv hx (pD 9 m==[]) (A4 m)]);.intro a0 H3 s3 j';(rw[ci (bq I_ λ d6 ju=>cF d6 cU q' fL) fL]);exact c5 λ H4 s4=>#[oP,EK hn (Ez ju) hj]);.intro a0 H2 s2 j;(rw[nc (λ iH hj=>gM iH ax p q jF) jF]);exact aG cM Ef bQ (Ez hj)
aF3(A:Y):wy (jE "folded_stays") (λ d r=>True) ND (vR x==[]&&ky A6 y GD):=fx A.aCO Mf λ a e H hr hp U hU=>by rw[i3,cz dm λ hR aS bf _=>jd aS λ ar y hv bo ay hy cR=>?_];rw[f5];dsimp only at hv bo hy cR bf;subst hv hy;rw[oc hg (∀x,(vR x==[]&&ky A6 y GD)=ky (x::A6) y GD) dT (by rw[I3])];simp only[hg];refine Ng 2 (xs:=Om) n! k SE [tc,oC,p,q] M? GD kB R Mf.nd zM KS m' wt oP n h ?_ ?_;(.intro k x a0 H2 s2 hk j;(rw[LM aU aU a9]);(rw[nk n bu bu]);have eO:=fH s2;have a3:=aQ.dh.xi 8 n;(refine SH M? ((∃q,a0=[tc,oC,jL,q])/\∀(i y:O),i<k'->M?[i]?=an y->as (vR y==[])) Mf.nd (HA (xs:=[vN n]) (ys:=jI zl) (nU (ae ad ao)) RM MY eO.cp (C8 s1) ?_) qU bx vo bx a d' h m' wt zh n h ?_ ?_;(.rw[eH,Ae (Nat.add_le_add_left a3 1)]);.intro k' x a0 H3 s3 cj j';(rw[ci (bq I_ λ bV ju=>cF bV cU q' cI) cI]);(rw[ci (ah (eK cj) ax m hm dB) dB]);have kL:=C8 s3;refine TK RB (hY,5,m) A.g.C2 (5:O) H4 ju;(.refine(Er hm ?_).symm;revert hx;cases(vR m==[])<;>simp);.revert hx;cases(vR m==[])<;>simp);.intro a0 H3 s3 j';(rw[ci (bq I_ λ d6 ju=>cF d6 cU q' fL) fL]);exact c5 λ H4 s4=>#[oP,EK hn (Ez ju) hj]);.intro a0 H2 s2 j;(rw[nc (λ iH hj=>gM iH ax p q jF) jF]);exact aG cM Ef bQ (Ez hj)
ax0(A:Y):AG (cA "brackets_have_partners") BL ky hZ n (pD 8 n !=[]):=fx A.axm aap λ a e H hr hp U hU=>by rw[i3,cz dm λ hR lX hle i9=>ah lX ax ar hv bo];rw[f5,MJ hv bo i9,Sn O6 ey JF,c3 (Mj (MW 2) n! k ((∃p,a0=[tc,oC,p])/\∀i,i<k->qh BX->as (pD 8 BX !=[])) kB R aap.nd q9 RS N5 m' #[zh,λ i h=>by exact(nD h).elim]) ?_];(.intro k a0 H2 s2 hk j;(rw[nc (λ kE hj=>cF kE cU p jJ) jJ]);rw[hn]at hk;have eO:=fH s2;(have ek:y!+jx=bF BN:=by exact IK);rw[ek];refine ga ds gz ni ua bF BN ad (c4 (dF (bO (pS uG hr (hY,8,ey+k) Z j_ eO.cp bt ac A.g.OD ad R bE #[C8 s1,sl ((8:O)<15)])))) hx m0 K' H3 s3 ax i hi hs;(.rw[oK]at hx;simp only[ed,PT]at hx;rw[At];intro b9;have h1:=na b9 BN T! #[No B3 k (List.mem_range.mpr hk),hx.1];rw[bne,ip]at h1;cases h1);.by_cases e:i=k;(.subst e;rw[oK,hs,eo,PT]at hx;rw[bne,hx];rfl);.exact hj i NG hs);.intro a0 H2 s2 j;(rw[nc (λ kx hj=>cF kx cU p kn) kn]);rw[hn]at hj;rw[i2 cM,Tt];intro n hn;obtain⟨h1,h2⟩:=Vp hn;(rw[SQ h1 lZ lZ]);exact hj i (List.mem_range.mp hi) h2
Od.1(g:pM bG):V->V|em z=>it (g z)|_=>.bl hE
aaT(g:pM bG)(lo:bG)(n:O):fn HO.lst (h! lC Hv k kz (lo+vr) (Od g))=an NJ lC Hv k (g (lo+vr)) bQ:=by rw[MP hG]
aDK(r:q?)(g:tB)(h:∀n,yB=false->as (g n)):(hZ).all g=ky HR i (g BX):=by show(Uj lC HR i It i).all g=_;rw[EA xO xO];constructor;(.intro ha i hi;cases hs:ji BX with|false=>exact h _ hs|bH=>exact ha _ T! #[No B3 i hi,hs]);.intro ha n hn;(rw[SQ Rl.1 aS aS]);exact ha i hi
aqd(n:O)(h:yB=false):as (!Ut&&!t! n):=by(have h1:¬EF:=by rw[h];simp);rw[_B.p_]at h1;unfold t' t!;simp only[ed,rc,xL,PW,xI];exact aKS h1
au9(A:Y):h? "range_without_hangul" (p7 mE BL y5 ky hZ c Nx):=p3 A.anK NF λ a f aK A' cs s H0 H E hr hp U hU=>by rw[i3,cz dm λ hR aU hle i9=>ah aU ax ar hv bo];rw[MJ hv bo i9];(have hn:kc (Ru - y!)=O6 - ey:=by exact JF);rw[cx,<-gB (iT (mt zd (gt HR λ k=>lG sP) R C5 e6 (Mj (atm 2) (f:=Od lG) R NF.nd Lo JO q9 RS N5 a? (by rw[hn];rw[n? cP Op Vf i9]) (λ s' dH C cl fp k hk=>ni xJ sP ad) mY r! NF.nd) h' bx bx (dk (by rw[h,hn];exact aaT lG _ _))))];rw[e,aDK r _ aqd,xQ,Vs];rw[AC];funext i;show(!lG (dp ey+Ix))=_;rw[qx ((dp ey+Ix)=bF BX) IK,CQ,PP]
ajn(A:Y):AG (h? "digits_stand_in_tens") rE (rP r/\kU _B.di/\r∈d.book.props.getD 11 []) (ey==mJ&&ky UL i (kW 11 (ey+1 - nT+i)==i+1&&ca (nT<=ey+1))):=p3 A.an9 G5 λ a f aK A' cs s H0 H E hr hp U hU=>by rw[i3,cz gG λ hR a9 bu hF fu=>ah a9 λ ar hv bo=>bq bu cU hle i9];rw[f5];dsimp only at hv bo hle i9 hF fu;subst hv;rw[cx];rw[_B.arv hF fu];rw[c3 ei (i? G5.nd) em NK m1 (aY cV R! R?),<-ga (gg R! Rs) hx m0 gB eS mt vP gt UL tE k ca (md (kU _B.valAt 11 (NK+BP))=BP+1) xT e6 (aAb 3 (hi:=10) (f:=Od λ z=>ca (md (kU _B.valAt 11 (NK+z))=z+1)) R G5.nd zc ["book","record","nought","digit"] M_ ("digit",3) q9 ep ai iV akb a? b! (λ s' dH C cl fp k hk=>dY (pS Cd hr ((b,d),11,y! - nT+1+BP) Z j_ C7 bt ac A.g.XI (aY bT ad aN) R bE #[Np,sl ((11:O)<14)]) m1 aN) mY r! G5.nd) h' cw cw (dk (by rw[h];exact aaT _ 0 10))];(. (have:(ey==mJ)=false:=by rw[Vx];intro h;rw[h]at hx;simp at hx);rw[qC]);. (have:as (ey==mJ):=by rw[gk];rw[S? dX hx,AN hx]);rw[Gp e az C6,AC];funext k;show nK _ (CW _);rw[Vn]
nO.1(r:q?):g!:=if OH then[xz 0]else[xz 4,f_ 5]
afo(r:q?):as ((Pv).all ib):=by unfold nO;rw[w7]
aF7(r:q?)(n:O):gP f3 gs (nO r)=(if OH then n==0 else n==4||n==5):=by unfold nO;split;(.rw[wE];show as Gd↔_;simp;exact aKL);.rw[wE];show as (vS||Gd)↔_;simp;exact aCy
aAq(A:Y):AG (h? "conjuncts_hold") BL ky hZ n (if OH then Gu else r4==4||r4==5):=p3 A.aB2 Iv λ a f aK A' cs s H0 H E hr hp U hU=>by rw[i3,pK hR fA aR,f5,<-ah (id fA) ax ar hv bo,MU fA aR bo,LT Cb n n,Tx Iv.nd (∃a,u=dP a/\H a=an (.tup (nO r))) (Ic BM R? I6 m0 i0 (iI (ae ac A.g.JN ao)) h' bx bx ?_ m0 i0 (iI cm A.g.EI A.g.aiV) h' cw cw ?_)];((.rw[nq hx];rw[h,nO,l! As az]);.rw[Mo hx];rw[h,nO,l_ aah az]);. (rw[ci (ah jY ax au aS vg) aS]);have fg:=fH s1;refine gB eS mt vP gt hZ tE n (gP f3 mx r4 (nO r)) xT e6 (pR 3 (f:=dT (bQ (gP f3 mx (jv (eR x)) Pv))) R Iv.nd zc ["book","record","wanted","scalar"] IP ("scalar",3) (aT (Jt A) hr (eC ar,num,r) ep ap d! #[pn lY HJ fA,aR]) qU dA vo dA a d' h a? (by rw[eH,abq aR]) (λ s' dH C cl fp k x hk=>by(rw[nk n aU aU]);refine i0 (aLC (vs:=Pv) Sz fg Cb aN ad r7 (af au t4 (jV gp vg)) (afo r)) n4;rw[e,gR]) mY r! Iv.nd) h' eG eG (dk (by rw[h];exact MQ qH (gP f3 mx r4 (nO r)) hZ));rw[e,C6];rw[AC];funext n;exact aF7 r _
wb(l:aD):(Re).map kV=lv:=by rw[Bk uh hG]
aHf{a b:O}(h1:as (!t' a&&!t! a))(h2:as (!t' b&&!t! b)):f8 (PY a b):=by unfold PY;simp only[ed,rc]at h1 h2;have hj:=tX;unfold t! at hj;simp only[xL,PW,xI]at hj;rw[l_ awQ hj,c? (by rw[h1.1];simp)]
aA6(A:Y):wy (jE "composes_alone") rE (as Uf/\TX/\r∈Ub/\as ((UW).all λ c=>Nx)) (jw GP||(UD&&(TI&&(wk pY==0&&(xf ((Ub).C1 λ q=>q.to==gd&&!GP q.scalar)==1&&T4==aF))))):=fx A.azi Nc λ a e H hr hp U hU=>by rw[i3,cz uZ λ hR aS bf hs b9 fu gK=>jd aS λ ar y hv bo ay hy cR=>?_];rw[f5];dsimp only at hv bo hy cR bf hs b9 fu gK;subst hv hy;rw[<-wX aQ.ex λ dx fs mr sr co aq hb _ _ _ Lc _ _ _ _ gj Ay=>?_,cx,c3 k0 (i? Nc.nd) jh ru bU,c3 yY (bz 3 Nc.nd) ru bU,<-ga gz (pS z4 d4 ((b,d),15,jh) Z j_ C7 bt ac A.g.Ur ad R bE #[Np,hs]) hx bB];(.rw[show(as jw GP)from hx,Bool.true_or]);.have jN:jw GP=false:=hx;rw[AX jN];have iZ:0<N0 tj:=List.length_pos_of_mem (Vv #[fu,by rw[jN];simp]);by_cases h2:UK;(. (obtain⟨x,z,kQ⟩:∃x z,gd=[x,z]:=by match gd,h2 with|[x,z],_=>exact(d3 x z R));have yl:as Oi:=na b9 x (by rw[kQ];simp);have nx:=na gK x (by rw[kQ];simp);have nz:=na gK z (by rw[kQ];simp);(refine ga fe (gg RH ai) (du (gg L0 jh hs ad ai) bi (eB (gg L0 x yl Lu x aN (by rw[dV kQ tM R]) ai))) hq λ hq=>gB (dY (i:=mx N0 tj) (xg (jO hr) (cQ Z Rt hb A.bj.ad6 Lc) aN (λ u y H1 s1 e1 e2=>(aE co (vN (tj eJ gd)) e1.now ?_ ff))) ai);(.rw[kQ];show false=(bH&&((jw qf==0)&&((qf x==0)&&_)));rw[kQ]at hq;by_cases h3:jw qf=0;(.by_cases h4:qf x=0;(.rw[h3,h4]at hq;simp at hq);.rw[Mq h4,re,C9,C9]);.rw[Mq h3,re,C9]);.have oE:=e2.now;subst oE;rw[<-Ay gd iZ];exact dJ.t dZ gj (by rw[wb];exact Lf));.rw[e];rw[vD];((have jb:jw qf=0/\qf x=0:=by simp only[xL,rd,dX]at hq;exact aD2 hq);have f7:as UD:=by rw[h2];rfl);(have hj:f8 T4:=by rw[kQ];exact aHf nx nz);rw[hj,f7,eo,show(as TI)from by rw[show wk jh=0 from jb.1];rfl,show(as (wk pY==0))from by rw[kQ,show wk ([x,z].headD 0)=0 from jb.2];rfl,eo,eo];show nK _ ((N0 tj==1)&&bH);rw[I5,q!,dX,gk];exact al1);.refine ga rs (du (y:=bH)) (gg RH ai) j1 h hq NZ;(.rw[S? dX h,kr cP UK As h h2]);.rw[Mq h2,re]
Gm{m:aD}(h:uh l=uh m):l=m:=by have h1:=rr (List.map λ k:Key=>match k with|.inl z=>C_|.inr _=>0) h;unfold uh at h1;rw[hG,hG]at h1;simpa[Function.comp_def]using h1
azK(d:bR){k:O}(h:k<3):d.book.seqs[k]?=ty PZ k []:=by(have e:d.book.seqs.length=3:=by show a6 (Mt.byKind Mt.SEQS d.ss)=3;unfold Mt.byKind;simp[Mt.SEQS]);rw[SF TH h e]
ajV{H:Hp}{aq:fO (Io×V)}{rows:fO t?}(h:Paired (λ(kv:Io×V)(r:t?)=>kv.1=uh o!/\cT H kv.2 gd) aq rows)(l:aD):match rows.find? λ r=>Ca l with|an r=>∃v,HS b7 aq=an v/\cT H v gd|aF=>f8 HS b7 aq:=by induction h with|nil=>rfl|@kA kv r aq rows q t ih=>unfold b7 at ih⊢;by_cases e:o!=l;(. ((have e1:as (o!==l):=by simpa using e);have e2:as GN:=by rw[q.1,e];simp);rw[To (λ(r:t?)=>Ca l) e1,To (λ(kv:Io×V)=>GN) e2];exact fT kv.2 q.2);. ((have e1:¬(as (o!==l)):=by simpa using e);have e2:¬(as GN):=by rw[Gh q.1,eW (e (Gm h))]);rw[Tp (λ(r:t?)=>Ca l) e1,Tp (λ(kv:Io×V)=>GN) e2];exact ih
mK.1(B:hA)(k:O)(l:aD):bG:=match C' B k l with|an t=>mx (t.headD 0)|aF=> -1
Wa(A:Y):D! e_ P K 1 mE "number_of" (RQ be (BK×A!) [f6,iX,bA] bC (qi/\a!<3/\cT H bA br) gx (v=em (mK Bu a! br))):=iG A.bj.alN asJ cd b3 a? λ a e H hr hp U hU=>by obtain⟨⟨b,d,kk⟩,k,v,l⟩:=a;rw[cz iR λ hR hk av hv gi=>?_];rw[MU hR hk gi];obtain⟨dx,fs,mr,sr,co,aq,hb,_,DE,_,_,_,_,_,⟨am,xs,rfl,sN,Aq⟩,_⟩:=hR.ex;(rw[ci (vV (pj Aq (azK d hk)) λ vk k9 ak vF aU pF sY=>?_) aU]);have hl:=ajV sY l;rw[oc sQ tg (dJ H1 ak eC av HS b7 vF) (λ H1 s1=>dJ.t dZ pF (by rw[wb];exact dZ gi))];(refine aW (Zp (z:=oY HS b7 vF) (jO hr) ad RK cN ak DE (λ u y H1 s1 e1 e2=>?_)) bB (λ hx=>ei aG em (-1) ?_ d?);.have vB:=e1.now;have oE:=e2.now;subst vB oE;rw[wW ak (sQ H1 s1) R]);((.unfold mK C';cases hf:(PZ k []).find? (λ r=>Ca l)with|c! r=>rw[hf]at hl;obtain⟨v,hv,at',rfl,ht⟩:=hl;have iZ:=(hR.dh.seq k r hk (List.mem_of_find?_eq_some hf)).cL;(obtain⟨x,m,kQ⟩:∃x m,gd=x::m:=by cases e:gd with|nil=>rw[e]at iZ;rw[kr iZ se]|kA x m=>exact(d3 x m R));refine ei aG em la x (bU (xg (P:=λ v _=>v=dP at') (jO hr) RK cN ak DE ad (λ u y H1 s1 e1 e2=>?_)) ai bE mN jV ht (by rw[dV kQ tM R])) d?;(.have vB:=e1.now;have oE:=e2.now;subst vB oE;rw[wW ak (by rw[<-hv];exact sQ H1 s1) ff]);.show e8 la x=kz bF pY;rw[kQ];rfl|aF=>rw[hf]at hl;rw[a7 hl hx hx]);.exact oz (i:=1) ai);.unfold mK C';cases hf:(PZ k []).find? (λ r=>Ca l)with|c! r=>rw[hf]at hl;rw[<-ah hl λ v hv _=>?_,a7 hv hx hx]|aF=>rfl
jP.1(C:a5)(H:Hp)(a:a5)(y:jZ):Prop:=∃dx fs,ma H a C/\gJ ("strict":a4) (C!==0)/\gJ ("loose":a4) Vc/\gJ ("break_all":a4) C?/\gJ ("keep_all":a4) y.keep/\gJ ("by_words":a4) up/\gJ ("eastern":a4) y.east/\jS ("tab":a4) bn ut/\gJ ("splits":a4) Da
P2{H:Hp}{a:a5}{y:jZ}(h:jP C H a y)(s:tQ):jP C H' a y:=by refine df h λ dx fs h1 h2=>?_;exact(cD dx fs Ip h2)
alq(A:Y):jE "scalar_width" (RQ be (BK×Fj×O) [f6,dP ls,EQ] bC (qi/\AQ/\qh b?) dv (vN (xU Bu fb b?))):=nl A.aIr QZ λ a e H hr hp U hU=>by rw[LZ b y a];obtain⟨dx,fs,hw,_,_,_,_,_,vU,_⟩:=hW;dsimp only at hw vU hs;(have hg:gP f3 mx lf [xz 6,f_ 8,f_ 26,f_ 27]=pu lf [6,8,26,27]:=by rw[wE];show as (vS||(vS||(vS||Gd)))↔_;simp[xV];exact apc);(have QB:gP f3 mx yJ [xz 3,f_ 4]=pu yJ [3,4]:=by rw[wE];show as (vS||Gd)↔_;simp[xV];exact afK);rw[Aw xU,<-aW fe (sO Sm de A.g.MN A.g.ME cm A.g.CC A.g.CF) (eB (bO (Ba A hr 11 n aQ hs Z ac A.g.adj ad))) ch hx ai d? bB];(.rw[hg,t6]at hx;rw[wR hx]);.rw[hg,xL]at hx;rw[c? (by rw[hx.1,ip];simp)];rw[c3 ei (bz 3 QZ.nd) (vN (kW 7 n)) v! (E0 7) A.g.ab7 ad,<-aW fe (sO aN cm A.g.Tq A.g.Vw) (eB (CZ (cE (eT aN ac A.g.aHD) bi oW (cQ ap FG hw P3 vU)))) ch hq ai d? wh hq ai];(.rw[QB,t6,ed,dX]at hq;rw[gh (hq.imp id UU fh)];rfl);.rw[QB]at hq;rw[c?];(.rfl);.intro h;(have:as (pu yJ [3,4]||(ca (md yJ=1)&&y.east)):=by rw[t6,ed,dX];exact h.imp id UU fh);rw[a7 az hq hq]
Ia.2(C:a5)(g:bR->Cv):RP:=RQ be (BK×O) [f6,Ct] bC (eg C dL H/\qh db) dv (g fd db)
Km(n:O):oY Bw=HX:=by rw[CQ];rw[KL t!];by_cases h:(as Ut);(.rw[xe,h];rfl);.rw[c? h,Bool.eq_false_iff.mpr h,jj];rw[wE];simp only[t6,ed,dX];split;(.simp;exact amo wY);.split;(.simp;exact awa wY);.split;(.simp;exact ay2 wY);.simp;exact aHE wY wY wY
axW(A:Y):Hy (h? "conjunct_class") d (vN T? eJ n conj):=fx A.aDB ama λ a e H hr hp U hU=>by rw[Fw b d a,Hf,cx,<-gB (kG wi xJ (λ _=>ai) bi v! (sw 3) A.g.sI ap)];rw[e];show _=kz bF (if(as oY Bw)then 0 else ll n);rw[Km];rw[w7]
aEj(A:Y):Hy (jE "is_pictographic") d (.bl T? eJ n pict):=fx A.aAz auG λ a e H hr hp U hU=>by rw[Fw b d a,Hf,cx,<-gB ew (iT vu xJ gs ep ap) (bZ (Ba A hr 12 n aQ hs Z OM ap))];rw[e,<-Km];show _=bQ ((Bw).isNone&&yE n);rw[Option.not_isSome]
aup(A:Y):Hy (h? "cluster_class") d (vN Gr z1 n):=fx A.au6 aow λ a e H hr hp U hU=>by rw[Fw b d a,Hf];(have BJ:∀x,P4 n=an x->e8 la x=vN Gr z1 n:=λ x h=>by unfold P5;rw[h]);have apy:f8 Bw->vN (jv n)=vN Gr z1 n:=eW (by rw[Bk P5 h]);rw[cx];(refine aW wi VO ch h1 ac A.g.L sb (BJ 9) im;.rw[FA Fl h1];rw[c? (by rw[Av,atP h1]),l! axe h1]);(refine aW wi XQ ch h2 ac A.g.V sb (BJ 10) B4;.rw[FA Gw h2];rw[c? (by rw[Av,al0 h2]),l_ al4 h2,l! aiw h2]);(refine aW wi ZU ch h3 ac A.g.T sb (BJ 11) Pa;.rw[FA DX h3];rw[c? (by rw[Av,aBE h3]),l_ aD1 h3,l_ aEP h3,l! amE h3]);(refine aW wi afR ch h4 ac A.g.LV sb (BJ 12) j1 h4;.simp only[NQ,sD,ed,dX]at h4;rw[KL t'];rw[gh (by rw[Av,aHJ h4]),l! auu h4]);refine aW wi HK ch h5 ac A.g.Nn sb (BJ 13) ch h5 v! (sw 2) A.g.tw ap sb apy;(.rw[NQ,h5,eo]at h4;rw[p2 qF h4,FA sD h5];rw[gh (by rw[Av,amI h5]),c? (by exact aIZ h5 qF)]);.have:=Km n;unfold lG at az;rw[h1,h2,h3,h5]at az;cases e:Bw with|aF=>rfl|c! x=>rw[a7 e az az]
Bt(n:O):∀l:aD,gP f3 gs (o9 vN)=NX|[]=>rfl|x::l=>by have ih:=Bt n l;unfold gP at ih⊢;rw[VB,List.any_cons,ih,I!];congr 1;rw[q!,gk];show as (dp x==gs)↔_;rw[fj gk ayM]
}
section
variable{X:Cx}{σ:ee}{H:Hp}{a:dl}{es:H!}{cL jm:ef}{n:O}{x1:O}{vs:g!}
def z:={
nG(l:aD)(ha:mb a n)(hb:tk)(hv:wq)(hf:sz)(hl:sL)(hm:zK):mi i6 In sR NX:=by rw[tb Bt n sO]
xE(l:aD)(ha:mb a n)(hb:tk)(hv:wq)(hf:sz)(hl:sL)(hm:zK):kg i6 In sR I' n:=by rw[tb Bt n Dm]
aeM(l:aD)(ha:mb a n)(hb:tk)(hv:wq)(hf:sz)(hl:sL)(hm:d1 Ee .xW Ei):jG i6 xW sR (!NX):=by rw[tb Bt n QF]
GW{b:dl}{m:O}{k:bG}(ha:mb a n)(hb:lg b k)(hk:z? k)(hm:zX):mi i6 Eq [b] IR:=by(have e:IR=ca (j?=k):=by rw[LF hk gk QN]);rw[e];exact eT ha hb hm
pk{b:dl}{m:O}{k:bG}(ha:mb a n)(hb:lg b k)(hk:z? k)(hm:zX):jG i6 Eq [b] IR:=by(have e:IR=ca (j?=k):=by rw[LF hk gk QN]);rw[e];exact dY ha hb hm
}
section z
def z:={
YM(A:Y):Hy (h? "first_class") d (vN (kW 6 n)):=fx A.ail alG λ a e H hr hp U hU=>by rw[Fw b d a,c3 hU _,aG v! (sw 6) A.g.aKP ap ff]
RBW.2(c:Cs)(g:bR->jZ->Cv):RP:=RQ be (BK×Fj×O) [f6,dP ls,EQ] bC (qi/\AQ/\qh b?) dv (g fd fb b?)
aHp(A:Y):jE "resolved_class" (RBW c λ d y n=>vN (P6 y yz lf)):=nl A.aDL ZR λ a e H hr hp U hU=>by rw[LZ b y a];obtain⟨dx,fs,hw,bw,_,_,_,_,vU,_⟩:=hW;dsimp only at hw vU bw hs;rw[Aw P6,c3 ei (bz 3 ZR.nd) (vN (kW 6 n)) (aT (YM A) hr (hY,n) bt Z ad bE #[nf,hs])];generalize yz=k;(refine aW BM aN A.g.AI ch h1 (kG zO FG hw P3 vU lj xX lj o?) d? im;.rw[sK gU h1,tn cP (k=1) RL gU];cases y.east<;>rfl);rw[p2 gU h1,kt cP (¬k=1) Zr gU];(refine aW (nG [40,0] aN cm A.g.SG A.g.XX) ch h2 ac o? d? B4;.have Dg:=h2;rw[wR Uk (k=40\/k=0) Dg]);have Dg:=h2;rw[kt Uk (¬(k=40\/k=0)) Dg];(refine aW BM aN A.g.SA ch h3 (kG (nG [6,7] Sm cm A.g.MN A.g.MC) lj I? lj o?) d? Pa;.rw[sK Kq h3,tn cP (k=39) awk Kq];by_cases hg:lf=6\/lf=7;(.rw[io hg,T0];rfl);.rw[Tu]);rw[p2 Kq h3,kt cP (¬k=39) aHL Kq,<-aW BM aN A.g.CJ ch h4 (kG zO FG hw A.eU.XC bw lj Ja lj xX) d? wh h4 aN];(.rw[sK qF h4,tn cP (k=11) acp qF];by_cases hg:C!=0;(.rw[io hg,T0];rfl);.rw[Tu]);.rw[p2 qF h4,kt cP (¬k=11) abr qF]
ad7(A:Y):gn 5 "line_class" (RBW c λ d y n=>vN nN T2):=nl A.an8 Nb λ a e H hr hp U hU=>by rw[LZ b y a];have ug:vJ wa y:=hW;obtain⟨dx,fs,hw,bw,pf,b9,oI,_,vU,_⟩:=hW;dsimp only at hw vU bw pf b9 oI hs;rw[cx,kq tS v (v=vN (VC y yz lf))];unfold VC;rw[c3 k0 (bz 3 Nb.nd) T_ y FE aHp (hY,(wa,y),n) bE #[nf,Oj,hs]];generalize T_ y=k;dsimp only;(refine qJ (N1:=λ a0 _=>a0=[tc,G6,jL,bn (if C!=2/\(k=32\/k=25)then 24 else k)]) ds zO FG hw A.eU.Sl pf (c4 (nG [32,25] aN cm Ja A.g.IN)) qY (bz 3 Nb.nd ac xX yL ?_) qY yL ?_ ?_;(.rw[ed]at h1;rw[wR #[by simpa using xw,by simpa using tX]]);.rw[c?];(.rfl);.intro h;(have:as (Vc&&rR [32,25] k):=by simpa using h);rw[a7 az h1 h1]);.intro a0 H1 s1 hσ;have hσ':=hσ.now;subst hσ';generalize(if C!=2/\(k=32\/k=25)then 24 else k)=m;(refine aW RW P7 b9 (c4 (nG [3,22,33] aN de o? Dc ep ac pa)) ch h2 ac xX d? B4;.rw[MG h2,wR #[h2.1,h2.2]]);rw[kt (λ h=>by(have:as (C?&&rR [3,22,33] m):=by rw[fj ed h]);rw[a7 az h2 h2]),<-aW RW A.eU.abX oI (c4 (nG [24,20,21,27,29,28] aN de xX Jb de Jd Jf cm Dd Dh)) ch h3 ac o? d? wh h3 aN];(.rw[MG h3,wR #[h3.1,by have:=h3.2;unfold xV;rw[qp,dw ay1]]]);.rw[kt (λ h=>by(have:as (y.keep&&rR [24,20,21,27,29,28] m):=by rw[ed];refine #[h.1,?_];have:=fh;unfold xV at az;rw[qp,dw aLV]);rw[a7 az h3 h3])]
S1(A:Y):ec "stands_alone" (RQ qH [vN n] oU yq n (it (MtLine.alone n))):=sG A.akl ayo λ n f aK A' cs s H0 H E hr hp=>by rw[gr (xE [9,15,30,31,41,46] Z RR) ff]
j7.1(C:a5)(H:Hp)(a:a5)(I:nA):Prop:=∃dx fs k1 k2 k3,ma H a C/\jS Hh ct k1/\jS ("conjuncts":a4) ct k2/\jS ("pictures":a4) ct k3/\sU k1 I.map dT Pe/\sU k2 I.map dT (vN x.conj)/\sU k3 I.map dT (bQ Jg)
j7.later{H:Hp}{a:a5}{I:nA}(h:j7 C H a I)(s:tQ):j7 C H' a I:=by refine zY h λ dx fs k1 k2 k3 h1 h2 h3 h4 h5 h6 h7=>?_;exact(rS dx fs k1 k2 k3 Ip h2 h3 h4 pH h5 pH h6 pH h7)
}
section
variable{X:Cx}{σ:ee}{H:Hp}{o e:dl}{cL jm:ef}{a:a5}{I:nA}{i:bG}{j:O}{x:Dj}
def z:={
yS(A:c')(h:tp a I)(ho:jC)(hi:l0)(hj:qD)(hx:bd I j x)(hs:st)(hb:er (et "kinds")):mb wO (eu "kinds" jm) gl:=by refine zY h λ dx fs k1 k2 k3 h1 h2 h3 h4 h5 h6 h7=>?_;exact cN (cQ ho yw Do P_ h2 hb) hi FT h5 (by rw[dV hj b_ (by rw[np hx])]) hs
E_(A:c')(h:tp a I)(ho:jC)(hi:l0)(hj:qD)(hx:bd I j x)(hs:st)(hb:er (et "conjuncts")):mb wO (eu "conjuncts" jm) x.conj:=by refine zY h λ dx fs k1 k2 k3 h1 h2 h3 h4 h5 h6 h7=>?_;exact cN (cQ ho yw Do A.mz.Xk h3 hb) hi FT h6 (by rw[dV hj b_ (by rw[np hx])]) hs
Zo(A:c')(h:tp a I)(ho:jC)(hi:l0)(hj:qD)(hx:bd I j x)(hs:st)(hb:er (et "pictures")):jG wO (eu "pictures" jm) Jg:=by refine zY h λ dx fs k1 k2 k3 h1 h2 h3 h4 h5 h6 h7=>?_;exact cN (cQ ho yw Do A.mz.UX h4 hb) hi FT h7 (by rw[dV hj b_ (by rw[np hx])]) hs
}
section z
def z:={
apx(A:Y):ec "syllable_joins" (RQ be kp [vN dL,Ct] oU dv (it (_W.HI dL db))):=fx A.alZ aDd λ ab e H hr hp U hU=>by obtain⟨a,b⟩:=ab;rw[cx];unfold _W.HI Mt.one;(refine aW (GW (m:=9) Z ac A.g.L) ch h1 (xE [9,10,12,13] ap de A.g.L A.g.V cm A.g.LV A.g.Nn) k6 im;. (have ea:a=9:=by simpa using h1);subst ea;simp);rw[h1,re,jj];refine aW (nG [12,10] Z cm A.g.LV A.g.V) ch h2 (xE [10,11] ap cm A.g.V A.g.T) k6 Ps (aG (cn (xE [13,11] Z cm A.g.Nn A.g.T) s_ (pk (m:=11)) ap A.g.T) k6);(.rw[M8 h2];(have:rR [13,11] a=false:=by simp at h2⊢;exact aif h2);rw[az,re,uM]);.rw[h2,re,jj]
Ft.2(c:Cs)(g:nA->O->Cv):RP:=RQ be ((a5×nA)×kp) E! bC (tp hK d2/\a!<b?/\b?<oD) dv Bq g d2
dM{l:fO α}{i:O}(h:i<je):∃x,bd l i x:=#[_,Ty]
Aa{l:fO α}{i:O}{x y:α}(h:bd l i x):l.getD i y=x:=by rw[P0,h];rfl
aa5(sn:cr)(z:Dj)(l:nA):Dp sn (z::l)=if uN=2 then sn else if uN=1 then Dp bH l else if O8 then Dp sn l else false:=rfl
aFU(A:Y):G! (ec "conjunct_joins") b ((BR).conj==2&&UA hE):=nl A.afq C0 λ q e H hr hp U hU=>by((rw[Fz p a_ a_];obtain⟨x,hx⟩:=dM a_;rw[cx];rw[Aa hx];refine ga (gg (E_ A hS Z ad R hx) ac I6) h1 im;. (have:U6=false:=by rw[A0 h1 aah]);rw[qC]);have cg:as U6:=by rw[A0 h1 As]);rw[M8 cg,<-bz 3 C0.nd cM (ei (bz 4 C0.nd) em zS oH ?_),p! (∃(k:O)(sn:cr),GQ [ij,qz,bn p,fn .bl sn,m2 hV] (k<=p) (Dp sn td=UA hE)) (p - b) (fM p hE R nm kH e5 R R)];rintro m a0 H1 s1⟨k,sn,rfl,h1,h2,rfl,h3⟩;by_cases hk:b<k;(.rw[Lk z UI h2];(have hb:td=z::rz i1:=by have:=Lb _W.Ra I I E? hk hz;rw[cP (pI+1=k) zj cH]at az;exact az);have fU:as ca (hV>=qQ):=r0 K1 hk;rw[hb]at h3;refine(aZ _ ds (bP eF bm ap) (c4 (nG [1,3] L3 cm A.g.Gf A.g.DD)) bB bB);(. (rw[ww];have A9:uN=1\/O8:=by simpa using ip);refine nF (bz 3 C0.nd) (sn||ca (NW=1)) oN aN (bZ (dY L3 ac A.g.Gf)) wc (lh 4) C0.nd #[i1 - b,gu D8 hk,pI,sn||ca (NW=1),?_,Rf,gu HV h2,rfl,?_];(.rw[lS [_,_,_,_,zF hV] cH]);.rw[<-h3,aa5];rcases A9 with h|h;(.rw[l_ akc h,xe,r0 aoQ h,Jm]);.rw[l_ aqG h,l_ arC h,xe,AE aj3 h,uM]);. (rw[Gn fU];have A9:¬(uN=1\/O8):=by rw[r6]);rw[i2 ew aN ew Is bm (bZ (dY L3 ac I6))];rw[<-h3,fU,eo,aa5];by_cases h:uN=2;(.rw[xe,h];simp);.rw[c? h,ii λ e=>A9 (.inl e),ii λ e=>A9 (.inr e)];have:wn (NW=2):=AE aBu h;rw[az,C9]);. (have z3:k=b:=by exact Gz h1 hk);subst z3;have fU:wn (hV>=jx):=Ku OO;rw[_W.N6]at h3;rw[p9 (bP eF bm ap) fU ?_,i2 ew aN (DK Is bm fU)];rw[C9];rw[<-h3];rfl
Aj{I:nA}{b k:O}{z:Dj}(h:b<k)(hz:I[i1]?=an z):td=z::rz i1:=by have:=Lb _W.Ra I I E? h hz;rw[cP (pI+1=k) agl h]at az;exact az
aw0(A:Y):G! (ec "picture_joins") b ((BR).pict&&Mt.sprout (Ji I b p)):=nl A.aqb K0 λ q e H hr hp U hU=>by rw[Fz p a_ a_];obtain⟨x,hx⟩:=dM a_;rw[SL y p oM,cx];rw[Aa hx,Aj kH hy];rw[show Mt.sprout (y::rz pV)=(O'&&(match(rz pV).P' (λ y=>B1)with|y::_=>y.pict|[]=>false))from rfl];(refine ga fe tL (Zo A hS Z ad R hx) (eB (gg (yS A hS Z oH oM hy) ac A.g.Tr)) h1 im;.cases Ec:Jg with|false=>rfl|bH=>rw[Ec]at h1;(have:O'=false:=by rw[A0 h1 anl]);rw[qC]);(rw[Md];(have h2:ln Jg:=by simpa using xw);have h3:as O':=by have:=tX;rw[qp,dw aAc]);rw[Gp h2 h3 eo,c3 ei (bz 3 K0.nd) em (dp p - 2) oH,p! HT k GQ [ij,qz,bn p,m2 hV] (k<p) ((td).P' (λ y=>B1)=(rz pV).P' (λ y=>B1)) (pV - b) (rQ pV (by rw[cP ((dp p - 2)=bF pV - 1) aEp oM];rfl) E? kH bN avJ oM R R)];rintro m a0 H1 s1⟨k,rfl,k1,k2,rfl,k3⟩;by_cases hk:b<k;(.rw[Lk z avS k2];have fU:as ca (hV>=qQ):=r0 K1 hk;rw[Aj hk hz]at k3;refine(aZ _ ds GU th eT (yS A zt Z aN cH hz) A.g.acG bB bB);(. (rw[ww];have oF:as Vd:=by have:=ip;rw[qp,dw Ol]);refine wc (lh 3) K0.nd LJ ?_ PE ?_;(.rw[lS [_,_,_,zF hV] cH]);.rw[<-k3,GI List.dropWhile_cons_of_pos y B1]);. (rw[Gn fU];have oF:¬(as Vd):=by simp at hx⊢;exact azp hx);rw[i2 ew Is aN (bZ (Zo A zt Z aN cH hz))];rw[<-k3,GI List.dropWhile_cons_of_neg y B1,fU];rfl);.rw[RI Gz k1 hk];rw[_W.N6]at k3;rw[p9 GU fU ?_,i2 (DK Is aN fU)];rw[<-k3];rfl
ap1(A:Y):G! (ec "indicator_joins") b ((BR).cls==6&&_W.AW (Ji I b p)):=nl A.aAL LU λ q e H hr hp U hU=>by((rw[Fz p a_ a_];obtain⟨x,hx⟩:=dM a_;rw[cx];rw[Aa hx];refine ga (gg (yS A hS Z ad R hx) ac A.g.O_) h1 im;. (have:(gl==6)=false:=by rw[A0 h1 adw]);rw[qC]);have cg:as (gl==6):=by rw[A0 h1 Rg]);rw[M8 cg,c3 ei (bz 3 LU.nd) em zS oH];(have done:∀(k:O)(H1:Hp),b<=k->k<=p->A? td=[]->p - k+a6 A? td=a6 A? Fn->nK (((zS - hV)%2)=1) (_W.AW (Ji I b p)):=λ k H1 k1 k2 k3 k4=>by rw[k3]at k4;unfold _W.AW Mt.odd;rw[<-k4,q!,dX,gk];simp only[P?,Nat.add_zero];exact auE k2);rw[p! HT k GQ [ij,qz,bn p,m2 hV] (k<=p) (p - k+a6 A? td=a6 A? Fn) (p - b) (rQ p R nm kH e5 R iV ahZ)];rintro m a0 H1 s1⟨k,rfl,k1,k2,rfl,k3⟩;by_cases hk:b<k;(.rw[Lk z UI k2];have fU:as ca (hV>=qQ):=r0 K1 hk;refine(aZ _ ds GU th eT (yS A zt Z aN cH hz) A.g.O_ bB bB);(. (rw[ww];have oF:as (uU==6):=by have:=ip;rw[qp,dw Rg]);refine wc (lh 3) LU.nd LJ ?_ HV ?_;(.rw[lS [_,_,_,zF hV] cH]);.rw[<-k3,Aj hk hz,GI VH y (uQ==6),mD];exact aJv cH k2);. (rw[Gn fU];have oF:¬(as (uU==6)):=by simp at hx⊢;exact adw hx);rw[i2 (dY (iu xt (aY cV oH aN) ai b!) ai),done k H1 k1 k2 (by rw[Aj hk hz,GI VL y (uQ==6)]) k3]);.rw[RI Gz k1 hk,p9 GU fU ?_,i2 (dY (iu xt (aY cV oH aN) ai b!) ai),done k H1 k1 k2 (by rw[_W.N6];rfl) k3]
ahH(A:Y):G! (cA "is_joined") b zu:=nl A.aKK M7 λ q e H hr hp U hU=>by rw[Fz p a_ a_];(have hx:I[p]?=ty I.getD p _W.no:=by rw[E' F! a_]);rw[SL y p oM];(have hh:nN ((Fn).headD #[0,0,false])=uQ:=by rw[Aj kH hy];rfl);rw[oc n9 tg (j7 c.k5 H1 a I/\b<p/\p<I.length) (λ H1 s1=>#[zt,kH,a_])];unfold _W.jR _W.jn;rw[hh];dsimp only;refine k0 (bz 3 M7.nd) uQ (yS A hS Z oH oM hy) (k0 (bz 4 M7.nd) nN BR (yS A hS Z ad R hx) ?_);(refine ga ds (GW (m:=1) aN ac A.g.Kd) th (GW (m:=2)) bm A.g.OW h1 im;.rw[h1];rfl);rw[AX h1];unfold Mt.one;(refine ga fe (nG [1,2,3] aN pW A.g.Kd A.g.OW A.g.adf) (eB (nG [1,2,3] bm de A.g.Kd A.g.OW ep ac A.g.adf)) h2 B4;.rw[h2];rfl);rw[h2,Qa,eo];(refine ga fe gz vu apx (uQ,nN BR) Gv (du (nG [4,5,8] bm pW A.g.acG A.g.Tr A.g.ap2) bi (eB (GW (m:=7) aN ac A.g.aj9))) h3 Pa;.rw[h3];rfl);rw[AX h3,<-ga fe gz FE aFU ((a,I),b,p) n9 (eB (bO FE aw0 ((a,I),b,p) n9)) h4 λ h4=>gB Lx ap1 ((a,I),b,p) n9];(.dsimp only at h4⊢;rw[<-VM,h4];rfl);.rw[e,<-VM];dsimp only at h4⊢;rw[AX h4]
O4{lo:O}{t:pM V}{g:tB}:∀{n:O},(∀k,k<n->t (.int Nr)=g (lo+k))->qo lo n t id=jI Lh (Qb lo n) g|0,_=>rfl|n+1,h=>by rw[NR,O4 (n:=n) (λ k hk=>h k bN sC hk),List.range'_concat,List.filter_append,rl,h n Ib];congr 1;rw[qx (lo+1*n=lo+n) afU];by_cases hg:(as (g (lo+n)));(.rw[io hg,List.filter_cons_of_pos hg];show[e8 _]=[e8 _];congr 1);.rw[ii hg,List.filter_cons_of_neg hg];rfl
pT.1(g:tB):(pM V)|em z=>g C_|_=>false
acz(g:tB)(lo k:O):pT g f3 Nr=g (lo+k):=by show g kc Nr=_;congr 1
Va(A:Y):h? "cluster_ends" (RQ be ((a5×nA)×kp) E! bC (tp hK d2/\a!<=b?/\b?<=oD/\oD<=1000) gx lr Bq Dt d2):=k7 A.ayC ab6 cd b3 a? λ q f aK A' cs s H0 H E hr hp U hU=>by obtain⟨⟨a,I⟩,b,e⟩:=q;rw[cz dm λ hS eN e7 hI=>?_];dsimp only at hS eN e7 hI;have nd:=ab6.nd;have eh:nb ["signs","begin","end","ends","place"] D0 ("place",4):=jy (mU (cu D0));(have hn:kc (dp e - ze)=e - b - 1:=by exact ap9);(have awO:qo ze kc (dp e - ze) MV id=jI ((Qb xA Vj).C1 λ p=>!zu):=by rw[hn];have:=O4 (lo:=b+1) (t:=MV) (g:=λ p=>!zu) (n:=e - b - 1) tS k aH acz _;rw[<-az];rfl);rw[cx,ol fa (azu 4 3 R nd eh q9 mY (cy nd R Ea D?)) (iA dz (cG (lI (KT VN VP uq tZ (iz (pv 2) fQ)))) dg) ot tZ D n,E4 oX,<-apZ 4 (lo:=qQ+1) (hi:=bD e) (f:=id) (t:=MV) bt N! ad (by exact aHU eN e7 hI) a? (by rw[hn];rw[n? (show Cc by exact amT e7 hI)]) (λ s' dH C cl fp k hk=>?_) (λ s' dH C cl fp k hk ht=>bm) H1 s1 _ λ l H2 hl s2 hL=>?_];(. (have hp:qQ+1+jx=bF (xA+k):=by exact alm);refine(Te.of dz λ H3 s3 Q q=>(dd tL (aT (ahH A) hr ((a,I),b,b+1+k) (ae Z lm e6 bm rt v e B7 hp) IC #[(hS.later s3).later s4,qy (b<b+1+k) A5,show b+1+k<I.length by exact ata hk e7]) λ H4 s4=>q H4 s4)));.rw[awO]at hL;refine dd Nz qd H3 s3 bB;(.rw[Go d_ (b<e)];have hL3:=aH s3 hL;refine #[_,rfl,.inl Bs hL3,_,rfl,l,_,_,rfl,rfl,hL3,?_,?_];(.rw[eH];have h1:=Vr Cy (!zu) (Qb xA Vj);rw[List.length_range']at h1;rw[n? (show Cc by exact ajb h1 e7 hI)]);.refine ER OG s4 on l s4 ?_;(.rw[i5 hl vO hb]);.rw[aX];unfold Dt;rw[io d_,rl];rfl);. (have d_:¬b<e:=by rw[r6]);refine FM Mb;rw[hL];unfold Dt;rw[ii d_,Du]
wo.1(l:ON)(i:O):Scope:=match l[i]? with|an (.Assign _ Ih _)=>sc|_=>FS
DO{H:Hp}{a:a5}{o:HO}{fs:Bl}(h1:H a=an o)(h2:ma H z C)(h3:∀C dx fs,o≠.ins C dx fs):a≠z:=λ e=>by subst e;rw[a7 h1 h2 h2,h3 _ _ _ R]
wG(g:Cv)(t:aD):(y3).map (λ x=>g (eR x))=Pr:=by rw[hG];rw[L! n];show g (eR (vN n))=g n;rw[gR]
B_:A8 z C dx ns i! vQ qn H q xs:=λ v H fs gE hz _ h=>ah h λ q e hq=>k8 q (by rw[aV (DO hq hz λ _ _ _ h=>nomatch h)];exact hq)
azH(A:Y):A3 5 "Signs" c.k5 be (BK×V×aD) [f6,a!] bC (qi/\ba H a! b?/\wH b?/\Hr b?) Gj tp q Ka h! qZ Bu:=by refine HM A.k5 A.mz.init ae8 cd b3 a? Do ["kinds","conjuncts","pictures"] λ a e z dx H hr hp=>?_;obtain⟨⟨b,d,kk⟩,v,t⟩:=a;have hr:bX 4 (e.A.deeper TG (envOfC "Signs.__init__") aA qR):=hr;rw[cz dm λ hR aS bJ a3=>lw av hv gi];rw[f5];dsimp only at hv gi bJ a3⊢;rw[gb hv ae8.nd];(have hsz:AF:=by rw[zQ]);have b1:Ly qR:=jy (B' qR 0);have b2:Ly qR:=jy (B' qR 1);have b3:Ly qR:=jy (B' qR 2);have hs:Me k n t:=eW Ml _;((refine #[_,.p P_ Lj (vN nN wT nC) b1 (λ s' dH C cl fp k x hk=>?_) B_ (.p A.mz.Xk Lj (vN (wT nC).conj) b2 (λ s' dH C cl fp k x hk=>?_) B_ (.p A.mz.UX Lj (bQ (wT nC).pict) b3 (λ s' dH C cl fp k x hk=>?_) B_ tY)),rfl,λ H2 s2 v1 h1 v2 h2 v3 h3 hz=>?_];(.rw[Rz aup aN xv]);.rw[Rz axW aN xv]);.rw[Fg aU aU (aT (aEj A) hr (hY,m) lm aN d! #[Le,xv])];rfl);refine ah h1 λ k1 e1 cH=>ah h2 λ k2 e2 oj=>ah h3 ax k3 e3 j9;subst e1 e2 e3;(refine #[z,rfl,dx,_,k1,k2,k3,hz,rfl,rfl,rfl,?_,?_,?_];(.rw[AO cH (wG tT (vN nN wT m))]);.rw[AO oj (wG tT (vN (wT m).conj))]);.rw[AO j9 (wG tT (bQ (wT m).pict))]
avx(n:O):n|||16255=16255↔Pi/\Uq:=by constructor;(.intro h;have h1:n<=n|||16255:=Nat.left_le_or;refine #[f4 axD h1 h,?_];have h2:=rr tT (Nat.testBit m 7) h;simp only[VR]at h2;(have h3:(UP).testBit 7=false:=by decide);rw[h3,uM]at h2;exact h2);.rintro⟨h1,h2⟩;apply Nat.eq_of_testBit_eq;intro i;rw[VR];by_cases hi:i<14;(.by_cases h7:i=7;(.rw[h7,h2,jj]);. (have:∀j,j<14->j≠7->as ((UP).testBit j):=by decide);rw[az i hi h7,Jm]);.have:o6 i=false:=Nat.testBit_lt_two_pow (VS h1 (show 16384<=2^i from Nat.pow_le_pow_right (n:=2) b! Tn (14<=i) hi));rw[AX az]
Iu(n:O):VT gs 3=bF (n%4):=by have:=rJ (yn.acK (x:=gs) 2) rY;rw[zn ((Pj^2 - 1)=3)]at az;rw[fj az axs]
}
section
variable{X:Cx}{σ:ee}{H:Hp}{e b:dl}{cL p:ef}
def z:={
xq(A:c')(hr:CH)(n k:O)(h1:mb e n)(h2:lg b jx)(hg:d1 (xD "has_bit"))(he:nh [e,b] iL e [b])(JM:nh [b] iL b [])(a_:Ey [b] any):kg qv (ik "has_bit" p) [e,b] o6 k:=i0 (aT (ml A) hr (j?,jx) (ae h1 (ae h2 ao JM) he) K2 hg b! he a_) rt v e (by rw[e];exact jW bQ (jc n k))
}
section z
def z:={
aq7(A:Y):cA "is_ways" (RQ qH [vN n] oU yq n (.bl oY (Dv n))):=sG A.aMm aFf λ n f aK A' cs s H0 H E hr hp=>by(have e1:ca (Builtin.bitOr gs 16255=16255)=ca (n<16384/\Uq):=by rw[yn.aGq iV rY b!,PH];congr 1;rw[<-avx];simp only[eq_iff_iff];constructor;(.intro h;exact_mod_cast h);.intro h;exact_mod_cast h);unfold Dv;refine ga fe xa (aY aBn Z ac A.g.Z_) A.g.Z_ (eB (bP gL H? Z ac A.g.U7)) h1 ch h1 (iT (cn (tK 2 Z ac A.g.adi) s_ (tK 3) Z A.g.UZ)) k6;(.rw[e1,Iu]at h1;rw[gh];(.rfl);.rw[SR dX not_and Bool.not_eq_false];by_cases h:Pi;(.rcases h1 with h1|h1;(.exact .inr (.inr (.inl (h1 h))));.exact .inl bN aAK h1);.exact .inr (.inr (.inr TO h)));.rw[e1,Iu]at h1;rw[Sr rd dX h1,<-bq h1 λ aS h4=>bq aS cU h2 h3];by_cases hb:as Oq/\as Os;(.rw[io (.inr (.inl hb)),hb.1,hb.2];rfl);.rw[c?];(.show as _;rw[rc,PW];by_cases h5:(as Oq);(.right;by_cases h6:(as Os);(.rw[kr #[h5,h6] hb]);.simpa using h6);.left;simpa using h5);.rintro(h|h|h|h);((.exact ay0 h h4);.exact hb h);(.rw[a7 h3 h h]);.exact aAJ h h2
ah1(n:O):VT (j?/2^OA) 63=bF (n/256%64):=by(have e:(j?/2^OA)=bF (n/256):=by rw[zn (OA=8),sl ((2:bG)^8=256)];exact arD);rw[e];have:=rJ (yn.acK (x:=bF (n/256)) 6) ak5;rw[zn ((Pj^6 - 1)=63),sl ((Pj^6)=64)]at az;rw[fj az ah2]
NY(A:Y):A3 2 "Ways" c.Ways be (O×jZ) [vN dL] tS a (Dv dL=an db) Gj vJ q db:=by refine HM A.Ways A.eU.init aqx cd b2 a? Db ["strict","loose","break_all","keep_all","by_words","eastern","splits","tab"] λ a e z dx H hr hp=>?_;obtain⟨n,y⟩:=a;have oB:Dv n=an y:=hp;(have hy:y=#[n%4,Oq,Os,o6 4,o6 5,o6 6,n/256]/\Pi:=by unfold Dv at oB;split at oB;(.cases oB);.rename_i h;cases oB;refine #[rfl,?_];have h4:¬2^14<=n:=λ e=>h (.inr (.inr (.inr e)));omega);obtain⟨rfl,a8⟩:=hy;(refine #[_,.v A.eU.XC (dY H? ap ac A.g.aGY) (.v A.eU.Sl (dY H? ap ac A.g.U7) (.v P7 w! (tK 2) A.g.adi (.v A.eU.abX w! (tK 3) A.g.UZ (.v A.eU.abi w! (tK 4) A.g.aH8 (.v P3 w! (tK 5) A.g.al3 (.v A.eU.Qj w! (tK 6) A.g.ahP (.v A.eU.vT H? (iu F0 ap ai b!) tY))))))),rfl,λ H2 s2 hz=>#[z,rfl,dx,_,hz,?_,?_,rfl,rfl,rfl,rfl,?_,rfl]];(.rw[lS i8 _ Iu,Eg (λ b=>i8 b),z_];dsimp only;rw[Mv]);.rw[lS i8 _ Iu,Eg (λ b=>i8 b),z_];dsimp only;exact ajO);.rw[lS Et _ ah1,Eg (λ m:O=>bn m)];show n/256%64=n/256;exact aoq a8
}
structure kM(c:Cs)(H:Hp)(a:a5)(bk:BK)(y:jZ)(t:aD):Prop where
 sc:La t.all
 len:da<=64
 hb:eg mE bk H
 ex:∃dx fs ta sg wl al,ma H a c.zy/\jS ("book":a4) ct bk.1/\jS ("text":a4) ct ta/\jS ("tab":a4) bn ut/\jS ("signs":a4) ct sg/\jS ("widths":a4) ct wl/\jS ("alone":a4) ct al/\e? H ta jp/\tp sg Ka jp Ii/\sU wl jp q4 (vN (xU Ii y n))/\sU al jp q4 M1 bQ Ii n
def z:={
kM.later{H H':Hp}{a:a5}{bk:BK}{y:jZ}{t:aD}(h:kM c H a bk y t)(s:tQ):kM c H' a bk y t:=by refine wX kK λ dx fs ta sg wl al h1 h2 h3 h4 h5 h6 h7 h8 h9 fc eD=>?_;exact #[h.sc,h.len,bI.later h.hb s,dx,fs,ta,sg,wl,al,Ip,h2,h3,h4,h5,h6,h7,pH h8,Qf s,pH fc,pH eD]
j7.keep{D:a5}{H:Hp}{a:a5}{I:nA}{fs:Bl}{o:HO}(h:j7 C H a I)(hz:ma H z D)(hl:f8 (um Hh)):j7 C (upd H z o) a I:=by refine zY h λ eQ gE k1 k2 k3 h1 h2 h3 h4 h5 h6 h7=>?_;(have e0:a≠z:=λ e=>by subst e;rw[a7 h1 hz hz,a7 h2 hl hl]);have e1:k1≠z:=Oe h5 _ _;have e2:k2≠z:=Oe h6 _ _;have e3:k3≠z:=Oe h7 _ _;exact(rS eQ gE k1 k2 k3 (by rw[aV e0];exact h1) h2 h3 h4 (by rw[aV e1];exact h5) (by rw[aV e2];exact h6) (by rw[aV e3];exact h7))
arS{D:a5}{I:nA}(h0:Hh∉ns):A8 z C dx ns i! vQ (j7 D H q I):=λ v H fs gE hz hf h=>ah h λ q e hq=>k8 q (hq.keep hz (by cases g:um Hh with|aF=>rfl|c! x=>rw[kr aH hf g h0]))
avz(A:Y):A3 7 "Sheet" c.zy be (BK×Fj×sm) [f6,dP ls,bA] bC (qi/\AQ/\AR/\wH br/\tq br) Gj (kM c H q dL fb br):=by refine HM A.zy A.fF.init Xz cd b4 a? Qg ["book","text","tab","signs","widths","alone"] λ a e z dx H hr hp=>?_;obtain⟨⟨b,d,kk⟩,⟨wa,y⟩,v,t⟩:=a;have hr:bX 6 (e.A.deeper TG (envOfC "Sheet.__init__") aA wg):=hr;rw[cz gG λ hR hW aS bJ a3=>lw av hv gi];rw[f5];have ug:vJ wa y:=hW;dsimp only at hv gi bJ a3⊢;rw[gb hv Xz.nd];(have hsz:AF:=by rw[zQ]);have b1:SB wg:=jy (B' wg 4);have b2:SB wg:=jy (B' wg 5);have hs:Me k n t:=eW Ml _;obtain⟨wdx,wfs,hw,_,_,_,_,_,_,ana,_⟩:=ug;(refine #[_,.v A.fF.yO ap (.v A.fF.ac7 aN (.v A.fF.vT (k0 cQ ut ad IC (b8 _ wdx wfs Cl hw Db A.eU.vT ana)) (.p Js (uL (azH A) hr (hY,dP av,t) lm aN IB (fG (fH s5) on av s5 gi bJ (o8 a3 b!))) n2 arS (.p A.fF.acd vK (pR 4 (f:=dT S' nC) R nd b1 aN) pm H6 s6 k8 av d' qV gi (λ s' dH C cl fp k x hk=>?_) B_ (.p A.fF.X3 vK (pR 4 (f:=dT M1 bQ eJ nC) R nd b2 aN) pm H6 s6 k8 av d' qV gi (λ s' dH C cl fp k x hk=>?_) B_ tY))))),rfl,λ H2 s2 v1 h1 v2 h2 v3 h3 hz=>?_];(.rw[Fg a9 a9 (aT (alq A) d4 (hY,(wa,y),m) (ae ap bt ad bm) (λ H6 s6=>#[fH s6,P2 hW s6,xv]))]);.rw[Fg bV bV vu S1 nN ML m ep (aT (ad7 A) d4 (hY,(wa,y),m) nY ap ad ep bm (λ H7 s7=>#[fH s7,P2 hW s7,xv]))];rfl);.refine ah h1 λ sg e1 hsg=>ah h2 λ k1 e2 cH=>ah h3 ax k2 e3 oj;subst e1 e2 e3;refine #[z,rfl,bJ,a3,Le,dx,_,av,sg,k1,k2,hz,rfl,rfl,rfl,rfl,rfl,rfl,gp gi,hsg,?_,?_];(.rw[cH,wG tT S' m]);.rw[oj,wG tT M1 bQ eJ m]
}
section _P
namespace _M
open x2 x3 x4 _L
def z:={
aam{X:Cx}{σ:ee}{H:Hp}{k:O}{m:a4}{e o:dl}{es:H!}{cL apos:ef}{C b:a5}{α:Type}{args:α->g!}{pre:α->my Hp}{post:α->V->my Hp}{P:V->my Hp}{PL:g!->my Hp}{pl:Sem cr}(c:dO X.K C)(F:e_ X.prog X.w X.K uJ X.base k C m (RQ args pre post))(hr:bX k X.A)(ho:n5 o b)(hi:tg (∃dx fs,ma H1 b C/\f8 (um m)))(ha:iw fB CK PL)(hp:∀vs H1,yH->bc (PL vs) H1->∃a,dP b::vs=args a/\pre a H1/\∀v H2,lV->post a v H2->P v H2)(bw:nh CK iL e es)(a_:Ey es any)(ht:d1 (iL qv (.Dl o m apos) CK=(do let ov<-iL o;standAt apos.atName;let(f,first)<-holding [ov] (getMethod ov m pl);callWith cL f first Kg backTo Jq CK Kg backToKw keywordEach []))):iw Ev qv (.Dl o m apos) CK P:=Mi c F hr ho hi ha (λ us H1 s1 e1=>by refine bM (hp us H1 s1 e1) λ a e2 h1 h2=>?_;exact dd (aZ a e2 h1 R) h2) bw a_ ht
}
section _M
namespace _P
open x2 x3 x4 _L _M
variable{P:Qh}{w:World}{K:Qi}{mg:N2}{t2:Heap}{c:Cs}
variable{H H':Hp}{b J x0 e z mu i n:O}{kl ke:fy}{l m:aD}{oo:TQ}{X:Cx}{a:dl}
def z:={
vW{α:Type}(g:Cv){t:aD}(h:b<=e)(he:m? e):g_ Pr an qQ an bD e=gt f? g:=by unfold g_ rm;rw[_H.uS,_H.uS,jf,fS Jv aej he,Jv (by exact o8 h he),VV,I9]
X8{σ:ee}{b:dl}{cL:ef}(hu:X.A.units+64<cLine)(ha:iw Ev a qr l)(hb:iw Ev b qr m)(hm:zX):mi i6 Eq [b] (l==m):=Te.of (uK (OQ hu) aI aI hm) λ H1 s1 Q q=>iv US λ u H2 s2 hu=>iv T1 λ v H3 s3 hv=>by refine ah (hu H3 s3) ax q1 e1 h1;refine ah kS ax q2 e2 h2;subst e1 e2;refine #[.list (dN l),.list (dN m),.lst d' h1 (wJ l),.lst d' h2 (wJ m),aeI l,aeI m,_,rfl,?_];rw[PyData.eqv,F9];exact q H3 za
count_map{f:O->O}{k:O}:(o9 λ n=>bF (f n)).count jx=a6 (l.filter dT (f x==k)):=by rw[List.count,List.countP_map,List.countP_eq_length_filter];congr 1;apply List.filter_congr;intro x _;show(md (f x)==jx)=(f x==k);rw[EA gk gk,VW]
ah9(A:Y):cA "cluster_width" (RQ be ((a5×TT BK)×O×kp) [f6,iX,wp,vN br] bC (kM c H hK fd gy iU/\a!<bA/\bA<=si) dv (vN (VX yC fd.2.1 gy br (rm iU a! bA)))):=bp A.aJS Sj cd b4 a? λ q e H hr hp U hU=>by obtain⟨⟨a,⟨bb,d,kk⟩,y,t⟩,b,e,col⟩:=q;rw[pK hS eN e7];dsimp only at hS eN e7;rw[pr hR bb hS.hb,<-wX hS.ex λ dx fs ta sg wl al h1 h2 h3 h4 h5 h6 h7 h8 h9 fc eD=>?_];have nd:=Sj.nd;rw[cx];rw[_W.aCx hR.dh];have yU:a6 f?=e - b:=_W.p8 e7;refine gI 4 nd (NI qr f? (pB cQ ta Z LK A.fF.ac7 h3) rT H1 s1 Bh ta Ny h8 λ p H2 s2=>Be p (by rw[aX,HW vN nm eN e7])) λ cv H1 s1 rh=>?_;have ie:∀H2,lV->ba H2 cv f?:=λ H2 s2=>rh H2 s2;(refine aW ds (X8 (l:=f?) (m:=[9]) (De hr) (e6 bm λ v H2 s2 ev=>by rw[ev];exact ie H2 s2) (e6 (nU (ae ac A.g.TAB ao)) λ v H2 s2 bx=>A7 bx q e2)) (c4 (bP gL Ln ai)) bB bB;.rw[ed,gk,dX]at hx;(have ht:ut≠0:=by have:=ip;omega);rw[tn #[hx.1,ht],gr (aY cV Ln (iu xt aN Ln (by have:=ip;omega))) mR];have:=Nat.mod_lt col (show 0<ut by omega);rw[dw aut]);rw[kt (λ h=>by(have:as (f?==[9]&&ca ((dp ut)>0)):=by rw[ed,gk,dX];exact #[h.1,by have:=fh;rw[dw akO]]);rw[a7 az hx hx]),c3 ei (bz 5 nd) (f_ (kU mK 2 f?)) (aam I7 (Wa A) hr (pB cQ bb Z y? A.fF.yO h2) j_ (hR.later s1).cp Bv ac A.g.aAR (E2 (Po:=qr f?) (xs:=jI f?) A.g.xM (e6 bm λ v H2 s2 ev=>by rw[ev];exact ie H2 s2) xc (by rw[F1 q e1 e2])) (λ vs H2 s2 hv=>by(rw[xd qg λ v1 r1 aS aU v2 r2 a9 bu bV=>ah bu ax q cI hq];subst aS aU a9 bV cI);exact(kw (tA,2,dP q,f?) #[y7 hR.later,sl ((2:O)<3),fT q hq] λ v H3 s3 h=>h)))];(refine aW zg ck ch cg ck d? B5;.rw[sK vL cg];unfold mK at vL⊢;cases BW:M4 t e with|aF=>rw[BW]at vL;exact CU vL b!|c! l=>rfl);rw[p2 vL cg];(have BW:f8 M4 t e:=by unfold mK at vL;cases BW:M4 t e with|aF=>rfl|c! l=>rw[BW]at vL;rw[kr (by dsimp only;exact rY) vL]);rw[BW];dsimp only;refine zY h9 λ sdx sfs k1 k2 k3 g1 g2 g3 g4 g5 g6 g7=>?_;(have xY:g_ ((oa).map dT Pe) an qQ an bD e=gt Lr e8:=by rw[AO hG HW ((λ x=>Pe)∘kU Jp) nm eN e7]);have Uo:(Lr).count (6:bG)=a6 ((f?).C1 dT (Gr z1 x==6)):=count_map (f:=q4 nN KW) (k:=6);(refine aW (eT (aDX (ns:=gt f? q4 bF (KW).cls) (k:=6) (NI pG v vQ sU q h! Lr e8 M! pB cQ k1 y? Js h5 d! (b8 _ sdx sfs li g1 Do P_ g2) xc Bh k1 d' li g5 λ p H3 s3=>on p s3 (by rw[aX,xY])) ac A.g.O_ xc (by rw[F1 q e1 e2])) ai) ch BQ ai d? j1 BQ;.rw[sK xH BQ];rw[gh];(.rfl);.rw[Uo]at xH;exact As xH);rw[p2 xH BQ];rw[Uo]at xH;rw[kt (λ h=>by rw[h]at xH;exact xH R),<-ei aG em _ (auH (ns:=gt f? q4 bF F4) R A.g.LC (NI pG v vQ sU q h! lC f? n bF F4 e8 (pB cQ wl Z y? A.fF.acd h6) xc Bh wl d' li fc λ p H3 s3=>on p s3 (by rw[AO aX HW (λ n=>vN F4) nm eN e7])) xc (by rw[F1 q e1 e2]) (by rw[wB yU,Nat.zero_lt_sub_of_lt eN]) (λ k hk i9=>?_)) ff];(rw[ci (ah (ud hk) ax n hn dB) dB]);have:=_W.apa (l:=f?) (f:=iE xU y) (m:=F4) No B3 n hn (λ z hz=>by(rw[ci (ah (ud hz) ax n' v_ d6) d6]);have:=i9 _ (PV B3 n' v_);rw[dw aC2]);rw[az]
ow.2:=a5×TT BK
sF.2(c:Cs)(a:ow)(H:Hp):Prop:=kM c H dL a! bA br
ow.B.2(a:ow):hA:=yC fb.1
Qk{k:O}(h:bd l k z):I0 el=Pc++[z]:=by rw[I1,h];rfl
ahq{k:O}(hp:l.Pairwise (· < ·))(hb:∀x∈l,b<x)(h:bd l k z):b<=Nw Pc b/\Nw Pc b<z:=by cases k with|zero=>rw[List.take_zero];exact #[e5,ng hb z h]|succ k=>rw[m4 hl hz h];have hk:bd l k l[k]:=LS uV hl;rw[Qk hk,Qm];show b<=l[k]/\l[k]<z;have h1:=hb l[k] (VY _);have h2:=x_ hp k el bN uV hl hl Ib;exact aLd h1 h2 hz
Kn(A:Y):R' (jE "row_width") ow (vN (V0 r? gy Bq rm iU)):=nl A.ajJ aaX λ q e H hr hp U hU=>by obtain⟨⟨a,⟨bb,d,kk⟩,y,t⟩,b,e⟩:=q;rw[pK hS eN e7,p4];dsimp only at eN e7;have nd:=aaX.nd;rw[cx,kq tS v (v=vN jt V0 y f?)];rw[_W.aoE e7];rw[<-wX f9.ex λ dx fs ta sg wl al h1 h2 h3 h4 h5 h6 h7 h8 h9 fc eD=>?_,GH a3 qI (_W.adD oa b e)];have fu:∀x∈S4,b<x/\x<=e:=λ x hx=>_W.BD hx;have hL:tg (j7 c.k5 H1 sg oa/\b<=e/\e<=a6 oa/\Hr oa):=λ H1 s1=>(fG (Qf s1) eN (by rw[eH,e7]) (by rw[eH,RY a3]));refine bz 3 nd ai (bz 4 nd ap ?_);generalize KE:S4=L at qI fu;refine SO (Fu 5) tH (∃p,a0=[ij,qz,w9,bn Ns,an (vN ((Ir).Ql b)),p]) (aT (Va A) hr ((sg,oa),b,e) M! ae LK Js h5 lm ad hL) qU bx A7 bx q (dk (by rw[e2,<-KE])) m' #[_,rfl] ?_ ?_;(.intro k x a0 H2 s2 hk j;obtain⟨p,rfl⟩:=j.now;(rw[ci (ah (eK hk) ax z hz aS) aS]);obtain⟨l1,l2⟩:=ahq qI (λ x hx=>(fu x hx).1) hz;have hze:=(ng fu z hz).2;refine lh 3 p5 nd R (k:=mx (VX eJ y Ns (rm t ((Ir).Ql b) z))) (aT (ah9 A) d4 (oe,Nw Ir b,z,Ns) r5 bm bt ck aN (λ H3 s3=>#[Ew x! s3,l2,show(m? z)by exact o8 hze e7])) (bz 4 nd ck (c5 λ H3 s3=>#[bn z,?_]));rw[Qk hz,_W.ZA,Qm];rfl);.intro a0 H2 s2 j;obtain⟨p,rfl⟩:=j.now;rw[wB Dw,aG aN ff]
IW(A:Y):R' (gn 5 "line_measure") ow (vN (Qp r? gy iU a! b?)):=nl A.axU X2 λ q e H hr hp U hU=>by obtain⟨⟨a,⟨bb,d,kk⟩,y,t⟩,b,e⟩:=q;rw[pK hS eN e7,p4];dsimp only at eN e7;have nd:=X2.nd;rw[cx,kq tS v (v=vN Ag),<-wX f9.ex λ dx fs ta sg wl al h1 h2 h3 h4 h5 h6 h7 h8 h9 fc eD=>?_,p! tF k GQ [ij,qz,w5] (k<=e) (rv t b k=Ag) (e - b) (rQ e R eN e5 R R)];rintro m a0 H1 s1⟨k,rfl,k1,k2,rfl,k3⟩;by_cases hk:b<k;(.obtain⟨n,hn⟩:=rW t i pI (by exact ar2 k2 e7 hk);(have cH:(hV)=bF i1:=by exact yh hk);refine(aZ _ ds Nz oW (nF cN jt VU y n (pB cQ al Z y? A.fF.X3 h7) oH d! qs li eD (aDT bN aDM cH (by rw[np hn]))) bB bB);(.rw[ww,<-wc (lh 2) nd LJ ?_ HV ?_];(.rw[lS [_,_,Et hV] cH]);.rw[SM _W.ahw t ip]);.have a8:as ca (dp b<jx):=r0 Bx hk;rw[Gn a8,gr Lx Kn (oe,b,k) d! #[Mx,k1,show(m? k)by exact o8 k2 e7] Gi,SM _W.aFu t hx]);. (have z3:k=b:=by exact Gz k1 hk);rw[p9 Nz AE ad3 hk (aG Lx Kn (oe,b,k) d! #[Mx,k1,show(m? k)by exact auY e7 eN hk] Gi)];rw[<-k3];exact(_W.aE9 Tn (k<=b) hk).symm
Ex.1(l:ON)(i:O):Scope:=match l[i]? with|ty .Return an Ih _=>sc|ty .Return an (.Call _ [Ih] _ _) _=>sc|_=>FS
GS(g:tB)(t:aD):(y3).map M2=gt Pr bQ:=by rw[wG (λ n=>bQ (g n)),hG];rfl
Iz(A:Y):cA "all_scalars" (RQ be sm [a.1] bC (TZ H dL db/\a6 db<=10000) dv (it (a.2.all ji))):=k7 A.aAX YA cd b1 a? λ a f aK A' cs s H0 H E hr hp U hU=>by obtain⟨v,t⟩:=a;rw[y4 hv a3];dsimp only at hv a3;have nd:=YA.nd;have eh:nb ["numbers","number"] Dy ("number",1):=jy (Ex (cu Dy) 0);((have hsz:AF:=by rw[zQ]);have fin:(Nq).all id=t.all ji:=by rw[C6];rfl);rw[cx];rcases hv with⟨q,rfl,hq⟩|⟨q,rfl,hq⟩;(.refine mW eS mt vP Nq xT e6 vK (pR 1 (f:=dT TW) R nd eh Z) FR q hq (λ s' dH C cl fp k x hk=>?_) h' bx bx (dk (by rw[h,GS])) pt u e B7 fin;(rw[L_ m aS aS]);refine i0 ni ua ld ap n4;rw[e,gR];exact jW bQ (oK m));.refine mW eS mt vP Nq xT e6 vK (zB 1 (f:=dT TW) R nd eh Z) Kr q hq (λ s' dH C cl fp k x hk=>?_) h' cw cw (dk (by rw[h,GS])) pt u e B7 fin;(rw[L_ m aU aU]);refine i0 ni ua ld ap n4;rw[e,gR];exact jW bQ (oK m)
aJY.1(l:ON)(i j:O):Scope:=match l[i]? with|an (.If (.BoolOp _ es _) _ _ _)=>(match es[j]? with|an (.Call _ [Ih] _ _)=>sc|_=>FS)|_=>FS
aoI(A:Y):ec "are_marks" (RQ be (HF×sm) [mA,a!] bC (ba H hK d2/\ba H a! b?/\oD<=10000) dv (it (V1 b? d2))):=fx A.aie afc λ a e H hr hp U hU=>by obtain⟨⟨mv,m⟩,tv,t⟩:=a;rw[cz bW λ a9 bu a3=>ah a9 λ qm kP dR=>ah bu ax qt fq dQ];dsimp only at kP dR fq dQ a3;subst kP fq;have nd:=afc.nd;(have eh:nb ["marks","text","mark"] Ha ("mark",2):=jy (aJY (cu Ha) 0 1);have hsz:y1 a6 Ve:=by rw[zQ]);have w6:R9 H1 qm fz:=v5 H1 s1 EO qm e KM;have CT:R9 H1 qt da:=v5 H1 s1 EO qt e BT;rw[Aw V1];(refine ga fe (gg Lw n8 da ap mX pP CT H1 s1) (eB (bO eS mt zd (Dx λ(n:O)=>ca (j?>2)) C5 e6 vK (pR 2 (f:=dT (bQ (CW ((md nC)>2)))) R nd eh Z) FR qm dR (λ s' dH C cl fp k x hk=>?_) h' dA dA (dk (by rw[h,GS (λ(n:O)=>ca (j?>2))])))) h1 im;(. (rw[nk n bV bV]);refine i0 (gO gL ad Vb) n4;rw[e,gR]);.rw[At];intro h;simp only[ed,gk,xO,dX]at h;rw[SR List.any_eq_true List.mem_map id_eq];rcases h1 with h1|⟨_,⟨n,hn,rfl⟩,h2⟩;(.exact h1 (by rw[h.1]));.have:=fh.1 n hn;rw[sK Dg h2,ks agz Dg]);. (rw[Md];(have e1:as (fz==da):=by have:=xw;rw[qp,dw AN]);have e2:as (m.all dT ca (x<=2)):=by rw[xO];intro n hn;have h3:=tX;rw[xQ,V2]at h3;have:=h3 n hn;rw[qp,dw ayx]);rw[Gp e1 e2 eo];cases hm:m with|nil=>refine nF aG bH e6 (fP (y:=bH) (dY Lw ai) m0 (by rw[a7 hm hx hx])) rt v e B7 Jm ff|kA x r=>(have dq:kF Ve (-1)=an UB (by rw[hm];simp):=by((have h0:m≠[]:=by rw[hm];simp);have h1:Dx vN=m.dropLast.map vN++[UB h0]:=by rw[Tc]);rw[h1];exact aaV _ _);rw[<-hm];rw[i2 (fP (dY Lw ai) m0 (bZ (pk (m:=2) (cN Z tU bE mN dk dR dq) ac Dz)))];((have bf:m≠[]:=by rw[hm];simp);have e3:m.isEmpty=false:=by rw[hm];rfl);have e4:wn (dp fz=0):=t5 (by rw[hm,mD];exact aeL);rw[e3,e4,jj,jj,V3 bf];rfl
ZF.2:=HF×kp
axd(A:Y):ec "first_must" (RQ (λ a:ZF=>[mA,iX]) bC (ba H hK d2/\Bq _W.lH d2) dv (vN (qZ+1))):=fx A.aC1 Xy λ a e H hr hp U hU=>by obtain⟨⟨mv,m⟩,b,q⟩:=a;rw[cz bq λ cI hM=>ah cI ax qm kP dR];dsimp only at kP dR hM;rw[gb kP Xy.nd,cx,<-i? nd ap ?_,c3 (mw n! z tF k (a0=[s?,qz,w5]/\b<=k/\k<=q/\z=q - k) (λ _ _ _ _ _ h=>h) (q - b) kB) (fE b R e5 hM.le R)];rintro z a0 H1 s1⟨k,rfl,k1,k2,rfl⟩;(have hk:bd m k yR k:=by rw[E' (CY (by have:=hM.lt;rw[ks xG k2]))]);refine(aZ _ xa (oO yR k Z ad d! qs li dR (b_ (by rw[np hk]))) Dz bB bB);(. (have bf:k≠q:=λ e=>by subst e;rw[hM.is]at hx;simp at hx);exact lh 2 p5 nd R ai yL (BE (q - el) f4 auZ bf k2 el R bN V4 k1 f4 aqp bf k2 R));. (have heq:k=q:=by by_cases e:k=q;(.exact e);.have:=hM.no k k1 Rb k2;rw[rd,dX]at hx;rw[ks aCJ hx]);subst heq;exact aG Fp ff
abc(A:Y):cA "chances_behind" (RQ (λ a:ZF=>[mA,iX]) bC (ba H hK d2/\Bq _W.lH d2/\oD<=64) gx lr (_W.d8 d2 a! b?)):=fx A.afy Sb λ a e H hr hp U hU=>by obtain⟨⟨mv,m⟩,b,q⟩:=a;rw[cz bW λ dB hM a3=>ah dB ax qm kP dR];dsimp only at kP dR hM a3;rw[gb kP Sb.nd];have hle:=hM.le;have a8:=hM.lt;have eh:nb ["marks","begin","must","place"] E8 ("place",3):=jy (Ex (cu E8) 1);(have hn:kc (md nw+1 - ze)=q+1 - b:=by exact aij);rw[cx,c3 k0 (i? nd) nw (aT (axd A) hr ((eC qm,m),b,q) bt Z ap bE #[fT qm KM,hM]),<-mW (Qe 3 (lo:=qQ+1) (hi:=bF nw+1) (f:=id) (t:=pT λ p=>HG) R nd eh q9 bt N! Fp (by exact aj6 hle a8 a3) a? (by rw[hn];rw[n? (show Cc by exact akF a8 a3)]) (λ s' dH C cl fp k hk=>?_) (λ s' dH C cl fp k hk ht=>aN) FI) h' eG eG ?_];(. (have cj:m[b+k]?=an On:=by rw[SF apT hk a8]);(have hz:GM - 1=bF (b+k):=by exact aqu);(have ht:pT Cy HG f3 GM=!ca (ps On=0):=by show(yR ((GM).toNat - 1)!=0)=_;rw[qx (kc GM - 1=b+k) aGr,q!];simp);rw[ht];exact gg (oO On Z N9 d! qs gp dR (by rw[dV hz b_ (by rw[np cj])])) U!);.rw[h,hn];have:=O4 (lo:=b+1) (t:=pT λ p=>HG) (g:=λ p=>HG) (n:=q+1 - b) tS k aH acz _;unfold _W.d8;rw[<-az];rfl
}
structure DC(L:aD)(b n:O):Prop where
 rise:AY
 xN:∀p∈L,b<p/\p<=n
def z:={
My:∀{L:aD}{b n:O},b<=n->AY->(∀p∈L,b<p/\p<=n)->hH<=n - b|[],b,n,_,_,_=>by simp|x::r,b,n,h0,h1,h2=>by have hx:=h2 x se;rw[List.pairwise_cons]at h1;have:=My (L:=r) (b:=x) (n:=n) ip tX (λ p hp=>#[h1.1 p hp,(h2 p (by simp[hp])).2]);rw[mD];rw[ks auf hx]
pw.1(o:HU):bG:=match o with|an p=>tP|aF=> -1
aKQ{L:aD}{p:O}(hp:AY)(h:L.getLast?=an p):p∈L/\∀y∈L,y<=p:=by refine #[List.mem_of_getLast? h,cU y hy];obtain⟨i,hi,rfl⟩:=Vq hy;rw[Qr]at h;rw[m4 hl e h];by_cases hz:i=v4;(.subst hz;rw[dV e Jk _]);.have:=x_ hp i tr hi hl f4 acu hi hz;exact Lq az e
ZV(A:Y):gn 6 "farthest_fit" (RQ be (ow×O×A!) [f6,iX,wp,mm] bC (sq/\ba H mm oQ/\DC oQ bA si/\bA<=si) dv (f_ (pw (DG r? gy a! iU bA oQ)))):=k7 A.amW UC cd b4 a? λ q f aK A' cs s H0 H E hr hp U hU=>by obtain⟨⟨a,⟨bb,d,kk⟩,y,t⟩,n,b,iq,L⟩:=q;rw[cz dm λ hS aS hP rC=>lw qL cB mQ];rw[p4];dsimp only at cB mQ hP rC;rw[gb cB UC.nd,GH a3 j5 (My rC hP.rise hP.xN)];have eh:nb ["sheet","columns","begin","places","fits","place"] Gk ("place",5):=jy (mU (cu Gk));((have hsz:y1 a6 tH:=by rw[eH,n? (show _<=64 by exact aiK j5 a3)]);have jN:((tH).C1 (pT λ p=>ca yP p)).map id=gt lC zV p iC r9 p e8:=by rw[Vo,PK,hG];rfl);rw[cx,<-aF1 5 4 (f:=id) (t:=pT λ p=>ca yP p) R nd eh aN FR qL mQ a? hsz (λ s' dH C cl fp k x hk=>?_) (λ s' dH C cl fp k x hk ht=>ck) FI (λ l H1 s1 hl=>?_)];(. (rw[ci (ah (eK hk) ax p hp aU) aU]);have Ec:=ng hP.xN p hp;(have ht:pT Cy ca yP p (vN p)=ca (md rv t b p<=gs):=by show nK yP kc dp p _;rw[LF PH dX awr]);rw[ht];exact bP d7 Sv p ck #[Ok,Fr (b<=p) abJ Ec,Ec.2] ap);.rw[jN]at hl;rw[gr (ajK (ns:=gt zV λ p=>iC r9 p) (m:=pw (lc DG b L)) R A.g.LC bm ac Jw xc (af l jY d' gp hl) j1 e (λ k hk i9=>?_)) ff];(. (have e':zV=[]:=by simpa using e);rw[Bk DG e']);.unfold DG;have qI:Ot zV:=hP.rise.filter _;(rw[ci (ah (ud hk) ax z hz a9) a9]);cases hg:(zV).getLast? with|aF=>rw[List.getLast?_eq_none_iff]at hg;rw[a7 hg hz hz]|c! p=>obtain⟨h1,h2⟩:=aKQ qI hg;have h3:=h2 z hz;have h4:=i9 _ (PV B3 p h1);show iC r9 z=tP;exact azf h4 h3
Y8{o:HU}:(pw o= -1)↔o=aF:=by cases o with|aF=>simp[pw]|c! p=>simp[pw]
ayF(A:Y):gn 7 "line_end" (RQ be (ow×O×A!) [f6,iX,.bl Uv,wp,mm] bC (sq/\ba H mm oQ/\DC oQ bA si/\oQ≠[]) dv (vN (_W.nI r? gy a! iU bA oQ))):=bp A.asa R6 cd b5 a? λ q e H hr hp U hU=>by obtain⟨⟨a,⟨bb,d,kk⟩,y,t⟩,n,b,iq,L⟩:=q;rw[cz dm λ hS bu hP bf=>ah bu ax qL cB mQ];rw[p4];dsimp only at cB mQ hP bf;rw[gb cB R6.nd];have a3:=f9.len;rw[cx,kq tS v (v=vN (lc _W.nI b L))];(obtain⟨x,r,hL⟩:∃x r,L=x::r:=by cases L with|nil=>rw[kr R bf]|kA x r=>exact(d3 x r R));have hx:=hP.xN x (by rw[hL];simp);((have Ds:L.headD 0=x:=by rw[hL];rfl);have rC:m? b:=by exact af9 hx);unfold _W.nI;rw[c3 ei (bz 5 nd) (f_ (pw Gt b L)) (aT (ZV A) hr (oe,n,b,dP qL,L) r5 ap Gv bE (fG Ok fT qL dZ mQ hP rC))];cases hf:Gt b L with|c! p=>refine aW xa ck Jw ch h1 ck ff im;(have:yD pw p= -1:=by simpa using h1);rw[a7 Y8 az az]|aF=>refine aW xa ck Jw (λ h1=>by simp[pw]at h1) im;dsimp only;rw[Ds];(refine aW tL ad ch h2 (oO x bm ai bE mN dk mQ (by rw[dV hL tM R])) d? B4;.rw[gh (by simpa using h2)]);(have jA:¬Da=false:=by have:(!Da)=false:=h2;simp at az;simp[az]);rw[kt jA,<-wX f9.ex λ dx fs ta sg wl al h1 h2 h3 h4 h5 h6 h7 h8 h9 fc eD=>?_];have hee:Mp x≠[]:=_W.Pn _ hx.1;refine gI 6 nd (P1:=qr Mp x) (aT (Va A) d4 ((sg,oa),b,x) M! ae LK Js h5 EJ (oO x bm ai bE mN dk mQ (by rw[dV hL tM R])) bE (fG (Qf s1) cP (b<=x) abJ hx (by rw[eH,ip]) (by rw[eH,RY a3]))) λ bv H1 s1 rZ=>?_;(rw[ci (ah rZ.now ax qB bV L7) bV]);generalize hB:Mp x=B at L7 hee⊢;have hPB:DC B b da:=#[by rw[<-hB];exact aH _W.adD _,λ p hp=>by rw[<-hB]at hp;have:=_W.BD hp;exact afv az hx];rw[c3 ei (bz 5 nd) (f_ (pw Gt b B)) (aT (ZV A) hr (oe,n,b,dP qB,B) r5 ap EJ g? d! (fG Mx Be qB L7 hPB rC))];(obtain⟨z,r',WT⟩:∃z r',B=z::r':=by cases B with|nil=>rw[kr R hee]|kA z r'=>exact(d3 z r' R));refine gB (kG BM ck Jw bi (oO z g? ai d! qs gp L7 (by rw[dV WT tM R])) bi ck);rw[e];cases hf2:Gt b B with|c! p=>have:ca (yD pw p= -1)=false:=t5 (λ h=>by rw[a7 Y8 h h]);rw[qC]|aF=>rw[WT];rfl
QY(l:oy)(x:kp):Qs (l++[x])=rx l++[x.1,x.2]:=by unfold Qs;rw[List.flatMap_append];simp
DJ(l:oy):a6 rx l=2*je:=by induction l with|nil=>rfl|kA x l ih=>show a6 ([x.1,x.2]++rx l)=_;rw[I2,ih,mD];simp;exact aou
Su{q:O}(h:_W.lH m b q)(hn:fz<=n):DC (_W.d8 m b q) b n:=#[aH _W.aEz _,λ p hp=>by have:=_W.DY hp;have:=h.lt;omega]
Ao.1(m t:aD):Prop:=fz=da/\(m≠[]->m.getLast?=c! 2)
Ao.must{t:aD}(h:Ao m t)(hb:b<fz):m.getLast?=c! 2/\∃q,_W.lH m b q:=by have h1:=fh (λ e=>by rw[e]at hb;simp at hb);exact #[h1,_W.ae2 h1 _ b R hb]
aLU(A:Y):gn 8 "filled_lines" (RQ be (ow×A!) [f6,iX,.bl Uv,bA] bC (sq/\AR/\Ao br iU) gx (lr FV V5 br/\Br FV V5 br)):=bp A.aFO U' cd b4 a? λ q e H hr hp U hU=>by obtain⟨⟨a,⟨bb,d,kk⟩,y,t⟩,n,mv,m⟩:=q;rw[cz bW λ hS aS aR=>lw qm kP dR];rw[p4];dsimp only at kP dR aR;rw[gb kP U'.nd,GH a3 g8 aR.1,cx,Rx RN GZ ti fr os t0 (∃(k:O)(e':g')(dn:oy),RE [ij,jL,fn .bl Da,s?,qq,w5,e'] _W.rG _W.rG) (K6 Df aF ([]) R lO R II aX R e5)];rintro z a0 H'⟨k,e',dn,rfl,hk,rfl,s2,hL,lW,q_⟩;have w6:sf qO qm fz:=FB s3 qm F?;refine dd qT ck n8 fz aN GA w6 qd H3 s3 bB;(. (have lJ:k<fz:=by rw[nq hx,dw uz]);obtain⟨VE,q,hM⟩:=aR.must lJ;have Gq:=Fm _W.aco B y (n:=n) (t:=t) hM;have fX:=hM.lt;have bw:=Fm _W.ago B y (n:=n) g8 VE hM;generalize he:lc _W.nI k pQ=e at Gq bw;have KR:=x! AH;have jb:e? H3 qm Dx:=F?;refine SX da k (∃(k:O)(e':g')(dn:oy),RC [ij,jL,fn .bl Da,s?,qq,w5,e'] _W.rG _W.rG);refine mc e (nZ (ayF A) hr (cq Z (cq ap (cq ad Bv ck Sp abc ((eC qm,m),k,q) S! qm jb hM))) (λ vs H4 s4 hv=>?_)) Cn H4 s4;(.obtain⟨_,_,rfl,rfl,_,_,rfl,rfl,_,_,rfl,rfl,_,_,rfl,rfl,cv,_,rfl,rh,rfl⟩:=kS;exact(kw (oe,n,k,cv,pQ) (fG (KR.later s4) rh (Su hM (by show Ug;exact V8 g8)) (_W.Kt hM)) λ v H5 s5 h=>by rw[h,<-he]));.have BY:=M9;refine BH CA Bs BY (iv (nU (vs:=[vN k,wI]) bt ck g?) λ u H5 s5 hu=>?_);(rw[ci (ah jY ax q5 aU jT) aU]);have sE:=aH s5 BY;refine T5 q5 sE jT;(.rw[wB DJ,Ae (show Cc by simp;exact aBl q_ lJ g8 a3)]);. (refine #[_,rfl,da - e,by exact azt Gq lJ g8,e,_,dn++[(k,e)],rfl,by exact Wl Gq fX g8,rfl,ax b' o' hb,?_,?_,?_];(.rw[i5 hl Bc vO hb]);.rw[aX,QY,rl];rfl);(.rw[<-lW,bw,Qt];rfl);.rw[L2 ahX Gq q_]);.rw[Go lJ (fz<=k)];rw[_W.amf (by exact Bn g8 lJ),Du]at lW;(have gw:Br vM:=by rw[DJ];exact U8 q_ hk a3);rw[lW]at gw;refine FM #[Mb,gw];rw[hL,lW];rfl
yX.1(x:pb):aD:=[x.over,x.lack,Qu]
m_.2(H:Hp)(v:V)(x:pb):Prop:=cT H v (yX x)
aL6(A:Y):gn 6 "line_badness" (RQ be (ow×O×O×Ky) [f6,iX,wp,vN mm,.bl oQ] bC (sq/\bA<=mm/\mm<=si/\Og) gx o2 AZ a! (Qp r? gy iU bA mm) oQ):=bp A.aDk U_ cd b5 a? λ q e H hr hp U hU=>by obtain⟨⟨a,⟨bb,d,kk⟩,y,t⟩,n,b,e,last⟩:=q;rw[cz dm λ hS eN e7 hn=>?_];rw[p4];dsimp only at eN e7 hn;have nd:=U_.nd;rw[cx,kq i! o2 AZ n Ag last,c3 ei (bz 5 nd) em (j? - mx Ag) (aY cV ap Sv e aN #[Ok,eN,e7])];generalize Ag=m;unfold V9;(refine aW (bP cK ck ai) qY mW (iI (vs:=[f3 (-oA),xr,f_ 1]) nY (oz ck) ai ep ai) pt v bx A7 bx q ?_ qY mW (iI (vs:=[xz 0,if(ln last)then xr else em (oA*oA),f_ 1]) (ae ai bt (kG gz bm (λ _=>ai) bi (iu atv ck ck ?_)) ai)) pt v cw A7 cw q ?_;(.rw[sK gU h1];rw[e2,l! aru gU];show G2 [kz (-oA),Iy,e8 1]=G2 [kz bF (m - n),_,_];rw[cP (-oA=bF (m - n)) agW gU];rfl);.rw[p2 gU h1];left;exact ajy hn gU);.rw[p2 gU h1];rw[e2,ii cP (¬n<m) av0 gU];cases last with|bH=>rfl|false=>show G2 [Iy,kz (oA*oA),e8 1]=G2 [_,kz bF ((n - m)^2),_];(have e3:oA*oA=bF ((n - m)^2):=by have:gs - ld=bF (n - m):=gu aGD gU;rw[az,Nat.pow_two,Int.natCast_mul]);rw[e3];rfl
az4(A:Y):ec "summed" (RQ be ((V×pb)×V×pb) [mA,a!] bC (m_ H hK d2/\m_ H a! b?) gx o2 (a.1.2.plus b?)):=fx A.ap5 aJt λ q e H hr hp U hU=>by obtain⟨⟨v1,x⟩,v2,y⟩:=q;rw[cz iN λ aS q2 EG h2=>lw q1 S3 h1];dsimp only at S3 EG h1 h2;subst S3 EG;rw[oc ix (∀(σ:ee)(i:O),True) (λ _ _=>trivial),<-mW (iI (ae (aY bT k! iQ x.over Z h1 k! iQ y.over ap h2) bt (aY bT k! iQ x.lack Z h1 k! iQ y.lack ap h2) (aY bT k! iQ Qu Z h1 k! iQ y.lines ap h2))) pt v dA A7 dA q ?_];rw[e2];rfl
aeG(x y:pb):_E.lexLe lC (yX x) n Hm lC (yX y) n Hm=x.le y:=by unfold yX MtLine.Bad.le;simp only[VB,List.map_nil,_E.lexLe];rw[wE];simp only[t6,ed,dX,gk];by_cases h1:x.over=y.over;(.rw[l! BV h1];by_cases h2:x.lack=y.lack;(.rw[l! BV h2];by_cases h3:Qu=y.lines;(.rw[l! BV h3];simp[h1,h2,h3]);.rw[Gh l_ Fx h3,aAf h1 h2]);.rw[Gh l_ Fx h2,aCY h1 h2]);.rw[Gh l_ Fx h1,amX h1]
kN.2(n:O):Key:=.inl gs
DH{a:O}(h:kN a=kN b):a=b:=by injection h with h;exact AN h
xK.2:=O->pb×oy
}
structure LE(H:Hp)(L:aD)(F:xK)(J:O)(kl ke:fy):Prop where
 hi:Gx j (J<=j) (∃v,rO x=an v/\o2 (F j).1)
 lo:Gx j (j<J) wM x
 en:∀j x,J<=j->HQ j->vZ->Tl e x e
def z:={
LE.heap{L:aD}{F:xK}(h:lD (LE H L F J))(s:∀v l,cT H v l->cT H' v l):lD (LE H' L F J):=#[λ j x hj hx=>by refine ah Of hj ax v h1 h2;exact(af v h1 B8),nW,rn]
}
structure LI(H:Hp)(L:aD)(F:xK)(J x0:O)(oo:TQ)(kl ke:fy):Prop where
 hi:Gx j (J<j) (∃v,rO x=an v/\o2 (F j).1)
 lo:Gx j (j<J) wM x
 en:∀j x,J<j->HQ j->vZ->Tl e x e
 no:oo=aF->wM x0
 yes:∀b,oo=xn->(∃v,rO x0=an v/\o2 b.1)/\or x0=bn (GE b.2 0)
def z:={
LI.heap{L:aD}{F:xK}(h:wP H F oo)(s:∀v l,cT H v l->cT H' v l):wP H' F oo:=#[λ j x hj hx=>by refine ah Of hj ax v h1 h2;exact(af v h1 B8),nW,rn,h.no,λ b hb=>by refine bq (h.yes b hb) λ aS h3=>lw v h1 h2;exact #[(af v h1 B8),h3]]
Q0{L:aD}(hp:AY){j x:O}(h1:bd L i x)(h2:vZ):i=j:=by rw[m4 l1 e1 h1,m4 l2 e2 h2];rcases Nat.lt_trichotomy i j with h|h|h;((.have:=x_ hp i j l1 l2 h;exact abO az e1 e2);.exact h);.have:=x_ hp j i l2 l1 h;exact abO az e2 e1
LI.put{L:aD}{F:xK}(h:wP H F oo)(hp:AY)(h0:bd L J x0){v:V}{x:pb}{k:O}(hv:o2 x)(he:(fv).getD k 0=e):LI H L F J x0 an (x,k) (ro kl (kN x0) v) rL x0 e:=by(have ne:∀{j y:O},j≠J->bd L j y->¬kN y=kN x0:=λ{j y}hj hy hk=>hj (Q0 hp hy (by rw[DH hk];exact h0));refine #[λ j y hj hy=>?_,λ j y hj hy=>?_,λ j y hj hl hy=>?_,(λ hb=>OI),cU b hb];(.rw[ko,c? (ne mk Fb hy)];exact h.hi j y hj hy);.rw[ko,c? (ne mk V_ hy)];exact nW j y hj hy);(.rw[ko,c? (ne mk Fb hy)];exact rn j y hj hl hy);.cases hb;rw[ko,pC,ko,pC,he];exact #[fT v hv,rfl]
LI.close{B:hA}{y:jZ}{t:aD}{L:aD}{b:pb×O}(h:wP H (λ j=>Hq mu vj j) xn)(h0:bd L J x0)(hl:HQ J)(hb:_W.jK B y n t mu x0 fv a6 fv=an b)(a8:b.2<a6 fv):lD (LE H L (λ j=>Hq mu vj j) J):=by rw[m4 v8 e0 h0];(have hd:DL J=x0::fv:=by rw[K_ v8,e0]);have Cw:=_W.ax9 B y n t mu hb;rw[<-hd,Qw]at Cw;refine bq (h.yes b R) λ aU yg=>ah aU ax v hv rZ;rw[I8]at a8;refine #[λ j x hj hx=>?_,nW,λ j x hj hlj hx=>?_];(.by_cases e:J=j;(.subst e;rw[a7 h0 hx hx,<-(af v hv ?_)];show o2 (zJ Hq mu J).1;rw[fj Cw rZ]);.exact h.hi j x FY hx);.by_cases e:J=j;(.subst e;rw[a7 h0 hx hx];(have hg:L[vl+b.2]?=an (GE b.2 0):=by rw[P0,DM,LS Qy a8];rfl);rw[<-(jg _ (vl+b.2) yg OT hg ?_),lS (zJ Hq mu J).2 Cw]);.exact rn j x FY hlj hx
LE.open_{L:aD}{F:xK}(h:lD (LE H L F vl))(h0:bd L J x0):wP H F aF:=#[λ j x hj hx=>Of hj,λ j x hj hx=>nW j x mk sC hx,λ j x hj hl hx=>rn j x hj hl hx,o3 (nW J x0 Ib h0),(λ b hb=>OI)]
Eb{q:a5}{aq kvs':fy}(hq:k? H q aq){v:V}(h:cT H v l):cT (upd H q (.dK kvs')) v l:=by refine ah h ax a e h;refine k8 a ?_;rw[aV (λ e=>by subst e;rw[a7 h hq hq])];exact h
M5{L:aD}(h:L[tr]?=an mu):kF tH (-1)=bn mu:=by(have h0:L≠[]:=λ e=>by rw[a7 e h h]);((have h1:L.map vN=L.dropLast.map vN++[vN (L.getLast h0)]:=by rw[Tc]);have h2:L.getLast h0=mu:=by rw[<-Qr,V3 h0]at h;exact Qz h);rw[h1,h2];exact aaV _ _
ah8{L:aD}(h:i<=hH):g_ tH an bD i aF=jI vj i:=by unfold g_;rw[_H.uS,_H.ay9,jf,Jv h,V! (by rw[I8,jf];exact Jk _),I9]
abt{σ:ee}{b:dl}{rest:H!}{cL:ef}{x:cr}(ha:mi a x)(hx:ln x):iw Tw (.BoolOp .Or (a::b::rest) cL) bH:=by(have h:=du (y:=bH) (b:=b) (rest:=rest) (cL:=cL) ha λ e=>by rw[a7 hx e e]);rw[Jm]at h;exact h
aos(A:Y):gn 7 "least_ends" (RQ be (ow×O×HF×O) [f6,iX,bA.1] bC (sq/\ba H bA.1 w?/\Og/\Ot w?/\(∀p∈w?,p<=si)/\a6 w?<=65/\w?[xf qZ.1.2 - 1]?=an br) gx F8 kl qe lD (LE H w? (λ j=>_W.lb r? gy a! iU br (qZ.1.2.jq j)) 0)):=F' A.auN Sw λ q f aK A' cs s H0 H E hr hp=>by obtain⟨⟨a,⟨bb,d,kk⟩,y,t⟩,n,⟨iq,L⟩,mu⟩:=q;rw[cz uZ λ hS aS hn qI jz j5 zR=>lw qL cB mQ];rw[p4];dsimp only at cB mQ hn qI jz j5 zR⊢;rw[gb cB Sw.nd];have hU:=jO hr;(have hL1:1<=hH:=by have:=gD zR;rw[dw Nat.one_le_of_lt]);rw[kq i! F8 kl qe lD (LE H L FN 0),ol fa mZ Pm i fr zk i (VZ (RU aI aI abx) R R b! b!) fa fr os Bp FC AD EC cy (aP L9 (cG KJ (l8 aI) (cy (i:=8)) LO Pp i iA zs B? ti (pv 7) (pv 9) B? xB (pv 7) En)) ot xB D n'];have aGy:sf (aj H H2) qL hH:=FB s3 qL Cf mQ;refine mc mu (cN ad tU d! qs li mQ (M5 zR)) cU H2 s2;intro l1 fk;refine mc mu aN λ H3 s3=>iv (iI (vs:=[xz 0,xr,xr]) (ae ai bt ai ai)) λ v0 H4 s4 hv0=>?_;have Nd:k? H4 l1 []:=rU aX;refine(LX Nd ([(kN mu,v0)]) R se Cn l2 f7);(rw[ci (ah hv0.now ax q0 aU IL) aU]);((have n0:q0≠l1:=λ e=>by subst e;rw[a7 IL Nd Nd]);have l9:l2≠l1:=λ e=>by subst e;rw[a7 aX f7 f7]);have hH4:iO H4:=λ b' o' hb=>rU (by rw[aV (c7 gp hb fk)];exact gp hb);have f1:f8 (H1 l1):=s2.free fk;(have f2:f8 (H1 l2):=by rw[aV l9]at f7;exact hH4.free f7);((have uW:Bj o od iO B9 l1:=λ sx b' o' hb=>by rw[i5 f1 aH sx hb]);have CG:Bj o od iO B9 l2:=λ sx b' o' hb=>by rw[i5 f2 aH sx hb]);have G8:iO yv vw H4 (nX [] [(kN mu,dP q0)]) l2 []:=CG (uW hH4);(have sZ:kc (Nu - -1)=v4:=by exact aC0);(refine(dd (ae ry wD hH pm H6 s6 pP aGy H6 (q8 (G8.trans s6)) bt tU tU) λ vs H6 s6 ev=>(qK Nu (-1) (-1) ((Nu - -1).toNat) Jy (mI.neg iV aiE bN apq j5 b! b!) (Am wr i H' (∃(x6 x7 x8 x9:g')(kl ke:fy),R3 [ij,jL,G4,Hx,qj,ql,x6,x7,x8,x9] H' lD (LE H' L FN (tr - i))) ?_ ?_ ?_)));.refine #[aF,aF,aF,aF,_,_,rfl,UV,qV (by rw[Hn aV l9 aX]),qV aX,?_,e5,e5];(have A1:m_ H6 eC q0 #[0,0,0]:=on q0 s6 (by rw[aV (λ e=>by subst e;rw[aV n0]at f7;rw[a7 IL f7 f7]),aV n0];exact IL);have vI:DL tr=[mu]:=by rw[SC h1 h2 zR]);refine #[λ j x hj hx=>?_,λ j x hj hx=>?_,λ j x hj hl hx=>by exact(aqX hj hl).elim];(. (have ju:HP:=by have:=gD hx;rw[ks aCC hj]);subst ju;rw[a7 zR hx hx,<-(af eC q0 cd lN ?_)];rw[vI,_W.Y6];exact A1);.show f8 (b7 [(kN mu,x? q0)] (kN x));rw[lT (λ e=>by have:=Q0 qI hx (by rw[<-DH e];exact zR);rw[ks aoV hj])];rfl);(.rintro i a0 H' hi⟨x6,x7,x8,x9,kl,ke,rfl,sH,cH,oj,vf,c9,gT⟩;(rw[TA (v4 - i) (hH - 2 - i) agF];have dq:bD hH - 2+Ix*(iC (-1))=bD J:=by exact asP hJ);rw[hJ]at vf;obtain⟨x0,AV⟩:=fS rN L i J aEX dq;have Sx:ts H2 (lV->Fe H2 qL):=λ sx=>aH sx dZ mQ;rw[dq];refine mc x0 (cN ad g? (λ H7 s7=>qs v? (Sx sH) (b_ (by rw[np AV])))) cU H7 s7;refine iv (adz (P:=qr fv) (i:=bD J+1) ad m1 g? (rT H8 s8 Bh qL d' dS s8 s7 (Sx sH) λ q H9 s9=>on q s9 (by rw[aX,show g_ tH an Eh J aF=jI fv from fS (ah8 (i:=J+1)) ak6 dq]))) λ u H8 s8 hu=>?_;(rw[ci (ah jY ax qS a9 Hz) a9]);have sH8:=u0 (s7.trans s8);have CD:=dS s8 s7 cH;have HN:=dS s8 s7 oj;have hLI:=(vf.heap GF (s7.trans s8)).open_ AV;refine kw qS #[_,d' Hz] (tm (xs:=jI fv) (λ k c0 H2=>∃(x8 x9:g')(kl ke:fy),c0=[ij,jL,G4,Hx,qj,ql,wF,bn x0,x8,x9]/\lV/\e? H2 qS h! fv/\Sc H2 wP H2 FN KC k (r3+k)) #[x8,x9,kl,ke,rfl,sH8,Hz,CD,HN,hLI,c9,gT] (λ k c0 H2 _ bx=>Tb bx λ _ _ _ _ _ _ hq _=>d' hq) ?_ ?_);(.rintro k x c0 H2 hk⟨y8,y9,kl,ke,rfl,k_,yA,fk,vC,hI,c9,gT⟩;(rw[ci (ah (eK hk) ax e he bu) bu]);((have pL:L[CI]?=an e:=by rw[DM]at he;exact he);have zr:k<64:=by have:=gD pL;exact aGg az j5);(have Kl:x0<e:=by rw[m4 a1 a2 AV,m4 b1 b2 pL];have:=x_ qI J CI a1 b1 OT;exact aaD az a2 b2);have e7:=ng jz e pL;refine ah (hI.hi CI e OT pL) ax ve vm eN;(have hgd:(fv).getD k 0=e:=Aa he;have Oy:(AZ n rv t x0 e (e==mu)).plus (zJ yW mu CI).1=(AZ n rv t x0 (GE k 0) (GE k 0==mu)).plus (lc _W.lb mu ((fv).jq k)).1:=by rw[hgd,Qw]);generalize gj:(AZ n rv t x0 e (e==mu)).plus (zJ yW mu CI).1=iW at Oy;refine iv (P:=pG v o2 iW) (nZ (az4 A) d4 Bv (aT (aL6 A) hr (oe,n,x0,e,e==mu) (ae Z nY ap i_ bt CS (pk (m:=mu) CS aN)) (λ H9 s9=>(fG Mu x! s9 cP (x0<=e) Dq Kl e7 hn))) (xg (P:=λ v _=>v=ve) hU bm CS zU z H9 s9) (λ vs H9 s9 hv=>?_)) λ bv H9 s9 rZ=>?_;(.rw[wv,(aE l1 ve R (by rw[wC vm e aH s9 fk]) ff)]);(. (rw[xd qg λ v1 _ bV h1 v2 _ cI dB d6=>?_];subst bV cI dB d6);exact(kw ((v1,_),v2,_) #[h1,pn gN s9 eN] λ v lU dD h=>by rw[<-gj];exact h));.have pd:=aH s9 fk;have uX:=aH s9 vC;have EY:=hI.heap GF s9;have hb9:=rZ.now;have A_:=Jz s9;have Rh:=aH s9 yA;(have go:ts H' (aj H9 H'->FF=an xp->∃(x8 x9:g')(wV vA:fy),[fn x? a,jL,G4,Hx,qj,ql,wF,bn x0,w9,an bv]=[ij,jL,G4,Hx,qj,ql,wF,bn x0,x8,x9]/\iO zH/\e? zH qS h! fv/\TU zH zH (LI zH L FN J x0 FF wV vA)):=λ{H'}sx hb=>by have g1:=aH sx pd;have g2:=aH sx uX;have gq:=aH sx Rh;((have nq1:qS≠l1:=λ e=>by subst e;rw[a7 gq g1 g1]);have nq2:qS≠l2:=λ e=>by subst e;rw[a7 gq g2 g2]);(have c1:j! vw H' EE l2:=by rw[aV l9];exact g2);(refine #[_,_,EE,rL x0 e,rfl,CG (uW (JA sx)),by rw[aV nq2,aV nq1];exact gq,by rw[Hn aV l9 aX],aX,?_,?_,?_];(.rw[hb];have hI':=EY.heap (λ v l h=>Eb (kvs':=rL x0 e) c1 (Eb (kvs':=EE) g1 (pn gN sx h)));exact hI'.put qI AV (Eb c1 (Eb g1 (pn gN sx hb9))) hgd);.exact o8 B! bN SI c9);.exact o8 B! bN Um gT);have DN:∀{m:O},m<=10000->m<C4:=eW lP h;(have aMD:i<64:=by exact aDJ dq j5);cases oh:KC k with|aF=>have gK:=EY.no oh;(have kj:FF=an xp:=by rw[_W.jK,oh,Oy]);refine(af bH rs abt (O1 (z:=false) hU i_ bm zU z lU dD) R (λ lU dD=>i' ?_));(.rw[wv,(aE l1 aF R (by rw[wC gK x0 tC]) R)]);.rw[oq eS qa _ l1 _ (oJ x0 tC (DN (by exact adU dq c9 j5 zr))) ?_ eS qa _ l2 _ (oJ x0 (by rw[aV l9];exact Ig) (DN (by exact YC dq gT j5 zr))) ?_,go dD kj]|c! b=>refine bq (EY.yes b oh) λ fL yg=>ah fL ax vb zN IT;(have kj:FF=if(as (iW.le b.1))then an xp else xn:=by rw[_W.jK,oh,Oy]);(refine dd fe (O1 (z:=bH) hU i_ bm zU z lU dD) (eB (TV (agm (uV hU)) (ns:=gt (yX iW) q4 Hm) (ms:=gt (yX b.1) q4 Hm) t1 (xg (P:=λ v _=>v=vb) hU bm i_ zU z lU dD) rT lU dD ?_ rT lU dD ?_)) qd lU dD bB;(.rw[wv,(aE l1 Ce R (by rw[wC zN x0 tC]) R)]);.rw[wv,(aE l1 vb R (by rw[wC zN x0 tC]) ff)]);((.have e1:=jY;subst e1;refine ah (rZ lU dD) ax qb e2 h2;exact(af qb e2 (jV (by rw[MP h2]))));.have e1:=jY;subst e1;refine ah (pn gN dD IT) ax qb e2 h2;exact(af qb e2 (jV (by rw[MP h2]))));(.rw[aeG,Wb,jj]at hx;rw[io hx]at kj;rw[oq eS qa _ l1 _ (oJ x0 tC (DN (by exact adU dq c9 j5 zr))) ?_ eS qa _ l2 _ (oJ x0 (by rw[aV l9];exact Ig) (DN (by exact YC dq gT j5 zr))) ?_,go dD kj]);.rw[aeG,Wb,jj]at hx;rw[ii hx]at kj;refine #[_,_,kl,ke,rfl,JA dD,aH dD Rh,tC,Ig,?_,TF c9,TF gT];rw[kj,<-oh];exact EY.heap GF dD);.rintro c0 H2⟨y8,y9,kl,ke,rfl,k_,yA,fk,vC,hI,c9,gT⟩;rw[jf]at hI c9 gT;obtain⟨m,hm⟩:∃m,a6 fv=m+1:=#[xf fv - 1,by rw[Mk aAY dq]];refine ah (lc _W.asM mu x0 fv m) ax b hb a8;rw[<-hm]at hb a8;(have WH:tq fv:=by rw[Mk akP j5]);rw[hb]at hI;refine #[_,_,y8,y9,kl,ke,rfl,k_,fk,vC,?_,tD aLm c9 WH,tD aKq gT WH];rw[cP (v4 - q6=J) aGf dq];exact hI.close AV bN atf dq hb a8);.rintro a0 H'⟨x6,x7,x8,x9,kl,ke,rfl,sH,cH,oj,vf,c9,gT⟩;rw[sZ,qy (v4 - tr=0) aGR]at vf;exact Gb sH H7 (lL l2 kl ke R OY (vf.heap GF s7))
arF(A:Y):gn 8 "ragged_lines" (RQ be (ow×A!) [f6,iX,bA] bC (sq/\AR/\Ao br iU/\Og) gx (lr FV QA br/\Br FV QA br)):=F' A.aD7 WB λ q f aK A' cs s H0 H E hr hp=>by obtain⟨⟨a,⟨bb,d,kk⟩,y,t⟩,n,mv,m⟩:=q;rw[cz dm λ hS aS aR hn=>lw qm kP dR];rw[p4];dsimp only at kP dR aR hn⊢;rw[gb kP WB.nd];have hU:=jO hr;rw[GH a3 g8 aR.1,kq i! (lr Ti/\Br Ti)];rw[_W.aHY];rw[ol (aP fr Pm i (ny fQ) fa fr zk i ki zD fa fr os (Ar Ud (ny (iz ti fQ)) aI) mZ z6 (cG (nH kB dz RN GZ tZ L8)) ot tZ) D n',<-#[lO,λ l hl=>#[wr z H' (∃(k:O)(x5 x6:g')(dn:oy),RE [ij,jL,s?,qq,w5,x5,x6] ya ya),(K6 rS aF aF ([]) R lO R II aX R e5),?_]]];rintro z a0 H'⟨k,x5,x6,dn,rfl,hk,rfl,s2,hL,lW,q_⟩;have w6:sf qO qm fz:=FB s3 qm F?;refine #[_,qT bm wD fz GA w6,λ H3 s3=>fC bB bB];(. (have lJ:k<fz:=by rw[nq hx,dw uz]);obtain⟨VE,q,hM⟩:=aR.must lJ;have fX:=hM.lt;have bw:=vH _W.azL t hM;have KR:=x! AH;have jb:e? H3 qm Dx:=F?;have BS:=Su hM cP Ug V8 g8;(have GC:Ot Bm:=List.pairwise_cons.mpr #[λ p hp=>U4.1,BS.rise];have K4:∀p∈k::pQ,(m? p):=λ p hp=>by rcases List.mem_cons.mp hp with rfl|hp;(.exact Lq lJ g8);.exact U4.2);((have j5:a6 Bm<=65:=by have:=My (show(m? k)by exact Lq lJ g8) BS.rise BS.xN;rw[mD];exact azX az a3);have wQ:Bm[xf Bm - 1]?=an nw:=by rw[<-Qr,_W.Ab hM,<-List.cons_append,Qm];rfl);have Ds:Bm[0]?=an k:=rfl;(have ie:tq pQ:=by rw[mD]at j5;exact Nat.le_of_lt_succ j5);generalize KE:k::pQ=L at bw GC K4 j5 wQ Ds;rw[oq #[λ c0 H2=>∃z',z'<da - k/\∃(k:O)(x5 x6:g')(dn:oy),RC [ij,jL,s?,qq,w5,x5,x6] ya ya,wx,?_] BH TD λ p1 oM=>iv (aT (abc A) d4 ((eC qm,m),k,q) bt ad bm (λ H4 s4=>S! qm (cS oM _ _ jb) hM)) λ cv H4 s4 rh=>?_];(rw[ci (ah rh.now ax qc aU zp) aU]);refine(Az p1 qc _ _ R R Cl aX zp (by rw[eH,Ae (show _<=100 by simp;exact aJ4 ie)]) Cn qP Nm);(have U5:aj H3 H4:=(cS oM).trans s4;have Qo:Fe Hj H4 qP ([vN k]++jI pQ) qP:=by rw[aX,<-KE];rfl);(have MR:aj H3 Hj H4 qP ([vN k]++jI pQ):=U5.trans (cS Nm);have nP:qP≠l:=λ e=>by subst e;rw[dS U5 s3 hL]at Nm;cases Nm);refine iv (aT (aos A) hr (oe,n,(eC qP,L),q+1) (ae Z lm ck) IB #[KR.later (MR.trans s5),on qP s5 Qo,hn,GC,K4,j5,wQ]) λ ev H5 s5 yg=>?_;(rw[ci (gF yg.now λ qe kl ke a9 Ie vf=>?_) a9]);have aI1:lD (LE H5 L (λ j=>yW nw vj j) 0):=vf;have hkq:=hM.le;have avZ:=aH s5 Qo;have sE:e? H5 l h! vM:=aH s5 dS MR s3 hL;have v9:=CX Rw MR.trans;(have nE:qe≠l:=λ e=>by subst e;rw[a7 Ie sE sE]);refine #[λ z2 c0 H2=>∃(j x:O)(dn:oy),c0=[ij,jL,s?,qq,bn x,ct qP,G3]/\vZ/\z2=hH - j/\lV/\Sg H2 H2 H2,#[hH,0,k,dn,rfl,Ds,rfl,v9,avZ,Ie,sE,by rw[PA,<-bw];exact lW,q_],?_];rintro z2 c0 H2⟨j,x,Ow,rfl,p6,rfl,k_,Ij,YN,f7,Oo,J3⟩;have hxt:=ng K4 x p6;refine(dd qT bm (oO nw ck tU (λ H6 s6=>qs qV Ij (M5 wQ))) λ H6 s6=>fC B5 B5);(. ((have FP:x<q+1:=by rw[nq cg,dw aKY]);have hj:HQ j:=by have h1:=gD p6;by_cases e:HP;(.subst e;rw[a7 wQ p6 p6,aBj FP]);.exact aFC h1 e);refine fR (aI1.en j x lO hj p6) λ e j' vm Sd J0 Cw=>?_;(have hex:x<e:=by rw[Ry J0 j' Sd,aaD az a2 b2]);(have get:ts H7 (aj H6 H7->dJ H7 qe f3 bD x w9):=λ s7=>by rw[wC vm x dS s7 s6 YN]);refine #[λ σ3 H3=>∃z',z'<hH - j/\∃(j x:O)(dn:oy),σ3=[ij,jL,s?,qq,bn x,ct qP,G3]/\vZ/\z'=hH - j/\iO H3/\Sg H3 H3 H3,wx,?_];(have YH:=aH s6 f7;refine BH CA Bs YH (iv (nU (vs:=[vN x,wI]) bt bm S2 z7 H7 s7) λ u H7 s7 hu=>?_);.rw[wv,wW qe (get s7) ff]);(rw[ci (ah jY ax q7 bu uH) bu]);(have hl7:=aH s7 YH;refine T5 q7 hl7 uH;.rw[wB DJ,Ae (show Cc by simp;exact ahy J3 FP fX g8 a3)]);(have XJ:j! Hj H7 l ((rx Ow).map vN++[vN x,wI]) qe:=by rw[aV nE];exact dS s7 s6 YN);refine mc e S2 z8 H8 s8 cU H8 s8;(.rw[wv,wW qe (by rw[wC vm x xl XJ]) ff]);have hjl:=gD J0;(refine #[hH - j',tD aKM hjl Sd,j',e,Ow++[(x,e)],rfl,J0,rfl,λ b' o' hb=>xl ?_,xl (by rw[aV nP];exact dS s7 s6 Ij),xl XJ,xl ?_,?_,?_];(.rw[i5 hl aH s7 dS s6 k_ hb]);.rw[aX,QY,rl];rfl);(.rw[<-Oo,Cw,Qt];rfl);.rw[L2 aEv J3 hex]);.have FP:¬x<q+1:=eW (cg (xZ bN atU h));(have hj:HP:=by have h1:=gD p6;by_cases e:HP;(.exact e);.rw[Ry wQ tr f4 acu a1 e,aJJ az a2 b2 FP]);subst hj;(have Kl:x=q+1:=by rw[a7 wQ p6 p6];rfl);subst Kl;(have vI:DL tr=[nw]:=by rw[SC h1 h2 wQ]);rw[vI,_W.Y6]at Oo;exact #[da - nw,by exact ayG fX hkq g8,q+1,_,_,Ow,rfl,tD le_of_le_of_eq fX g8,rfl,Jz s6,qV f7,Oo,J3]);.rw[Go lJ (fz<=k)];rw[vH _W.atu t bN aej lJ,Du]at lW;(have gw:Br vM:=by rw[DJ];exact U8 q_ hk a3);rw[lW]at gw;refine FM #[Mb,gw];rw[hL,lW]
UF.1(fs:Bl)(k:bG)(b e:O)(j sp ea ini fin ri so un:cr):Prop:=um UM=fn .int k/\jS ("begin":a4) qz/\jS ("end":a4) w9/\gJ ("joined":a4) j/\gJ ("spaceless":a4) sp/\gJ ("east":a4) ea/\gJ ("initial":a4) ini/\gJ ("final":a4) fin/\gJ ("ring":a4) ri/\gJ ("soft":a4) so/\gJ ("unassigned":a4) un
S9(A:Y):A3 1 "Unit" gm be (bG×kp) [f3 dL,iX,EQ] oU gx (∃q dx fs,rH/\ma H q gm/\QC<=11/\UF fs dL a! b? hE hE hE hE hE hE hE hE):=HM A.Unit A.dr.init aLP cd b4 a? JC ["kind","begin","end","joined","spaceless","east","initial","final","ring","soft","unassigned"] λ a e z dx H hr hp=>#[_,(.v QD ap (.v A.dr.Ta ad (.v QE aN G' QG JD G' QH QI G' QJ QK G' QL QM tY))),rfl,λ H2 s2 hz=>#[z,dx,_,rfl,hz,TD,rfl,rfl,rfl,rfl,rfl,rfl,rfl,rfl,rfl,rfl,rfl]]
kI.1:eb->bG|xm=>la fJ|aF=> -1
uO.1(o:eb):cr:=(o.map λ u=>u.is.sa).getD hE
kZ.1(C:a5)(H:Hp)(v:V)(o:eb)(b e:O):Prop:=∃q dx fs,rH/\ma H q C/\UF fs (kI o) b e (Ch.zm o) (uO o) (JE o) (Ch.vX o) (Ch.vi o) (yb o) (Ch.xR o) (Ch.yV o)
kZ.later{C:a5}{v:V}{o:eb}(h:kZ C H v o b e)(s:tQ):kZ C H' v o b e:=by refine gF h O3 dx fs h3;exact(lL q dx fs h1 B8 h3)
avW(A:Y):h? "no_unit" (RQ (λ _:Unit=>[]) oU (λ _ v H=>m3 kZ v aF 0 0)):=c6 A.atE aDw cd b0 a? λ a f aK A' cs s H0 H E hr hp=>by refine mW (uL (S9 A) d4 (-1,0,0) (ae ac JG bt ai ai) vn) pt v bx (gQ bx λ q dx fs e1 e2 _ e3=>(lL q dx fs e1 e2 e3))
apo(A:Y):h? "is_east" (RQ be (BK×kp) E! bC (qi/\qh b?) dv (.bl (pu (Pz Bu 7 b?) [2,3,4]&&!QO a!))):=nl A.aKA agh λ a e H hr hp U hU=>by obtain⟨⟨b,d,kk⟩,k,n⟩:=a;rw[y4 hR hs,f5,Hf,cx,<-gB ew (aeM [9,15,30,31] ap de uD rg cm rj uF) (bZ (xE [2,3,4] v! (sw 7) A.g.ab7 ad pW A.g.aMl A.g.Tq A.g.Vw))];rw[e,DQ];rfl
aBI(A:Y):cA "unit_end" (RQ be ((V×we)×T6 O) [mA,iX] bC (ba H hK KY a.1.2/\(d2).jq a!=bA::br) dv (vN (a.2.1+DS bA br))):=fx A.asq XW λ a e H hr hp U hU=>by obtain⟨⟨kv,S⟩,b,x,r⟩:=a;rw[cz bq λ aS hd=>lw qk lu uI];dsimp only at lu uI hd;rw[gb lu XW.nd];have hS:∀i,Pw[i]?=S[b+i]?:=TB hd;have hb:bd S b x:=(hS 0).symm;(have a3:JH=b+(u_+1):=by have:=rr List.length hd;rw[I8,mD]at az;have h2:=gD hb;rw[dw akn]);rw[oc dq TC z bd S i z H1 (λ{H1 i z}s1 hz=>mN dk uI (b_ (by rw[nQ,nQ,hz];rfl))),<-i? nd N! ?_];unfold DS;(refine aW gz ni S1 gl (oO gl Z ap bE (dq s1 hb)) ch h1 ad d? im;.rw[wR h1]);rw[c? (by rw[h1];simp)];rw[p! tF j (a0=[ct qk,qz,bn (xA+j)]/\j<=u_/\m=u_ - j/\Ch.ig r=j+Ch.ig (r.drop j)) u_ (fE 0 R lO R (by rw[PA,We]))];rintro m a0 H1 s1⟨j,rfl,hj,rfl,hm⟩;have XF:sf lV qk JH:=v5 H2 s3 (aE qk _ e (.inl (dk Cf dZ uI)) (by rw[wB jf]));by_cases a8:j<u_;(.obtain⟨z,hz⟩:=dM a8;(have hSz:S[xA+j]?=an z:=by rw[qx (b+1+j=b+pO) yK,<-hS pO,List.getElem?_cons_succ];exact hz);obtain⟨_,ez⟩:=J8 hz;rw[K_ a8,ez,Ch.GB]at hm;refine(aZ _ ds qT ad n8 JH Z r7 pP XF H2 s2 (c4 (nG [13,47] (oO uU Z ad d! (dq HJ hSz)) cm I? JI)) bB bB);(. (rw[ww];have xj:Uc uU:=by have:=ip;rw[MX];simpa using az);rw[io xj]at hm;refine lh 2 p5 nd R ai yL (BE (u_ - pO) bN pq a8 pO ?_ bN JJ a8 R bN IV hm);show[_,_,Et (md (xA+j)+1)]=_;rfl);.rw[xZ (by exact aIU a8 a3),eo]at hx;(have xj:¬(Uc uU):=by rw[MX,r6]);rw[ii xj]at hm;rw[gr ad Gi,aIm hm]);. (have hjr:j=u_:=by exact sW hj a8);rw[p9 qT ad n8 JH Z r7 pP XF H2 s2 (t5 (by exact anG a3 a8)) (aG ad Gi)];rw[hjr,List.drop_length]at hm;have:Ch.ig ([]:we)=0:=rfl;exact ajj hj hm az a8
}
section _P
namespace _M
open x2 x3 x4 _L
def z:={
tu{X:Cx}{σ:ee}{e:dl}{P:V->my Hp}{C:a5}(j:O){t:TS}{g:a4}{D:Ends}{H':Hp}{z dx:a5}{fs:Bl}(hc:dO X.K C)(hn:cb X.K C g)(hl:QC<1000)(he:Ev X σ H' e P)(hr:∀v H2,qO->bc (P v) H2->ma H2 z C->t D σ (upd H2 z (.ins C dx (bK g v fs))))(hz:ma H' z C)(ho:bd σ j ct z):oX (DA X.K (sS j) (aL X e) g) t D σ H':=by refine iv he λ v H2 s2 hv=>#[_,ho,z,C,dx,fs,rfl,gp hz,hc,hn,hl,?_];exact hr v H2 s2 hv gp hz
}
section _M
namespace _P
open x2 x3 x4 _L _M
variable{P:Qh}{w:World}{K:Qi}{mg:N2}{t2:Heap}{c:Cs}
variable{b bh J m:O}{ke kl:fy}{C:a5}{g x:a4}{z:jr×aD}{s:JK}
def z:={
sorts.2(bk:BK)(y:jZ)(t:aD):we:=J? jp Ii y
Fd(s:DR):QP s.cls=rR [13,47] s.cls:=by rw[MX];rw[I!,I!,Wf,uM]
aiR(A:Y):jE "make_unit" (RQ be (Q? BK×HF×V×T6 O) [Fy,ls,bA,vN mm,vN (qZ.2.1+DS HE HB)] bC (GJ/\ba H ls fb/\wH fb/\ba H bA KY U0/\(U0).jq mm=HE::HB) gx (kZ gm H v ty Ch.il HE HB mm (qZ.2.1+DS HE HB))):=bp A.anp UJ cd b5 a? λ a e H hr hp U hU=>by obtain⟨⟨⟨bb,d,kk⟩,y⟩,⟨tv,t⟩,kv,b,x,r⟩:=a;rw[cz gG λ hR aS bJ aU hd=>ah aS λ qt fq dQ=>ah aU ax qk lu uI];rw[pr aQ bb hR];dsimp only at fq dQ bJ lu uI hd;subst fq lu;have IH:e? H qk h! LL:=uI;have jD:(lx).jq b=x::r:=hd;have nd:=UJ.nd;have fY:=Ch.He x r;have Sy:=Ch.T3 x r;rw[cx];generalize hu:Id=ul at fY Sy;have hS:∀i,Pw[i]?=lx[b+i]?:=TB jD;have zb:lx[b]?=an x:=(hS 0).symm;(obtain⟨n,hn,wN⟩:∃n,bd t b n/\x=T2:=by rw[nQ]at zb;cases e:t[b]? with|aF=>rw[a7 e zb zb]|c! n=>rw[e]at zb;exact fT n (Qz zb).symm);have qN:EF:=na bJ n Ms;obtain⟨lz,Yi⟩:∃lz,Pw[Pu]?=an lz:=dM (by rw[dV mD asX Sy]);((have hlc:lz.cls=Ch.yx x r Pu:=by unfold Ch.yx;rw[Aa Yi]);have hlS:lx[b+ul - 1]?=an lz:=by rw[cP (b+ul - 1=b+Pu) ajf fY,<-hS];exact Yi);refine gQ (NM S9 P P A) λ f' fd' ps' hmU M hbU G=>?_;have acq:TC z (lx[i]?=an z) H1:=λ{H1 i z}s1 hz=>mN dk IH (b_ (by rw[nQ,nQ,hz];rfl));rw[ol (aP mZ os fa mZ z6 L9 fa fr (bY (i:=8)) (Ss M G d4 R hmU hbU tY mO dU) mZ Pp i fa qE qE fa qE qE fa qE qE fa qE qE ot En) D n',<-mc gl (cN ad aN d! (acq HJ zb)) cU H2 s2,<-mc n (cN ap aN (λ H3 s3=>qs vO BT (b_ (by rw[np hn])))) cU H3 s3,<-ei mF (it ([13,47].uC gl)) (xE [13,47] ck cm I? JI) cU H4 s4,<-(dd (ei ae G1 wA (f_ 3) em bD gl (kG gz i_ lj o? bi ck) Gv) λ vs H5 s5 hvs z dx hz nV bf=>?_)];(have N7:Nv wA (e8 3) kz bD gl=e8 (kI (c! mn)):=by show _=kz iC (mn).is.cls;rw[Ch.uA,Ch.JX,Fd];rw[w7]);refine(Df (yD kI mn,b,b+ul) z dx H5 (by rw[hvs.now,Du,N7]) R hz nV bf trivial (λ H6 s6 jo=>#[rfl,?_]));refine gQ jo.now λ q eQ fs e1 yZ v8 hUF=>?_;cases e1;(have sA:aj H H5:=S6;have free:Bj o (aj H5 H') (aj H5 B9 z):=λ s' b' o' hb=>by rw[i5 hz aH s' hb]);have lp:∀{f:a4}{v:V}{fs:Bl}{m:O},QC<=m->a6 (bK f v fs)<=m+1:=eW (o8 aH Hl _ (Nat.succ_le_succ h));have cl:=JC;refine ei mF (vN (kW 1 n)) (E0 1 n T' s6 b! qN Z ac A.g.Pk g?) cU H7 s7;have t7:=s6.trans s7;refine tu 8 cl QG lP v8 (pk (m:=47) (oO lz.cls ad N8 (λ H8 s8=>by refine ah (acq (JP (t7.trans s8)) hlS) ax xs h1 h2;exact(af xs h1 (by rw[cP (bF (b+ul) - 1=bF (b+ul - 1)) auk fY];exact h2)))) ac JI) qW H8 s8 hz8 v? yZ R;cases kS;have t8:=AT o (Ko ej yQ fs) (t7.trans s8);have l1:=nF (lp (f:="joined")) yQ v8;refine tu 8 cl JD lP l1 (pk (m:=39) (aT (YM A) hr (tA,n) bt Z g? (λ H9 s9=>#[fH (JP (t8.trans s9)),qN])) ac A.g.SA) qW H9 s9 hz9 aX R;cases kS;have t9:=AT o KD (t8.trans s9);have l2:=nF (lp (f:="spaceless")) Es l1;refine tu 8 cl QH lP l2 (aT (apo A) hr (tA,gl,n) (ae Z bt ck g?) (λ lU dD=>#[fH (JP (t9.trans dD)),qN])) qW lU dD V' aX R;cases kS;have t10:=AT o (KQ ej EL KD) (t9.trans dD);have l3:=nF (lp (f:="east")) EL l2;refine tu 8 cl QI lP l3 (pk (m:=16) t1 ac A.g.PI) qW YV zL aMU aX R;cases kS;have t11:=t10.trans zL;have l4:=nF (lp (f:="initial")) KK l3;refine tu 8 cl QJ lP l4 (pk (m:=17) t1 ac A.g.PF) qW TL j6 aM0 aX R;cases kS;have l5:=nF (lp (f:="final")) AJ l4;have t12:=MT Fv t11 j6;refine tu 8 cl QK lP l5 (cn (pk (m:=9676) g? ac A.g.aAw) bi (bZ (aeM [9,15,30,31,13,47] ck de uD rg de rj uF cm I? JI))) qW H13 rV A9 aX R;cases kS;have l6:=nF (lp (f:="ring")) FU l5;have t13:=MT (HZ ej AJ Fv) t12 rV;refine tu 8 cl QL lP l6 (cn (pk (m:=8208) g? ac A.g.ajH) bi qX i_) qW H14 s14 aMS aX R;cases kS;have l7:=nF (lp (f:="soft")) L6 l6;have t14:=MT (O! ej FU (HZ ej AJ Fv)) t13 s14;have TN:=AT o (bK "soft" ej L6 (O! ej FU (HZ ej AJ (Rd ej KK (KQ ej EL (Q! ej Es (Ko ej yQ fs))))))) t14;refine tu 8 cl QM lP l7 (cn (pk (m:=0) t1 ac A.g.CN) bi (cn (Ba A hr 12 n T' TN qN Z OM g?) bi qX i_)) qW H15 s15 aM1 aX R;cases kS;have t15:=AT o (bK "unassigned" ej (lf==0&&(yE n&&!Rk)) (bK "soft" ej L6 (O! ej FU (HZ ej AJ Fv)))) (TN.trans s15);have sB:iO H5:=Gg CX;obtain⟨u1,u2,u3,u4,u5,u6,u7,u8,u9,u10,u11⟩:=hUF;((have Hd:∀(g:pM DR),(∀k,g {x with cls:=3,ring:=false,soft:=false,open_:=false}=g x)->g (mn).is=g x:=λ g hg=>by rw[FW];split;(.exact hg 0);.rfl);refine vq (p _ _ (sB.trans t15) λ H16 s16=>#[z,eQ,_,rfl,aH s16 aX,?_,?_,?_,?_,?_,?_,?_,?_,?_,?_,?_]);(. (rw[lR]);exact u1);. (rw[lR]);exact u2);(((. (rw[lR]);exact u3);. (rw[lR]);show i8 yQ=i8 (Ch.yx x r (Id - 1)==47);rw[hlc,hu]);(. (rw[lR]);show i8 Es=i8 (mn).is.sa;rw[Hd (·.sa) a?,wN];rfl);. (rw[lR]);show _=i8 (mn).is.east;rw[Hd (·.east) a?,wN];rfl);(((. (rw[lR]);show _=i8 (mn).is.initial;rw[Hd (·.initial) a?,wN];rfl);. (rw[lR]);show _=i8 (mn).is.final;rw[Hd (·.final) a?,wN];rfl);(. (rw[lR]);show _=i8 (mn).is.ring;rw[FW];rw[Fd];((have avd:x.ring=(n==9676&&!Kk):=by rw[wN];rfl);have hc:[9,15,30,31,13,47].uC gl=(Kk||wA):=by unfold QO xV;rw[Gc,am2]);rw[hc];cases hm:wA with|bH=>simp|false=>rw[uM,GR,avd]);. ((rw[lR]);show _=i8 (mn).is.soft;rw[FW];rw[Fd];have aja:x.soft=Rr:=by rw[wN];rfl);cases hm:wA with|bH=>simp|false=>rw[GR,aja,Qa,I5]);. ((rw[lR]);show _=i8 (mn).is.open_;rw[FW];rw[Fd];have Jh:x.open_=(yE n&&lf==0):=by rw[wN];rfl);cases hm:wA with|bH=>simp|false=>rw[GR,Jh,Qa,I5,DQ]
jQ.1(C:a5)(H:Hp)(vs:g!)(us:ce)(n:O):Prop:=uw=n/\∀i v,bd vs i v->∃u,bd us i u/\kZ C H v xm g0 (mL us q6)
iS.1(C:a5)(H:Hp)(v:V)(us:ce):Prop:=∃q vs,rH/\qn H q vs/\tJ C vs cc
jQ.later{C:a5}{H H':Hp}{vs:g!}{us:ce}{n:O}(h:tJ C vs n)(s:tQ):jQ C H' vs us n:=#[h.1,λ i v hv=>by rw[SU u u (h2.later s)]]
iS.later{C:a5}{H H':Hp}{v:V}{us:ce}(h:iS C H v us)(s:tQ):iS C H' v us:=by refine aO h λ q vs h1 h2 h3=>?_;exact(aE q vs h1 B8 (h3.later s))
avi{H:Hp}{v:V}{o:eb}{e:O}{l:a5}{xs:g!}{ob:HO}(h:kZ C H v o b e)(hl:qn H l xs):kZ C (upd H l ob) v o b e:=by refine gF h O3 dx fs h3;refine(lL q dx fs h1 ?_ h3);rw[aV (λ e=>by subst e;rw[a7 h2 hl hl])];exact h2
jQ.upd{C:a5}{H:Hp}{vs:g!}{us:ce}{n:O}{l:a5}{xs:g!}{ob:HO}(h:tJ C vs n)(hl:qn H l xs):jQ C (_L.upd H l ob) vs us n:=#[h.1,λ i v hv=>by rw[SU u u (avi h2 hl)]]
jQ.snoc{H:Hp}{vs:g!}{us:ce}{n:O}{u:jr}{v:V}(h:tJ C vs n)(hu:bd us n u)(hv:kZ C H v xm pp n (mL us IU)):tJ C (vs++[v]) IU:=by refine #[by rw[I2,h.1];rfl,ax i z hz];by_cases hi:i<uw;(.rw[List.getElem?_append_left hi]at hz;exact fh i z hz);.rw[fS List.getElem?_append_right Qc hi]at hz;(have:i - uw=0:=by by_cases e:i - uw=0;(.exact e);.rw[Wg (by simp;exact ad9 e)]at hz;cases hz);rw[a7 az hz hz];(have jz:i=n:=by have:=h.1;omega);subst jz;exact(af u hu hv)
FQ(us:ce)(i:O):g0<=Rm:=by by_cases h:(oL i);(.unfold mL;rw[Dw];(conv=>rhs;rw[<-List.take_append_drop i us]);rw[rl,Wh];exact xy);.unfold mL;rw[fS V! Nat.le_of_not_ge h,Dw];exact Jk _
JY{l:we}:∀i,i<=a6 wS->i<=mL wS i|0,_=>lO|i+1,h=>by obtain⟨u,hu⟩:=fS (dM (l:=wS) (i:=i)) PC h;have:=JY (l:=l) i nm h;have h2:=ng (Ch.Cr _ l R).1 u hu;rw[Ch.zo hu];exact Nat.add_le_add az h2
aJB(A:Y):R_ (gn 6 "units_of") (qi/\AQ/\AR/\wH br/\tq br) m3 iS v (DT (sorts dL fb br)):=k7 A.api Si cd b3 a? λ a f aK A' cs s H0 H E hr hp U hU=>by obtain⟨⟨bb,d,kk⟩,⟨wa,y⟩,tv,t⟩:=a;rw[cz gG λ hR hW aS bJ a3=>Bi];rw[pr aQ bb hR];have ug:vJ wa y:=hW;dsimp only at fq dQ bJ a3;rw[gb fq Si.nd];(have hs:Me k n t:=eW Ml _;have hsz:AF:=by rw[zQ]);rw[oc eh nb ["book","ways","text","kinds","units","begin","end","scalar"] Hg ("scalar",7) jy (mU (cu Hg)),kq i! m3 iS v L?,<-abN 7 3 (f:=dT (vN nN ML nC)) R nd eh ad FR qt dQ a? hsz (λ s' dH C cl fp k x hk=>?_) FI (λ qk Hk sk uI=>?_)];(. (rw[L_ m aU aU]);refine i0 (aT (ad7 A) hr (tA,(wa,y),m) (ae Z lm i_) bE #[nf,Oj,xv]) n4;rw[e,gR]);(have IH:e? Hk qk h! LL:=by rw[uI,wG tT (vN nN ML m),hG,hG];rfl);generalize iD:L?=us;(have b9:M3:=by rw[<-iD,Ch.Ju,jf]);rw[Rx RO uq ti fr os t0 (∃(i:O)(e':g')(vs:g!),a0=[lB,G6,kb,ct qk,qq,bn g0,e',aF]/\oL i/\z=cc - i/\od/\qn H' l vs/\jQ gm H' vs us i) (Df cc 0 aF ([]) (by rw[Ch.Ll];rfl) lO R II aX R (λ i v hv=>by simp at hv))];rintro z a0 H'⟨i,e',vs,rfl,hi,rfl,s2,hL,hU⟩;have V7:ts H2 (qO->e? H2 qt jp):=λ sx=>dS sx s2 dZ aH sk dQ;have X9:ts H2 (qO->e? H2 qk h! LL):=λ sx=>dS sx s2 dZ IH;have CT:sf qO qt da:=v5 H2 s3 (aE qt _ e CA (dk (V7 s3)) Kc);refine dd qT ck wD da GA CT qd H3 s3 bB;(. ((have a8:g0<da:=by rw[nq hx,dw uz]);have El:HC:=by by_cases e:i=cc;(.subst e;exact aLS a8 b9);.exact Qq hi e);(obtain⟨x,r,hd⟩:∃x r,fo (lx).jq mL i=x::r:=by rw[Qv (by rw[eH,a8])];exact oP);(have E1:us[i]?=ty Ch.il x r:=by have:=Ch.Qn (l:=lx) (i:=i) (s:=x) (r:=r) (by rw[dV iD Dq El]) (by rw[fj iD hd]);rw[iD]at az;exact az);have adF:pp q6=g0+Id:=Ch.zo E1;refine SX cc i (∃(i:O)(e':g')(vs:g!),c0=[lB,G6,kb,ct qk,qq,bn g0,e',aF]/\oL i/\NN i/\lV/\qn H2 l vs/\jQ gm H2 vs us i);refine mc (g0+Id) Sp aBI ((eC qk,lx),g0,x,r) #[fT qk UH X9,hd] cU H4 s4;have BY:=M9;refine BH CA Bs BY (iv (aT (aiR A) d4 ((tA,y),(eC qt,t),dP qk,g0,x,r) r5 ad nY aN ck ep g? (λ H5 s5=>(j3 Ld sk.trans S6 w' Gg V7 bJ fT qk Gg X9 hd))) λ u H5 s5 hu=>?_);have sE:=aH s5 BY;have hvl:uw=i:=hU.1;have aeV:=JY (l:=lx) i (by rw[dV iD Dq El]);rw[iD]at aeV;refine(oZ l _ u R R sE lP (show _<=64 by exact aKt hvl aeV a8 a3) ?_);refine #[_,rfl,cc - q6,gu pq El,i+1,_,vs++[u],by rw[adF];rfl,Mn El,rfl,ax b' o' hb,aX,?_];(.rw[i5 hl Bc vO hb]);.rw[<-jQ.upd (jQ.snoc Gg QQ E1 ?_) sE,fj adF jY]);. ((have fU:da<=g0:=by rw[FX (¬iC g0<bD da) hx,dw yu]);have ft:EP i:=by by_cases e:i=cc;(.exact e);.exfalso;obtain⟨u,hu⟩:=wm i (by exact Qq hi e);have h2:=(Ch.Cr _ lx R).1 u (by rw[dV iD C3 hu]);have h3:=FQ us q6;rw[Ch.zo hu,b9]at h3;exact aJh h2 h3 fU);subst ft;exact FM (aE l vs R M9 UH QQ)
GK(o:eb)(l:aD):gP BF (o9 vN)=op:=by cases o with|c! u=>exact Bt fJ l|aF=>show gP f3 (-1) (o9 vN)=false;unfold gP;rw[V2];intro x hx;(rw[ci (ah (ud hx) λ n _ aS=>?_) aS]);show¬((j?== -1)=bH);rw[fj gk agw]
aIu(o:eb)(l:aD):gP BF (f3 (-1)::lv)=Uw:=by rw[<-GK o l];show(rX f3 (-1) BF||gP BF (o9 vN))=_;congr 1;cases o with|c! u=>show(ps (-1)==bD fJ)=false;rw[fj Vx aCT]|aF=>rfl
}
section
variable{X:Cx}{σ:ee}{H:Hp}{a:dl}{es:H!}{cL jm:ef}{o:eb}{x1:O}{vs:g!}
def z:={
o5(l:aD)(ha:sJ)(hb:tk)(hv:wq)(hf:sz)(hl:sL)(hm:zK):mi i6 In sR op:=by rw[tb GK o sO]
nL(l:aD)(ha:sJ)(hb:tk)(hv:wq)(hf:sz)(hl:sL)(hm:zK):jG i6 In sR op:=by rw[tb GK o Dm]
K5(l:aD)(ha:sJ)(hb:tk)(hv:d1 (vs=em (-1)::lv))(hf:sz)(hl:sL)(hm:zK):jG i6 In sR Uw:=by rw[tb aIu o Dm]
axS(l:aD)(ha:sJ)(hb:tk)(hv:wq)(hf:sz)(hl:sL)(hm:d1 Ee .xW Ei):jG i6 xW sR (!op):=by rw[tb GK o QF]
KO(o:eb)(m:O):nK (kI o=ld) GT:=by cases o with|c! u=>show nK (dp fJ=ld) rR [m] fJ;rw[Gc,VW]|aF=>show ca (ps (-1)=ld)=false;exact t5 iV axC
gC{b:dl}(m:O){k:bG}(ha:sJ)(hb:lg b k)(hk:z? k)(hm:zX):mi i6 Eq [b] GT:=by rw[<-KO,<-hk];exact eT ha hb hm
dE{b:dl}(m:O){k:bG}(ha:sJ)(hb:lg b k)(hk:z? k)(hm:zX):jG i6 Eq [b] GT:=by rw[<-KO,<-hk];exact dY ha hb hm
S_{b:dl}(m:O){k:bG}(ha:sJ)(hb:lg b k)(hk:z? k)(hm:yM NotEq b):mi i6 NotEq [b] (!GT):=by rw[<-KO,<-hk];exact gg ha hb hm
YW(A:c'){v:V}{u:eb}{e:O}(hn:NA)(ho:iw Ev a pG v Na u)(hg:∀fs,S7 (UF fs (kI u) b e) uO yb->l? g v)(hb:LN a a a):Nf a g v:=NH ho (λ w H1 s1 hw=>by refine gF hw.now λ q dx fs e1 e2 e3=>?_;exact(lA q gm dx fs v e1 e2 JC hn (hg fs e3) ff)) hb
}
section z
def z:={
Ax(A:Y):jE "unit_at" (RQ be ((V×ce)×bG) [mA,em db] bC wK gx (∃b e,Na (u! d2 db))):=wu A.aH5 anr λ q f aK A' cs s H0 H E hr hp=>by rw[SV z hU u!,<-aW (sh d7 cK ai ap Lt) im im];(.rw[ed,dX,dX]at h1;rw[tn xw];obtain⟨v,hv⟩:=rN vs i C_ (by exact aFA h1 hl);rw[MM v u hu];rw[hu];refine aG (v:=v) (cN Z ap bE (af vs Ny eP ?_)) λ H1 s1=>Ej (QR s1);rw[cP (z=iC r9 C_) aHo h1];exact b_ hv);. (have hn:f8 Ro (0<=z) (us[C_]?):=by split;(.rename_i h0;rw[xZ h0,eo,xI]at h1;exact Wg bN av1 h1);.rfl);rw[hn];exact mW (Jn (avW A) hr (bE dd kw () trivial R λ v H2 _ h=>h)) pt v h (d3 0 0 h)
aj2{us:ce}{n:O}{u:jr}(h:bd us n u):vp u? IU=if fJ==41 then vp u? n else y2 IU:=by unfold u?;rw[va h,List.dropWhile_cons]
tW(u:jr)(m:O):e! xm [m]=(fJ==m):=by show[m].uC fJ=_;rw[I!,Wf,uM]
}
section
variable{X:Cx}{σ:ee}{H:Hp}{o e:dl}{cL jm:ef}{q:a5}{vs:g!}{us:ce}{i:bG}{j n:O}{u:jr}
def z:={
Ci(A:c')(hq:tg qn H1 q vs)(hU:tJ gm vs n)(hn:EP n)(ho:n5 o q)(hi:l0)(hj:qD)(hu:bd us j u)(hs:st)(hb:Q_ (P8 (.P9 o e jm) "kind") sV sV):lg U3 (.Dl sV) nJ kI:=by(have hl:Fi:=by rw[hU.1,hn]);obtain⟨v,hv⟩:=rN vs i j (by have:=gD hu;exact BU az hl);rw[MM v u' eA,a7 hu eA eA,YW A QD (e6 (cN (v:=v) ho hi bE (af vs (dk (hq H1 s1)) (by rw[dV hj b_ hv])) hs) λ w H1 s1 e=>by rw[dV e QR s1]) Co h.1 hb]
}
section z
def z:={
avT(A:Y):ec "last_no_space" (RQ be Ga [mA,Ct] bC (wK/\db<oD) (λ a v _=>tF n (v=em p0/\n<=db+1/\u? (pc d2 (a.2+1))=pc d2 n))):=wu A.ao5 Vy λ q f aK A' cs s H0 H E hr hp=>by rw[Mg hU hp Vy.nd,p! tF n (a0=[G_,m2 p0]/\n<=p+1/\m=n - 0/\lF u?=vp u? n) eL #[eL,by rw[qx ((md eL - 1)=tP) Pl];rfl,e5,rfl,rfl]];rintro m a0 H1 s1⟨n,rfl,hn,hm,hz⟩;by_cases h0:0<n;(.rw[RZ S5 hn hp];have bw:=aj2 hu;rw[cP (AU+1=n) zj iF]at bw;refine(aZ _ ds Hw th (gC 41) Lp rk bB bB);(.rw[ed,tW]at hx;rw[io ip]at bw;rw[RG (lh 1) YU (by rw[hz,bw])]);.rw[F5,eo,tW]at hx;rw[c? (by rw[hx];simp)]at bw;exact aG ap n1 kw n hn (by rw[hz,bw]));.rw[Mc (n=0) h0 om,p9 Hw F7 (aG ap n1 eS (aZ 0) hn (by rw[hz];rfl))]
Cq{z D dx:a5}{ns:O?}{u:eb}(h0:UM∉ns):A8 z C dx ns i! (∃b e,kZ D H v u b e):=λ v H fs gE hz hf h=>by refine gM h λ b e h=>gF h O3 eQ fs1 h3;(have n:q≠z:=λ e=>by subst e;rw[a7 h2 hz hz,h0 aH hf h3.1]);exact d3 b e (lL q eQ fs1 h1 (by rw[aV n];exact h2) h3)
}
structure cO(c:Cs)(H:Hp)(a:a5)(us:ce)(p:O)(c2:cr):Prop where
 lt:Ob p
 ex:∃dx fs uv xx x y yy j2 z zz,ma H a QS/\l? ("units":a4) uv/\jS ("place":a4) bn p/\gJ ("is_cut":a4) c2/\l? ("xx":a4) xx/\l? ("x":a4) x/\l? ("y":a4) y/\l? ("yy":a4) yy/\l? ("yyy":a4) j2/\l? ("z":a4) z/\l? ("zz":a4) zz/\m3 iS uv us/\∀q∈[(xx,lF Ch.rq),(x,lF pe),(y,w4 pg eL),(yy,w4 DU eL),(j2,w4 Ch.CO eL),(z,lF DV),(zz,lF Ch.yF)],∃b e,kZ gm H q.1 q.2 b e
def z:={
cO.later{H H':Hp}{a:a5}{us:ce}{p:O}{c2:cr}(h:js)(s:tQ):cO c H' a us p c2:=by obtain⟨dx,fs,uv,xx,x,y,yy,j2,z,zz,h1,h2,h3,h4,h5,h6,h7,h8,h9,fc,eD,mH,gf⟩:=kK;exact #[h.lt,dx,fs,uv,xx,x,y,yy,j2,z,zz,Ip,h2,h3,h4,h5,h6,h7,h8,h9,fc,eD,mH.later s,λ q hq=>by refine gM (gf q hq) ax b e h;exact(d3 b e (DZ s))]
axP(A:Y):A3 5 "Place" QS be ((V×ce)×Ky) [mA,iX,.bl b?] bC (wK/\a!+1<oD) Gj (cO c H q d2 a! b?):=by refine BO A.Place A.eE.init VQ cd b4 a? λ a f aK A' cs s E z dx H1 hr hz nV bf hp=>?_;obtain⟨⟨uv,us⟩,p,c2⟩:=a;rw[y4 jH a8];have vY:iS gm H1 uv us:=jH;refine aO jH zP gV eP hU;dsimp only at gV eP hU a8⊢;rw[gb gV VQ.nd];have a3:Fi:=hU.1;refine dd (aP L8 (axQ Cy (pv 0) BI BI BI BI BI tY)) Cn D nn;have s0:=By (o:=.own z) (o':=.ins QS dx []) hz nV;obtain⟨vx,Yo⟩:=rN vs i p (by exact ayW a8 a3);obtain⟨vy,Xn⟩:=rW vs i (p+1) (by exact Q2 a8 a3);refine ah (hU.2 p vx Yo) ax ux hux hOx;refine ah (hU.2 eL vy Xn) ax uy huy hOy;refine iv (aT (avT A) d4 ((eC qu,us),p) lm ad d! #[QT (s0.trans s2),Tj a8]) λ ns H2 s2 qN=>?_;(rw[ci (bM qN.now λ n aS hn tO=>?_) aS]);have tO:lF u?=OE:=tO;have hn:n<=p+1:=hn;(have eXX:lF Ch.rq=u! us zS:=by unfold Ch.rq;rw[Tm Ch.abd a8];congr 1;exact aiS);((have eX:lF pe=an ux:=by unfold pe;rw[va hux];rfl);have eY:w4 pg eL=an uy:=by unfold pg;rw[Wi,huy]);(have eYY:w4 DU eL=u! us (dp p+2):=by unfold DU;rw[Ch.Zk];congr 1);(have asv:w4 Ch.CO eL=u! us (dp p+3):=by unfold Ch.CO;rw[Ch.Zk];congr 1);(have eZ:lF DV=u! us p0:=by unfold DV;rw[tO,Ch.Sa (by omega)]);(have eZZ:lF Ch.yF=u! us (p0 - 1):=by unfold Ch.yF;rw[tO,Ch.abd (by omega)];congr 1;exact ait);rw[oq (nB.go (ns:=["units","place","is_cut","xx","x","y","yy","yyy","z","zz"]) (λ H=>∃q,x? z=dP q/\cO c H q us p c2) Cy (pv 0) A.eE.cl hz (.v A.eE.afk ap (.v A.eE.ads ad (.v A.eE.afi aN (.p A.eE.aa9 E9 (tP - 1) oH Fo H6 s6 s6 n2 Cq (.v A.eE.VG (cN (v:=vx) ap ad (λ H7 s7=>(af vs d' v? eP (b_ Yo)))) (.v A.eE.VJ (cN (v:=vy) ap Fp (λ H8 s8=>(af vs d' xl eP (b_ (j:=p+1) Xn)))) RF A.eE.Ua (tP+2) RF A.eE.afh (tP+3) (.p A.eE.n_z E9 zT bm Fo H6 s6 s6 n2 Cq (.p A.eE.T8 E9 (zT - 1) N8 Fo H6 s6 s6 n2 Cq tY)))))))) (s0.trans s2) gp aX (λ H3 s3 vxx xk vyy KP aia agb vz hvz vzz arh e=>?_) (λ H3 s3 q=>nn _ _ s3 q)) #[z,rfl,a8,dx,_,dP qu,vxx,vx,vy,vyy,aia,vz,vzz,e,rfl,rfl,rfl,rfl,rfl,rfl,rfl,rfl,rfl,rfl,QT s3,?_]];rw[eXX,eX,eY,eYY,asv,eZ,eZZ];exact fm xk (fm Ej (hOx.later s3) (fm Ej (hOy.later s3) (fm KP (fm agb (fm hvz (fm arh fm0))))))
}
section
variable{X:Cx}{σ:ee}{H:Hp}{o:dl}{cL:ef}{a:a5}{us:ce}{p:O}{c2:cr}{u:eb}
def z:={
OU.2(c:Cs)(u:eb):V->my Hp:=pG v (∃b e,Na u)
rM(A:c'){v:V}(hn:NA)(ho:nt)(hg:∀fs b e,S7 (UF fs (kI u) b e) uO yb->l? g v)(hb:LN o o o):Nf o g v:=NH ho (λ w H1 s1 hw=>by obtain⟨b,e,q,dx,fs,e1,e2,e3⟩:=hw.now;exact(lA q gm dx fs v e1 e2 JC hn (hg fs b e e3) ff)) hb
uk(A:c')(ho:nt)(hb:er (et "kind")):j0 U3 eu (.int (kI u)):=oR A QD h.1
uj(A:c')(ho:nt)(hb:er (et "joined")):kg fl (eu "joined") Ch.zm u:=oR A QG Ck.1
us_(A:c')(ho:nt)(hb:er (et "spaceless")):kg fl (eu "spaceless") uO u:=oR A JD Ck.2.1
ue(A:c')(ho:nt)(hb:er (et "east")):kg fl (eu "east") JE u:=oR A QH fh.2.2.2.2.1
ui(A:c')(ho:nt)(hb:er (et "initial")):kg fl (eu "initial") Ch.vX u:=oR A QI fh.2.2.2.2.2.1
uf(A:c')(ho:nt)(hb:er (et "final")):kg fl (eu "final") Ch.vi u:=oR A QJ Ck.2.2.2.2.1
ur(A:c')(ho:nt)(hb:er (et "ring")):kg fl (eu "ring") yb u:=oR A QK fh.2.2.2.2.2.2.2.1
uo(A:c')(ho:nt)(hb:er (et "soft")):kg fl (eu "soft") Ch.xR u:=oR A QL fh.2.2.2.2.2.2.2.2.1
uu(A:c')(ho:nt)(hb:er (et "unassigned")):kg fl (eu "unassigned") Ch.yV u:=oR A QM Ck.2.2.2.2.2.2.2
Bf.2(us:ce)(p:O):=y2 eL
Af.2(us:ce)(p:O):=Iq eL
F6(A:c')(h:js)(ho:jC)(hb:er (et "xx")):n_ fl (eu "xx") fo Ch.rq Bf p:=by obtain⟨dx,fs,uv,xx,x,y,yy,j2,z,zz,h1,h2,h3,h4,h5,h6,h7,h8,h9,fc,eD,mH,gf⟩:=kK;exact(pX xx A.eE.aa9 h5).imp λ v H1 s1 e=>by rw[sj (gf (xx,_) KF) e e]
px(A:c')(h:js)(ho:jC)(hb:er (et "x")):n_ fl (eu "x") fo pe Bf p:=by obtain⟨dx,fs,uv,xx,x,y,yy,j2,z,zz,h1,h2,h3,h4,h5,h6,h7,h8,h9,fc,eD,mH,gf⟩:=kK;exact(pX x A.eE.VG h6).imp λ v H1 s1 e=>by rw[sj (gf (x,_) (n7 _ KF)) e e]
py(A:c')(h:js)(ho:jC)(hb:er (et "y")):n_ fl (eu "y") fo pg Af p:=by obtain⟨dx,fs,uv,xx,x,y,yy,j2,z,zz,h1,h2,h3,h4,h5,h6,h7,h8,h9,fc,eD,mH,gf⟩:=kK;exact(pX y A.eE.VJ h7).imp λ v H1 s1 e=>by rw[sj (gf (y,_) KU) e e]
zf(A:c')(h:js)(ho:jC)(hb:er (et "yy")):n_ fl (eu "yy") fo DU Af p:=by obtain⟨dx,fs,uv,xx,x,y,yy,j2,z,zz,h1,h2,h3,h4,h5,h6,h7,h8,h9,fc,eD,mH,gf⟩:=kK;exact(pX yy A.eE.Ua h8).imp λ v H1 s1 e=>by rw[sj (gf (yy,_) (n7 _ KU)) e e]
anz(A:c')(h:js)(ho:jC)(hb:er (et "yyy")):n_ fl (eu "yyy") fo Ch.CO Af p:=by obtain⟨dx,fs,uv,xx,x,y,yy,j2,z,zz,h1,h2,h3,h4,h5,h6,h7,h8,h9,fc,eD,mH,gf⟩:=kK;exact(pX j2 A.eE.afh h9).imp λ v H1 s1 e=>by rw[sj (gf (j2,_) Lz) e e]
pz(A:c')(h:js)(ho:jC)(hb:er (et "z")):n_ fl (eu "z") fo DV Bf p:=by obtain⟨dx,fs,uv,xx,x,y,yy,j2,z,zz,h1,h2,h3,h4,h5,h6,h7,h8,h9,fc,eD,mH,gf⟩:=kK;exact(pX z A.eE.n_z fc).imp λ v H1 s1 e=>by rw[sj (gf (z,_) (n7 _ Lz)) e e]
pzz(A:c')(h:js)(ho:jC)(hb:er (et "zz")):n_ fl (eu "zz") fo Ch.yF Bf p:=by obtain⟨dx,fs,uv,xx,x,y,yy,j2,z,zz,h1,h2,h3,h4,h5,h6,h7,h8,h9,fc,eD,mH,gf⟩:=kK;exact(pX zz A.eE.T8 eD).imp λ v H1 s1 e=>by rw[sj (gf (zz,_) (n7 _ (n7 _ Lz))) e e]
}
section z
def z:={
aD5(A:Y):ec "none_if" (RQ (λ b:cr=>[ej b]) oU yq b em Ui):=sG A.aAU anE λ b f aK A' cs s H0 H E hr hp=>by rw[gr Ad gz Z DB d?];cases b<;>rfl
ia{X:Cx}{σ:ee}{H:Hp}{e:dl}{p cL:ef}{b:cr}(A:c')(hr:CH)(he:jG e b)(hg:d1 (xD "none_if"))(bw:nh [e] iL e [])(a_:zG):lg qv (ik "none_if" p) [e] Ui:=aT (aD5 A) hr b (ae he ao bw) vn hg b! bw a_
uR:o0 [] (-1):=rfl
kR(b:cr)(s:JK)(l:M0):o0 ((b,s)::l) (if ws then NC else yd l):=Bo b
iM{b:cr}{l:M0}(h:b=false):o0 ((b,s)::l) (yd l):=by rw[kR,h,GR]
oi{b:cr}{l:M0}(h:ws):o0 ((b,s)::l) NC:=by rw[kR,xe]
iK(b:cr):o0 [(b,.aF)] (if ws then 0 else -1):=Bo b
eV.2(c:Cs)(k:O):RP:=RQ be (a5×Fh) [Lg] bC K? dv (f_ (yd BC (Bf a! bA) (Af a! bA) aF))
at5(A:Y):ec "rule_1" (dy 1):=cY A.agA akM λ q e H hr hp U hU=>by rw[d0,<-aW fw (gC 9) uD ch h1 ac Dz d? qY (aW ds fw (gC 15) rg th (gC 30) gc rj ch h2 ac DB d? wh h2 Ad (o5 [15,30,31] nv pW rg rj uF) Dz)];all_goals rw[dt];simp only[kR,uR,h1];first|rfl|(simp only[h2];first|rfl|(cases hQ [15,30,31]<;>rfl))
aGF(A:Y):cA "rule_2" (dy 2):=cY A.aDZ auh λ q e H hr hp U hU=>by rw[d0,lE (nL [9,15,30,31,41,46] gc RR)]
ahE(A:Y):ec "rule_3" (dy 3):=cY A.as1 aIv λ q e H hr hp U hU=>by rw[d0,gr Ad po (gC 46) pz Di D4 d?,dt];rw[kR];rw[tl e! fo DV Bf p [46]]
aIV(A:Y):cA "rule_4" (dy 4):=cY A.aoz aG6 λ q e H hr hp U hU=>by rw[d0,lE pi uj px]
ajM(A:Y):cA "rule_5" (dy 5):=cY A.axt aoJ λ q e H hr hp U hU=>by rw[d0,lE oN fw (dE 45) A.g.WJ (bZ (dE 45 gc ac A.g.WJ))]
Kf(o:eb)(l:aD):MtLine.isNot o l=!op:=Bo o
aEd(A:Y):cA "rule_6" (dy 6):=cY A.aKJ ax8 λ q e H hr hp U hU=>by rw[d0,gr lk oN fw (dE 19) D6 (bZ (cn m6 (dE 19) D6 bi (bZ (axS [41,7,23] nv pW rk A.g.BA D7)))) mR,dt];rw[kR,iK,Kf];rw[tl hQ [19]]
aFQ(A:Y):cA "rule_7" (dy 7):=cY A.aGh aDC λ q e H hr hp U hU=>by rw[d0,lE (nL [12,14,18,42] gc de JR D9 cm A.g.EX JS)]
ahr(A:Y):cA "rule_8" (dy 8):=cY A.ayt aFn λ q e H hr hp U hU=>by rw[d0,lE po (dE 34) pz JW]
aAP(A:Y):cA "rule_9" (dy 9):=cY A.af5 ad0 λ q e H hr hp U hU=>by rw[d0,<-bz 1 ad0.nd (K5 [9,15,30,31,34,37,19,41,46] mP pzz de JG uD de rg rj de uF JW de ye D6 cm rk Di) ?_,lE ew po IM pz ye (cn (ui A iy pz) bi (bZ ap))]
aKn(A:Y):cA "rule_10" (dy 10):=cY A.asS adg λ q e H hr hp U hU=>by rw[d0,<-bz 1 adg.nd (K5 [41,19,45,12,37,14,18,26,42,9,15,30,31,46] mP zf de JG rk (ae ac D6 de A.g.WJ JR de ye D9 de A.g.EX yj de JS uD de rg rj cm uF Di)) ?_,lE ew LW IM (cn (uf A iy py) bi (bZ ap))]
aGK(A:Y):ec "rule_11" (dy 11):=cY A.ahB azJ λ q e H hr hp U hU=>by rw[d0,<-Sk m6 (S_ 26) yj h1 ds fw (gC 41) rk th (gC 33) mP zf pa];(.rw[dt];rw[rc]at h1;simp only[kR,uR,h1];rfl);.rw[dt];rw[rd]at h1;simp only[kR,uR,h1,eo];rw[tl (hQ [41]&&e! fo DU Af p [33])]
ahQ(A:Y):cA "rule_12" (dy 12):=cY A.arx aoB λ q e H hr hp U hU=>by rw[d0,<-kf ds m6 (gC 32) Ja (c4 (o5 [12,14] mP pz cm JR D9)) h1 pZ h1 lk ew m6 (dE 6) A.g.B2 (bZ (dE 6 mP pz ac A.g.B2))];(.rw[dt];rw[oi h1];rfl);.rw[dt];rw[o4,iK]
amC(A:Y):ec "rule_13" (dy 13):=cY A.aHq an5 λ q e H hr hp U hU=>by rw[d0,gr Ad fw (gC 41) rk D4 d?,dt];rw[kR];rw[tl hQ [41]]
aIj(A:Y):cA "rule_14" (dy 14):=cY A.azU aCw λ q e H hr hp U hU=>by rw[d0,<-kf ds LW (gC 37) (c4 (dF (bO pi ui py))) h1 pZ h1 lk ew fw IM ye qX pi uf px];(.rw[dt];rw[oi h1];rfl);.rw[dt];rw[o4,iK]
aH9(A:Y):cA "rule_15" (dy 15):=cY A.aiW apd λ q e H hr hp U hU=>by rw[d0,<-kf ds LW (gC 37) (c4 (dF (CZ (cE (bO (ue A w1)) bi oW pi ue zf)))) h1 pZ h1 lk ew fw IM ye qX (cn (ue A iy py) bi (bZ (ue A iy F6)))];(.rw[dt];rw[J2]at h1;rw[oi h1];rfl);.rw[dt];rw[J2]at h1⊢;rw[o4,iK]
aHS(A:Y):ec "rule_16" (dy 16):=cY A.arc aFx λ q e H hr hp U hU=>by rw[d0,gr Ad fe fw (gC 10) A.g.CB (eB (gC 10 gc ac A.g.CB)) D4 d?,dt];rw[kR];rw[tl (hQ [10]||mS [10])]
t_(o:eb)(l m:aD):e! o (l++m)=(op||e! o m):=by cases o with|aF=>rfl|c! u=>show(l++m).uC fJ=(I' fJ||m.contains fJ);rw[Gc]
FH.2(l:aD):RP:=RQ (λ o:eb=>[BF]) oU yq o (it (MtLine.is o l))
uY(A:Y):ec "is_letter" (FH [3,22]):=sG A.aks aqt λ q f aK A' cs s H0 H E hr hp=>MA (nL [3,22] Z cm o? Dc)
aez(A:Y):ec "is_ideograph" (FH [24,16,17]):=sG A.afD aqT λ q f aK A' cs s H0 H E hr hp=>MA (nL [24,16,17] Z pW xX A.g.EB A.g.EM)
aaB(A:Y):ec "is_korean" (FH [27,29,28,20,21]):=sG A.anA aH3 λ q f aK A' cs s H0 H E hr hp=>MA (nL [27,29,28,20,21] Z (ae ac Jf de Dd Dh cm Jb Jd))
og{X:Cx}{σ:ee}{H:Hp}{e:dl}{p cL:ef}{l:aD}{o:eb}(F:aM X.prog X.w X.K uJ X.base 1 x (FH l))(hr:CH)(he:j0 e (.int (kI o)))(hg:d1 (Gl X x))(d5:MI x a4)(bw:nh [e] iL e [])(a_:zG):jG qv (ik x p) [e] op:=aT F hr o (ae he ao bw) vn hg d5 bw a_
Mz.1(x y:eb):cr:=(e! x [27]&&e! y [27,29,20,21])||((e! x [29,20]&&e! y [29,28])||(e! x [28,21]&&e! y [28]))
Fc{o:eb}{l m:aD}(h:as op)(hd:∀k∈l,m.contains k=false):e! o m=false:=by cases o with|aF=>rfl|c! u=>exact hd fJ (by have:as (I' fJ):=h;simpa using az)
awA(A:Y):ec "syllable_goes_on" (RQ be (eb×eb) [.int (kI dL),f_ (kI db)] oU dv (it (Mz dL db))):=fx A.aLy aF2 λ q e H hr hp U hU=>by obtain⟨x,y⟩:=q;rw[Aw Mz];(refine aW (gC 27 Z ac Jf) ch h1 (nL [27,29,20,21] ap de Jf Dd cm Jb Jd) k6 qY (aW (o5 [29,20] Z cm Dd Jb) ch h2 (nL [29,28] ap cm Dd Dh) k6 Ps (aG (cn (nL [28,21] Z cm Dh Jd) s_ (dE 28) ap Dh) k6));(.rw[h1,Fc (m:=[29,20]) h1 b!,Fc (m:=[28,21]) h1 b!];simp);.rw[h1,h2,Fc (m:=[28,21]) h2 b!];simp);.rw[h1,h2];simp
aCm(o:eb):QV o=(e! o [2,5]||yb o):=Bo o
aJa(A:Y):ec "is_kernel" (RQ be (V×eb) [a.1] bC (OU c db dL H) dv (it (QV db))):=cY A.age agE λ q e H hr hp U hU=>by obtain⟨v,o⟩:=q;have ho:OU c o v H:=hp;rw[c3 hU _,gr oN (nL [2,5] (uk A (e6 Z λ w H1 s1 e=>by rw[e];refine gM ho ax b e' h;exact(d3 b e' (DZ s1)))) cm A.g.AK A.g.AS) (bZ (ur A (e6 Z λ w H1 s1 e=>by rw[e];refine gM ho ax b e' h;exact(d3 b e' (DZ s1))))) Ef bQ (aCm o)]
A2{X:Cx}{σ:ee}{H:Hp}{e:dl}{p cL:ef}{u:eb}(A:c')(hr:CH)(he:n_ e u)(hg:d1 (xD "is_kernel"))(bw:nh [e] iL e [])(a_:zG):kg qv (ik "is_kernel" p) [e] QV u:=nZ (aJa A) hr (cq he ao bw) (λ vs H1 s1 hv=>by(rw[ci (ah (r_ hv) ax v aS EG) aS]);exact kw (v,u) EG.now IG) hg b! bw a_
}
section
variable{X:Cx}{σ:ee}{H:Hp}{o:dl}{cL:ef}{a:a5}{us:ce}{p:O}{c2:cr}
def z:={
F2(A:c')(h:js)(ho:jC)(hb:er (et "units")):iw Ev fl (eu "units") i! m3 iS v us:=by obtain⟨dx,fs,uv,xx,x,y,yy,j2,z,zz,h1,h2,h3,h4,h5,h6,h7,h8,h9,fc,eD,mH,gf⟩:=kK;exact(pX uv A.eE.afk h2).imp λ v H1 s1 e=>by rw[dV e mH.later s1]
HH(A:c')(h:js)(ho:jC)(hb:er (et "place")):mb fl (eu "place") p:=by obtain⟨dx,fs,uv,xx,x,y,yy,j2,z,zz,h1,h2,h3,h4,h5,h6,h7,h8,h9,fc,eD,mH,gf⟩:=kK;exact cQ ho Ke A.eE.ads h3 hb
af6(A:c')(h:js)(ho:jC)(hb:er (et "is_cut")):jG fl (eu "is_cut") c2:=by obtain⟨dx,fs,uv,xx,x,y,yy,j2,z,zz,h1,h2,h3,h4,h5,h6,h7,h8,h9,fc,eD,mH,gf⟩:=kK;exact cQ ho Ke A.eE.afi h4 hb
}
section z
def z:={
aAs(A:Y):ec "digits_before" (RQ be Ga [mA,em (ps a.2 - 1)] bC (wK/\db<=oD) dv (it (rp (pc d2 db)))):=wu A.anx aaq λ q f aK A' cs s H0 H E hr hp=>by rw[Mg hU hp aaq.nd,p! tF n (a0=[G_,m2 p0]/\n<=p/\m=n - 0/\Tz=fo rp pc p) p #[p,rfl,e5,rfl,rfl]];rintro m a0 H1 s1⟨n,rfl,hn,hm,hz⟩;by_cases h0:0<n;(.obtain⟨u,hu⟩:=rW us i AU (by exact aEU h0 hn hp);(have iF:zT=bF sd:=by exact Ah h0);(have bw:Tz=(fJ==33||(MO&&vp rp sd)):=by have:=va hu;rw[cP (AU+1=n) zj iF]at az;rw[qC]);refine(aZ _ ds Hw (c4 (o5 [42,26] Lp cm JS yj)) bB bB);(.rw[ww];have h33:e! xm [33]=false:=Fc ip b!;rw[tW]at h33;have jz:as MO:=ip;rw[h33,jz,jj,eo]at bw;rw[RG (lh 1) HV (by rw[<-hz,bw])]);.rw[F5,eo]at hx;have jz:MO=false:=hx;rw[jz,re,uM]at bw;rw[i2 ew (gO eF ap ai) (bZ (CR Lp ac pa))];rw[F5,eo,tW,<-hz,bw]);.rw[Mc (n=0) h0 om,p9 Hw F7 (aG (DK (gO eF ap ai) F7) k6)];rw[<-hz];rfl
LG{X:Cx}{σ:ee}{H:Hp}{e o:dl}{p cL:ef}{us:ce}{n:O}{i:bG}(A:c')(hr:CH)(ho:iw Ev o i! m3 iS v us)(he:l0)(hi:i=zT)(hn:oL n)(hg:d1 (xD "digits_before"))(bw:nh [o,e] iL o [e])(Ed:nh [e] iL e [])(a_:Ey [e] any):kg qv (ik "digits_before" p) [o,e] rp OE:=nZ (aAs A) hr (cq ho (cq he ao Ed) bw) (λ vs H1 s1 hv=>by(rw[xd qg λ v r aU h1 w r2 a9 bu bV=>?_];subst aU a9 bu bV);exact(aZ ((v,us),n) (by rw[hi]) #[h1,hn] IG)) hg b! bw a_
aqE(A:Y):R4 (cA "digits_end") a5 (.bl (rp (Bf a! bA)||(e! (pe (Bf a! bA)) [12,14]&&rp ((Bf a! bA).jq 1)))):=cY A.aCk aJx λ q e H hr hp U hU=>by rw[yp a p q];have a8:=h.lt;rw[cx,<-ga (bO (LG (n:=p+1) A hr Hs Ht U2 nm a8)) h1 qY (aG (cn (nL [12,14] nv cm JR D9) bi (bZ (LG (n:=p) A hr Hs ry Ht R bN aGT a8))) k6)];(.rw[h1];rfl);.rw[h1,jj,Tm Ch.Vi a8];rfl
amm(A:Y):ec "indicators_up_to" (RQ be Ga [mA,Ct] bC (wK/\db<oD) dv (vN a6 wL (Bf d2 db))):=wu A.ar8 acM λ q f aK A' cs s H0 H E hr hp=>by rw[Mg hU hp acM.nd,<-i? nd ap ?_,p! tF n (a0=[G_,bn p,m2 p0]/\n<=p+1/\m=n - 0/\(eL - n)+a6 wL OE=a6 wL o1) eL #[eL,by rw[qx ((md eL - 1)=tP) Pl];rfl,e5,rfl,by rw[QW,We]]];rintro m a0 H1 s1⟨n,rfl,hn,hm,hz⟩;by_cases h0:0<n;(.rw[RZ S5 hn hp];have rf:=va hu;rw[cP (AU+1=n) zj iF]at rf;refine(aZ _ ds zg ad th (gC 38) Rj eP ad iF A.g.Vu bB bB);(.rw[ed,tW]at hx;rw[rf,VH (p:=λ u:jr=>vE) ip,mD]at hz;rw[<-wc (lh 2) nd (BE sd f4 Je iF hm sd ?_ bN YU hn R (by exact agR hz iF hn)),lS [_,_,zF p0] iF]);.rw[F5,eo,tW]at hx;rw[rf,Tg p (λ u:jr=>vE) (by rw[hx];simp),P?]at hz;rw[gr (aY cV ap ad) mR,aGk hz hn]);.rw[Mc (n=0) h0 om];rw[show(pc us 0).P! (λ u=>vE)=[]from rfl,P?]at hz;rw[p9 zg ad F7 (aG (aY cV ap ad) mR),aI0 hz]
ai7(A:Y):cA "rule_17" (dy 17):=cY A.as7 M6 λ q e H hr hp U hU=>by rw[d0,<-bz 1 M6.nd oN fw (dE 23) D7 (bZ (uo A w1)) (i? M6.nd (K5 [9,15,30,31,41,46,10,19] mP F6 de JG uD de rg rj de uF rk de Di A.g.CB ep ac D6) ?_),lE ew ap ew ad (bZ (dE 3 gc ac o?))]
aoi(A:Y):cA "rule_18" (dy 18):=cY A.arX RT λ q e H hr hp U hU=>by rw[d0];(refine kf fe (o5 [7,23,32] gc pW A.g.BA D7 Ja) (eB (gC 8 nv ac A.g.BB)) h1 im;.rw[dt];cases hb:mS [7,23,32]with|bH=>rfl|false=>rw[hb,jj]at h1;rw[cd iM,oi h1];rfl);rw[Md,<-bz 1 RT.nd oN fw (dE 23) D7 (bZ (cn fw (dE 7) A.g.BA bi qX pi ue px)) ?_,<-kf ds po (gC 22) F6 Dc (cE m6 (S_ 22) Dc bi oW ap) h2 pZ h2 lk ew fw (dE 42) JS (bZ (dE 22 gc ac Dc))];(.rw[dt];rw[iM xw,iM tX,oi (by rw[Kf,DQ (hQ [23]||_)];exact h2)];rfl);.rw[dt];rw[iM xw,iM tX,iM (by rw[Kf,DQ (hQ [23]||_)];exact h2),iK]
aE5(A:Y):cA "rule_19" (dy 19):=cY A.azx aih λ q e H hr hp U hU=>by rw[d0,lE m6 (dE 25) A.g.IN]
ao7(A:Y):cA "rule_20" (dy 20):=cY A.ak7 N4 λ q e H hr hp U hU=>by rw[d0,<-bz 1 N4.nd nv (i? N4.nd gc ?_),<-kf fe ds (bO (og (uY A) hr ap)) (c4 (o5 [33,36,35] ad ST)) (eB (CZ (cE (o5 [33,36,35] ap ST) bi oW Ho ad))) h1 pZ h1 lk oN (cn (dE 36 ap ac yk) bi (bZ (og (aez A) hr ad))) (bZ (cn (og (aez A) hr ap) s_ (dE 35) ad ym))];(.rw[R0 t_ h1 h1];generalize hQ [33]=b2;generalize mS [3,22]=b3;generalize hQ [36,35]=b4;generalize mS [36,35]=b5;generalize R5=b6;revert b0 b1 b2 b3 b4 b5 b6;decide+kernel);.rw[R0 t_ h1 h1];generalize hQ [33]=b2;generalize mS [3,22]=b3;generalize hQ [36,35]=b4;generalize mS [36,35]=b5;generalize R5=b6;revert b0 b1 b2 b3 b4 b5 b6;decide+kernel
aq3(A:Y):h? "rule_21" (dy 21):=cY A.aIb FL λ q e H hr hp U hU=>by rw[yp a p q];have a8:=h.lt;have mh:bX 1 _:=d4;rw[c3 hU _,<-bz 1 FL.nd nv (i? FL.nd gc ?_)];(refine kf ds (o5 [35,36] ad cm ym yk) oW (aT (aqE A) hr (a,us,p,c2) ep Z bE (DZ s1)) h1 im;.rw[dt];rw[oi h1];rfl);refine bz 3 FL.nd oN po CR zf pa (bZ (cn po (dE 26) zf yj s_ CR mP anz pa)) ?_;refine kf ds (o5 [35,36] ap cm ym yk) (cE (gC 34 ad ac JW) bi oW aN) h2 pZ h2 (ia A mh (cn (CR ad ac pa) bi (bZ (fP (nL [35,36,23,26] ap de ym yk cm D7 yj) bi (bZ (LG (n:=p+1) A mh Hs Ht U2 nm a8))))));(.rw[dt];rw[o4,oi h2];rfl);.rw[dt];rw[o4,iM h2,kR,kR,uR];first|(rw[LA SN K9 Tf])|(rw[Nt SN K9 Tf]<;>rfl)
ahK(A:Y):cA "rule_22" (dy 22):=cY A.aJb O5 λ q e H hr hp U hU=>by rw[d0,<-bz 1 O5.nd nv (i? O5.nd gc ?_),gr lk oN (aT (awA A) hr (NT Bf,fo pg Af p) lm ad vn) (fP (cn (og (aaB A) hr ap) s_ (dE 35) ad ym) bi (bZ (cn w! (dE 36) yk bi (bZ (og (aaB A) hr ad))))) mR];(conv in J9=>whnf);simp only[kR,uR];unfold Mz;first|(generalize R2=b0;rw[KV Se b1 Sf];generalize R1=b3;revert b0 b1 b2 b3;decide)|(rw[Nt R2 Se Sf]<;>cases R1<;>rfl)
zW.1(us:ce)(p:O)(c2:cr):bG:=G1 vt [3,22] [3,22] (if(as UT)then 1 else 0) (-1)
aiO(A:Y):R4 (cA "rule_23") a5 em (zW a! bA br):=cY A.aiF asw λ q e H hr hp U hU=>by rw[yp a p q,Aw zW,<-Sk fe tL Ho nv (eB (dF (bO Ho gc))) h1 ds gz iy af6 oW pi us_ py];(.rw[<-J2,rc]at h1;rw[h1];rfl);.rw[<-J2,rd]at h1;rw[h1,io (rfl:ln bH)];rw[tl UT]
aLH(A:Y):cA "rule_24" (dy 24):=cY A.asE aIf λ q e H hr hp U hU=>by(rw[d0,<-kf ds fw (gC 4) A.g.AP oW B6 iy py h1 qY kf ds gz B6 w1 (c4 (o5 [43,44] gc cm A.g.VF A.g.VI)) h2 Ps kf ds gz B6 iy F6 (cE fw (gC 44) A.g.VI bi (c4 (CZ (du m6 (gC 2) A.g.AK bi (eB (bO pi ur py)))))) h3 pZ h3 lk ew B6 w1 ew B6 iy py (bZ (dE 43 mP zf ac A.g.VF))];(.rw[dt];rw[oi h1];rfl);.rw[dt];rw[o4,oi h2];rfl);(.rw[dt];rw[o4,iM h2,oi h3];rfl);.rw[dt];rw[o4,iM h2,iM h3,iK]
aLt(A:Y):cA "rule_25" (dy 25):=cY A.anS aj7 λ q e H hr hp U hU=>by rw[d0,lE ew fw (dE 26) yj (bZ (og (uY A) hr gc))]
ayl(A:Y):cA "rule_26" (dy 26):=cY A.aD3 aqU λ q e H hr hp U hU=>by rw[d0,<-kf ds fe (bO (og (uY A) hr nv)) (eB (gC 33 nv ac pa)) (cE m6 (gC 34) JW bi (c4 (dF (bO (ue A iy py))))) h1 pZ h1 lk ew fw (dE 14) D9 ew (iT (ue A w1)) (bZ (fP Ho gc s_ CR gc pa))];(.rw[dt];rw[Fq ([3,22,33]:aD) ([3,22]++[33]),t_,t_,oi h1];rfl);.rw[dt];rw[Fq ([3,22,33]:aD) ([3,22]++[33]),t_,t_,o4,iK]
anh(A:Y):cA "rule_27" (dy 27):=cY A.asV ako λ q e H hr hp U hU=>by rw[yp a p q];have a8:=h.lt;rw[c3 hU _,gr lk ew m6 (dE 38) A.g.Vu (bZ (dY (iu xt (nZ (P:=λ v _=>v=vN a6 wL o1) (amm A) hr Bv Hs Ht (λ vs H1 s1 hv=>by(rw[xd qg λ v r aS h1 w r2 aU a9 bu=>?_];subst aS aU a9 bu);exact kw ((v,us),p) #[h1,Tj a8] IG)) ai b!) ai)) mR,dt];rw[iK];rw[Sq u hu a8];(have hx:NT Bf=an u:=by unfold pe Bf;rw[va hu];rfl);(have rf:o1=u::pc us p:=va hu;have aGs:nK ((md xf wL o1)%2=1) ((xf wL o1)%2==1):=by rw[z_,ati]);rw[aGs,hx,tW];cases h38:vE with|bH=>rw[eo]|false=>rw[rf,Tg p (λ u:jr=>vE) (by rw[h38];simp)];rw[tl mS [38]]
aAv(A:Y):cA "rule_28" (dy 28):=cY A.aFl ajZ λ q e H hr hp U hU=>by rw[d0,lE (cn (fP fw (dE 16) A.g.EB bi (bZ (uu A w1))) bi (bZ (dE 17 gc ac A.g.EM)))]
sv.1(us:ce)(p:O)(c2:cr)(k:O):bG:=if k=23 then zW us p c2 else yd BC o1 z! aF
z5.2(c:Cs)(k:O):RP:=RQ be (a5×Fh) [Lg] bC K? dv em (sv a! bA br k)
fK{k:O}(h:aM P w K mg t2 m x (eV c k))(hk:k≠23)(hm:m<=3):∃f,mg x=ct f/\GO 3 f (z5 c k):=by refine ah h.at_ ax f h1 h2;refine(af f h1 ?_);(have e:z5 c k=eV c k:=by unfold z5 eV sv;simp only[ii hk]);rw[dV e h2.mono hm]
qc{F:a4->my O}{k:O}{x:a4}{l:O?}(h:F x k)(r:∀i n,bd l i n->F n (el+i)):∀i n,(x::l)[i]?=an n->F n (k+i)|0,n,e=>by cases e;exact h|i+1,n,e=>by have:=r i n e;rwa[Nat.add_right_comm]at az
aJF(A:Y):∀(i:O)(n:a4),bd Au i n->∃f,mg n=ct f/\GO 3 f (z5 c (1+i)):=by have q:=λ{k:O}{x:a4}{l:O?}=>@qc (λ n k=>∃f,mg n=ct f/\GO 3 f (z5 c k)) k x l;(have r23:∃f,mg "rule_23"=ct f/\GO 3 f (z5 c 23):=by refine ah ((NM aiO P P A).at_) ax f h1 h2;exact(af f h1 n2 h2.mono));exact ka at5 aGF ka ahE aIV ka ajM aEd ka aFQ ahr ka aAP aKn ka aGK ahQ ka amC aIj (q yr aH9 ka aHS ai7 ka aoi aE5 ka ao7 aq3 (q yr ahK (q r23 (q yr aLH ka aLt ayl ka anh aAv (λ i n h=>by cases h)))))
amS(bef bL:ce)(word:Oh){k:O}(h:k≠23):BC bef bL word=BC bef bL aF:=by(iterate 23 rcases k with _|k;.rfl);(rcases k with _|k;.rw[kr R h]);(iterate 8 rcases k with _|k;.rfl);rfl
axF(A:Y)(T:Ts K mg):jE "verdict" (RQ be ((a5×Fh)×Oh) [f6] bC (cO c H hK fd gy iU/\o0 (D3 (Bf fd gy) (Af fd gy) db 23) (zW fd gy iU)) dv (vN (D1 (QX (Bf fd gy) (Af fd gy) db)))):=cY A.verdict Uu λ q e H hr hp U hU=>by obtain⟨⟨a,us,p,c2⟩,word⟩:=q;rw[y4 hP F3];have h:js:=hP;dsimp only at F3;have nd:=Uu.nd;rw[<-fR T.rules λ ra fs hm hS hl mC=>?_,oc Q9 (∀k,sv us p c2 k=yd BC o1 z! word) (λ k=>by unfold sv;split;(.rename_i e;rw[e,F3]);.rename_i e;rw[amS _ _ word e]),<-SO (Ng 1) (fs.map x?) ((∃x y,a0=[ij,x,y])/\∀j,j<k->o0 (D3 o1 z! word (1+j)) (-1)) (lK hm) mX k8 ra (hS H1) m' #[oP,λ j hj=>gu aFP hj] ?_ ?_];(.intro k x a0 H2 s2 hk j;(rw[nc (λ aS hj=>gM aS ax x' y' aU) aU]);(obtain⟨f0,EN,rfl⟩:∃f0,bd fs k f0/\x? f0=x:=by rw[nQ]at hk;cases e:fs[k]? with|aF=>rw[a7 e hk hk]|c! f0=>rw[e]at hk;exact fT f0 (Qz hk));(have HN:k<28:=by have:=gD EN;exact Nat.lt_of_lt_of_eq az hl);obtain⟨n,hn⟩:=rN Au i k HN;refine ah (NM aJF P P A k n hn) ax f1 EZ hC;(have hff:f1=f0:=by have:=mC k f0 n EN hn;rw[a7 EZ az az];rfl);subst hff;rw[c3 ei (i? nd) em (sv us p c2 (1+k)) (Jo 1 hC hr R ep Z (λ vs H3 s3 hv=>dd (aZ (a,us,p,c2) kS Ew DZ s3 R) IG)),<-aW xa ad A.g.uc ch hx ad mR m0 (c5 λ H3 s3=>#[oP,cU j' ju])];(.rw[Q9]at hx⊢;rw[Ch.aKz HN hj (by rw[r6])]);.by_cases e:j'=k;(.subst e;rw[Q9]at hx;rw[r6]);.exact hj j' f4 o_ ju e);.intro a0 H2 s2 j;(rw[nc (λ a9 hj=>gM a9 ax x' y' bu) bu]);rw[jf,hl]at hj;rw[gr ac D4 d?];rw[Ch.awT hj];rfl
kh.1(us:ce)(n:O):cr:=match us[n]? with|xm=>u.sa|aF=>false
}
section
variable{X:Cx}{σ:ee}{H:Hp}{o e:dl}{cL jm:ef}{q:a5}{vs:g!}{us:ce}{i:bG}{j n:O}{u:jr}
def z:={
EV(A:c'){w:V}(v_:NA)(hq:tg qn H1 q vs)(hU:tJ gm vs n)(hn:EP n)(ho:n5 o q)(hi:l0)(hj:qD)(hu:bd us j u)(hg:∀fs,UF fs nJ kI pp j w2 nJ Ch.zm nJ uO nJ JE nJ Ch.vX nJ Ch.vi nJ yb nJ Ch.xR nJ Ch.yV->l? g w)(hs:st)(hb:LN sV sV sV):Nf sV g w:=by(have hl:Fi:=by rw[hU.1,hn]);obtain⟨v,hv⟩:=rN vs i j (by have:=gD hu;exact BU az hl);rw[MM v u' eA,a7 hu eA eA,YW A v_ (e6 (cN (v:=v) ho hi bE (af vs (dk (hq H1 s1)) (by rw[dV hj b_ hv])) hs) λ w H1 s1 e=>by rw[dV e QR s1]) hg hb]
}
section z
def z:={
ajc(A:Y):ec "in_row" (RQ be Ga [mA,Ct] bC wK dv (it (kh d2 db))):=wu A.apD aqk λ q f aK A' cs s H0 H E hr hp=>by rw[SV n hU kh];cases hn:us[n]? with|c! u=>rw[i2 ew (gO cK ap Lt) (cn (dE 3 (Ci A bE Kz hU R Z ap R hn) ac o?) bi (bZ (LY JD Z ap hn Co Ck.2.1)))];have:=gD hn;rw[r0 Bx az,eo,tW,DQ];rfl|aF=>have:=List.getElem?_eq_none_iff.mp hn;exact aG (DK (gO cK ap Lt) AE aAp az) ff
N'.1(o:HU):bG:=match o with|IA=>bD x|aF=> -1
axV{B:hA}(F:Pq)(n:O)(t:aD):N' MS n t=if 0<=mK B 1 t then mK B 1 t else if n=1 then 65536 else -1:=by unfold J4 mK;cases h:C' B 1 t with|aF=>dsimp only;rw[kt NE ((0:bG)<= -1),w7]|c! l=>have hf:=_W.Yr F b! h;have h1:=hf.pos;have h2:=hf.L';dsimp only at h1 h2;(have h5:je=1:=by have:Mt.toMost 1=1:=rfl;exact ady h1 h2 az);match l,h5 with|[x],_=>dsimp only;rw[gh (by simp)];rfl
tx.2(t:aD)(us:ce):=MtLine.cutText t us
Px.1(us:ce)(t:aD):Prop:=M3
aqa(A:Y):cA "piece_cost" (RQ be ((BK×sm)×(V×ce)×kp) [Fy,fd,ls,wp,vN br] bC (GJ/\ba H fd mM/\m3 iS ls fb/\Px fb mM/\bA<=br/\br<a6 fb) dv (f_ (N' (J4 Hb (qZ.2 - bA+1) Ik iJ Nh bA (qZ.2+1))))):=c6 A.agL aaQ cd b5 a? λ q f aK A' cs s H0 H E hr hp=>by obtain⟨⟨⟨bb,d,kk⟩,tv,t⟩,⟨uv,us⟩,i,j⟩:=q;rw[cz lM λ hR aS aU hW tI hj=>ah aS λ qt fq dQ=>aO aU zP gV eP hU];rw[pr aQ bb hR];dsimp only at fq dQ gV eP hU tI hj hW⊢;subst fq gV;have nd:=aaQ.nd;obtain⟨ui',E1⟩:=wm i (by exact xG tI hj);obtain⟨uj',huj⟩:=wm j hj;((have h1:g0<=w2:=by unfold mL;rw[cP (j+1=i+Pt) ax2 tI,List.take_add,rl,Wh];exact xy);have h2:w2<=da:=by rw[<-hW];exact FQ us pO);have jN:=Ch.adM us t i Pt f4 awD tI hj;rw[cP (i+Pt=j+1) Qx tI]at jN;rw[axV aQ.dh,jN];have zq:(fo t.drop mL i).take (w2 - g0)=rm t g0 w2:=rfl;rw[zq];generalize oS:rm t g0 w2=cZ;rw[c3 ei (bz 5 nd) (f_ (kU mK 1 cZ)) (aam I7 (Wa A) hr Z j_ C7 Bv ac A.g.aDY (E2 (Po:=qr cZ) (xs:=cZ.map vN) A.g.xM (tR (P:=qr cZ) ap (LY A.dr.Ta ad aN E1 Co fh.1) (LY QE ad bm huj Co fh.2.1) (rT H1 s1 Bh qt Ny dQ λ p H2 s2=>Be p (by rw[aX,HW vN h1 h2,oS]))) rT H1 s1 (by rw[F1 q e1 e2])) (λ vs' H1 s1 hv=>by(rw[xd qg λ v1 r1 a9 bu v2 r2 bV cI dB=>ah cI ax q d6 hq];subst a9 bu bV dB d6);exact(kw (tA,1,dP q,cZ) #[nf,sl ((1:O)<3),fT q hq] λ v H3 s3 h=>h)))];(refine aW zg ck ch hx ck d? bB;.rw[gh (by rw[nq hx,dw Int.le_of_sub_one_lt])]);rw[c? (by rw[Mo hx,dw aC5])];refine aW (eT aN bm) ch cg ac A.g.agu d? wh cg OK;(.rw[gh (by rw[nq cg,dw aj5])]);.rw[c? (by rw[Mo cg,ks aED tI])]
}
structure WE(B:hA)(l:ou)(bh J:O)(kl ke:fy):Prop where
 hi:∀j,J<=j->IJ->rO j=bn zw.1
 lo:∀j,j<J->wM j
 en:∀j,J<=j->j<bh->∃e,or j=bn e/\j<=e/\e<bh/\zw.2=IO::(vv IY).2
structure WI(B:hA)(l:ou)(bh J:O)(oo:ph (O×O))(kl ke:fy):Prop where
 hi:∀j,J<j->IJ->rO j=bn zw.1
 lo:∀j,j<J->wM j
 en:∀j,J<j->j<bh->∃e,or j=bn e/\j<=e/\e<bh/\zw.2=IO::(vv IY).2
 no:oo=aF->wM J
 yes:∀b,oo=xn->rO J=bn b.1/\or J=bn (J+b.2)
def z:={
zI{a:O}(h:a≠b):¬kN a=kN b:=λ e=>h (DH e)
WI.put{B:hA}{l:ou}{oo:ph (O×O)}(h:w3 oo kl ke)(x k:O):w3 an (x,k) (ro kl (kN J) (vN x)) rL J (J+k):=by(refine #[λ j hj hb=>?_,cU j hj,ax j hj hb,(λ e=>nomatch e),cU b hb];(.rw[ko,c? (zI mk Fb)];exact h.hi j hj hb);.rw[ko,c? (zI mk V_)];exact nW j hj);(.rw[ko,c? (zI mk Fb)];exact rn j hj hb);.cases hb;rw[ko,pC,ko,pC];exact #[rfl,rfl]
WE.open_{B:hA}{l:ou}(h:G? B l vl):w3 aF kl ke:=#[λ j hj hb=>h.hi j hj hb,λ j hj=>nW j mk sC,λ j hj hb=>rn j hj hb,o3 (nW J Ib),(λ b hb=>OI)]
aDx{l:ou}{a k:O}(h:a+k<=b):(iJ l a b).take k=iJ l a Py:=by unfold D_;rw[<-VV,List.take_take,fS Jv Nat.le_sub_of_add_le' h,qy (a+k - a=k) MZ]
RA{l:ou}{a k:O}:(iJ l a b).jq k=iJ l Py b:=by unfold D_;rw[<-I9,List.drop_take,Qw,qy (b - a - k=b - Py) axY]
WI.close{B:hA}{l:ou}{b:kp}(h:w3 xn kl ke)(hJ:J<bh)(hb:yT xC J=an b)(hl:bh<=je):lD (WE B l bh J):=by have a3:a6 rB=bh - J:=Ch.PU hl;have a8:=Ch.DF hb;have hc:=Ch.aep (B:=B) (row:=rB) (b:=b) (by rw[fj a3 hb]);rw[RA]at hc;obtain⟨h1,h2⟩:=h.yes b R;refine #[λ j hj nu=>?_,nW,ax j hj nu];(.by_cases e:J=j;(.subst e;rw[h1,hc]);.exact h.hi j FY nu);.by_cases e:J=j;(.subst e;refine(fE (J+b.2) h2 iV xy bN Qy a8 ?_);rw[hc,qy (J+b.2 - J+1=b.2+1) RD,qy (J+(b.2+1)=J+b.2+1) MD]);.exact rn j FY nu
}
section
variable{X:Cx}{σ:ee}{H:Hp}{o e:dl}{cL:ef}{l:a5}{aq:fy}{i:bG}{n:O}{v:V}
def z:={
yI(hu:Oa)(ho:n5 o l)(he:l0)(hi:i=la n)(hl:k? H l aq)(hv:Pf=an v)(hs:Q' (Ek e)):j0 wO o v:=xg (P:=λ u _=>u=v) hu ho he (λ u z H1 s1 h1 h2=>by have e1:=h1.now;have e2:=h2.now;subst e1 e2 hi;exact(aE l v R (by rw[<-hv];exact OX Fa dZ hl) ff)) hs
Jl(hu:Oa)(ho:n5 o l)(he:l0)(hi:i=la n)(hl:k? H l aq)(h1:yM xW o):mi J! e .xW [o] (!(Pf).isSome):=O1 hu he ho (λ u z H1 s1 h1 h2=>by have e1:=h1.now;have e2:=h2.now;subst e1 e2 hi;rw[wW l (OX Fa dZ hl) R]) h1
aib(hu:Oa)(ho:n5 o l)(he:l0)(hi:i=la n)(hl:k? H l aq)(h1:yM In o):jG J! e .In [o] oY Pf:=aeB hu he ho (λ u z H1 s1 h1 h2=>by have e1:=h1.now;have e2:=h2.now;subst e1 e2 hi;rw[wW l (OX Fa dZ hl) R]) h1
}
section z
def z:={
iY(h:m<=10000):m<C4:=lP h
Y1{X:Cx}{σ:ee}{H:Hp}{e:dl}{x y:cr}(h:mi e x)(hx:x=y):mi e y:=hx▸h
e9{X:Cx}{σ:ee}{H:Hp}{e:dl}{x y:V}(h:j0 e x)(hx:x=y):j0 e y:=hx▸h
WD.2:=(BK×sm)×(V×ce)×kp
Xo.1(c:Cs)(a:WD)(H:Hp):Prop:=GJ/\ba H fd mM/\m3 iS ls fb/\Px fb mM/\bA<=br/\br<=a6 fb/\tq fb
au5(A:Y):RX (h? "least_pieces") (Xo c) F8 kl qe lD (WE Hb Nh br bA):=c6 A.aB6 ad2 cd b5 a? λ q f aK A' cs s H0 H E hr hp=>by obtain⟨⟨⟨bb,d,kk⟩,tv,t⟩,⟨uv,us⟩,fi,bh⟩:=q;rw[Ul (λ hR aS jH hW jB jX fY=>Bi) jH jB,gb fq ad2.nd];have hU:=jO hr;rw[kq i! F8 kl qe G? eJ eq fi];generalize hB:eJ=B;have qG:OF a6 eq:=Ch.Ap us t;generalize hl:eq=l at qG;rw[ol (aP fr os (VZ (RU ti ki abx) R R b! b!) fa fr z6 Bp FC AD (cy (i:=7)) (cG FC Cm (cy (i:=8)) LO Pp i iA LO (bY (i:=10)) iA zs B? xB (pv 7) (pv 10) B? t0 (pv 7) En) ot t0) D n'];intro l1 fk;refine vq (LX aX ([(kN bh,xr)]) R se Cn l2 f7);((have l9:l2≠l1:=λ e=>by subst e;rw[a7 aX f7 f7]);have f2:f8 (H1 l2):=by rw[aV l9,aV l9]at f7;exact f7);((have uW:Bj o od iO B9 l1:=λ sx b' o' hb=>by rw[i5 fk aH sx hb]);have CG:Bj o od iO B9 l2:=λ sx b' o' hb=>by rw[i5 f2 aH sx hb]);have G8:iO yv vw vw H1 [] (nX [] [(kN bh,xr)]) l2 []:=CG (uW (uW (aj.refl _)));(have sZ:kc (Oz - Ov)=bh - fi:=by exact avC);(refine(dd (ae N8 bt N9 tU) λ vs H6 s6 ev=>(qK Oz Ov (-1) ((Oz - Ov).toNat) Jy (mI.neg OS f4 aq4 jX fY OS (by exact azd jB jX fY)) (Am wr i H' (∃(x7 x8 x9 sX:g')(kl ke:fy),R3 [lB,kb,mq,w0,wZ,qj,ql,x7,x8,x9,sX] H' G? B l xC i) ?_ ?_ ?_)));(.refine #[aF,aF,aF,aF,_,_,rfl,UV,qV (by rw[Hn aV l9 aX]),qV aX,?_,e5,e5];refine #[λ j hj nu=>?_,cU j hj,λ j hj nu=>by exact(anU hj nu).elim];(. (have ju:j=bh:=by exact Nat.le_antisymm nu hj);subst ju;show b7 [(kN j,Iy)] (kN j)=_;rw[cd lN,show iJ l j j=[]by rw[Bk D_ QW]];rfl);.show f8 (b7 [(kN bh,Iy)] (kN j));rw[lT (zI mk ajF)];rfl);.rintro i a0 H' hi⟨x7,x8,x9,sX,kl,ke,rfl,sH,cH,oj,vd,c9,gT⟩;(rw[TA (bh - i) (xC i - 1) agx];have dq:bD bh - 1+Ix*(iC (-1))=bD J:=by exact aHP hJ);rw[hJ]at vd;rw[dq];have hWI:=vd.open_;refine(dd bt i_ bm λ vs H7 s7 ev=>(aE bD J bD bh Jy (by exact aCZ dq jX fY) (Eu (λ k c0 H2=>∃(x8 x9 sX:g')(kl ke:fy),c0=[lB,kb,mq,w0,wZ,qj,ql,wF,x8,x9,sX]/\lV/\Sc H2 w3 yT k kl ke (r3+k)) (rS x8 x9 sX kl ke R (u0 s7) v? cH OY hWI c9 gT) ?_ ?_)));(.rintro k c0 H2 hk⟨y8,y9,y10,kl,ke,rfl,k_,LQ,vC,hI,c9,gT⟩;(have cj:J+k<bh:=by exact aw3 hk);(have NV:(dp J+vr)=bF (J+k):=by exact IK);rw[NV];refine mF (aT (aqa A) hr ((#[bb,d,kk],Cg,t),(uv,us),J,J+k) (ae Z nY ap ad bt i_ CS) (λ H9 s9=>(E3 Mu fH s9 w' dS s9 k_ BT Mu yo s9 hW qx (J<=J+k) xy (show J+k<cc by exact VS cj jX)))) cU H9 s9;show oX _ _ _ _ _;(have avN:jt J4 (J+k - J+1) Ik iJ eq J CE=MS el Ik ((rB).take el):=by rw[fS aDx JJ cj,hB,hl,qy (J+k - J+1=k+1) RD,qy (J+k+1=J+el) aJI]);dsimp only;rw[avN];have pd:=aH s9 LQ;have uX:=aH s9 vC;have A_:=Jz s9;(have Yp:(rB).jq el=iJ l CE bh:=by rw[RA];rfl);cases Kj:MS el Ik ((rB).take el)with|aF=>(have kj:Al=yT k:=by rw[Ch.hX,Kj]);rw[oq (af hE (Y1 (gg t1 OK) R) (λ lU dD=>jU ?_)) Tk (JA dD) tC Ig,fj kj hI]|c! x=>(have tG:iC r9 x≠ -1:=by exact aBW);refine(af bH (Y1 (gg t1 OK) (by show as (!ca (ps r9 x= -1));rw[t5 tG];rfl)) (λ lU dD=>i' ?_));have Wc:=aH dD pd;have avR:=aH dD uX;have aFD:=JA dD;have yt:=hI.hi CE iV axM bN JJ cj;generalize Ay:x+(vv CE).1=iW;refine mc iW (e9 (aY bT (i:=bD x) (j:=mx (vv CE).1) t1 (yI (n:=J+k+1) hU ck m1 CS iV aAe Wc yt)) (jW e8 bN ar7 Ay)) cU YV zL;have yf:=aH zL Wc;have OR:=aH zL avR;have ada:=aFD.trans zL;have go:ts H' (aj YV H'->Al=an xp->∃(x8 x9 sX:g')(wV vA:fy),[fn x? bb,kb,mq,w0,wZ,qj,ql,wF,m2 bF (J+k),m2 yD N' x,bn iW]=[lB,kb,mq,w0,wZ,qj,ql,wF,x8,x9,sX]/\iO Lm/\TU Lm Lm w3 Al wV vA):=λ{H'}sx hb=>(rS _ _ _ (ro kl (kN J) (vN iW)) rL J (J+k) R (CG (uW (ada.trans sx))) (by rw[Hn aV l9 aX]) aX (by rw[hb];exact hI.put _ _) NB B! bN SI c9 NB B! bN Um gT);cases oh:yT k with|aF=>(have kj:Al=an xp:=by rw[Ch.hX,Kj,oh,Yp,<-Ay]);rw[oq (af bH rs abt (Jl (n:=J) hU ck i_ R yf) (by rw[hI.no oh];rfl) (λ TL j6=>i' ?_)) eS qa _ l1 _ (oJ J O0 (iY (by exact TJ dq cj c9 jX fY))) ?_,<-eS qa _ l2 _ (oJ J (by rw[aV l9];exact O2) (iY (by exact Ya dq cj gT jX fY))) ?_,go j6 kj]|c! b=>obtain⟨zN,_⟩:=hI.yes b oh;(have kj:Al=if iW<=b.1 then an xp else xn:=by rw[Ch.hX,Kj,oh,Yp,<-Ay]);refine dd fe (Jl (n:=J) hU ck i_ R yf) (eB (bP d7 (aa 10) (Oc yI J hU yf zN))) qd TL j6 bB;(.rw[zN]at hx;rw[Go cg (iW<=b.1)];rw[io cg]at kj;rw[oq eS qa _ l1 _ (oJ J O0 (iY (by exact TJ dq cj c9 jX fY))) ?_ eS qa _ l2 _ (oJ J (by rw[aV l9];exact O2) (iY (by exact Ya dq cj gT jX fY))) ?_,go j6 kj]);.rw[zN]at hx;(have cg:¬iW<=b.1:=by rw[r6]);rw[ii cg]at kj;refine Tk (ada.trans j6) O0 O2;rw[kj,<-oh];exact hI);.rintro c0 H2⟨y8,y9,y10,kl,ke,rfl,k_,LQ,vC,hI,c9,gT⟩;rw[Int.toNat_sub]at hI c9 gT;obtain⟨b,hb⟩:=Ch.Ni B rB xC J bN aq2 dq;rw[hb]at hI;refine #[_,y8,y9,y10,kl,ke,rfl,k_,LQ,vC,?_,by exact aL9 c9 jX fY,by exact arH gT jX fY];rw[cP (bh - q6=J) aH7 dq];exact hI.close bN ak9 dq hb f4 GV jX qG);.rintro a0 H'⟨x7,x8,x9,sX,kl,ke,rfl,sH,cH,oj,vd,c9,gT⟩;rw[sZ,Fr (bh - xC fi=fi) Nat.sub_sub_self jB]at vd;exact Gb sH H7 (lL l2 kl ke R OY vd)
aIx(l:ou)(j:O):iJ l j j=[]:=by rw[Bk D_ QW]
aiJ(A:Y):RX (jE "row_cuts") (Xo c) lr vG bA (Ch.cst Hb iJ Nh bA br).2:=c6 A.am3 Vh cd b5 a? λ q f aK A' cs s H0 H E hr hp=>by have o7:=hp;obtain⟨⟨⟨bb,d,kk⟩,tv,t⟩,⟨uv,us⟩,fi,bh⟩:=q;rw[Ul (λ hR aS jH hW jB jX fY=>Bi) jH jB,gb fq Vh.nd];have hU:=jO hr;rw[kq i! lr vG fi (KG fi bh).2,ol fa mZ os fr z6 (ny fQ) fa fr (bY (i:=7)) tZ zD RO uq t0 L9 ot t0 D n',<-iv (aT (au5 A) hr ((#[bb,d,kk],Cg,t),(uv,us),fi,bh) (ae Z nY ap ad Gv) d! #[y7 fH,w' li dQ,y7 yo,hW,jB,jX,fY]) λ ev H2 s2 yg=>?_];(rw[ci (gF yg.now λ qe kl ke aU Ie vd=>?_) aU]);have KI:G? eJ eq fi:=vd;generalize hl:eq=l at KI;generalize hB:eJ=B at KI;rw[hl,hB]at p;refine #[lO,λ r fN=>#[_,rfl,λ z a0 H'=>∃(j:O)(dn:aD),a0=[lB,kb,mq,w0,wZ,G3,v6,bn j]/\fi<=j/\IJ/\S0 (z=bh - j) H' H',#[xC fi,fi,[],rfl,e5,jB,rfl,cS fN,aX,rfl,lO],?_]];rintro z a0 H'⟨j,dn,rfl,W3,hj2,rfl,sH,mh,lW,q_⟩;refine dd qT i_ bm qd H3 s3 bB;(. (have nu:j<bh:=by rw[nq hx,dw uz]);refine wU (KI.en j W3 nu) λ e vm h1 h2 h3=>?_;have yG:=aH s3 mh;have jb:=dS s3 sH Ie;rw[oq #[λ c0 rD=>∃z',z'<bh - j/\∃(j:O)(dn:aD),c0=[lB,kb,mq,w0,wZ,G3,v6,bn j]/\fi<=j/\IJ/\S0 (z'=bh - j) rD rD,wx,?_] BH CA Bs yG (mc e (Oc yI j hU jb vm) cU H4 s4)];have uT:=aH s4 yG;refine(oZ r _ wI R R uT (iY (by rw[eH,atX q_ nu jX fY])) ?_);(have jT:j! Hj H4 r (dn.map vN++[wI]) qe:=by rw[aV (λ e=>by subst e;rw[Cl jb]at uT;cases uT)];exact Cl jb);refine mc IY (e9 (aY bT (i:=bD e) (j:=1) (Oc yI j hU jT vm) ai) R) cU H5 s5;(refine #[bh - IY,tD akS h2 h1,e+1,dn++[e],rfl,tD aDv W3 h1,Mn h2,rfl,λ b' o' hb=>aH s5 ?_,aH s5 ?_,?_,by rw[L2 ai2 q_ h1]];(.rw[i5 fN aH s4 dS s3 sH hb]);.rw[aX,rl];rfl);.rw[<-lW,h3,Ch.g9,show j+IO - 1=e by exact aK8 h1,show j+IO=e+1 by exact axL h1,Qt];rfl);. (have nu:j=bh:=by rw[FX (¬bD j<bD bh) hx,ks K8 hj2]);subst nu;rw[aIx,Ch.abG,Ch.g9,Du]at lW;refine ER (CX (u0 s3)) s4 fT r rU ?_;rw[mh,lW]
rb.1(ke:fy)(Q:my O):Prop:=∀i,as oY or i↔Q i
rb.put{Q:my O}(h:rb ke Q)(u:O)(v:V):rb (ro ke (kN u) v) p? (Q i\/i=u):=λ i=>by rw[ko];by_cases e:i=u;(.subst e;rw[pC];exact #[bi cd .inr,λ _=>rfl]);.rw[c? (zI e),h i];exact #[xu (.inl h),eW (h.resolve_right e)]
run_eq:∀(k:O)(l:ou),(∀j,j<k->∃z,bd l j z/\as IE)->(∀z,bd l k z->IE=false)->Ch.kO l=k|0,[],_,_=>rfl|0,z::l,_,h=>by rw[Ch.Bb,h z R];rfl|k+1,[],h,_=>by refine ah rJ (h 0) FZ λ z hz _=>?_;cases hz|k+1,z::l,h,h2=>by refine ah rJ (h 0) FZ ax z' hz hs;cases hz;rw[Ch.Bb,io hs,run_eq k l (λ j hj=>h pO mk Ma) h2]
EW{t:aD}{us:ce}{i:O}{u:jr}(h:bd us i u):∃s,eq[i]?=an (u,s):=#[_,Ch.E6 us t i u h]
aoj{t:aD}{us:ce}{i:O}(h:eq[i]?=an z):bd us i z.1:=by have:=jW (λ l:ce=>l[i]?) (Ch.aix us t);rw[<-az,nQ,h];rfl
aya{t:aD}{us:ce}{i:O}(h:as ox i):∃z,eq[i]?=an z/\as IE:=by unfold kh at h;split at h;(.rename_i u hu;rw[Gs s hs hu,dd hs h]);.cases h
JZ{t:aD}{us:ce}{i:O}(h:ox i=false)(hz:eq[i]?=an z):IE=false:=by have:=aoj hz;unfold kh at h;rw[az]at h;exact h
aro{us:ce}{i:O}(h:as ox i):HC:=by unfold kh at h;split at h;(.rename_i u hu;exact gD hu);.cases h
Q3:∀(ns:aD)(a:O),(∀k∈ns,0<k)->a6 vG a ns<=ns.sum|[],_,_=>e5|n::r,a,h=>by have h1:=Q3 r (a+n) (λ k hk=>h k (by simp[hk]));have h2:=h n se;rw[Ch.g9,mD,List.sum_cons];exact aek h2 h1
aAW(A:Y):gn 5 "word_cuts" (RQ be ((BK×sm)×V×ce) [Fy,fd,a!] bC (GJ/\ba H fd mM/\m3 iS a! b?/\Px b? mM/\tq b?) gx (∃q ke,rH/\j! H q/\rb ke p? (i<a6 b?/\Ch.m7 Hb (tx mM b?) i))):=F' A.aL3 Zu λ q f aK A' cs s H0 H E hr hp=>by obtain⟨⟨⟨bb,d,kk⟩,tv,t⟩,uv,us⟩:=q;rw[cz gG λ hR aS jH hW fY=>Bi];rw[pr aQ bb hR];dsimp only at fq dQ jH hW fY⊢;rw[gb fq Zu.nd];have hU:=jO hr;rw[kq i! (∃q ke,rH/\j! H q/\rb ke p? (HC/\zE i))];have qG:OF a6 eq:=Ch.Ap us t;rw[ol fa fr Pm i Bp fr zk i ki (aP zD fa fr os ti zD (aP (G0 (i:=5) nd R J7 ki p5) dg) zs KJ (l8 aI) EC cy (aP B? tZ t0 Cj dg) L8 ot tZ) D n',<-λ r fN=>#[wr z H' (∃(a:O)(x5 x6:g')(ke:fy),a0=[lB,kb,mq,v6,Bz,x5,x6]/\oL a/\z=cc - a/\So od H' a),#[cc,0,aF,aF,[],rfl,lO,rfl,cS fN,aX,.inl (.inl R),p? #[xu (nomatch h),eW (CU h.1 (Nat.not_lt_zero _))],e5],?_]];rintro z a0 H'⟨a,x5,x6,ke,rfl,ha,rfl,sH,mh,zq,xY,c9⟩;(have TY:ts H2 (qO->iS gm H2 uv us):=λ sx=>E5 yo u0 sx;have J_:∀(H2:Hp)(u:V),qO->u=uv->Em (aC K H2 q xs) (aJ K H2 q xs) cc:=λ H2 u s3 e=>by refine aO (TY s3) zP h1 h2 h3;exact(aE qu vs (by rw[e,h1]) KX h2 h3.1));refine dd qT bm wD cc GA J_ qd H3 s3 bB;(. (have vg:a<cc:=by rw[nq hx,dw uz]);rw[oq #[λ c0 rD=>∃z',z'<cc - a/\∃(a:O)(x5 x6:g')(ke:fy),c0=[lB,kb,mq,v6,Bz,x5,x6]/\oL a/\NN a/\So iO rD rD a,wx,?_] #[_,rfl,λ z2 c0 H2=>HT m (c0=Mw mq Bz x6/\a<=m/\oL m/\z2=cc - m/\aj H3 H2/\∀i,a<=i->i<m->as ox i),(Ac (cc - a) a R e5 ha R (aj.refl _) (λ i h1 h2=>by exact(EU h2 h1).elim)),?_]];rintro z2 c0 H2⟨m,rfl,pN,m9,rfl,sM,hM⟩;refine(dd gz (aT (ajc A) d4 ((uv,us),m) bt ad ck (λ H4 s4=>TY (DP (Q1 s4)))) λ H4 s4=>fC B5 B5);(.have jz:as ox m:=cg;have g8:=aro jz;exact #[λ σ3 H3'=>∃z',z'<cc - m/\HT m (σ3=Mw mq Bz x6/\a<=m/\oL m/\NN m/\aj H3 H3'/\∀i,a<=i->i<m->as ox i),wx,_,rfl,_,_,rfl,rfl,cc - (m+1),gu pq g8,m+1,rfl,gu V4 pN,Mn g8,rfl,Q1 s4,λ i h1 h2=>by by_cases e:i=m;(.rw[fj e jz]);.exact hM i h1 f4 o_ h2 e]);. ((have gK:ox m=false:=by cases h:ox m with|false=>rfl|bH=>rw[kr h cg]);have DI:m=a+Ch.kO ((eq).jq a):=by have:=run_eq (m - a) ((eq).jq a) (λ j hj=>by rw[dV DM aya (hM (a+j) iV xy mk Qy)]) (λ z hz=>by rw[DM,Fr (a+(m - a)=m) Nat.add_sub_of_le pN]at hz;exact JZ gK hz);rw[ks aAi pN]);obtain⟨wd,iZ⟩:=Ch.MB eJ _ iJ eq a m R;rw[Ch.PU (by exact GV m9 qG)]at wd;have e7:=Q3 (KG a m).2 a iZ;have awu:a<m->Ch.ir (tx t us) a:=eW (zq.resolve_right (by rw[hM a e5 h];decide));have KA:∀i,a<=i->i<m->(zE i↔i∈FD):=λ i h1 h2=>Ch.az8 (awu (by exact xG h1 h2)) DI f4 GV m9 qG h1 h2;have Za:∀i,i∈FD->a<=i/\i<m:=λ i hi=>#[Ch.Jc _ _ iZ _ hi,by have:=Ch.adE _ _ iZ _ hi;exact alM az DI wd];have uT:=aH s4 dS sM s3 mh;have GX:=u0 (DP (Q1 s4));refine iv (aT (aiJ A) hr ((#[bb,d,kk],Cg,t),(uv,us),a,m) r5 ap (ae ad bt bm ck) IB #[E5 fH Q4 s5,w' dS s5 GX BT,E5 yo Q4 s5,hW,pN,m9,fY]) λ cv H5 s5 rh=>?_;(rw[ci (ah rh.now ax qc aU zp) aU]);dsimp only at zp;have D5:e? H5 qc h! FD:=zp;generalize FD=L at D5 e7 KA Za;have mj:=aH s5 uT;(have nr:qc≠r:=λ e=>by subst e;rw[a7 D5 mj mj]);refine kw qc #[_,d' D5] (tm (xs:=tH) (λ k c0 H2=>∃(x6:g')(ke:fy),c0=Mw mq Bz x6/\lV/\Fe H2 qc/\j! H2 r/\rb ke p? ((i<a/\zE i)\/i∈Ir)/\K3 (a+k)) (Ac x6 ke R (Q4 s5) D5 mj (λ i=>by rw[xY i];simp) c9) (λ k c0 H2 _ bx=>fR bx λ _ _ _ _ hq _=>d' hq) ?_ ?_);(.rintro k x c0 H6 hk⟨y6,ke,rfl,uE,Dk,An,Cp,Bg⟩;(rw[ci (ah (eK hk) ax e he a9) a9]);have aqZ:=gD he;refine #[_,rfl,_,rfl,r,_,rfl,oJ e An (iY (by exact aBB fY m9 wd e7 Bg aqZ)),?_];(refine(Ac _ (ro ke (kN e) ej bH) R OG ?_ aX ?_ NB B! bN aJp Bg);(.rw[i5 fN aH uE hb]);.rw[aV nr];exact Dk);.intro i;rw[Cp.put e _ i,I1,he];simp[or_assoc]);.rintro c0 H6⟨y6,ke,rfl,uE,Dk,An,Cp,Bg⟩;rw[jf]at Bg Cp;rw[Dw]at Cp;(have hmx:(if OV>ld then OV else ld)=bF IF:=by by_cases q:OV>ld;(.rw[tn q,aiT q]);.rw[kt q,alL q]);refine ei mF (vN (max m (a+1))) (e9 (asK R A.g.LC ck m1 bm) (jW e8 hmx)) cU H7 s7;refine #[cc - IF,gu ayc vg,IF,_,_,ke,rfl,tD Nat.max_le_of_le_of_le m9 vg,rfl,uE.trans s7,v? An,?_,?_,by exact azD Bg e7 wd];(.by_cases e:a<m;(.rw[cP (IF=m) Nat.max_eq_left e];exact .inr gK);. (have hma:m=a:=by exact auV DI e);subst hma;rw[qx (max m (m+1)=m+1) Nat.max_add_right_self];obtain⟨u,hu⟩:=wm m vg;rw[Gs s' pJ hu,.inl (.inr dd pJ (JZ gK pJ))]);.intro i;rw[Cp i];constructor;(.rintro(⟨h1,h2⟩|h);(.exact #[bN awq h1,h2]);.obtain⟨h1,h2⟩:=Za i h;exact #[bN aL8 h2,(KA i h1 h2).mpr h]);.rintro⟨h1,h2⟩;by_cases e:i<a;(.exact .inl #[e,h2]);.by_cases e2:i<m;(.exact .inr ((KA i TO e e2).mp h2));.exfalso;(have him:i=m:=by exact aI2 h1 DI e2);subst him;refine bM h2 λ z km fV _=>?_;rw[JZ gK km]at fV;cases fV);. (have hae:a=cc:=by rw[FX (¬bD a<bD cc) hx,ks K8 ha]);subst hae;exact ER (u0 s3) s4 (aE r ke R rU mh xY)
}
section _P
namespace _M
open x2 x3 x4 _L
section
variable{X:Cx}{σ:ee}{H:Hp}{elt iter:dl}{nS:Scope}{own:n3 a4 O}{y:a4}{cL jm:ef}
def z:={
apL(i:O){Po:V->my Hp}{xs:g!}{f:V->V}(ho:iw Ev iter Po)(hx:∀u H1,yH->Po u H1->∃a,u=dP a/\aC X.K H1 a xs)(hw:∀x,wipe ((N3 σ).set i IA) (J6 (·.2))=N3 σ)(hl:xs.length<C4)(he:∀(s:Shared)(H0:Hp)(C:a5)(cl:n3 a4 a5)(fp:fO a5)(k:O)(x:V),bd xs k x->aB (X.cC s H0 nS (compEnvC nS cl C kC) fp) ((N3 σ).set i IA) H elt (f x)):tg (∀Q:VK,(∀D H2,f8 (H1 D)->lV->H2 D=an (.lst (xs.map f))->Q eC D H2)->T7 X H1 Q):=by intro H1 s1 Q q;refine iv (ho.later s1) λ u H2 s2 hu=>?_;(rw[ci (ah (hx u H2 HJ jY) ax a aS fk) aS]);(have dW:∀H3,aj H2 H3->aC X.K H3 a xs:=λ H3 s3=>by refine ah (hx _ H3 AH (hu H3 s3)) ax a' e h;cases e;exact h);refine(kw a #[xs,fk] λ D hD=>Dr (xs:=xs) (g:=dC i) (tt:=kd) (te:=j4 X nS elt) (vs:=J6 (·.2)) (σ:=σ) (Qd:=λ H'=>Q eC D H') (λ k H'=>aj H2 H'/\H' D=an (.lst (h! (xs.take k) f))) #[cS hD,aX] (λ k H' _ bx=>bq bx λ s3 _=>dW H' s3) ?_ ?_);(.rintro k x H' hk⟨s3,e⟩;refine #[hw x,?_];(refine(af (f x) (λ s H0 C cl fp=>(he s H0 C cl fp k x hk).later AH) IC (fE _ Cl e ?_ ?_ ?_));(.rw[wB List.length_take,xG (Nat.min_le_right _ _) hl]);.exact λ b o hb=>by rw[i5 hD rU hb]);.rw[aX,I1,hk];simp);.rintro H'⟨s3,e⟩;rw[Dw]at e;exact q _ H' (s2.free hD) za e
ahO(i j:O){z:a4}{pz i7:ef}(hc:ln X.calm)(hN:X.N.Nodup)(ok:dc X.N X.env.scope nS own)(hg:∀(s:Shared)(H:Hp)(C:a5)(cl:n3 a4 a5)(fp:fO a5),PG (X.cC s H nS (compEnvC nS cl C kC) fp) (ik y jm) (dC i))(hz:d1 (X.N[j]?=an z))(nM:d1 (X.env.scope.names.lookup z=an .local))(mo:d1 (swapsWith Ue elt iter [] ty ik z pz i7.line kC=pure bH))(hs:vc (∀x,foldedSetIterable iter kC x=pure x) gv._auto_1):PS X (.Assign [ik z pz] Ue elt iter [] i7) (λ D σ H=>T7 X H λ x H2=>D.nx (σ.set j IA) H2):=xS (i:=j) hc hN hz nM mo (l8 aI) ok hg (λ _ _ _ _ _=>oV) pU hs
}
section z
section _M
namespace _P
open x2 x3 x4 _L _M
variable{P:Qh}{w:World}{K:Qi}{mg:N2}{t2:Heap}{c:Cs}
variable{x y n:O}{u:jr}{b:cr}
def z:={
agr{l:we}{i:O}(h:wS[i]?=an u):∃s∈l,u.is=(JQ s).is:=by have hi:=gD h;have h1:=FQ wS q6;rw[Ch.Ju,Ch.zo h]at h1;have h2:=ng (Ch.Cr _ l R).1 u h;(have a8:mL wS i<je:=by exact aC4 h2 h1);have hd:=Qv a8;have:=Ch.Qn nm hi hd;rw[a7 h az az,dd (VY a8) (Ch.uA _ _)]
akN{B:hA}{y:jZ}{t:aD}{i:O}(h:(TP y)[i]?=an u)(hs:ln u.is.sa):fJ=3\/fJ=24:=by refine ah (agr h) ax s hm e;(rw[ci (ah (ud hm) λ n _ aU=>?_) aU]);(have e1:(JQ (uB B y n)).is.sa=(uB B y n).sa:=by rw[E4 JQ,w7]);rw[e,e1]at hs;rw[e,Ch.JX];rcases Ch.aoZ hs with h|h|h<;>rw[h]<;>decide
ajs(b:cr)(s:JK):o0 [(b,s)] (if ws then NC else -1):=Bo b
aKb{B:hA}{y:jZ}{t:aD}{us:ce}{p:O}{c2 m:cr}(iD:TP y=us)(hp:Ob p)(hk:ln C?->y.keep=false)(hm:(Q7 B [] eq)[eL]?=an m)(hc:ln c2↔as U9/\Ch.m7 B eq p):o0 (D3 o1 z! Mm 23) (zW us p c2):=by rw[Sq ux hx hp];obtain⟨uy,hy⟩:=dM (l:=us) (i:=p+1) hp;((have eX:NT Bf=an ux:=by unfold pe;show(y2 eL).head?=_;rw[va hx];rfl);have eY:fo pg Af p=an uy:=by unfold pg;show(Iq eL).head?=_;rw[Wi,hy]);unfold zW;rw[dt];rw[eX,eY];rw[ajs];show Nv Mh _ _=G1 Mh _ _;by_cases rF:(as Mh);(.rw[io rF,io rF];rw[MG rF];obtain⟨hcx,MF⟩:=rF;show bF (D1 Nv (ux.sa&&uy.sa) _ _)=if(as (c2&&Q8))then 1 else 0;cases hw:up with|false=>(have:c2=false:=by cases c2 with|false=>rfl|bH=>have:=cd hc.mp;rw[hw]at az;rw[kr az.1 se]);rw[az];simp only[re,ii NE (false=bH),ii NE ((aF:Oh)=an bH)];rw[w7]|bH=>cases ha:C? with|bH=>exfalso;have:=Ch.aDu _ J? jp B y R (λ s hs hm=>by(rw[ci (ah (ud hs) λ n _ a9=>?_) a9]);exact Ch.aoX ha (hk ha)) p ux uy (by rw[fj iD hx]) (by rw[fj iD hy]) MF;rw[Ch.aBd az]at hcx;cases hcx|false=>rw[hw,ha]at hc;(have ub:ln c2↔Ch.m7 B eq p:=by rw[hc];simp);rw[Gs sx mf hx,Gs sy hsy hy];(have KP:uy.sa=Q8:=by unfold MtLine.Unit_.sa;cases h:Q8 with|false=>rfl|bH=>rcases akN (by rw[fj iD hy]) h with h|h;(.rw[h];rfl);.rw[a7 h MF MF]);rw[pC,<-KP];cases h1:uy.sa with|false=>simp;rfl|bH=>cases h2:ux.sa with|false=>(have:c2=false:=by cases c2 with|false=>rfl|bH=>rw[<-bM cd ub.mp λ z e1 e2 _=>?_,a7 mf e1 e1,a7 h2 e2 e2]);rw[qC]|bH=>have:=Ch.aLQ (B:=B) mf hsy h2 h1;rw[<-ub,hm]at az;cases m<;>cases c2<;>rw[qp]<;>rfl);.rw[ii rF,ii rF]
axA{X:Cx}{σ:ee}{H:Hp}{cL:ef}:iw Ev (.Dict [] [] cL) i! vQ k? H q []:=Ev.of Bp λ H1 s1 Q q=>λ l hl=>q eC l _ II d! Be l aX
Fk.2(B:hA)(y:jZ)(t:aD):aD:=MtLine.marked da (MtLine.chances B y t)
aqn{j:O}{i:bG}(h:qD)(hj:j<n):mV n i=an j:=by subst h;unfold mV;rw[rJ gh rY,l! Bx hj];rfl
asm(A:Y)(T:Ts K mg):R_ (gn 7 "marks_of") (qi/\AQ/\(a.2.1.2.all=bH->(fb).keep=false)/\AR/\wH br/\tq br) lr (Fk Bu fb br):=F' A.ao9 W_ λ q f aK A' cs s H0 H E hr hp=>by obtain⟨⟨bb,d,kk⟩,⟨wa,y⟩,tv,t⟩:=q;rw[cz lM λ hR hW oI aS bJ a3=>Bi];rw[pr aQ bb hR];have ug:vJ wa y:=hW;dsimp only at fq dQ bJ a3 oI⊢;rw[gb fq W_.nd];have hU:=jO hr;rw[kq i! lr NO,<-gI 3 nd FE aJB (tA,(wa,y),Cg,t) bE (j3 nf Oj w' BT bJ a3) (λ uv Hu su gV=>?_)];have jH:=gV.now;dsimp only at jH;generalize iD:DT (sorts (bb,d,kk) y t)=us at jH;have ED:L?=us:=iD;((have b9:M3:=by rw[<-ED,Ch.Ju,jf]);have fU:∀i,oL i->i<=g0:=by rw[<-ED];exact JY);(have fY:cc<=64:=by have:=fU cc e5;exact aEw az b9 a3);(have eh:nb ["book","ways","text","units","cuts","marks","place","scalar"] Ff ("scalar",7):=jy (mU ((cu Ff).jq 2));have g8:OF a6 TE [] eq:=by rw[Ch.E7,Ch.Ap];simp);obtain⟨dx,fs,Q6,_,_,GY,_,agk,_⟩:=ug;(refine gI (P1:=pG v (∃q ke,rH/\j! H q/\rb ke p? (as U9/\HC/\zE i))) 4 nd (Ic ds zO SS Q6 A.eU.abi agk (c4 (dF (bO (cQ ap SS Q6 P7 GY)))) bB bB) (λ cv Hc sc rh=>?_);(.refine i0 (aT (aAW A) d4 ((#[bb,d,kk],Cg,t),uv,us) r5 ad ep aN d! (j3 (fH (su.trans s2)) w' dS s2 su dQ (yo s2) b9 fY)) λ v H2 s2 h=>?_;refine aO h λ q ke h1 h2 h3=>?_;exact(aE q ke h1 h2 (λ i=>by rw[h3 i];exact #[xu #[hx,h],eW fh])));.refine axA.imp λ v H2 s2 h=>?_;refine ah h ax q h1 h2;exact(aE q ([]) h1 h2 p? #[xu (nomatch h),eW (by rw[hx]at h;exact CU h.1 b!)]));(rw[ci (aO rh.now λ qc ke aU zp xY=>?_) aU]);have aim:=yo sc;refine aO aim zP akx eP KN;subst akx;have hRc:=Ld su.trans sc;have aeu:=dS sc su dQ;(have ET:∀(h0:UY),∃u,us[0]?=an u/\NO=Ch.ly up Mr (pc us 1) (mL us 1) ((us.zip (Q7 eJ [] eq)).jq 1):=λ h0=>by have:=Fm Ch.aLM B y h0;rw[ED]at az;exact az);generalize hF:NO=F at ET;generalize ku:TE [] eq=ms at g8 ET;have J_:sf (aj Hc H2) qu cc:=v5 H2 s3 (aE qu vs e KX Cf eP KN.1);have CT:sf (aj Hc H2) qt da:=FB s3 qt Cf aeu;(have hsz:AF:=by rw[eH,iY bN aLB a3]);rw[ol fa (ahO 7 5 R nd eh FI) FC Cz EC cy (aP (PX aI (Us xB aI set_list)) dg) (aP (iA dz (aP (PX aI (Us xB aI set_list)) dg) dg) ot xB) D n',E4 oX,<-apL 7 (xs:=y3) (f:=o3 (vN 0)) ad r7 k8 qt d' gp aeu a? hsz (λ s' dH C cl fp k x hk=>U!) H1 s1 _ λ r H2 fN s2 nR=>?_];(have aAF:(y3).map bi (vN 0)=jI Mr:=by rw[hG,List.map_replicate];exact List.map_const');rw[aAF]at nR;(have sZ:kc Uh=UR:=by exact alk);refine(af _ (ae (aY cV n8 cc aN pm H3 s3 pP J_ H3 AH ai) ao) (λ vs' H3 s3 ev=>(fE Uh Jy OS bN auq fY (Eu wr k H' (∃(x6:g')(acc:aD),a0=[lB,G6,kb,G_,ct qc,v6,x6,aF]/\od/\e? H' r acc.map/\acc.length=da/\(0<da->Ch.ly up acc N? pp el ((us.zip ms).jq el)=F)) (fM aF Mr R za Cf nR List.length_replicate (λ h0=>(ET h0).choose_spec.2.symm)) ?_ ?_))));(.rintro k a0 H' hk⟨x6,acc,rfl,sH,gA,z9,ES⟩;rw[sZ]at hk;(have cH:Ob k:=by exact Nat.add_lt_of_lt_sub hk);obtain⟨uk,huk⟩:=fS wm k uV cH;obtain⟨uk1,aIk⟩:=dM (l:=us) (i:=k+1) cH;obtain⟨m,hm⟩:=rW ms i (k+1) (by exact Q2 cH g8);(have j8:(0:bG)+vr=jx:=by exact asn);rw[j8];have xh:=q8 sH;have ae4:=fU el nm cH;have Ed:=FQ us el;rw[b9]at Ed;have F3:=aKb (c2:=oY or k) ED cH oI (by rw[fj ku hm]) (by rw[xY k];exact #[xu #[h.1,fh.2],eW #[h.1,gu uV cH,fh]]);refine ei mF (vN (D1 (QX N? Iq el Mm))) (nZ (axF A T) d4 (cq (uL (axP A) hr ((eC qu,us),k,oY or k) (ae aN bt g? (aib (n:=k) hU bm g? R aH xh zp)) IC #[(aE qu vs R dS s4 xh eP UG),cH]) ao) (λ vs4 H4 s4 hv=>by(rw[xd aO λ v1 r1 a9 bu bV=>ah bu ax q cI hP];subst a9 bV cI);exact(kw ((q,us,k,oY or k),if Rq then an m else aF) #[hP,F3] λ v H5 s5 h=>h))) cU H4 s4;refine vq (mF ry (EV A QE IB aH s5 dS s4 xh eP UG R aN g? R huk Co fh.2.1) cU H5 s5);have mj:=Bc gA;refine(B0 r _ _ Up R R mj (aqn bN aKj ae4 (by rw[eH,aCG ae4 Ed z9])) ?_);(refine(fM _ (acc.set Up (D1 (QX N? Iq el Mm))) R OG ?_ (by rw[fj List.length_set z9]) j1 h0);(.rw[i5 fN aH s5 dS s4 sH hb]);.rw[aX,Wj]);.rw[<-ES h0,Ch.asH up acc us ms k bN aps g8 aIk hm]);.rintro a0 H'⟨x6,acc,rfl,sH,gA,z9,ES⟩;rw[sZ]at ES;have xh:=q8 sH;refine dd (bP gL wD da pm H3 s3 pP CT H3 (xh.trans s3) ai) qd H4 s4 bB;(. ((have h0:UY:=by rw[nq hx,dw acw]);have hu0:0<cc:=by refine ah (ET h0) λ u hu _=>?_;exact gD hu);refine mF Vb λ H5 s5=>vq (mF tU cU H6 s6);(have An:=aH s6 Bc gA;refine(B0 r _ _ (da - 1) R R An ?_ ?_);.unfold mV;rw[jf,z9,n2 c?,l! aEx h0];congr 1;exact amF);have hf:=ES h0;rw[cP (UR+1=cc) Nat.sub_add_cancel hu0,b9,V? (by rw[fj List.length_zip avj]),Ch.ly]at hf;refine Gb ?_ H7 on r s7 ?_;(.exact λ b' o' hb=>by rw[i5 fN aH s6 Bc aH sH hb]);.rw[aX,<-hf,Wj];rfl);. (have h0:da=0:=by rw[FX (¬(Pg<bD da)) hx,dw Kv]);(have ht:t=[]:=Wk h0;have hF0:F=[]:=by rw[<-hF,ht];rfl);have rA:acc=[]:=Wk (by exact ayy z9 h0);refine Gb (u0 s4) H7 fT r dS s7 s4 ?_;rw[gA,hF0,rA]
}
section
variable{X:Cx}{σ:ee}{H:Hp}{o e:dl}{cL:ef}{q:a5}{l:aD}{i:bG}{j k:O}
def z:={
MK{l:aD}{j:O}(h:OC):bd l j Pb:=by rw[E' Ty]
c_(hq:e? H q o9)(ho:n5 o q)(hi:l0)(hj:qD)(hl:OC)(hk:Pb=k)(hs:st):mb wO o k:=cN ho hi FT hq (by rw[dV hj b_ (by rw[nQ,MK hl,hk];rfl)]) hs
h_(hm:f8 (uJ "len")){p:ef}(hq:e? H q o9)(ho:n5 o q)(hg:d1 (xD "len"))(he:nh [o] iL o [])(a_:zG):lg qv (ik "len" p) [o] UE:=dj (m:=je) hm ho mX EO q t4 dZ hq hg he a_
CV{x:a4}{p:ef}(hT:r8 X.K uJ x l)(hi:l0)(hj:qD)(hl:OC)(hk:Pb=k)(hg:d1 (Gl X x))(hd:MI x a4)(hs:st):mb wO (ik x p) k:=by refine ah hT ax a h1 h2;exact bU (lK h1 hg hd) hi bE dd (h2 H1) (by rw[dV hj b_ (by rw[nQ,MK hl,hk];rfl)]) hs
L1(hm:f8 (uJ "len")){x:a4}{p p':ef}(hT:r8 X.K uJ x l)(hg:d1 (Gl X x))(hd:MI x a4)(hg':d1 (xD "len"))(he:nh [ik x p'] (eval (ik x p') kC) [])(a_:zG):lg (.Call (ik "len" p) [ik x p'] [] cL) UE:=by refine ah hT ax a h1 h2;exact dj (m:=je) hm (lK h1 hg hd) mX K7 a h2 H1 hg' he a_
}
section z
def z:={
jl{l:n3 cr O}(h:b=false):D' ((b,n)::l)=n:=by rw[D',h];rfl
i4{l:n3 cr O}(h:ws):D' ((b,n)::l)=D' l:=by rw[D',xe]
Lv.1(a b:bG):cr:=ca (b=a+1)||(ca (a=55296 - 1)&&ca (b=57343+1))
aoT(A:Y):ec "touch" (RQ be (bG×bG) [f3 dL,em db] oU dv (it (Lv dL db))):=wu A.aGB agQ λ a f aK A' cs s H0 H E hr hp=>gu bg (fP (dY ap m1 Z) o3 (bZ (cn (dY Z ry ac A.g.Z6) o3 (bZ (dY ap (aY bT ac A.g.Q5 ai))))))
Y3{a b:O}(h:qh b):Lv a b=(Mt.next a==b):=by unfold Lv Mt.next;(have:¬(55296<=b/\b<=57343):=λ hh=>by unfold ji at h;simp at h;exact anf hh h);rw[Gc];by_cases q:a=55295;(.rw[tn q,ks aoP q]);.rw[kt q,ks arQ q]
Hi:nK (dp x<=y) (!ca (y<x)):=by rw[<-decide_not];exact TM Int.ofNat_le.trans Nat.not_lt.symm
Il:nK (dp x<y) (!ca (y<=x)):=by rw[<-decide_not];exact TM Int.ofNat_lt.trans Nat.not_le.symm
dn4{t:O}:nK (Pg<bF (4*t)) (!(t==0)):=by cases t with|zero=>rfl|succ t=>exact xZ (Int.ofNat_lt.mpr (Nat.mul_pos b! (Nat.succ_pos t)))
}
end
mutual section
def z:={
Hg:=decide
cr:=Int
Ta:=decide_eq_decide.mpr
Tc:=Int.ofNat_le
fm:=Bool
dr:=true
de:=base
Y:=Nat
r!:=_B.jw
O:=rfl
jQ:=A.g.cf
lc:=of_decide_eq_true
gx:=if_pos
a6:=this
i2:=p.length
ld:=of_decide_eq_false
lf:=if_neg
NQ:=Nat.lt_of_add_right_lt
lg:=Tw.te
xY:=Nat.lt_of_succ_lt
r?:=congrArg
sb:=V.bl
ux:=Bool.eq_iff_iff
xZ:=Mt.scalar
Cg:=Nat.lt_of_succ_le
fz:=inr
f?:=inl
hA:=PySem
hE:=PySem.Spec
hF:=PyProof.Rows
Td:=Builtin.Range.rangeFitsLong
eY:=Bool.and_eq_true
po:=decide_eq_true_eq
Te:=Builtin.Range.rangeSize
eo:=_L.St
bi:=pos
d8:=Pos
i3:=rest
pq:=body
bt:=Str
d':=Expr
x7:=X.prog
ma:=X.env
NR:=X.N.Nodup
pt:=X.mg
ac:=none
f7:=int
a7:=σ'
gT:=some
d!:=σ2
NS:=starEach
Hh:=X.env.scope
Tg:=X.env.scope.names.lookup
pu:=Name
NT:=ha.later
pw:=e.now
ga:=s1.trans
nw:=s3.trans
gV:=Program
gX:=World
h?:=PySem.W.Frag
ia:=Value
ib:=Heap
NU:=Mt.Fault
uy:=error
ap:=hlen
x8:=PassesOwn.never
x9:=A.g.gW
x_:=hJ.now
mb:=V.int
px:=_B.jE
mc:=hu.now
x!:=aC.of
uA:=MtLine.row
py:=_B.dy
eZ:=l.length
pE:=absurd
Th:=Nat.not_lt_zero
uB:=zero
x?:=Nat.le_refl
Tj:=List.getD_eq_getElem?_getD
Hk:=List.getElem?_eq_getElem
yb:=decide_eq_true
NV:=Bool.not_eq_true
NW:=Mt.mapFine
NX:=hr.mono
uC:=Bool.true_and
Ho:=List.all_eq_true.mp
yf:=List.mem_of_getElem?
pG:=_B.jS
a?:=bef
d?:=m.length
yg:=_B.ph
yh:=_B.lx
NZ:=Bool.or_eq_true
uI:=Bool.or_eq_false_iff
Hs:=Bool.not_true
N0:=Bool.false_or
Hu:=cZ.length
Ch:=List.length_take
Ci:=List.length_drop
dX:=hv.now
Ck:=Mt.before
N4:=Mt.toMost
uK:=take
Tk:=List.drop_eq_getElem_cons
pI:=_B.j_
sd:=V.ref
nz:=List.map_map
ak:=Addr
hG:=rule
Hv:=Mt.mapsIn
Hx:=h.fault
yi:=Mt.seqsIn
N5:=s.heap.get?
Hy:=s.toks
i8:=wpAny_bind
nA:=wpAny_pure
N6:=Nat.add_zero
li:=aq.length
iJ:=pins
Tl:=F.slot_dict_len
N7:=wpAny_holding
N9:=sizeLine_eq
Cl:=Mt.Range
se:=l.map
el:=List.length_map
N_:=Nat.min_eq_left
N':=List.map_take
Tm:=List.map_drop
N!:=List.take_of_length_le
em:=outer
uN:=Scope
N?:=ListComp
b6:=kind
Ob:=_B.isName
lj:=scope
HD:=z.length
Cm:=aJ.of
Co:=Ev.of
eS:=aL.p
kC:=s2.trans
Tq:=PySem.boot_len
uO:=keyOf
Od:=hv.contains
Cp:=hv.length
yk:=_B.kf
Oh:=Bool.not_eq_true'
Ok:=Mt.namesIn
pJ:=ns.length
yl:=n.length
jR:=trans
HE:=A.g.xM
uP:=sH.trans
HF:=s4.trans
uQ:=List.length_append
Cq:=Nat.le_of_not_lt
Tr:=List.mem_cons_of_mem
HH:=List.mem_cons_self
HI:=_B.gone
nB:=_B.iU
yn:=Constant
HK:=hj.now
Om:=t3.trans
On:=qs.Nodup
HL:=own.map
Oo:=qs.length
Tu:=Nat.zero_le
sg:=Ne.symm
HM:=Nat.lt_of_le_of_lt
yo:=List.map_append
Tv:=List.nodup_append
Ty:=List.mem_singleton
Tz:=List.mem_append.mp
ll:=Shared
Op:=vs.length
Cr:=Tuple
hH:=Nat.le_trans
uR:=h.at_
Os:=List.getElem?_eq_some_iff.mp
TA:=List.pairwise_iff_getElem.mp
TB:=Paired.snoc
fF:=cons
yp:=List.getElem?_map
pK:=_B.eJ
TC:=Nat.lt_of_lt_of_eq
si:=later
HN:=hB.same
md:=aL.v
Cu:=hB.later
HP:=xs.length
uX:=_B.cU
TD:=Option.some.inj
TF:=List.length_zipIdx
Ot:=List.length_range
nC:=Mt.Row
HR:=hM.next
Cv:=hM.num
Ou:=hM.done
yq:=Mt.Seq
HT:=s5.trans
Ow:=s7.trans
sk:=prog
HV:=Around
Ox:=h'.DictOfH
lm:=more
Oy:=more.foldl
gb:=acc
Cw:=storedH
mf:=items
Oz:=items.size
yr:=rest.length
uY:=sizeLine
yv:=s.heap
TG:=List.toArray
TI:=codeAny_builtin
TJ:=Around.under_plainId
sl:=List.length_cons
yw:=fH.extBut
HY:=holding
OB:=Value.ref
TL:=wpAny_typeOf
CA:=d4.extBut
OK:=prs.length
i9:=s.heap.objs.size
TN:=s.heap.push
TO:=Builtin.Dict.updateFrom
TP:=h1.objs.size
CB:=Heap.lt_size
yx:=Nat.ne_of_lt
OL:=Nat.lt_trans
TQ:=Nat.ne_of_gt
HZ:=Nat.zero_add
TR:=List.length_nil
u3:=putK
OO:=ps.length
TS:=Paired.length
OP:=ho.later
yy:=List.take_add_one
OR:=List.take_length
CC:=Nodup
u4:=List.map_cons
H9:=List.append_assoc
CE:=List.mem_map_of_mem
i!:=r.scalar
u5:=r.to
OS:=List.Nodup
H_:=List.pairwise_map
sn:=Mt.Book
u6:=rows
OU:=Mt.flag
i?:=c.Book
CF:=_B.pick
CG:=aQ.later
so:=A.bj.cl
OV:=A.g.MAPS
H!:=fg.later
eq:=d.ms
pM:=_B.mR
hI:=d.book
TT:=Nat.lt_of_lt_of_le
yF:=Mt.byKind
nD:=Mt.MAPS
TU:=Nat.le_add_right_of_le
kD:=d.ps
hO:=d.ss
H?:=d.ns.length
OW:=d.book.maps
TW:=List.map_congr_left
OX:=d.book.seqs
yJ:=Mt.SEQS
u7:=d.book.maps.getD
Ia:=d.book.seqs.getD
pP:=apos
c3:=args
cv:=pre
e7:=post
Id:=Attribute
TX:=apos.atName
CI:=lookup
mh:=free
OY:=A.bj.wW
OZ:=s0.trans
CJ:=rp.length
yM:=rm.length
yN:=rs.length
TY:=Mt.canonRows
gc:=stp
pQ:=qual
O0:=FuncData
Ie:=List.append_nil
If:=hS.later
yS:=_B.fZ
TZ:=List.flatMap_cons
CL:=l.take
u8:=_B.e8
CM:=hR.later
CN:=Bool.not_eq_false'
O1:=BM.later
CO:=bI.later
T0:=List.mem_map.mp
fI:=prev
jX:=Clause
O3:=MtLine.Ways
Im:=h.elim
O4:=Mt.shortK
Io:=Mt.STEPS
O5:=i_.book
O6:=i_.later
nE:=aj.trans
O7:=flatMap
O8:=kU.later
T1:=List.flatMap_append
O9:=Mt.foldOnce
Is:=Mt.foldTwice
T3:=List.all_append
O_:=mN.later
ln:=part
u9:=cl.part
u_:=cl.kind
u!:=cl.nm
yT:=cP.of
It:=cP.raw
O':=d.book.props.getD
Iu:=Mt.PROPS
O!:=h4.dh.row
O?:=h1.book
T7:=r.to.length
Iv:=Mt.full
Pa:=Mt.prop
Iw:=Mt.ccc
Pb:=r.first
sp:=List.range
Ix:=r.value
u?:=r.value.testBit
CP:=hD.dh
yV:=hf.sc
IB:=hf.most
T8:=Nat.le_antisymm
CQ:=find?
su:=cl.rule
ID:=Mt.countOf
T9:=Mt.beforeOf
T_:=List.getElem?_of_mem
T!:=Nat.add_sub_cancel
CR:=Nat.add_sub_cancel_left
T?:=Mt.agreements
Ua:=knd.contains
Ub:=List.mem_cons.mp
CT:=cls.take
vb:=cls.drop
Pd:=reverse
Pf:=trivial
nG:=t.length
CU:=MtLine.waysOf
Uc:=MtLines.marksFine
pR:=c.jZ
yW:=A.gz.cl
Pg:=A.gz.yO
Ud:=MtLines.Answer
yX:=MtLines.asks
CX:=false
Ph:=MtLines.says
sv:=MtLines.TEXT
Ue:=YfNeutral.numbers
IF:=MtLines.gives
IG:=YfNeutral.ints
IH:=MtLine.marked
Uf:=MtLine.chances
Uh:=MtLine.width
Ui:=MtLine.measure
Ul:=MtLines.COLUMNS
Um:=MtLines.pairs
Pi:=MtLine.linesBy
Pk:=MtLine.unmarked
Pm:=MtLine.raggedBy
Un:=I.base.free
Uo:=List.mem_append_left
Uq:=List.mem_append_right
II:=bI.ins
nI:=c.Reader
pT:=dw.of
CY:=dw.upd
C0:=dw.at_
nK:=A.fS.cl
IJ:=A.fS.DM
IK:=nl.length
C3:=nl.drop
IL:=Mt.judge
vc:=MtLines.step
IM:=rn.length
C4:=rL.later
IN:=uE.trans
C5:=textCall
Us:=MtLines.Call
Pn:=hD.keep
Ps:=mP.later
y5:=YfNeutral.natsOf
C6:=x.length
vd:=YfNeutral.step
Pt:=qi.later
C7:=PyFlat.told
Ut:=PyYqmtfa.answers_asked
Uu:=PyFlat.calls
Uy:=PyYqmtfa.shape
Pv:=cs.length
UA:=PyYqmtfa.answers
UB:=PyFlat.played
c2 a:=List a
bd a b:=a _ _ b
ab:=by decide
cd:=a.2
Z a:=gT a
bm:=a.1
et a b:=gT (a b)
ce a:=a O
al:=c2 Y
ad a b c:=λ a b c=>?_
az:=aa 0
dD a:=λ hx=>a
a5 a:=.ref a
au:=aa 1
aN:=aa 2
ch a b:=af _ a b
b! a:=a _ _ _ _
c! a:=.ref a
bL a:=(a).length
cX a:=by exact a a6
bS:=cd.1
cx a:=et .ref a
cA a b c:=by rw[a]at b;cases c
bh a:=a=dr
dl a b:=by refine a;subst b
cL a b:=λ a b=>?_
gY a:=bd s1 a
ck:=λ _=>rfl
mi a b:=a->b->Prop
e!:=cd.2.2
ve a b c:=ae a (ae b c)
ge:=dD ?_
pU a b:=autoParam a b
a!:=Fs K mg c
ig a b c:=a X σ H b c
sw a b:=λ a H=>b
j0 a:=Option a
f8 a b:=af a O b
mn a b:=a b w K mg de
d1 a b:=ve a b ao
gZ a b:=a hI b
eV:=x.2
dn a b:=by exact a b
ii a b:=by refine a b ?_
c?:=NX ab
sx a:=a hI
g6 a:=pU a aw._auto_1
bn a b c:=λ a b h=>c
Pw:=ce Or.inl
sy a:=(a).book
fK a:=m.getD a 0
vf a:=mi a Hp
vg a:=.pure a
bN:=aa 3
eW a b:=a b O
gf a b:=by refine bq a b
b? a:=lf a
hV:=bm.2
y6 a:=by dsimp only;rw[a]
ci b:=sw a b
cm:=cd.2
kF a:=p.getD a 0
gy a:=by rw[a]at hR
c0 b c:=λ a:b=>c
ey a:=x! a
dE:=cd.2.1
pV a:=aY bT a ai
dL a b:=a nd O Pw b
cO:=by rw[y6 h]
il a:=λ H1 s1=>a
d2 a b:=ba H a b
dS a:=Hg a
lw:=vg ?_
gh a:=bd s3 a
im a b:=a (v:=b)
IO a:=NS a ma
dp a:=(a:cr)
db a:=bd s4 a
fu a b c:=Paired a b c
c1 a b c:=aZ a O b c
dV b:=λ a v H=>b
e? a:=ae a ao
je a:=λ _=>a
f9 a:=eval a ma
vi:=by decide+kernel
ly a b c:=λ a H2 s2 b=>c
gm:=by rw[ii hU _];dsimp only
gq a b c:=cF a cL b c
hX:=bm.1
sz a b:=.ins a dx b
ez a:=λ d r=>a
mq:=mn aM P
j1:=c2 Key
eE a b c:=aP a (aP b c)
j2 a b c:=a (by exact b c)
nL a b c:=a hI b c
dt:=aa 4
d3 a:=ag a
gr a:=λ x=>a
iK a:=bd s2 a
mt a:=a P w K mg
io a b d:=dZ c K a b d
fW a:=λ H3 s3=>a
g7:=c2 V
eH:=aG ai lw
eX a:=a=ac
y7 a b c:=a (b A) ab ab λ d r hD hh hm hf=>c
kG a:=a (by rw[vi])
fx a b:=H a=Z b
ip a b:=ig aB a b
lz a:=br H a
iM a b:=by refine ch a b
fy a b:=by refine aW a dD b ge
gC b:=b m a a?
nN:=gY hq
eP a:=λ H2 s2=>a
ji a:=cG (dG a)
ff a:=ed _ _ _ _ a
sA a b:=c_ (a:=b)
vk a:=Y×a
g8 a:=λ e=>a
g9 a b c:=a O b c
pZ a b:=by subst a;have nd:=b
iS a b:=λ a _=>b
p6 a b:=h_ jQ a b
f' a b c:=by subst e;rw[cA a b c]
fl:=gk S
fY a b:=by rw[a];exact b
y8 a:=c2 (Y×a)
g! a:=by rw[gy a];rw[<-hR];rfl
C8 a b:=y7 cP.row a b
j4 a:=Cm a
vl a:=uX k a
gt a:=λ h=>a
mu a b c:=sA j a b az pV c O
y9 a b d:=BM a i? b d
gu a:=et vN a
iT a b c:=a (b:=λ v H=>c)
mx a b:=bP a b ai
gM a:=ba H v a
gP:=c2 jX
gS a:=by rw[lf a]
lG a:=a _ _
nO a b:=af a e b
nP a b d:=a i? b d
p! a:=sz i? a
vm:=sx Mt.map
kH a b c:=g6 (IO a=(false,b)::IO c)
sB a:=ak×a
nS a:=bd s a
jk a b:=by refine a hp b
my a b c:=aj a (br b c)
hY:=bt->j0 ia
y_:=bm.2.2
iV a:=by exact a
g? a:=gx a
vn:=dk.2
nX:=ce gx
h! a b:=by rw[a];exact b
iW a:=Y×a
mz a b:=y9 S0 a b
lH:=e::es
IP:=by simpa using hx
mA a:=((a:Y):cr)
sC a b c:=λ a b c=>?_
mE a:=aj H1 a
kI:=gY bQ
kK:=by decide
kO a:=show a by decide
jn a b:=by have a:b:=by rw[IP]
it:=aa 5
p?:=a+1
kP:=n+1
qc a b:=ch a ce b
jp:=j0 Y
mH a b:=im a c! b
i0 a:=.f7 a
j5:=q.2.1
iv:=Ts K mg
jx:=mq 1
vp:=f8 q nN
qe:=nomatch e
i1:=j0 V
iw:=.nil
kQ a:=a==[]
jz a b c:=by rw[dl (aO a b) c]
vq a:=p6 a az
kR a:=bd a hb
jC a b:=by exact pE a b
y! a:=bL a<=8192
n0 a:=ah a ad qp cB bQ
lM a b:=.Call a b [] bi
j7 a:=λ H4 s4=>a
mL a b:=bg (a b)
n1 a b c:=λ u a b e=>c
y?:=by(repeat(first|exact List.Mem.head _|apply List.Mem.tail))
iF a:=id a
n2:=e!.2.2
j!:=V×al
sD:=V×al
mQ a:=by exact .f? a
Px a:=nL Mt.compat a n
n3 a b c:=by exact a b c
IQ a:=Ue a
zb:=.ins
lN a:=a A T
kS a:=by have:=ld hx;rw[cX a]
sE a b d:=bI i? a b d kk
jH a:=(a).length
sF a b:=upd H a b
qg:=aj H H1
kW b:=λ a v _=>v=b
n5 a:=(a).isSome
n7:=vm 5
mT:=sy vn.2.1
sJ a b:=(a).uK b
jK:=aa 6
kZ a b c:=show a by exact b c
j?:=vf α
mV:=by have:=lc hx
ka a b c:=by rw[a]at b;cases c
C!:=sB ia
k4 a b:=by have a:=lc b
jL a b:=(a).map b
kb:=ak->Prop
zd a:=backTo bi (NS a ma)
kc:=c2 ak
ke:=c2 d'
sK:=Px k
kh:=by unfold br
kj a b c:=a b c ?_ ?_
k5 a b c:=by generalize a:b=c at hR
sM a:=gZ a i!
sS a b c:=by rw[gf hp λ a b=>c]
kl:=aj H H'
k9 a b:=H a=et .lst b
mW a b:=f8 a iK b
k_:=α->vf V
lP a:=by rw[pZ cB a]
qn a:=(a:Y)
sT:=(ra,ca,nl)
kw a:=λ H4 s4=>a
ze a:=a nd O Pw
k!:=c2 (bt×V)
mZ a b c:=a dn b h4 c
sU a b c:=lF a b (λ _ c _ h=>nomatch h)
kA a:=a k []
qo a:=k8 H v IQ a
k?:=α->g7
n8 a b:=cD a _ b O
lT a b c:=by rw[iM a sC b c n']
lU a b:=a (o:=nP zb dx b)
vr a b d:=mt a de c b d
m0 a b:=ig Ev a sw v b
sV a b:=λ a a7 H'=>b
lW a b:=ip a a5 b
l6:=α->vf Hp
kB:=k+1
sW:=pv 0
vu a b c:=b! gB (a b) c
m5:=(b,d,kk)
n!:=(ra,ca,nl)
l7:=cx qp
sX:=sx Pa
l9:=cx b
vv a:=λ _ _=>a
n? a:=λ y=>a
m6:=a.1.1
m7:=c2 (j1×C!)
og a:=.lst (a vN)
lb a:=(a).imp
qq a:=gZ a m
oh:=fK a
vw a b:=ly a e b
l_:=sy y_.1
qu:=bY (i:=2)
m8 a b c:=a ac b=.ok c
l! a b:=λ a b _=>?_
Py:=lf ab
sY:=mn e_ P
oi a b c:=ae a d1 b c
m_ a:=(a:cr)
vx:=c! q
zf:=a.2.2.2.1
C? a b c:=a (b:=c) (w:=w) (de:=de)
sZ:=λ _ _ _ _ _=>cy nd O (.f? O) (.fz O)
s9:=CF 0 eq
s? a:=Ph a
l? a:=#[_,a]
vy:=aA st
oj a:=by have:=lc hx;rw[cX a]
m?:=sx _B.di
on:=sy bm.2.1
vz:=fC ge ge
qw:=bL hV
oo a b:=by have:=lc a;rw[cX b]
qx a:=(Os a).1
na:=by simp at hx⊢
op:=Mt.propsIn 0
nc a b c:=gn a _ _ _ _ b c
vA:=vk nC
qA a b c:=upd a b (.lst c)
nf a:=(a).map
qB a b c:=by rw[gf a iS b gq c dx h1]
qF:=ji aI
vB:=a?=Z b
ni a:=by unfold a at h
zg:=bK "parts"
oq:=e!.2
nj:=e!.1
or a b c:=bp a b ce b1 ck c
ow:=by(repeat(first|rw[cW,nX]|rw[cW,Py]))
Da a:=List (List a)
nn:=v=c! q
np a:=dF (bO a)
qH:=a+2
ox a b:=gD a _ _ _ _ _ p! b _
zi a b:=bU a ai b
nr a b c:=λ v a b c=>?_
Pz a b c:=iB x8 O a b c
oy a:=my lz kk a kk
oA a b:=lg (du a je b)
Db:=vq bQ
nu a b:=a (cu b)
vC a b c:=λ v a b e=>c
qI a b:=C8 a #[b,rfl]
oD a b c:=e9 a (r? b c)
oE a b:=H a=et .tup b
oG a b:=by rw[pw];exact a b
vD a:=by rw[cA a a6 a6]
Dd:=.type
vF:=sx OU
oL a b:=H a=et .b aq
qL a b:=aY bT pV a b
qM a b c:=Pz a ze b c
oN:=by dsimp only at hx
qN:=x? _
IR a:=.lst (a mb)
oR b:=[a5 hX,b]
oT a b c:=fu (a H) b c
qO a b c:=by rw[dl (ah (T0 a) ad x hx b) c]
zj:=λ _ _=>trivial
qP a b:=by refine a;refine b
qQ a b:=cq a (cq b ao)
zl:=a'.1
vG:=iQ h
vH a b c:=∀v H2,a->b->c
oY a:=a<=d?
vL a:=by exact(a).symm
qR:=dS (fT a?>=0)
o0:=c2 (j1×V)
o5:=fO c bm H
o6 a b:=by unfold a;rw[b]
o9:=a<d?
qS:=d? - a
vM b c d:=aE a b e c d
o! a:=a i!
o? a b c:=ah a λ b e h=>c
ta a b:=eT a (ag b)
qY:=by exact a6
q5:=bz 3
PA a b c:=kT PySem.F.plainAttrs_list a b c
zm a:=g6 ((a).any (·.1)=false)
q6 a:=kG (d9 (lj:=a))
pb a b:=a=false->b
pc a b c:=fa a (fa b c)
q7 a:=_B.kr _ a
vT:=cl.g d u
q8:=bS.2
q9 a:=eW e9 a
tb a b:=.List a b
tc a b c:=λ a H1 _ b=>c
pd a:=bd s5 a
IS a:=by rw[el,a]
pe a b:=λ a b=>?_
vU:=z.2.to
IT a b:=cJ yW (a A) hr b
q_ a b c:=show a<=8192 by exact b c
q! b c d:=by obtain⟨b,c,d⟩:=a
q? a:=b! (gD a _ _ _)
rb a b:=(a).imp b
rc:=r.2.1
vX a:=.f? a
td:=q.2.2
zn:=y! cd
rd a:=lf (by exact a)
tf a:=TD a
re:=kF (4*k+2)
rh:=kF (4*k+1)
ri a:=a (ga s2)
rj:=cx r
rk a:=ey gh a
ro a b:=(vl a).map b
rq:=g8 qe
zo:=i5 d u9 u_
pg:=cY 23
pi:=rH S
tg a b:=il #[a,b]
th b c:=[b,vN bS,c]
rz a:=by rw[gx a]
rA:=dE.2.2
rF:=kF (4*k)
ti a b c:=aE a _ O b c
Df:=e7 a v H2
rG:=[f.rule,f.place]
rI:=Hp->mi V α
rJ a:=dn a hk
zp a b:=ly a hv b
rK:=(eV).scalar
Dg:=gc a H H2
rM a b:=by refine a;show b
pk:=pv 1
rR a:=by simp;exact a
tn:=TK sk w
rU:=v=c! a
rX:=mE H'
vY:=bY (i:=3)
v4 a:=l.getD a 0
rY:=c2 α
tq:=bS.1
tr:=je ?_
zv a:=sJ a k
v5 a b c:=λ H1 a b q=>c
ts a b c:=bp a b ce b2 ck c
r4 a:=(a:Y)
tu:=vN cd
v6:=kt.2.1
r5 a b:=a (vs:=b)
IU a:=λ a=>?_
IX a:=Uc t a
r7 b:=λ a=>b
r8 a b:=λ _ a=>b
v_ a:=mD a t
tw a b c:=by dsimp only[a,i5]at b c⊢
tx a b:=io sT a b
zw b c d:=b (cl:=c _) (d A) ab (λ a H hp=>?_)
Dn:=IR tt.map
ty a b c:=mt a de k b c
tz:=y8 nC
tA:=y8 yq
tB:=sE H b d
tC:=mz bm H
IZ a b c:={cls:=a,data:=.b (TG c)}
tD:=mn mJ P
Do a:=b! xf _ _ ha a
v!:=sD×Y
r9:=cY 39
v? a:=yb a
tI:=mA (4*k)
tJ a:=bh (xZ a)
tM:=ic sW aI O
Dp a b:=a c3 b gc e7
tN a:=by unfold br at a⊢
tO a:=∀H1,qg->a
tP:=zf+1+1
Ds:=bK "map_rows"
tT a b c:=∀{a:b}{o:HO},c
I0 a:=wipe a (HL (·.2))
Dt:=sz C fs
wf a b:=y7 cP.hZ a #[b,rfl]
r_:=a+3
r':=pv 3
wg a b c:=eW mu a b aN n3 c h4 hk
tW a b:=ig a es b
tX a:=io a n H
t7:=fK p?
wh a b c:=by rw[sS a b n0 c];dsimp only at cB bQ ap
t8 a:=by rw[a]at a6
t9 a:=by rw[a]at a6
zx b:=b hV cd
t_ a:=a cv gc e7
wi:=gh aX
zy:=e? au
t! a b c:=cF a λ b h=>c
t?:=λ h1 h2 h3 h4 h5=>?_
wl a b:=.tup (a b)
zA a b c:=gs (λ _ _ a=>b) c
zD a:=n1 H1 s1 a
uc a b:=by exact a b
wm a:=qZ 2 nK (a A) c?
zE:=n5 nL O4 Io i!
ue a b:=b7 aq (a b)
zK:=c! qm
zL:=(eV).key
uf b:=nO a b
ug:=nS h
ui a:=bd s8 a
uj a b c:=λ a b _ c=>?_
uk a b:=e9 (a:=b)
ul:=by simp
um a:=brk d a
un a:=br a kk
uo:=lO S H
wp a b:=λ H3 a=>b
wr a:=by rw[gm];unfold a
PB:=sM Is
ws:=by have:=ld hx
wt:=bL sK
zN:=sU hz h _
wu a:=by have:=ld a
ww a:=vr cP fI a
up a b:=λ _ a=>b
ur:=eV.1
ut:=a.2.1
zP a b:=iA dz a b
I3:=kG hR.cp
Du:=Hv (d?+1) 0
Dw a b:=cJ so (a A) hr b
wy a b c:=by rw[dl (a dX b) c]
wz:=by rw[ux]
wB:=[eb]
uu a:=a H2 s2
wE a b:=a (yb b)
zR a b:=by obtain⟨iq,a⟩:=b
wG:=mq 3
wH a b:=j2 lf a b
wK b c:=by obtain⟨b,c⟩:=a
wN a b c:=_B.jq a (show b<c from hk)
wO a:=a hG b6 nm g'
uv:=i+1
wP a:=mH md a
I4 a:=.Id o a pP
Dy a b:=.Subscript o a b
I5 a:=a (kC s3)
Dz a b c:=(a b).O7 (c hI)
wQ a b c:=by refine Bd.of a λ H1 s1 D b c=>?_
wR:=Tu _
zS a b c:=aE a _ pw b c
wS:=n2.1
zT a:=kH lH f9 a es
zW a:=show a by decide
wT a b:=O4 a Io b
wV:=aY cV au ai
zY:=λ vs H1 s1 hv=>?_
wX a b:=by refine a;unfold b
DA a:=by simpa using a
z1 a:=.Id a
w0:=e!.2.1
w1:=vk yq
w2:=vf V
z2:=a?=Z b0
z3:=.pu y pos'
w3:=nw s4
w4:=sy bk.2.1
w5:=r! p k=0
w6:=sm kP ks j
I6 a b c:=PA PySem.F.slot_list_append PySem.F.type_list_append a b (iz c fQ)
DC:=eZ - 1
w7 a b c:=aB X σ a b c
w8 a:=sV k a
w' a:=vw u a
w! a:=zi au a
w?:=by rename_i e
xa a b c:=aZ a b c O
z5 a:=((a:Y):cr)
xb:=sF z o
xd a b c:=a d7 d7 ai b c
z6 a:=C8 a #[yV,rfl]
I7:=#[_,rfl]
xg:=c2 cr
xh:=(b,d,kk)
xl:=bY (i:=4)
xq:=IU cg
I8 a:=b_ (a:=2)
xt a:=.uy a
I9:=a5 am
xu:=bm.2.1
xv:=qn k
z7:=r.2.2.1
z8:=r.2.2.2
xx a:=λ H5 s5=>a
xz a:=λ a=>?_
xC a b:=(a).drop b
xD:=bX k X.A
xE:=(eV).to
xF:=lG ed
DD:=c3 a
DF:=Z x
z! a:=by unfold a;rw[IS Ot]
I_ a:=IZ (Dd "dict") dict a
z? a b c:=by rw[h2];refine aW mx cK a je mL qC b dD (pE c (ld hx))
Aa a b c:=aT (a A) hr b e? c zj
PC a b c:=callWith bi a first zd b (backToKw bi (keywordEach c ma))
I':=(PB).all gr kQ (n7 x)
xH a:=λ n=>a
DI:=.pu
Ab a:=HM a ab
DK a:=pU (a=false) c8._auto_1
I!:=il vp
I? a b c:=by rw[h2];refine aW mx cK a dD (pE (lc b) h1) c
Ac a:=lN C? a P P
Ad a:=qc j4 a (b_ (j:=1))
Af:=bh IX m
Ah a b c:=bp a b ce b3 ck c
Ai a b:=hH (a b) ab
Aj a b c:=a x7 X.w X.K pt X.base k b c
xI:=k<15
xJ:=hx.1
xK:=k<=8
xL:=o3++pB
xN:=xV d
xP:=i<=a
Jc:=I0 σ
Ak a:=by rw[yp]at a
Al a b c:=by rw[dl (ah a ad b a9 c) a9]
An:=by rw[<-NV]
Ap a:=by rw[ii hH a]
Aq a b:=eW (c_ a az aN O) b
DN a:=b! b! AO hz a
Jd a b:=C7 (UB vd a b)
At a b:=iT eS P (a H v b)
DO a b c:=g6 (f9 a=(do let ov<-f9 o;standAt TX;let(f,first)<-b;PC f c []))
Je a:=gZ T9 a
xR:=bz 4
Au a:=gZ ID a
Ax a b c:=(Mt.inside a).all λ b=>c
Ay:=("__debug__":bt)
AC a:=by rw[mQ #[a,rfl]]
AE:=c2 (bt×ak)
AF a:=by refine sG dX a
AI a b c:=vC H1 a nO b c
AJ a b c:=i8 (a b c)
DQ a b:=!Mt.isSyllable a&&!Mt.isJamo b
AK:=sX 2 c
AL a:=d1 az a
AM:=kF (4*k+3)
AP:=y8 α
AS a b:=(yF a b).getD
AT a b:=il ch a b
DR:=BK×V×vA
AU:=gZ u8 n
Jf a:=by dsimp only at hv a
DW a b:=p v a Pf b
Jh a b c:=X.cC s a lj (compEnvC lj b C ma) c
AV:=(TK sk w).is
AW a:=iu tU a ai #[ab,kK]
AY a:=by rw[cX a]
DX a:=im md (vN a)
A2:=Pr m a i a?
PF:=.pu "range"
Ji:=r? sb ?_
A3 a:=wpAny _ _ a _
DY a b:=kC (a b)
Jj:=CJ+yM+yN+IM
A5 a b:=show a by exact b
A6:=r.to.headD 0
A7 a:=f8 a O
A8 a b c:=a (N1:=λ d! b=>c)
A9 a b c:=a b O c O az
D0:=NT s1
A_ a b c:=br a kk b=Z c
A! a:=wpAny _ A.in1 a _
A? a:=by unfold a at hR
Ba:=[su,u.num]
Bb:=Fs X.K pt c
Bc:=z.2.scalar
Be:=a5 hX
D2:=gY h1
Bf b c d:=b (c:=K) (a:=d)
Bg a b c:=a (b:=c) (t:=t)
Bh:=py m a
Bi a b:=a (.pure b)
Bk a:=λ u H1 s1 hu=>a
Bn b c d:=bM b λ a e g c=>d
Bq a b:=a a?=dp b
Br:=vk Y
Bt:=nS h1
Bx b:=a.2.map b
Bz:=cy (i:=2)
BA:=.pu x p
BB:=bY (i:=1)
BC:=Y->Y
BD a b c:=λ a a7 H' _ b=>c
D5:=zm zd es
BE:=(0:cr)
BG:=[v0,v1,v2,v3]
BH:=pK 15
BJ:=b6<15
BL a:=bd k2 a
BP a:=Mt.map a
BR a b c:=λ v H1 a b=>c
BS a:=(a).scalar
BT a b:=by rw[a,b]
BW a:=λ x hx=>a
BX a:=bd s6 a
D8 a:=C8 a #[trivial,rfl]
D9 a b c:=by refine g9 (fM (n!,n,a) ra O n8 dx h1) #[hR,b] c
Jm a b c:=IT Ig (dk,(wn,y),vx,a) az ce hD.cp d1 au b O il (j3 (hD.later s1) hy vp bJ c)
BY:=pK 3
B0 b c:=λ a:b=>c
B2 a:=#[dx,a]
B3 a b c:=wA a pa b p0 p1 c
D':=lG Bu
B7:=en m a
B8:=xT hk h
B_:=lz k
B! a b c:=λ a H3 s3 b=>c
B? a:=λ _ _=>a
Cb:=Sem fm
Jp:=yE s3
Cd:=bg ?_
D!:=lK hm
D?:=lM I4 m lH
Jr:=by rw[<-NV,eY];rintro⟨h1,h2⟩
Ea:=nL oH zv s9 vU
Eb a b c:=by have:=j2 Ou a b;rw[vD h];rw[Cv];have:=hM.le;exact hH c a6
Ec:=Ds I9 (zg a5 pa [])
Ed:=al×al×al×al
Ef a:=dL qu a
Eh a b:=by obtain⟨_,a,b⟩:=Option.bind_eq_some_iff.mp h
Jt a b:=cJ so (a A) c? b
Ei a:=qc j4 a I8 j
Ek a b c:=by rw[dl (ah (eK a) ad m hm b) c]
El a b c:=by obtain⟨a,hR⟩:∃b,c:=I7
Ju a b:=if a then s? (-6)else b
Em:=upd H6 tl Dn
Eo a b c:=by(have a:b:=by exact Bl hk);have dq:c:=by exact FN
Ep a b c:=a b (yf c)
Er a b c:=iG a b ce b3 ck c
Et a:=by rw[gx (by rw[cX a])]
Eu a b c:=wI a b ce b2 ck c
Ey a:=vu rV.trans s4 a
Ez:=vd sy CZ.2.1 cc
EA a b c:=by obtain⟨⟨iq,a⟩,b⟩:=c
EB a b c:=by rw[jk bW a];dsimp only at cB bQ b c
EC a b c:=by refine ah (wL a) ad b hk c
ED a b c:=mt ej de eL a b fd ps Dp c cv
EF a b c:=HY [ov] (getMethod a b c)
EG:=sY 10 pR
EH:=(zo).CQ λ u=>!vT
EI a:=vX g9 kX _ ey a
EK:=I5 ga
EM a b c:=by refine gI 1 nd a ly b2 b (c5 fW f8 b2 (nQ c s3))
EP:=DP hf ab ab
EQ:=sv<d?
ES a:=by rw[el]at a
ET:=fx z Dt
EV a b c:=by unfold iy;rw[lf (no hx)];exact a b c
EW:=by rw[eY]
Jx a b:=by rw[a,uC]at b
EX a b:=CU a=Z b
EY a b c:=show a<=10000 by exact b c
E1:=Do t
Jz a b c:=a mT b n c (Pk m)
E5 a:=Tz a
E6 a:=j2 gx a hk
E7:=ms.length<=d?
JE a:=yb (e4.mpr #[a,h1])
JF a:=j2 mI.four a ap
PH a b c:=IsTup a b (TG [a5 j5,c])
E8 a b:=a=y5 b
E9:=_B.js m a i a? fj
E_:=_B.jG m a i a? fj
E' b:=b hV bS cm
E! a b c:=jm a H1 b r qs (c fj)
E? a b:=by obtain⟨a,hb⟩:=b
Fa a b:=by obtain⟨a,b⟩:=hp
JG a:=IF (Um a)
Fb a b c:=yX w a b c
Fc:=c_ bQ az au O
Fd:=mn sj P
Ff a b:=a ma (eval b ma)
Fh:=vF 15
Fi a b c:=c_ (a:=b0) (b:=fK b0) c az aN vG.2.1
Fj a b:=(C3 a).uK b
Fk:=eX (fs.lookup m)
Fl a:=i8 (a ?_)
Fm:=by dsimp only at a6
Fo:=HP<=8192
Fp a b c:=∃a,d!=[cx b,Z v]/\ba H2 v c
Fr:=Da cr
Ft:=Da Y
Fu a:=Ii so A.bj.Dc a az O
Fv a b c:=λ v a s8 hv=>p v H8 b c
Fz a:=by unfold a;dsimp only
FB a:=attributeBase a
FE a b c:=aE a _ mc b c
FF a b c:=by have h5:=a h2 b0 (b c).1
FH a:=r.to.all gr a
FJ:=b! gB s3 eA
FK a:=bd cH bd k0 a
FL a b:=Cu a (nw b)
FM a:=b! gB s a
FO:=sy zl.2.1
FP:=lz y_
FQ:=vl hO
FS:=vl eq
FT:=pV aN
FV:=se (·.2)
JJ a b:=a (HF b)
FW:=4*k<i2
FX a b:=∀{a:fm},b
FY:=64<nG
FZ a:=a<=IK
F0:=kC s3
F1:=kF p?
F2 a b c:=aO a λ b y e h t=>c
F3:=fK qH
F4 a b:=a (k:=uO b)
F6:=X.calm=dr
F! a:=uX b6 a
F? a b c:=a (mK b) H v (c 18)
Gd a:=a+1<d?
Ge:=i2/4
Gf a b:=show¬a from b
Gg:=vv True
Gi a b:=CO a b
Gj:=(hV).getD
Gk a b c:=by intro iJ s σ a b c zz
Gn:=vg O
Go:=aj.refl _
Gp:=iK BF
Gq:=px m a
Gr a:=λ u H3 s3 hu=>a
Gs:=(qk,d,kk)
Gt a:=ch O a
Gw:=λ _ _ _ h=>h
Gy a:=by simp[a]
Gz a b c:=by intro a b a? fj hz c hi
GA a:=cG (lI a)
GB:=by cases h
GC:=cy (i:=3)
GE a b c:=λ a H1 b c=>?_
GJ a b c:=FU a (λ o e=>b) c
GK:=c2 β
GL a b c:=λ v H4 a b=>c
GM a:=(a).map vN
GN:=[ea,eb,ec]
GO:=cv a H1
GT a:=cq a ao
GU a:=(a).CC
GV:=by simp
JL a b c:=by obtain⟨dk,wn,tv,a⟩:=b;rw[<-iN hp λ hD q hv hq=>?_,Jf hq,pZ hv c,gm,ii im (q5 nd) (.f7 v_ wn) (aT (Dv A) c? (wn,vx,t) d1 au aN I!)]
JM:=I6 uq aI aI
GW a b c:=λ _ _ a b _=>c
GX:=[e1,e2]
G4 a:=(a).book
G5:=PL vs H
G6:=cl::l
G8:=.fF
G9:=l8 aI
JN a b c:=by refine a nd mZ mu b bQ au Cg c ?_
G!:=cY 21
G?:=dk.2
Ha:=jB h
Hc:=kN n
JO b c d:=b (RQ c0 c [a.1] ci (d2 bm cd/\zn) dV d)
JP a:=a "folding_settles" ez I'
JQ a b c:=PA PySem.F.slot_list_extend PySem.F.type_list_extend a b (iz c fQ)
JR a b c:=by exact PQ ab (λ hh a=>b (Hf:="canonical_row_without_hangul") (HQ:="scalar_is_no_hangul") (F_:="ends_by_k") (HG:="ends_by_k") y? y? y? y? n) c
JS b c:=zw It (b "folding_settles") c
JT a:=Jd YfNeutral.start a
JU a b c:=eE dL vY a (nH x8 dz b) ji c
JV a:=by rw[el];exact HM a ab
Hd:=pv 2
He:=ny fQ
JW a b c:=eE (a O nd eh x9 sZ) b c
JX a:=(TN I_ []).a
JY a:=by rw[mV,g! (jl (decide_eq_false a))]
JZ b d e:=b (RQ d (DG c) dV qo (yX bS e! CX n? e))
J0:=PH yv b td
J3:=Jh H0 cl fp
J5:=uL (NY A) c? (wn,y) zy vv hy
J_:=Dy (.Slice Z ea Z eb ac p1) p2
J! a b c:=eW mu a bQ au dn b c
J?:=aY cV (aY cV Db au) ai
Ka:=mx cK (aY cV Db au)
Kb:=iy a0 (jy (Du ac m))
Kc:=Mt.ROWS<Jj
Kd a:=by rw[el,OR]at a
Ke:=vH (gc a H1 H2) Df (Q v H2)
Kf a b c:=by refine ah (hj a b) ad v c h;cases e;exact h
Kg:=fW vz
Kj:=j7 vz
Kl a b c:=by rw[cA e eA eA,<-#[?_,hf i eV (getD_at a b e)]];show x.1=Je c+i;unfold T9
Km:=iy a1 (jy (yi (sq.length+1) 0 ac sq))
Ko b c d:=bX k (A.deeper (envOfC b vy i9 c d))->cv a H->∃t,ij (iC eL P w K mg de N pQ vy f aK A em s H E).jh (cu st) t/\∀D:Ends,(∀v H2,Dg->Df->D.rt v H2)->(∀a7 H2,Dg->e7 a .cz H2->D.nx a7 H2)->t D (start N (c3 a)) H
Kp c f g:=by exact(Dw c ((b,d),b6) ho I3 (ae h1 (ae h2 ao d4) fH) O il #[(CM s1).parts,hk] fH a_ ht).imp tc v f (aO g λ a xs e h p=>vM xs h (JC p))
PI b c d:=d2 hX hV/\y! hV/\bS<qw/\∀b,cm=Z c->d
Kq:=Dz cZ.take k u8
Kr a:=by simp only[eY]at a
Ks:=C? Oj P P A
Kt a b c:=a b (Tr _ c)
Ku a b c:=by refine a (λ v b s2 hv c=>?_) aX O
Kw a b:=pE a (Th b)
Kx:=upd H6 z p! f5
Kz a b c:=by rw[gf a λ b h2=>gq c dx h1]
KA a b c:=by obtain⟨⟨a,b,kk⟩,n⟩:=c
KB a b c:=by obtain⟨⟨iq,m⟩,a,b⟩:=c
KC a:=by rw[yp,a];rfl
KD:=(Jc).set i DF
KE a:=vu OZ s2 a
KF a:=a (kC (nw s4))
KH a b:=a "scalar_is_cased" ez b
KI:=Mt.agree hI (T? hI)
KK a b c:=Uu Uy a b=Z c
KL a b c:=by refine dm (vK a) λ b c l0 x0=>?_
KM a b c:=by refine aO kR a λ xs b hl c ik=>?_
KN b c d:=by refine aO h λ a y e b c=>?_;exact d
KO a b:=by dsimp only at a⊢;have nd:=b
KP:=mg u!=cx f
KQ:=vg Ji
KR a b c:=pU (∀a,foldedSetIterable b ma c=pure x) gv._auto_1
KU:=mW qp jY
KV:=ya [] (jV.map gr (x.1,eV.2))
KW a b c:=λ d a=>match b with|.c x=>g d eV|_=>dr
KX:=N5 b=Z o
K0:=bh (t.all xZ)
K1:=by rcases cj with rfl|rfl
K3 a b c:=by obtain⟨g1,g2⟩:=hp _ eV a b hm c
K4:=by rw[el]
K5 a b c:=cE a gt (c4 (bP cK b c))
K8:=zP qF dg
K9:=by exact x? _
K_:=zg a5 pa []
K':=bR->Cl->fm
K!:=v4 DC
K?:=plainId_quiet pH _
La:=qA H1 r []
Lb a b c:=fu (λ v a=>b) vs c
Le:=bK "sequence_rows"
Lg a b:=yx (OL a b)
Lh:=f8 qp kI
Lj:=f8 qm gY dR
Lk:=bL DD=OO
Ll a b:=HI (nB a b)
Lq:=al->Y->Prop
Lr:=bR->yq->fm
Ls:=bR->nC->fm
Lt a b c:=by congr 1;rw[vL (a b k c (Nat.le_of_lt hk))]
Lu:=sF a (.lst ys)
Lv a b c:=∀d a,yR d->uD d fI->r∈b b6 []->c (b6,r)->cv d r/\g d r=g' d r
Lw:=bh (xZ x)
Lx a:=yw _ o a e
LB:=j4 nN
LC:=c2 (bt×Y)
LE:=ey kI
LG:=og se
LI:=ta aN A.g.OJ
LL a b c:=CO a (b _ c)
LM:=zx py
LO a b c:=∀a,h.get? b=Z o->h'.get? c=Z o
LP a b:=x! (by rw[a,b])
LQ:=by simpa using a6
LR:=bK "name_count"
LS a:=mi a ll
LT:=qq _B.dI
PK:=mh (OZ s2)
LU:=zp vs ?_
LV a b c:=vW (a:=Y) vN iV b c
LW:=("parts":bt)
LY:=λ v' H2 e=>e.trans (r? sb g2)
L0:=nA ?_
L2:=DA e
L3:=sv<nG
L4 a b c:=.Call (PF a) b [] c
L5 a b c:=a[j]?=Z q->∃(b:ak),c
L6:=h4 (b:=dr) h
L7 a b c:=λ a a7 H1 s1 b c=>?_
L8 a:=by simpa using a
L9 a b:=if a then b else[]
L_:=by assumption
L! a b:=HF (a b)
L?:=_B.js.zero m
Ma:=_B.jG.zero m
Mf:=yF n l
Mg:=ps.map sd
Mi:=64<d?
Mj:=c2 nC
Mk:=eO.later s3
Mm:=O8 s4
Mn:=RQ c3 cv e7
Mo:=Dd "list"
Mu a b c:=by refine gF F λ a fd ps b hb c=>?_
Mx:=iy a2 (o1 n)
My a b c:=EE d (a hG k nm b) (hG,c,f)
Mz a:=a<=eZ
MA:=i2%4
MB:=!l.isEmpty
MC a:=Except NU a
ME:=c2 ia
MF a b c:=dM (l:=qs) (i:=a) (by exact b c fX)
MG:=t.all xZ
MI a:=tup_ne ha a
ML:=gC rl
MM:=1<=n/\n<=65535
MN:=nomatch hx
MQ:=n<1114112
MR:=λ _:Unit=>[]
MY:=c2 Stmt
MZ:=gh zk
M2:=db yG
M4:=vl l
M6:=_B.uJ m a
M7:=_B.i6 p k
M9:=nB p k
M_:=jm.new hN fX
M':=c2 bt
M!:=c2 Env
M? a b c:=by refine a (ae (ag b) ao) ab ck H1 s1 _ λ c qs H2 fX hN=>?_
Nb a b c:=λ a b c h2 h3=>?_
Nc:=gx h
Nd:=cD a _ e h
Ng:=uO zL
Nh:=se vN
Ni:=z.drop 1
Nk:=pK 14
Nm:=bd s7 vE
Nn:=a5 qv
No:=a5 ra
Nq:=iW (Y->fm)
Nr:=λ i=>!f i
Nx a:=λ h2=>a
Ny:=λ _ _ _ _ _=>oV
NA:=a6.1
NB a b c:=λ H H' v a s b=>c
NC:=lz l
ND:=a5 D
NE a:=λ h1=>a
NF:=t !=0&&k==k'
NJ:=cS o7
NL:=b_ hi
PM a b c:=by rw[I? bN hx je mL qC a,<-nZ b c? (cq Jm t aN iL qQ c p6 hq aN) zY]
NM:=te+1
NO:=pv 4
NP:=zs nl
PO c d e:=c (RQ c0 (sD×iW jp) th m6 (.f7 (fT cm)) ci PI b b d kW (vN e))
PP a c e:=Jt a (m5,5,c) az I3 d1 d3 A.g.C2 e O tg (CM s1) zW (5<15)
PR a b c:=by rw[qB h a b,cQ ho il (b8 _ dx _ D2 nK c O) hb]
PT b c d:=b (RQ c0 v! [m6,tu] ci (d2 hX hV/\c) kW (vN d))
PU a b c:=by rw[I? it hx tr];generalize hL:Um Jz a y t=L;refine iT (gI 6 nd) P1 (gM b/\L.length<=200) c λ v H1 s1 hv=>?_
PV b d e:=b (RQ TM (JA c) dV qo Ju d (yX tq dE.2 (xO q8 dE.2 oq) n? JG e))
PW b c d:=b (RQ c0 j! [a.1] ci (d2 bm cd/\zn/\∃c,m8 op cd ps) dV d)
PX a b c:=IT a (dk,wn,c! qt,t) az ce mP.cp d1 b c O fW Jp
P0 a b c:=by rw[Jr];rw[a,Hs,N0,eY]at b;rw[hx.1,Hs,N0]at c
P3 a b c:=a (λ k a7 _=>b) x8 O nd x9 oi ai Db ai JF Iq c
P4 a:=y7 cP.hZ a #[trivial,rfl]
P5 a b c:=aT (abw A) c? ((a5 qp,m),a) d1 az b c
P6 b c d:=by refine #[λ d! rD=>∃z',z'<qS/\b,λ _ _ h=>h,?_];have jb:=gh pD;refine DX c q9 qL aN d cL H4 s4;have pO:=db jb
P7 d f g:=by rcases d with _|⟨a,_|⟨b,_|⟨c,_|⟨f,_|⟨e,g⟩⟩⟩⟩⟩
P9 a b c:=IT a (dk,(wn,co),(a5 qt,t),zK,mk) az ce zV.cp ve b dt d1 c jK O fW Jp
P! a:=DK (x==("__classdict__":a))
P? a b c:=a (b:=3) jQ D! zD zS c (.fz (hs H1)) O
Qb a b c:=fu (λ a b=>aJ X.K H c [a5 v6,kt.2.2]/\fx v6 wl nf kt.1 kV) ps jV
Qe a:=a "ends_by_k" ez zE
Qf a b c:=by have:=qx a;rw[b,el]at a6;unfold pK at a6;rw[el,Ot]at c;rw[qY]
Qh b c d:=aO b λ a c e h p=>vM d zN zA q #[q.1,DN q.2] p
Qi a c d:=by have bb:∃a:Y,(c/\b0=0)\/z2:=by cases a? with|ac=>exact #[0,.f? #[rfl,rfl]]|gT b=>exact #[d,.fz O]
Qk a b c:=by obtain⟨a,b⟩:=Os c
Ql a b c:=a b (ae d3 A.g.Np d1 d3 c d3 A.g.acb)
Qm b d e:=∃a':DR,xG a=[a5 zl.1,a'.2.1]/\b/\vH (nt zl H H2) d (nt bm H H2/\BI c e a v H2)
Qn:=by have:=vG.2.2;rw[cX xY]
Qo c d e:=(gC yg=dr↔(∀b,vB->fK b<=oh))/\(gC yh=dr↔∃b,vB/\oh=fK b)/\(gC c=dr↔(∀b,vB->d))/\(0<=fT a?↔∃e,vB)
Qp:=by rw[TZ,uQ,sl]
Qr a c d:=by rintro⟨b,h1,h2⟩;have h3:bh qR:=JE b;have h4:=(iQ h3).1;rw[cA a c h4,#[d,j2 yb BV h2]]
Qs a b c:=by rw[a,yp,q7 b]at c;rw[vL tf wj]
Qt:=DQ i! i!
Qu a b c:=m0 (.BinOp tb a p1 .Add b bi) c
Qw:=by rw[IS el]
Qx a b c:=by show yF a b=_;rw[_B.CH];unfold pK;rw[nz];exact TW iS k (pM k c).symm
Qy a b c:=by rcases a with h|⟨o,h⟩;(.exact .f? (.f? b));.exact .f? (.fz #[o,c])
QB:={b6:=.function,names:=[],isGenerator:=false,isCoroutine:=false}
QC a b c:=zA a #[b.1,b! gN ((cS o7).jR c) h.2] e3
QE a b c:=kG (d9 (N:=a) (sc:=aA b) (own:=[c]))
QF a b c:=a b _ (List.contains_iff_mem.mp c)
QG a b:=by simp only[a,po]at b
QH a b:=a tn i9 b
QJ a:=kZ (yM<=8192) a hle
QK a b c:=by rw[zR a q];obtain⟨⟨qp,cB,bQ⟩,ap,ps,b⟩:=hp;dsimp only at cB bQ ap uM;rw[lP c];obtain⟨h4,_⟩:=GD uM
QL a:=by rw[a,uI]at hx
QN a:=g6 (a "range")
QP:=lG List.length_filterMap_le
QQ a b c:=a b (Uq _ c)
QT b c d:=by generalize gC yg=b at hR c;generalize hfo:gC yh=d at hR e2
QU a b c:=by dsimp only at hv hq a ap oP;rw[pZ hv FI.nd];have b:=iX c
QV a:=N! (i:=a)
QW a b c:=key d? 0 0 ac a iV b c qN
QX a:=Q a5 i9 a
QY a c d:=by rw[Hs,N0];refine e3.mpr cL b iE;have a:=hx.2;rw[Jx c d]
QZ a:=by exact yf a
Q0 a:=dn Nat.le_of_succ_le a
Q1 a:=Heap.get?_push_of_some _ a
Q2 a:=a (j6.trans (nw s4))
Q3:=.N? tb [] lp [#[z3,.Call (PF p1) wB [] p2,[],0]] lj bi
Q4 a b c:=by rw[qP a ti b c ?_];rw[aX,Rp hm,yo];unfold _B.lQ
Q5 a b c:=[.yn i0 a j p1,DI p p2,DI k p3,.pu b c]
Q6 a b c:=Co a v5 s1 Q (eS (b s1) λ u H2 s2 hu=>c)
Q7 a b c:=by obtain⟨lm,hm⟩:=a b ps h1;exact #[lm,c]
Q8:=by rw[eY]at hx
Q9 a b c:=by refine vV uR a;refine(wF f h1 fd ps b h3 rb (h4.mono hk) c)
Q_:=Un b o h1 h2 h3
Q':=mh ((PK).jR s3)
Q! a:=List.find?_eq_none.mpr a
Q?:=by rcases cj with rfl|rfl|rfl
Ra:=yi (d?+1) 0
Rb a b c:=by rw[jk iR a];dsimp only at hv hq b dR;subst hv uh;have nd:=c;rw[gm,ii im (bz 5 nd) (.f7 (uw wn n t m)) (aT (aby A) c? ((wn,n),(a5 q,t),zK,m) ve au aN d1 bN dt il (eI vp qm O gY dR))]
Rd a b c:=a (R:=b) (ls:=l) O nd eh az zD nO q ey nN ck (iY (by exact RX rg ap)) c
Re a b c:=oZ a xs b O O c j2 iY AG B5 ?_
Rf a:=a d.book.scripts.length
Rg a:=Heap.get?_push_size _ a
Rh:=JJ nw s5
Ri a:=a (lc h)
Rk:=Ue (IF l)
Rl:=u8 on cd
Rn:=Str.ofString "__len__"
Ro a:=pU (a Hh x) wD._auto_1
Rr a:=Mt.elementsFine ac a
Rs a:=lf (by rw[cX a])
Rv a:=v? (show a by omega)
Rw:=z1 o "records"
Rx:=z5 li
RA b d e:=∀b H,zJ c fI cl a H->∃a',xG a=d/\cv a' H/\e
RB a:=if(bh (a&&!false))then 1 else 0
RC:=Ta Tc
RD a b c:=hH D' (hH (a b) c)
RG a b c:=aE vv False sw v a ?_ (λ _ _ _ h=>h.now.elim) (λ v H3 s3 hv=>DW H3 #[b s3,c,dX])
RH:=by unfold OS at*
RJ a b c:=Co (a dU) v5 s1 Q (af PL D0 zp vs #[hH (hl b c dX) ab,λ p hp=>q _ _ DY cS hp wp s3 (aE p vs O wi (hv H3 ((cS hp).jR s3)))])
RK:=_B.jq eq kO (0<nD)
RL a:=us.length=OO->bindArgs (PySem.W.fnOf a pQ (jr st) (cu st) vy .ac kV doc pm an aK ct) #[us,[]]=pure (ps.zip us)
RM:=(m5,i!)
RN a b c:=a/\d2 v0 r.1/\d2 b rc/\d2 v2 z7/\d2 c z8
RO:=h4.mono ab
RP:=kO (1<1000)
RT:=kO (2<1000)
RU:=((sa,vn,y,t),0,nG)
RV:=y5 r
RY a b c:=(O! b6 eV hk (a hk b)).c
RZ a:=a<i9
R5 a:=("numbers",c! a)
R6 a b c:=a (i:=3) b O ce Or.inl c p5
R7:=sc.names.lookup x
R8 a:=PySem.W.keepIn K a
R_:=qq Mt.agree
R':=jV.map gr (x.1,eV.2)
R!:=gZ Mt.canon x
R?:=h1.IsList l mf
Sa:=O3->Ud
Sb:=hB.same.trans s3
Sc:=h'.get? b=Z o
Sd:=gZ Iv n
Se a b c:=by exact a (λ _ _ _ q=>q) (λ b' h1=>b) (λ b' ys h1=>c)
Sh:=gZ Iv x
Si:=tt.length+301*yr<=120400
Sj a:=gJ (· = Dl) a v l
Sl:=Op<=100
Sm:=bK "known_by_k"
Sn:=dp eZ
So:=.lst (qs.map sd)
Sq a:=(a).all xZ
Sr:=m_ HD
Ss a b c:=a (b:=HL (·.2)) (σ:=σ) (Qd:=λ H'=>Q a5 c H')
Su a:=gJ (· = r) a v l
Sv:=A.handled=ac
Sw:=bK "composing"
Sx a:=if a then 0 else -1
Sy:=c2 Mt.Bytes
SA:=vk Cl
SB:=kR L.same
SC a:=_B.mF.getD t a
SF:=nG<=64
SG a:=eX (a "range")
SI:=model sk w
SJ:=_B.i6.zero p
SL:=Mt.mapMost k
SP:=Ok 0
SR:=sp 4
ST:=ga s3
SU:=O6 s1
SV:=Wv.later s4
SW:=uX 0 eq
SX:=d?<=a
SY:=ga s2
SZ:=ot.later s5
S1:=zV.later s5
S2:=N4 k
S3:=Oo=n
S5:=i2/4
S6:=[i!]
S7:=i2+3
S8:=z.headD 0
S9:=.type "dict"
S_:=_B.p_ _
S':=e7 S
S!:=e7 a
S?:=cr×bt×bt×bt
QM:Hg ((1:cr)<=x)=dS (0<x):=RC
dP:Hg (m_ x<=y)=dS (x<=y):=RC
nT:FX x (bh (!x)->x=false):=kK
nF:FX x pb (!x) (x=dr):=kK
bG:∀s p:fm,bh (!s||!p)->(s&&p)=false:=kK
bH:∀s p:fm,pb (!s||!p) bh (s&&p):=kK
bA:∀a b c:fm,bh (!a||!b&&!c)->(a&&(b||c))=false:=kK
bB:∀a b c:fm,pb (!a||!b&&!c) bh (a&&(b||c)):=kK
bC:∀a b c:fm,pb (!a||!b&&!c) (a=dr):=kK
bD:∀s f p:fm,bh (!s||f&&!p)->(s&&(!f||p))=false:=kK
bE:∀s f p:fm,pb (!s||f&&!p) bh (s&&(!f||p)):=kK
bF:∀s f p:fm,pb (!s||f&&!p) (s=dr):=kK
aEK(A:a!)(T:iv):mq 2 "range_rule" (RQ c0 v! [m6,vN (4*cd)] ci (d2 hX hV/\4*cd<qw) kW (vN zx r!)):=ts A.agg ab8 λ q e H hr hp U hU=>by rw[EA p t q,sS aS a8 n0 aS];dsimp only at cB bQ a8;rw[lP ab8.nd,gm];((rw[fy Ka eH];.rw[mV];unfold r!;rw[Et am5];rfl);have h4:4*t+4<=i2:=by rw[kS ari]);rw[El R R (r! p t=R)];rw[hR];rw[A? r!,gy wH awg h4,A? _B.Fn,k5 hk kF (4*t) k,k5 hf kF (4*t+1) fi,k5 hl kF (4*t+2) la,k5 hv kF (4*t+3) va,k5 cj kF (4*t - 4) k',k5 dW kF (4*t - 2) PZ,k5 o8 kF (4*t - 1) va',<-bz 2 nd mZ Fc NQ hk ?_];(rw[fy oA (bP eF aN (L1 jQ T.Z')) (eB (lg K5 mx gL au aN mZ (sA j (4*t - 4) bQ az wV (by rw[oo h abv])) QA cj)) eH];.rw[Hi,dn4,Il]at hx;rw[g! (jl (bA dS (k<14) _ _ hx))]);rw[Hi,dn4,Il]at hx;rw[gy (i4 (bB dS (k<14) _ _ hx))];have yH:k<14:=lc (bC dS (k<14) _ _ hx);rw[<-q5 nd mZ mu (4*t+1) bQ au T' hf ?_,<-xR nd mZ mu (4*t+2) bQ au xY hl ?_,ii im (bz 5 nd) (.bl NF) oD (cn (gO gL au ai) gt (bZ (dY aN (sA j (4*t - 4) bQ az wV (by rw[oo h abv]) dn QA h4 cj)))) sb (by rw[wz,rR aox])];(have ht:bh NF->0<t:=λ h=>by simp at h;exact aKm h);generalize NF=fo at hR ht⊢;(rw[fy oA np Aa ua dp fi bN (eB (lg (cE (bO it) gt (c4 (bP d7 bN mZ (sA j (4*t - 2) bQ az wV (by have:=ht h;rw[cX ade])) Xm dW))))) eH];.rw[oK,Hi]at hx;rw[g! (jl (bD _ _ _ hx))]);rw[oK,Hi]at hx;have hsf:tJ fi:=bF _ _ _ hx;rw[gy (i4 (bE _ _ _ hx))];(rw[fy oA np Aa ua dp la dt (eB (bP cK dt bN)) eH];.rw[oK,Il]at hx;rw[g! (jl bd bG hx)]);rw[oK,Il]at hx;rw[gy (i4 bd bH hx)];(rw[JN (bz 6) (4*t+3) hv,fy (dF xd sh jK (CV (k:=Mt.most k) T.Z' aN O yH O)) eH];.rw[QM,dP]at hx;rw[g! (jl (nT hx))]);rw[QM,dP]at hx;rw[gy (i4 (nF hx)),<-aW (lg (cE (bO it) gt (cE (bO (aT (aoT A) hr (m_ PZ,dp fi) d1 mZ (sA j (4*t - 2) bQ az wV (by have:=ht h;rw[cX ade])) Xm dW bN zj)) je (c4 (eT jK (sA j (4*t - 1) bQ az wV (by have:=ht h;rw[cX af1]) dn aiP h4 o8)))))) dD eH dD eH];(.rw[oN];rw[Y3 hsf]at hx;rw[g! (jl (by rw[na,#[hx.1,hx.2.1,by omega]]))]);.rw[oN];rw[Y3 hsf]at hx;rw[g! (i4 (by cases fo<;>rw[na];by_cases h1:Mt.next PZ=fi;rw[.fz Nx (hx h1 dn aGS h2),mQ h1]))]
}
section _P
namespace _M
open hA hE hF _L
variable{n:Y}
def z:={
fits{x:cr}(h1: -(2^62)<=x)(h2:x<2^62):bh (Td x):=by unfold Td;rw[eY,po,po];exact aqv h1 h2
mI.four(h:n<2^40):mI 0 qn n 4 ((n+3)/4):=by(have e:Te 0 qn n 4=mA ((n+3)/4):=by unfold Te;simp only[(kO ((4:cr)>0)),if_true];split<;>omega);rw[wX (fG ab ab ?_ e) Builtin.Range.small];rw[e,fits ab ab,fits iV abT dn aBD h,fits ab ab,fits iV auC dn aEa h,gx ab,fits iV aEV dn apr h,Bool.or_true];rfl
}
section
variable{X:Cx}{σ:eo}{H:Hp}{bi pos' p1 p2:d8}{i3 pq:MY}{N:vf eo}{P:w2}{y:bt}
def z:={
aa0(i:Y){ea eb ec:d'}{lo hi st:cr}(J:Y->vf eo)(hp:PassesOwn (model x7 X.w) X.A ma X.xe)(qh:F6)(hN:NR)(hm:SG pt)(ha:ig eM GN [i0 lo,.f7 hi,.f7 st])(hn:mI lo hi st n)(h0:bc (J 0 σ) H)(hb:∀k a7 H1,qg->k<n->bc (J k a7) H1->Bd X (σ'.set i et .f7 (lo+xv*st)) H1 pq (λ d! H2=>J kB d! H2) P)(hr:∀a7 H1,qg->bc (J n a7) H1->Bd X a7 H1 i3 N P)(hg:QN (Gl X))(hs:kH GN f9 ea [eb,ec])(a_:zm (backTo p2 (NS [eb,ec] ma)))(ft:g6 (X.N[i]?=Z y))(hx:pU (Loc Hh y) sR._auto_1)(hf:pU (X.fn y=dr\/Tg y=Z .local) sL._auto_1)(mC:KR x L4 p1 GN p2 x):Bd X σ H (.For z3 L4 p1 GN p2 pq [] bi::i3) N P:=Bd.of (aP (iB hp qh (AD hg hm dU hs a_) (cy (i:=i) hN ft hx hf) fJ mC) fJ) λ H1 s1 D n' p=>by refine ch D0 vw vs (qK lo hi st n pw hn kj Am w8 (rX/\bc (J k a7) H') #[s2,ri h0.later]);(.rintro k a7 H' hk⟨s3,j⟩;exact(aE _ _ (hb k a7 H' ST hk j) (λ d! H4 s4 h=>#[w3,h]) GL s4 h (p v H4 w3 h)));.rintro a7 H'⟨s3,j⟩;exact(aE _ _ (hr a7 H' ST j) (λ d! H4 s4 h=>n' d! H4 w3 h) GL s4 h (p v H4 w3 h))
}
section z
section _M
namespace _P
open hA hE hF _L _M
variable{P:gV}{w:gX}{K:h?}{mg:hY}{de:ib}{c:Cs}
variable{α:Type}{X:Cx}{H:Hp}{r:MC α}
def z:={
jy.1(r:MC α):al:=match r with|xt f=>rG|.ok _=>[]
MO{a b:Y}(h:r=xt #[a,b]):jy r=[a,b]:=by rw[h];rfl
Nu{x:α}(h:r=.ok x):jy r=[]:=by rw[h];rfl
yY{σ:eo}{a b:d'}{bi:d8}{i j:Y}(ha:ip a (vN i))(hb:ip b (vN j))(hs:kH [a,b] f9 a [b])(d4:kH [b] f9 b []):m0 tb [a,b] bi gM [i,j]:=(nU (ae ha (ae hb ao d4) hs)).imp λ v H1 s1 h=>h
qj{σ:eo}{bi:d8}:m0 tb [] bi gM []:=(nU ao).imp λ v H1 s1 h=>h
ajX(A:a!)(T:iv):JO (wG "broken_range") j! gM (jy (op ac cd)):=or A.aL1 adh λ q e H hr hp U hU=>by rw[zR p q,wh aS ap aS,lP adh.nd,gm,<-P3 (aa0 1) (∃x1 x2,a7=[l7,x1,x2]/\M7) vg (cD ac ac O SJ) L7 k hk hJ GE a7 s1 hJ];(. (rw[dl (df x_ λ x1 x2 aU hP=>?_) aU]);rw[Eo oC FW (BE+xv*4=tI)];have jY:=kI;rw[dq];have pW:=hP.go oC;refine bz 2 nd (aT lN aEK hr ((a5 qp,p),k) AL au eP #[KU,oC]) ?_;refine aW mx gL aN dD Cd dD Bi c5 (cD _ _ O ?_);(. (have h0:r! p k≠0:=by rw[mV,Fm,cX WX]);rw[b? h0]at pW;rw[MO pW];exact yY aN oD AW au mb iV Fq);. (have h0:w5:=by rw[ws,Fm,cX Kv]);rw[g? h0]at pW;exact pW);. (rw[dl (df x_ λ x1 x2 a9 hP=>?_) a9]);rw[Nu (hP.done iV R9)];exact bg qj
apm(A:a!):PT (jx "map_end") (cd+3<=qw) (a.2+3+Gj (a.2+2) 0):=ts A.arp aHO λ q e H hr hp U hU=>by rw[EA p a q,wh bu ap bu];subst cB;rw[gm,aG qL au J! (a+2) Cg ap Gn]
abw(A:a!):jx "key_at" (RQ c0 v! [m6,tu] ci (d2 hX hV/\cd+2+Gj (a.2+1) 0<=qw) dV gM zx px):=ts A.auT ajB λ q e H hr hp U hU=>by rw[EA p a q,wh bV ap bV];subst cB;rw[gm,<-bg (iT tR P gM (px p a) az eW uk y (vN qH) pV au eW uk y (vN (qH+F1)) qL au J! (a+1) awS ap (Bk FE qp LE λ z H2 s2=>mW z ?_))];rw[aX,LV α PY ap];unfold uA px;rw[A5 (a+2+F1 - qH=F1) afu]
aDs(A:a!):PT (jx "sequence_end") (LM<qw) (LM+1+Gj LM 0):=ts A.ay5 UN λ q e H hr hp U hU=>by rw[EA p a q,wh cI ap cI];subst cB;have axk:a+2+F1<i2:=ap;rw[gm,ii im (bz 2 UN.nd) (vN (py p a)) q9 qL au J! (a+1) aIN axk,aG qL aN Aq bQ ap Gn]
yj.2(l:al):fm:=Mt.rising (λ x y=>dS (x<y)) l
HW:∀l:al,(bh (yj l))↔∀i,i+1<eZ->v4 i<l.getD (i+1) 0|[]=>#[λ _ i hi=>Kw hi _,λ _=>rfl]|[x]=>#[λ _ i hi=>Kw (Nat.lt_of_succ_lt_succ hi) _,λ _=>rfl]|x::y::r=>by show(bh (dS (x<y)&&yj (y::r)))↔_;rw[eY,po,HW (y::r)];constructor;(.rintro⟨h1,h2⟩i hi;cases i with|uB=>exact h1|succ i=>exact h2 i DA hi);.intro h;exact #[h 0 (by simp),λ i hi=>h uv (by simpa using hi)]
aMi{l:al}(h:bh (yj l))(h0:0<eZ)(hl:K!<256):bh (l.all gr dS (x<256)):=by rw[List.all_eq_true];intro x hx;obtain⟨i,hi,e⟩:=List.mem_iff_getElem.mp hx;(have mono:∀d j,j+d<eZ->v4 j<=v4 (j+d):=λ d=>by induction d with|uB=>exact iS j qN|succ d ih=>intro j hj;have h1:=ih j dn xY hj;have h2:=(HW l).mp h (j+d) dn Cg hj;rw[A5 (j+(d+1)=j+d+1) MD];exact akm h1 h2);have:=mono (DC - i) i dn aCa hi;rw[t8 kZ (i+(DC - i)=eZ - 1) afS hi];(have e2:v4 i=x:=by rw[Tj,Hk hi,e];rfl);exact yb (by exact avP hl e2 a6)
asQ(A:a!):JO (jx "rises") j! (v=.bl (yj cd)):=or A.aKH WA λ q e H hr hp U hU=>by rw[zR l q,wh aS ap aS,lP WA.nd,gm,<-MW 1 (lo:=1) (hi:=Sn) (λ k a7 _=>∃x1,a7=[l7,x1]/\∀i,i<k->v4 i<l.getD (i+1) 0) x8 O nd x9 d1 ai Db dn aLO ap (vg f8 ac λ i hi=>uc aHe hi) L7 k hk hJ GE a7 s1 hJ];(. (rw[dl (ah x_ ad x1 aU hP) aU]);have jY:=kI;(have dq:(1:cr)+xv=mA kB:=by exact ZZ);rw[dq];refine aW (bP d7 eW (c_ jY az au O) rJ OH eW (c_ (j:=k) jY az wV iV Pl) rJ ayz) dD (aG cM lw) dD Bi c5 Gt ?_;(.congr 1;symm;rw[<-NV,HW];intro h;have h1:=h k rJ OH;rw[k4 h2 hx,aad h2 h1]);.intro i hi;have h2:=ld hx;by_cases e:i=k;(.subst e;exact Xu h2);.exact hP i n3 o_ hi e);. (rw[Al x_ x1 hP]);refine aG cM KQ;symm;rw[h! HW λ i hi=>hP i dn ab4 hi]
ate(A:a!):wG "row_fits" (RQ c0 iW j! [vN bm,bS] ci (d2 bS cm/\y! cm/\0<bL cm) dV (v=.bl (NW bm cm))):=ts A.aGV aID λ q e H hr hp U hU=>by obtain⟨k,iq,l⟩:=q;rw[EB (λ bu ap h0=>n0 bu) ap h0];subst cB;(rw[wr NW,fy ta az A.g.N2 (aG cM lw)];.rw[mV];rw[Rs axz,gx (by rw[cX acp])]);(have eD:¬k=11:=by rw[kS abr]);have hg:l[DC]?=Z K!:=j2 MK Nat.sub_one_lt_of_lt h0;refine aW ta az A.g.MT dD (aG (cn (aT (asQ A) c? (a5 qp,l) e? au il #[Lh,ap]) je (bZ (gO cK (im cN (vN K!) au (oz ai) AT LE (M5 hg)) d3 A.g.amM))) lw) dD Cd;(.rw[mV,Et aJc];congr 1;dsimp only;show _=(yj l&&l.all gr dS (x<256));cases hr:yj l with|false=>rfl|dr=>rw[uC,uC,ux];constructor;(.intro h;have:=lc h;exact aMi hr h0 AY ahv);.intro h;have:=Ho h _ (yf hg);have:=lc a6;exact yb AY arZ);.rw[ws];rw[Rs aiu,b? eD];exact aT (Iz A) hr (a5 qp,l) e? au tg vX Lh EY eZ AG ap
fT.1:jp->cr|ac=> -1|Z b=>dp b
aKp(A:a!)(T:iv):PO (mq 4 "map_rule") (b+1<qw) E' pG:=Ah A.alW Yj λ q e H hr hp U hU=>by(rw[KB a a? q,jk dm λ bV ap a8 hb=>n0 bV];dsimp only at cB bQ ap a8 hb;rw[lP Yj.nd,gm];(rw[fy Ka eH];.rw[mV];unfold pG;rw[Et anO];rfl);have h4:oY (a+3):=by rw[kS aAt]);rw[El R R (gC pG=R)];rw[hR];rw[A? pG,gy wH aE8 h4];(rw[k5 oS M6 cZ];have rC:Qo _B.Dj (fK (b+1)<t7) b:=by cases a? with|ac=>simp[yg,yh,_B.Dj,fT]|gT b=>simp[yg,yh,_B.Dj,fT]);rw[<-dm rC λ e1 e2 e3 e4=>?_,QT bl e1 fo];generalize gC _B.Dj=b1 at hR e3;generalize hk:oh=k at hR e1 e2;generalize bJ:t7=sc at hR e3;rw[k5 hn F3 n,<-q5 nd mZ Fc NQ hk ?_];(have hbi:FX y (bh qR->∃b,vB/\Bq fT b/\Gd b):=λ{y}h=>by obtain⟨b,rfl⟩:=Ri e4.mp;exact c1 b O eW hb b);rw[Qi b0 (a?=ac) b];obtain⟨b0,A1⟩:=bb;(have iQ:bh qR->z2/\Bq fT b0/\Gd b0:=λ h=>by refine bM (hbi (y:=dr) h) λ b h1 h2 h3=>?_;rcases A1 with⟨h4,_⟩|h4;(.rw[cA h4 h1 h1]);.rw[cA h1 h4 h4,#[h1,h2,h3]]);((have Ms:pb qR (a?=ac):=λ h=>by cases a? with|ac=>rfl|gT b=>rw[jC (ld h) Gy fT]);rw[fy oA (bP eF bN (L1 jQ T.Vz)) (eB (lg K5 mx eF aN bN eW Fi j k bQ (by rw[Qn]))) eH];.rw[g! (jl (by rw[Jr,k4 h1 h1];rw[NZ,eY]at hx;rcases hx with h|⟨h3,h4⟩;(.rw[k4 h h];simp at h;exact ao0 h h1);.rw[FF e1.mp iQ h3,k4 h4 h4,adt h4 h5]))]);rw[uI]at hx;obtain⟨tG,cg⟩:=hx;(have xQ:xI:=by rw[wu tG];simp at a6;rw[cX amr]);rw[gy (i4 (by rw[EW,<-#[v? xQ,e1.mpr cL b iE]];cases h:qR with|false=>rw[ka (Ms h) iE iE]|dr=>rw[Jx h cg,wu cg];have h3:=vG.1;rw[cA iE h3 h3,cX yu])),<-xR nd mZ mu (a+1) bQ au xY bJ ?_,ii im (bz 5 nd) (.bl fo) oD (cn (gO eF aN ai) gt (bZ (dY bN (Fi j k bQ (by rw[Qn]) O)))) sb (by rw[ux,e2,eY];constructor;(.rintro⟨h1,h2⟩;exact(af b0 ((iQ h1).1) (by rw[oo h2 AN])));.rw[Qr h1 h4 h3])];((have jB:fo=dr->z2/\Bq fT b0/\Gd b0:=λ h=>by refine ah (e2.mp h) l! b h1;exact iQ JE b);rw[fy oA np (aT (ua A) c? dp sc e? dt zj) (eB (lg (cE (bO it) gt (c4 (bP d7 dt eW (sA j (b0+1) (k:=fK (b0+1)) bQ az FT (by rw[Ha.2.1];rfl)) Ha.2.2))))) eH];.rw[oK]at hx;rw[g! (jl (by rw[P0 h1 hx h2,FF e3.mp jB xJ,k4 h4 hx.2,aad h4 h5]))]);rw[oK,uI]at hx;rw[gy (i4 (by rw[EW,<-#[L8 xJ,?_]];cases hf:fo with|false=>rfl|dr=>rw[QY h2 hf h2];have h2:=ld h2;have h3:=(jB hf).1;rw[cA iE h3 h3,Xu h2])),JN (bz 6) (a+2) hn];((rw[fy (dF xd sh jK (CV (k:=Mt.mapMost k) T.Vz bN O xQ O)) eH];.rw[g! (jl (by rw[An,na,XT hx]))]);have om:0<n:=by simp at hx;exact anZ hx);rw[gy (i4 (by rw[na,Qv hx]))];((rw[fy (bP cK J? jK) eH];.rw[JY n3 aGa a6 h4]);have lR:oY (a+3+n):=by rw[kS aEs]);rw[gy wE i4 dn Nat.le_sub_of_add_le' lR];((have zq:uA m r_ (r_+n)=cZ:=by rw[<-oS];unfold uA _B.uJ;rw[hn,show a+3+n - r_=n by exact S4]);have yU:Hu=n:=by rw[<-zq];unfold uA;rw[Ch,Ci];exact apb lR);refine gI 7 nd (iT tR P gM cZ az eW uk y (vN r_) pV au eW uk y (vN (r_+n)) qL au jK (Bk FE qp LE λ z H2 s2=>mW z (by rw[aX,LV α O2 lR,zq]))) BR s1 hv ?_;(rw[dl (ah dX ad qr cI xp) cI]);(rw[fy np (aT (ate A) hr (k,c! qr,cZ) d1 bN (aa 7) eP #[mW qr xp,show Hu<=8192 by exact aDN lR yU ap,show 0<Hu by exact D_ om yU]) eH];.rw[g! (jl (by rw[IP]))]);rw[gy (i4 (by rw[IP])),<-aW (lg (cE (gg bN (ag A.g.MT)) je (cE (gg bN (ag A.g.N2)) je (c4 (X8 (m:=[sc]) hr.units rb (aa 7) vC H2 s2 nO qr iK xp (rb (nU (ae dt ao)) λ v H2 s2 h=>h)))))) dD eH dD eH];(.rw[g! (jl (by rw[na,#[by omega,by omega,hx.2.2]]))]);.rw[g! (i4 (by rw[na];by_cases h1:k=10;rw[mQ h1];by_cases h2:k=11;exact .fz (.f? h2);exact .fz (.fz (hx dn UD h1 dn aIa h2))))]
OC:∀x y:al,_E.lexLe (x.map xH z5 n) (y.map xH z5 n)=!Ck y x|[],_=>by cases‹al›<;>rfl|x::xs,[]=>rfl|x::xs,y::ys=>by show _E.lexLe (m_ x::xs.map _) (m_ y::ys.map _)=!(dS (y<x)||(y==x&&Ck ys xs));rw[_E.Li,OC xs ys];by_cases h:x=y;(.subst h;simp);.rw[wH Fx h,show(y==x)=false by simp;exact VA h,Bool.false_and,Bool.or_false,ux];simp
al5(A:a!)(T:iv):jx "comes_to_rule" (RQ c0 (sD×Br) th m6 (vN cm) ci (d2 hX hV/\bS<qw/\cm<3) kW (vN (_B.kJ E' _B.uW))):=Ah A.aEN acH λ q e H hr hp U hU=>by rw[KB a k q,EB (λ aS a8 hk=>n0 aS) a8 hk,lP acH.nd,El R R (_B.kJ (_B.uW m a k)=R),ii hU _,y6 hR,A? _B.uW,k5 hn oh n,<-q5 nd (Fc a8 hn) ?_];((rw[fy (dF xd sh bN (CV (k:=N4 k) T.aJ0 aN O hk O)) eH];.rw[g! (jl (by rw[An,na,XT hx]))]);have om:0<n/\n<=S2:=by simp at hx;exact Qv hx);rw[gy (i4 (by rw[na,aLL om]))];((rw[fy (bP cK J? bN) eH];.rw[JY AY ayV]);have lR:oY (a+1+n):=by rw[kS aBo]);rw[gy wE i4 dn agn lR];(have vI:0<k->sJ (m.drop p?) n=[t7]:=λ h=>by(have h1:n=1:=by(have:S2=1:=by rcases(show k=1\/k=2 by exact aBp h hk)with rfl|rfl<;>rfl);exact aBJ om a6);rw[h1,Tk (by exact Zm lR h1)];show[m[p?]]=_;rw[Tj,Hk (by exact Zm lR h1)];rfl);generalize hz:t7=z at vI;refine aW (lg (cE mx gL aN gt (c4 (bP eF (mu (a+1) bQ au n3 anW om lR hz) d3 A.g.aCe)))) dD eH dD eH;(.rw[Q8];(have h1:0<k:=by rw[oo xJ acw]);rw[k4 h2 hx.2];rw[vI h1,jl (by simp;exact aGZ h1 h2)]at hR;rw[<-hR];rfl);.rw[Bool.and_eq_false_iff]at hx;rw[g! (i4 (by by_cases h:k=0;(.rw[h];rfl);.rw[j2 vI Nat.zero_lt_of_ne_zero h];rcases hx with hx|hx;(.rw[ws,(aiN a6 h).elim]);.rw[ws];simp;rw[cX aFp]))]
akZ(A:a!)(T:iv):PO (wG "sequence_rule") (b+2+Gj (b+1) 0<=qw) E' pI:=Ah A.akH XG λ q e H hr hp U hU=>by(rw[KB a a? q,jk dm λ aU ap a8 hb=>n0 aU];dsimp only at cB bQ ap a8 hb;rw[lP XG.nd,gm];(rw[fy Ka eH];.rw[mV];unfold pI;rw[Et ar5];rfl);have h4:oY (a+2):=by rw[kS arY]);rw[El R R (gC pI=R)];rw[hR];rw[A? pI,gy wH am9 h4];simp only[List.cons_append,List.nil_append]at hR;(rw[k5 sQ Gq ky];have rC:Qo _B.C9 bh (Ck (px m b) ky) b:=by cases a? with|ac=>simp[yg,yh,_B.C9,fT]|gT b=>simp[yg,yh,_B.C9,fT,sQ]);rw[<-dm rC λ e1 e2 e3 e4=>?_,QT bl e1 fo];generalize gC _B.C9=b1 at hR e3;generalize hk:oh=k at hR e1 e2;rw[k5 hn t7 n,<-q5 nd mZ Fc xY hk ?_,Qi b0 (a?=ac) b];obtain⟨b0,A1⟩:=bb;(have iQ:bh qR->z2/\Bq fT b0/\oY (b0+2+fK (b0+1)):=λ h=>by obtain⟨b,eN⟩:=Ri e4.mp;rcases A1 with⟨h4,_⟩|h4;(.rw[cA h4 eN eN]);.subst h4;exact #[rfl,rfl,eW hb b0]);((have Ms:pb qR (a?=ac):=λ h=>by cases a? with|ac=>rfl|gT b=>rw[jC (ld h) Gy fT]);rw[fy oA (bP eF bN (L1 jQ T.QI)) (eB (lg K5 mx eF aN bN eW Fi j k bQ (by have:=vG.2.2;rw[cX adV]))) eH];.rw[g! (jl (by rw[Jr,k4 h1 h1];rw[NZ,eY]at hx;rcases hx with h|⟨h3,h4⟩;(.rw[k4 h h];simp at h;exact az3 h h1);.rw[FF e1.mp iQ h3,k4 h4 h4,adt h4 h5]))]);rw[uI]at hx;obtain⟨tG,cg⟩:=hx;(have j9:k<3:=by rw[wu tG];simp at a6;rw[cX az0]);rw[gy (i4 (by rw[EW,<-#[v? j9,e1.mpr cL b iE]];cases h:qR with|false=>rw[ka (Ms h) iE iE]|dr=>rw[Jx h cg,wu cg];have h3:=vG.1;rw[cA iE h3 h3,cX yu]))];(rw[JN xR (a+1) hn,fy (dF (sh d7 d7 (CV (k:=Mt.keyLeast k) T.aoS bN O j9 O) dt (CV (k:=Mt.keyMost k) T.QI bN O j9 O))) eH];.rw[g! (jl (by rw[An,na,aln hx]))]);rw[gy (i4 (by rw[na,aFq hx]))];((rw[fy (bP cK J? pV dt) eH];.rw[JY AY apY]);have lR:a+2+n<d?:=by rw[kS aJT]);rw[gy wE i4 dn aJV lR];(have c9:ky.length<=8192:=by rw[<-sQ];unfold px;rw[Ch,Ci];exact aLw ap);refine gI 5 nd P5 a au tg Lh (by show oY (a+2+fK p?);exact aJO lR hn) BR s1 hv ?_;(rw[Al dX qr xp]);rw[show px (((sd qp,m),a):v!).1.2 (((sd qp,m),a):v!).2=ky from sQ]at xp;have N3:=kI;rw[ii im (bz 6 nd) (.bl fo) oD (cn (gO eF aN ai) gt (bZ (dY bN (Fi j k N3 (by have:=vG.2.2;rw[cX adV]) O)))) sb (by rw[ux,e2,eY];constructor;(.rintro⟨h1,h2⟩;exact(af b0 ((iQ h1).1) (by rw[oo h2 AN])));.rw[Qr h1 h4 h3])];((have jB:fo=dr->z2/\Bq fT b0/\oY (b0+2+fK (b0+1)):=λ h=>by refine ah (e2.mp h) l! b h1;exact iQ JE b);rw[fy oA np (aT (Iz A) hr (a5 qr,ky) e? it eP #[vX mW qr xp,EY ky.length AG c9]) (eB (lg (cE (bO jK) gt (c4 (TV (akV (xY (jO hr))) (ns:=ky.map xH z5 n) (ms:=jL (px m b0) xH z5 n) it P5 b0 oD aN mb Ha.2.1 eP #[mW qp N3,Ha.2.2] ly u hu (af qr mc (x! (by rw[iK xp,nz];rfl))) ly u hu (by refine ah mc ad q2 e5 e6;exact(af q2 e5 (x! (by rw[e6,nz];rfl))))))))) eH];.rw[OC]at hx;rw[oN,g! (jl (by rw[P0 h1 hx h2,FF e3.mp jB xJ];rw[h5]at hx;rw[jC hx.2 ab]))]);rw[QL OC,oN,gy (i4 (by rw[EW,<-#[L8 xJ,?_]];cases hf:fo with|false=>rfl|dr=>rw[QY h2 hf h2];have h3:=(jB hf).1;rw[cA iE h3 h3];simpa using h2))];rw[<-hR];(have sP:py m a=a+2+n:=by rw[o6 py hn]);rw[sP];exact bg (aT lN al5 c? ((a5 qp,m),a+2+n,k) oi az q9 qL au dt bN eP #[mW qp N3,lR,j9])
}
structure PD(P:gV)(w:gX)(K:h?)(mg:hY)(de:ib)(fr fe:ak)(rl:al->Y->jp->Y)(en:al->BC)(res:al->al)(F7:Lq)(HS:Lq)(Pr:al->Y->Y->jp->Prop):Prop where
 hG:mn n6 P 4 fr (RQ c0 (sD×iW jp) th m6 (.f7 (fT cm)) ci PI b b (F7 hV b) kW (vN E' rl))
 fin:mn n6 P 4 fe (RQ c0 v! [m6,tu] ci (d2 hX hV/\zx HS) kW (vN zx en))
 uB:∀m,Pr m 0 0 ac
 le:∀m a i a?,A2->a<=d?/\∀b,vB->F7 m b
 bad:∀m a i a?,A2->o9->ML≠0->res m=[ML,i]
 next:∀m a i a?,A2->o9->gC rl=0->HS m a/\a<B7/\Pr m B7 uv Z a
 done:∀m a i a?,A2->SX->res m=[]
def z:={
SM(A:a!){fr fe:ak}{rl:al->Y->jp->Y}{en:al->BC}{res:al->al}{F7 HS:Lq}{Pr:al->Y->Y->jp->Prop}(G:mt PD de fr fe rl en res F7 HS Pr):mq 5 "broken_among" (RQ c0 j! [a.1,c! fr,c! fe] ci (d2 bm cd/\zn) dV gM (res cd)):=Ah A.aLW abe λ q e H hr hp U hU=>by rw[zR m q,wh aS ap aS,lP abe.nd,gm,<-q5 nd (oz ai) (xR nd ai (bz 5 nd ai ?_)),<-mw (λ z a7 _=>∃(a i:Y)(a?:jp)(x6:i1),a7=[l7,cx fr,cx fe,Z (.f7 (fT a?)),gu a,gu i,x6]/\A2/\z=qS) (λ _ _ _ _ _ h=>h) d? x8 (qK 0 0 ac ac O (G.zero m) O) (λ z a7 H1 s1 hJ=>?_)];(refine F5 hJ λ a i a? x6 aU hP a9=>?_;subst aU a9);have jY:=kI;rw[E? z9 (G.le m a i a? hP),<-(aZ _ (bP cK dt vq jY) ge ge)];(. (have ha:o9:=by rw[oj uz]);rw[ii im (bz 6 nd) (vN ML) (Jo 1 G.rule hr O oi az dt bN zp vs ch xa ((a5 qp,m),a,a?) dX (fG KU ap ha hb) Gw),fy mx gL jK Cd];(.rw[G.bad m a i a? hP ha (by rw[oj WX])];exact yY jK it);.refine bW (G.next m a i a? hP ha (by rw[kS Kv])) ad h1 h2 h3;refine q5 nd dt (im (xR nd) (vN B7) (Jo 2 G.fin hr O AL dt zp vs ch xa ((a5 qp,m),a) dX #[KU,h1] Gw) (lh 5 p5 nd O ai Bi c5 #[d? - B7,by exact Nat.sub_lt_sub_left ha h2,B7,i+1,Z a,_,rfl,h3,rfl])));. (have ha:SX:=by rw[kS yu]);rw[G.done m a i a? hP ha];exact bg qj
aDA(A:a!)(T:iv):∃fr fe,mg "map_rule"=cx fr/\mg "map_end"=cx fe/\mt PD de fr fe pG (λ m a=>a+3+fK qH) (λ m=>jy (Du ac m)) (λ m b=>Gd b) (λ m a=>oY (a+3)) (λ m a i a?=>∃ms,_B.js m a i a? ms):=by refine ah ((Ac aKp).at_) ad fr h1 h2;refine ah ((C? apm P P A).at_) ad fe h3 h4;refine #[fr,fe,h1,h3,h2,RO,λ m=>#[[],L?],λ m a i a? bx=>t! bx ms #[h.le,λ b hb=>by have:=h.hb b hb;have:=h.le;omega],λ m a i a? cw ha hz=>t! cw ms (MO (Hx ha hz)),λ m a i a? dA ha hz=>gq dA ms h,λ m a i a? eG ha=>t! eG ms (Nu (h.done ha))];have:=_B.J6 hz;exact #[AY Nv,by exact alI,_,h.next ha hz]
aAM(A:a!)(T:iv):∃fr fe,mg "sequence_rule"=cx fr/\mg "sequence_end"=cx fe/\mt PD de fr fe pI (λ m a=>Bh+1+fK Bh) (λ m=>jy (Ra ac m)) (λ m b=>oY (b+2+fK (b+1))) (λ m a=>Bh<d?) (λ m a i a?=>∃ms,_B.jG m a i a? ms):=by refine ah ((Ac akZ).at_) ad fr h1 h2;refine ah ((C? aDs P P A).at_) ad fe h3 h4;refine #[fr,fe,h1,h3,h2.mono ab,RO,λ m=>#[[],Ma],λ m a i a? kz=>t! kz ms #[h.le,λ b hb=>by have:=h.hb b hb;have:=h.le;omega],λ m a i a? lD ha hz=>t! lD ms (MO (Hx ha hz)),λ m a i a? ou ha hz=>gq ou ms h,λ m a i a? vR ha=>t! vR ms (Nu (h.done ha))];have:=_B.Kh hz;exact #[a6.2.2,by unfold py;exact aty,_,h.next ha hz]
}
section _P
namespace _M
open hA hE hF _L
def z:={
aii{Pr:gV}{w:gX}{q:ak}(h0:(q==sysModules)=false):MeetsIn Pr w (Builtin.«dict.__len__» #[[a5 q],[]]) (λ _ R s=>∃(n:Y)(ob:Obj)(en:Array DictEntry)(x:_),N5 q=Z ob/\ob.data=.dict en x/\en.size=n/\R (.ok (.ret (.f7 n Hy))) {s with toks:=Hy+1}):=.of_wp λ A R s bx=>Tb bx λ n ob en x g1 g2 g3 r=>by show A3 (dictSize q>>=_) _ s;unfold dictSize;apply i8;rw[rM (i8 (wpAny_dictEntries g1 g2 L0)) (A3 (Builtin.Dict.pendingCount q>>=_) _ s)];apply i8;refine wpAny_pendingCount_other h0 (wpAny_ret_mkInt ?_);rw[N6,g3];exact r
aKv{X:Cx}:kg X (.builtin "len") (λ xs H Q=>∃a aq,xs=[sd a]/\oL a dT/\Q i0 qn li H):=by intro iJ s σ H xs us Q I r h;(rw[jz h (λ a aq aS ha q=>?_) aS]);(rw[dl (ah (vals1 r) ad u aU ru) aU]);cases ru;refine iR (abh I.aR ha) λ z hd ys rel dd=>?_;have ap:li=ys.length:=rel.length;have ht:=dd.typeIs (s:=s);(refine Mc dd λ ob en x g1 _ g2 g3 _=>?_;have hsz:en.size=li:=by rw[ap];exact size_of_entries g3);rw[wX (Calls.call_function_entry kind_len plain_len entry_len (args_len1 _) ?_) Builtin.«len»,qP (i8 (m:=oneArg "len" _) (nA ?_)) (i8 (m:=callSpecial? a5 a Rn) (wpAny_callSpecial?_slot (name:=Rn) ht Tl (call_meetsIn Tl ht F.entry_dict_len (F.args_dict_len_1 _) (aii hd) #[li,ob,en,x,g1,g2,hsz,?_])))];show b! wpAny _ {s with toks:=Hy+1};refine i8 (N7 (nA Fl wpAny_letGo));rw[N9]at z;show lG A3 (if Rx<0 then _ else if Rx>=2^63 then _ else _);rw[rd X',wH alU z];exact i8 (wpAny_mkInt (nA (wF _ O i0 li H ((I.tok _).tok _) I7 q)))
}
section _M
namespace _P
open hA hE hF _L _M
variable{P:gV}{w:gX}{K:h?}{mg:hY}{de:ib}{c:Cs}
variable{H:Hp}{l:al}{X:Cx}{q:ak}{ps:y8 Cl}
def z:={
ad4{b e:Y}(hb:Mz b)(h:b<=e):g_ Nh Z dp b Z dp e=jL sJ (l.drop b) (e - b) vN:=by unfold g_;rw[_H.uS,_H.uS,el,N_ hb,N',Tm];by_cases he:(Mz e);(.rw[N_ he]);.rw[j2 Nat.min_eq_right Nat.le_of_not_ge he,QV (eZ - b) (by rw[Ci,el];exact aE7),QV (e - b) (by rw[Ci,el];exact aCM he)]
aII(A:a!):jx "is_capital" (RI xH (.bl (dS (65<=n)&&dS (n<=90)))):=c6 A.akg aMh ce b1 ck λ a f aK A' em s H0 H E hr hp=>by exact bg xd tH az ai
aI8(A:a!):jx "is_small" (RI xH (.bl (dS (97<=n)&&dS (n<=122)))):=c6 A.awN aFy ce b1 ck λ a f aK A' em s H0 H E hr hp=>by exact bg xd tH az ai
Ly.1(x:Y):fm:=dS (97<=x)&&dS (x<=122)
alx.1(l:MY)(i j:Y):uN:=match l[i]? with|Z (.Return Z (.BoolOp _ es _) _)=>(match es[j]? with|Z (.Call _ [.N? _ _ sc _] _ _)=>sc|_=>QB)|_=>QB
aph(A:a!):mq 2 "is_name" (RQ c0 j! [a.1] ci (cT H bm cd) kW (.bl (Ob cd))):=k7 A.ak8 ZD ce b1 ck λ a f aK A' em s H0 H E hr hp U hU=>by rw[wK v z,<-ah hp ad q hv hq,Jf hq,pZ hv ZD.nd,wr Ob];have eh:dc ["name","letter"] (aA F8) _ [("letter",1)]:=q6 (nu alx F8 0 2);(have h4:FX b (bh dS (Sr=4)->HD=4):=λ h=>by rw[oo h Ol]);(refine mL lb (cn (dY (dj (m:=HD) jQ az zD zS q (.fz (Cm nN)) K4) ai) gt (cn Aa aII mA S8 (im bU (vN S8) az ai AT LB ?_) je (bZ (e9 g9 (vP (bs:=jL Ni Ly)) A.g.xo rb (zB 1 (xs:=jL Ni vN) (f:=gr (sb (Ly (eR x)))) O nd eh (iT aan P (cT H v Ni) (i:=1) az ai Bk (jg q _ mc LB ?_ (λ p H2 s2=>mW p ?_))) (λ u H1 s1 cw=>o? cw a uf (Cm h)) ck ?_ (λ s' dH C cl fp k x hk=>?_) sZ) tc u dA o? dA a uf LP h GS O)))) tc u e ?_;(.rcases z with _|⟨a,z⟩;(.rw[jC L6 ab]);.exact b_ (j:=0) O);.rw[el,L6];decide);((.rw[aX];congr 2;have h5:=h4 (b:=dr) h;(rw[P7 z d z];((.cases h5);.cases h5);(.cases h5);.cases h5);(.rfl);.cases h5);.rw[el,Ci,L6];exact iY ab);(. (rw[Ek hk a9 a9]);refine(Aa aI8 dp m au).imp λ v _ _ e=>?_;rw[e,gR];exact r? sb (by rw[o6 Ly ux,rR alg]));.rw[e];congr 1;(have e1:(HD==4)=dS (Sr=4):=by rw[wz,rR asZ]);rw[e1,List.all_map];congr 1;congr 1;rw[wz,rR axo]
aLI{σ:eo}{a b:d'}{bi:d8}{m:al}(hu:X.A.units+64<cLine)(ha:ig Ev a λ v H=>∃q,nn/\aJ X.K H q Nh)(hb:ig Ev b λ v H=>∃q,nn/\aJ X.K H q (m.map vN))(hm:pU (behindInMarks .Eq b=false) _L.gH._auto_1):ip (.Compare a [.Eq] [b] bi) (.bl (l==m)):=Q6 (tK (OQ hu) aI aI hm) NT (eS ri hb.later λ v H3 s3 hv=>by refine ah (hu H3 s3) ad q1 e1 h1;refine ah dX ad q2 e2 h2;subst e1 e2;refine(fM (.tuple (dN l)) (.tuple (dN m)) (.tup h1 (wJ l)) (.tup h2 (wJ m)) (E4 l) (E4 m) (q _ H3 F0 KQ));rw[PyData.eqv,F9])
SK{σ:eo}{o:d'}{p bi:d8}{aq:o0}{n:Y}(hm:eX (pt "len"))(ho:lW o q)(hq:oL q dT)(hn:li=n)(hg:g6 (Gl X "len"))(he:kH [o] f9 o [])(a_:zm zd []):ip lM (.pu "len" p) [o] (vN n):=uU aKv hm Tq (ae ho ao he) (λ vs H5 s5 w9 Q q'=>(aE q aq w9.now pd hq (by rw[h! hn (q' _ H5 Go Gn)]))) hg ab ab he a_
C1.1(H:Hp)(q:ak)(hv:Ft):Prop:=∃aq:o0,oL q dT/\(∀z,n5 ue uO z=Od z)/\li=Cp
C1.later{H':Hp}{hv:Ft}(h:C1 H q hv)(s:kl):C1 H' q hv:=by refine ah h ad aq h1 h2;exact(af aq Bt h2)
anB(A:a!)(T:iv):wG "name_fits" (RQ c0 (sD×iW (ak×Ft)) th m6 c! dE ci (cT H hX hV/\C1 H dE e!) kW (.bl (yk hV bS e!))):=Ah A.aFX ain λ a e H hr hp U hU=>by obtain⟨⟨v,z⟩,t,qd,hv⟩:=a;obtain⟨⟨q,ZE,hq⟩,aq,Wy,lu,c9⟩:=hp;dsimp only at ZE hq Wy lu c9;subst ZE;rw[wr yk,fy oA np (aT (aph A) hr (a5 q,z) e? az I!) (du (Zp (z:=Od z) (jO hr) az aN (λ u y H1 s1 h1 h2=>?_)) je (eB (bP eF au d3 A.g.aAx))) (aG cM KQ)];((.have e1:=h1.now;have e2:=h2.now;subst e1 e2;exact ti qd (F4 dJ.t z gY Wy (by rw[h! wb nN])) (lu z));.symm;rw[An];intro h;rw[Kr h,oN];rw[h.1,h.2.1|>(Oh _).mp]at hx;rw[k4 h3 h.2.2.1];simp at hx;exact agT hx h3);.rw[QL uI,<-bW hx ad tG cg BQ];dsimp only at tG;((have hn:bh (Ob z):=by simpa using tG);have ht:t<64:=by have:=ld BQ;rw[cX asi]);rw[hn,cg,v? ht];refine yP T.X5 λ an t0 t1 t2 hm hs hs0 fH d4=>?_;refine mL lb (fP (gO eF au P? dj m an) gt (bZ (aLI (m:=SC []) (De hr) rb az AI s1 q LB (?_:Ev _ _ _ _ λ v H=>∃q,nn/\aJ K H q GM SC [])))) (λ u H1 s1 e=>?_);(. (have ht3:t<3:=by have:=ld h;rw[cX alH]);rcases kZ (t=0\/t=1\/t=2) aJM ht3 with rfl|rfl|rfl;((.exact(mH bU t0 D! au il qc (hs H1) (b_ (j:=0))).imp AI s1 t0 (hs0 H1));.exact(mH bU t1 D! au il qc (hs H1) (b_ (j:=1))).imp AI s1 t1 (fH H1));.exact(mH bU t2 D! au il qc (hs H1) I8 j).imp AI s1 t2 (d4 H1));.rw[e];congr 1;rw[uC,Bool.not_false,uC,uC];congr 1;rw[wz,rR ahc]
o1.1(n:al):al:=match SP [] n with|xt f=>rG|.ok ns=>L9 (0<pJ/\pJ<3) [16,pJ]
agq(A:a!)(T:iv):JO (mq 4 "broken_name") j! gM (o1 cd):=c6 A.aoM aca ce b1 ck λ q f aK A' em s H0 H E hr hp=>by rw[zR n q,sS aU ap n0 aU];dsimp only at cB bQ ap⊢;rw[lP aca.nd];have hU:=jO hr;rw[wQ eE dL BB XR qM g9 AD x9 dU Bz (aP dL vY aI eE K8 (tV hU pk r' Cj O) dg) (aP (iA dz qF dg) qF) n' p];intro r fN;have jY:=kI;have yA:(upd H1 r (.dT [])) qp=Z og n.map:=cS fN _ _ jY;refine ch oi ai vq yA ai ly vs ev (qK 0 qn yl 4 ((yl+3)/4) ev.now JF Iq kj Am w8 (∃(x2 x3:i1)(hv:Ft),a7=[l7,rj,x2,x3]/\rX/\C1 H' r hv/\_B.qy n k hv) (b8 ac ac ([]) O ((cS fN).jR s2) xa [] iK aX (λ z=>rfl) (_B.qy.zero n)));(.rintro k a7 H' hk⟨x2,x3,hv,rfl,sH,hN,hT⟩;rw[Eo oC (4*k<yl) (BE+xv*4=tI)];rw[dq];have pD:=bd sH jY;have pW:=hT.go oC;generalize hz:_B.n4 n k=z at pW;refine At cT z (iT E2 Po gM z (xs:=z.map vN) HE (iT tR P gM z az aN eW uk y (vN (4*k+4)) FT (Gr FE qp rk pD λ p H4 s4=>f8 p db (by rw[aX,ad4 Q0 oC iV aho,<-hz];unfold _B.n4;rw[A5 (4*k+4 - 4*k=4) apC]))) Gr (by refine ah mc ad q e1 e2;exact(af q e1 ey e2))) λ nv H3 s3 hnv=>?_;(rw[Al hnv.now qz hqz]);have Wv:=hN.later s3;refine ch np (aT lN anB hr ((a5 qz,z),k,r,hv) oi bN oD AW aN mb (by show tI/4=dp k;exact Fq) au j7 #[f8 qz db hqz,SV]) Kj;(.rw[jn gK (¬bh (yk z k hv))];rw[b? gK]at pW;(have y4:o1 n=[16,k]:=by rw[o6 o1 pW]);refine eS (yY (i:=16) (j:=k) ai oD AW aN mb (by show tI/4=dp k;exact Fq)) λ v H5 s5 w9=>p v H5 (uP (nw (HF s5))) (by rw[fY y4 w9]));.rw[jn aR bh (yk z k hv)];rw[g? aR]at pW;refine bM SV λ aq uT lu c9=>?_;((have hc:Od z=false:=by unfold yk at aR;rw[Kr aR];simpa using aR.2.1);have zr:k<64:=by unfold yk at aR;rw[Kr aR,lc aR.2.2.1]);have aqz:=hT.num;refine #[_,rfl,_,rfl,r,_,rfl,F4 ja.t z uT (by rw[h! wb db hqz]) (iY (by exact aFK c9 aqz zr)),?_];(have ng:eX ue uO z:=by have:=lu z;rw[t9 hc,Option.isNone_iff_eq_none.mp (by rw[<-Option.not_isSome];rw[LQ])]);(refine(b8 _ _ (z::hv) O sC b' o' hb (aZ _ aX IU y ?_) pW);(.rw[aV (c7 hb fN)];exact db gh kR sH);.rw[ko];by_cases e:y=z;(.subst e;rw[nX];simp);.rw[b? gt (e (Gm h)),lu y,List.contains_cons];simp[e]);.rw[Hj _ ng,uQ,List.length_singleton,c9];rfl);.rintro a7 H'⟨x2,x3,hv,rfl,sH,⟨aq,gA,lu,c9⟩,hT⟩;obtain⟨hd1,hd2⟩:=hT.done (by exact R9);(have y4:o1 n=L9 (0<Cp/\Cp<3) [16,Cp]:=by rw[o6 o1 hd1];dsimp only;rw[IS List.length_reverse]);refine F5 T.X5 λ an t0 t1 t2 hm hs _=>?_;refine ch (sh cK cK ai (SK jQ au gA c9) P? dj m an) Kj;(.rw[Q8,k4 h1 xJ,k4 h2 hx.2];rw[gx (by exact aC8 h2 h1)]at y4;exact eS (yY (i:=16) (j:=Cp) ai (SK jQ au db gA c9)) λ v H5 s5 w9=>p v H5 JJ uP s5 (by rw[fY y4 w9]));.rw[lf (by simp at hx;exact aCj hx)]at y4;exact eS qj λ v H5 s5 w9=>p v H5 JJ uP s5 (by rw[fY y4 w9])
aIo(A:a!):mq 2 "is_walked" (RQ c0 Br [vN bm,tu] Gg kW (.bl (_B.wk bm cd))):=ts A.aiZ agy λ a e H hr hp U hU=>by rw[wK k x,ii hU _,<-mL lb (fP (Dm az (ae d3 A.g.v7 d1 d3 A.g.sI d3 A.g.Fw)) je (bZ (cn (dY az (ag A.g.MP)) je (bZ (aT (ml A) hr (m_ x,(12:cr)) d1 au d3 A.g.yc B? zW (BE<=12)))))) (λ u H1 s1 e=>?_)];rw[e];rw[Fz _B.wk];rw[show iP dp x 12=x.testBit 12 from jc _ 12];congr 2;(.rw[wz];show(bh ((_:cr)==(_:cr)||((_:cr)==(_:cr)||((_:cr)==(_:cr)||false))))↔_;rw[rR auF]);.congr 1;rw[wz,rR Yt]
Bw{p:al}(h:m8 op p ps):∀k,4*k<i2+4->M7/\(4*k<i2->w5):=by(have step:∀k,M7->FW->w5:=λ k hP hk=>by have:=hP.go hk;by_cases e:w5;(.exact e);.rw[b? e,h]at a6;cases a6);intro k;induction k with|uB=>exact λ _=>#[SJ,step 0 (_B.i6.zero p)]|succ k ih=>intro hk;obtain⟨h1,h2⟩:=j2 ih NQ hk;have:=j2 h1.go X1 hk;rw[t8 (gx (h2 rJ X1)),#[a6,step _ a6]]
K7{p:al}{k:Y}(h:w5):4*k+4<=i2/\rh<=re:=by rw[ni r!];split at h;(.cases h);.refine #[dn Cq L_,?_];have:=_B.BN ce _B.Na h _ Kt Tr _ HH;rw[QG eY a6,a6.2]
vt.2(p:al):Y:=Ll p Ge
AB.1(p:al):al:=L9 (4096<vt p) [17,0]
GD{p:al}(h:m8 op p ps):MA=0/\ps=nB p Ge:=by(have h0:MA=0:=by by_cases e:MA=0;(.exact e);.have:=K7 ((Bw h Ge iV adG).2 dn aJR e);rw[cX aCU]);have:=j2 (Bw h Ge iV adG).1.done axJ h0;rw[t9 h,#[h0,Except.ok.inj a6]]
aod(A:a!):PW (wG "broken_walk") ps gM (AB cd):=or A.aG1 acs λ q e H hr hp U hU=>by rw[QK p uM acs.nd,gm,<-bz 1 nd ai ?_,<-P3 (aa0 2) (∃x2,a7=[l7,Z (vN (HI M9)),x2]) vg #[ac,rfl] L7 k hk hJ GE a7 s1 hJ];(.obtain⟨x2,rfl⟩:=x_;rw[Eo oC FW (BE+xv*4=tI)];have jY:=kI;rw[dq];obtain⟨KG,jN⟩:=K7 ((Bw uM k rJ NI).2 oC);(have zU:HI (nB p kB)=Ll p k+if(bh (_B.wk rF AM))then re+1 - rh else 0:=by rw[_B.OM,_B.aCR];rfl);generalize Ll p k=G at zU⊢;refine A8 qJ H2 (∃x2,d!=[l7,Z (vN (HI (nB p kB))),x2]) (bO (aT (aIo A) hr (rF,AM) d1 Aq jY rJ Bl wg (4*k+3) jY SH zj)) ge dD Bi c5 #[gu (4*k),?_] ly d! h (c5 h);(.refine lh 1 p5 nd O pV (aY cV wg (4*k+2) jY VT wg (4*k+1) jY Y4) Bi c5 #[gu (4*k),?_];.rw[oN];rw[zU,g? hx];show[et sd qp,et mb (m_ G+((re:Y) - r4 rh+1)),_]=_;rw[kZ (dp G+(((re:Y):cr) - mA rh+1)=mA (G+(re+1 - rh))) axO jN]);.rw[oN];rw[zU,lf (by rw[hx];decide)];rfl);.obtain⟨x2,rfl⟩:=x_;(have hn:S7/4=S5:=by exact Wz h4);rw[hn];unfold AB vt;refine aW (bP gL au d3 A.g.aji) dD Cd dD Cd;(.rw[gx (by rw[oj az2])];exact yY (i:=17) (j:=0) ai ai);.rw[lf (by rw[kS aym])];exact qj
wM.1(H:Hp)(v:V)(r:Ed):Prop:=∃q v0 v1 v2 v3,nn/\RN k9 q BG v1 v3
iy.1(a b:al):al:=if a=[]then b else a
Cf.1(r:Ed):al:=iy (iy (iy (iy (jy (op ac r.1)) (jy (Hv (jH r.2.1+1) 0 ac rc))) (jy (yi (jH r.2.2.1+1) 0 ac z7))) (o1 z8)) (AB r.1)
K2{a b:al}(h:iy a b=[]):a=[]/\b=[]:=by rw[ni iy];split at h;(.exact #[L_,h]);.rw[jC h L_]
avb{α:Type}{r:MC α}(h:jy r=[]):∃x,r=.ok x:=by cases r with|uy f=>cases h|ok x=>exact #[x,rfl]
s_{v:V}(h:gM l):xc K v H MB:=by obtain⟨q,rfl,h⟩:=h;rw[mQ #[_,ey h,by rw[List.isEmpty_map]]]
aic(A:a!)(T:iv):mq 6 "broken_record" (RQ c0 (V×Ed) [a.1] ci (wM H bm cd/\bL bS+bL dE+bL nj+bL oq<=8192) dV gM (Cf cd)):=or A.aKE Ve λ a e H hr hp U hU=>by obtain⟨v,p,m,sq,n⟩:=a;rw[sS aU ap (yd aU λ q v0 v1 v2 v3 hv hq h0 h1 h2 h3=>?_)];dsimp only at hv hq h0 h1 h2 h3 ap;rw[pZ hv Ve.nd];have row:∀{X:Cx}{H1:Hp}{σ:eo}{o:d'}{bi p2:d8}{j:Y}(i:Y)(v:V),X.K=K->qg->BG[i]?=Z v->w7 H1 o a5 q->w7 H1 Dy (.yn i0 dp i j p2) bi v:=λ{X}{H1}{σ}{o}{bi}{p2}{j}i v hK s1 hi ho=>cN ho ai eP ch ey iK nN NL;rw[<-aO Ac aDA λ f1 g1 m1 m2 G1=>?_,<-aO Ac aAM λ f2 g2 m3 m4 G2=>?_,wr Cf];dsimp only;(have yes:∀{l:al},bh (!MB)->l=[]:=λ h=>by simpa using h);(have no:∀{l:al},pb (!MB) (l≠[]):=λ h=>by simpa using h);refine gI 1 nd (aT lN ajX c? (v0,p) e? A9 (row 0) v0 Go tg (b! gB s1 h0) q_ i2 LH ap) GE b1 s1 qE;dsimp only at qE;generalize ha:jy (op ac p)=a0 at qE;(refine A8 qJ H2 Fp v q Kb (dF (n_ au w' (by rw[oG s_ uu qE]))) ge dD (c5 eP f8 b1 (by rw[EV qE H2 s2])) ly d! hj ?_;.rw[yes hx];rw[EM (aT (SM A G1) hr (v1,m) oi A9 (row 1) v1 s1 (lK m1) (lK m2) eP #[vu ga s2 h1,q_ d? Eg ap]) nQ H3]);((rw[dl (ah HK l! b2 a9) a9]);have nQ:bc (λ H=>d2 b2 Kb) H2:=λ H3 s3=>by rw[Kf H3 s3 e]);generalize oa:Kb=a1 at nQ;(refine A8 qJ H2 Fp v q Km (dF (n_ au w' (by rw[oG s_ uu nQ]))) ge dD (c5 eP f8 b2 (by rw[EV nQ H2 s2])) (λ d! H3 s3 hj=>?_);.rw[yes hx];rw[EM (aT (SM A G2) hr (v2,sq) oi A9 (row 2) v2 SY (lK m3) (lK m4) fW #[b! gB EK h2,q_ sq.length OI ap]) nQ H3]);((rw[dl (ah HK l! b3 bu) bu]);have JD:bc (λ H=>d2 b3 Km) H3:=λ H4 s4=>by rw[Kf H4 s4 e]);generalize yz:Km=a2 at JD;have t3:=ga (kC s3);(refine A8 qJ H2 Fp v q Mx (dF (n_ au w' (by rw[oG s_ uu JD]))) ge dD (c5 eP f8 b3 (by rw[EV JD H2 s2])) (λ d! H4 s4 hj=>?_);.rw[yes hx];rw[EM (aT lN agq c? (v3,n) e? A9 (row 3) v3 t3 j7 #[vu Om s4 h3,q_ yl Nat.le_of_add_left_le ap]) nQ H3]);((rw[dl (ah HK l! b4 bV) bV]);have J7:bc (λ H=>d2 b4 Mx) H4:=λ H4 s4=>by rw[Kf H4 s4 e]);generalize Ux:Mx=a3 at J7;have t4:=Om s4;(refine A8 qJ H2 Fp v q (iy a3 (AB p)) (dF (n_ au w' (by rw[oG s_ uu J7]))) ge dD (c5 eP f8 b4 (by rw[EV J7 H2 s2])) (λ d! H5 s5 hj=>?_);.have e3:=yes hx;rw[e3];(have ok0:jy (op ac p)=[]:=by rw[ha];rw[e3]at Ux;rw[(K2 Ux).1]at yz;rw[(K2 yz).1]at oa;exact(K2 oa).1);rw[EM (aT (aod A) c? (v0,p) e? A9 (row 0) v0 t4 j7 #[vu t4.trans s4 h0,q_ i2 LH ap,avb ok0]) nQ H3]);(rw[dl (ah HK l! b5 cI) cI]);exact mL lb au vC H6 s6 (by refine ah (hj H6 s6) ad v' e' h;cases e';rw[fY e h])
}
section _P
namespace _M
open hA hE hF _L
variable{eb:d'}
structure IY(H1 H':Hp)(D:ak)(qs:kc):Prop where
 at_:H' D=Z So
 nd:On
 off:D∉qs
 d0:eX (H1 D)
 q0:∀q∈qs,eX (H1 q)/\H' q=et .lst []
 same:rX
section
variable{X:Cx}{σ:eo}{H:Hp}{lj:uN}{own:LC}{y:bt}{bi pos' p1 p2 lp:d8}
def z:={
Jy(i:Y){n:Y}(ha:ig eM wB [i0 qn n])(hn:n<=100)(hw:∀x,I0 KD=Jc):tO (∀Q:VK,(∀D qs H2,S3->IY H1 H2 D qs->Q ND H2)->mB (Of (B' X wB)) (dC i) kd (Gc vO) (HL (·.2)) σ H1 Q):=by intro H1 s1 Q q;refine ch D0 vw vs (fE qn n pw iV abT dn aCg hn (λ D hD=>kj Ss (zH (g:=dC i) (tt:=kd) (te:=Gc vO)) vs D (λ k H'=>∃qs:kc,Oo=k/\IY H2 H' D qs) #[[],rfl,aX,List.nodup_nil,ul,hD,ul,cS hD]));(.rintro k H' hk⟨qs,fX,L⟩;(have cj:k<n:=by exact Cg hk);refine #[hw _,wR,cL r hr];(have LN:r≠D:=λ e=>by rw[f' L.at_ hr hr]);(have Zv:r∉qs:=λ h=>by rw[ka (L.q0 r h).2 hr hr]);refine #[qs.map sd,by rw[aV (sg LN)];exact L.at_,by rw[JV (show _<=100 by exact ajY fX cj hn)],qs++[r],by rw[uQ,fX];rfl,?_];(refine #[by rw[aX,yo];rfl,?_,?_,hD,?_,?_];(.rw[h! Tv #[L.nd,ul,λ a h1 b h2=>by simp at h2;subst h2;exact λ e=>Zv (e▸h1)]]);.simp only[List.mem_append,Ty];rintro(h|h);(.exact L.off h);.exact LN h.symm);(.intro z hz;rcases E5 hz with hz|hz;(.have hzD:z≠D:=λ e=>L.off (e▸hz);have hzr:z≠r:=λ e=>Zv (e▸hz);exact #[(L.q0 z hz).1,by rw[aV hzD,aV hzr];exact(L.q0 z hz).2]);.rw[Ty]at hz;subst hz;exact #[L.same.free hr,by rw[aV LN,aX]]);.intro b o hb;rw[aV (c7 hb hD),aV (c7 SB hr)];exact SB);.rintro H'⟨qs,fX,L⟩;exact q D qs H' (by rw[fY fX aHz]) #[L.at_,L.nd,L.off,s2.free hD,λ z hz=>#[s2.free (L.q0 z hz).1,(L.q0 z hz).2],kC L.same]
Pp(i j:Y){z:bt}{pz i7:d8}(hc:F6)(hN:NR)(ok:dc X.N Hh lj own)(hm:SG pt)(hg:∀(s:ll)(H:Hp)(C:ak)(cl:AE)(fp:kc),PG Jh H cl fp z3 (dC i))(qX:QN (Gl X))(rO:g6 (IO wB=[(false,f9 eb)]))(hz:g6 (X.N[j]?=Z z))(nM:g6 (Tg z=Z .local))(mo:g6 (swapsWith Q3 Z (.pu z pz) i7.line ma=pure dr))(hs:KR x L4 p1 wB p2 x):PS X (.Assign [.pu z pz] Q3 i7) (λ D σ H=>mB (Of (B' X wB)) (dC i) kd (Gc vO) (HL (·.2)) σ H λ x H2=>D.nx (σ.set j DF) H2):=xS (i:=j) hc hN hz nM mo (Cz qX hm dU rO) ok hg Ny (λ _ _ _ _ _=>He) hs
Ae{es:ke}{PL:g7->Hp->Prop}{x1}(ha:tW fB PL)(hl:∀vs H,G5->Sl):m0 (.Cr es x1 bi) (∃a vs,rU/\oE a vs/\G5):=RJ Uw vs H2
}
section z
section _M
namespace _P
open hA hE hF _L _M
variable{P:gV}{w:gX}{K:h?}{mg:hY}{de:ib}{c:Cs}
variable{α:Type}{H H1:Hp}{qs:kc}{ls:Da α}{R:rI}{q:ak}
structure jm{α:Type}(R:rI)(H1 H:Hp)(D:ak)(qs:kc)(ls:Da α):Prop where
 at_:fx D So
 nd:On
 off:D∉qs
 d0:eX (H1 D)
 q0:∀q∈qs,eX (H1 q)
 same:mE H
 len:Oo=ls.length
 has:∀(i:Y)(q:ak),qs[i]?=Z q->∃xs l,ls[i]?=Z l/\k9 q xs/\oT R xs l
def z:={
rT.1(R:rI):Prop:=∀(H:Hp)(a:ak)(xs ys:g7)(v:V)(x:α),k9 a xs->R H v x->R Lu v x
xf:rT cT:=λ H a xs ys v x ha bx=>o? bx q nO q (by rw[aV g8 (by rw[f' h ha ha])];exact h)
art:rT mG:=λ H a xs ys v x ha cw=>o? cw q nO q (by rw[aV g8 (by rw[f' h ha ha])];exact h)
arJ:rT jt:=λ H a xs ys v x ha dA=>F2 dA q (aE q y e (by rw[aV g8 (by rw[f' h ha ha])];exact h) E1)
aCE:rT lq:=λ H a xs ys v x ha eG=>gQ eG λ q y z e h t u=>(b8 q y z e (by rw[aV g8 (by rw[f' h ha ha])];exact h) E1 Do u)
jm.later(hu:Up R){H':Hp}{D:ak}(h:jm R H1 H D qs ls)(s:kl):jm R H1 H' D qs ls:=#[nS uR,h.nd,h.off,h.d0,h.q0,h.same.trans s,h.len,λ i q hq=>by refine aO (h.has i q hq) Nb xs l h1;exact(aE xs l h1 nS h2 (gs B? (hu _ _ _ _ s) h3))]
awX(h:On){i j:Y}(h1:qs[i]?=Z q)(h2:qs[j]?=Z q):i=j:=by obtain⟨a1,a2⟩:=Os h1;rw[Qk b1 b2 h2];rcases Nat.lt_trichotomy i j with e|e|e;(.exact pE (a2.trans b2.symm) (TA h i j a1 b1 e));(.exact e);.exact pE (b2.trans a2.symm) (TA h j i b1 a1 e)
jm.add(bw:rT R){D:ak}(h:jm R H1 H D qs ls){k:Y}{xs:g7}{l:rY}{v:V}{x:α}(hq:qs[k]?=Z q)(hl:ls[k]?=Z l)(hx:k9 q xs)(hp:oT R xs l)(hv:R H v x):jm R H1 sF q (.lst (xs++[v])) D qs (ls.set k (l++[x])):=by have hm:=yf hq;have hD:D≠q:=λ e=>h.off (e▸hm);refine #[by rw[aV hD];exact uR,h.nd,h.off,h.d0,h.q0,ad b o hb,by rw[fY List.length_set h.len],ad i r hr];(.rw[aV (c7 hb (h.q0 q hm))];exact kR h.same);.have c9:=qx hl;by_cases e:i=k;(.rw[f' hq hr hr,<-(aE (xs++[v]) (l++[x]) (by rw[List.getElem?_set_self c9]) aX ?_),TB (gs (λ a b p9=>b! bw _ _ hx p9) hp) (b! bw _ _ hx hv)]);.refine aO (h.has i r hr) λ ys m g1 g2 g3=>?_;refine(aE ys m (by rw[List.getElem?_set_ne (sg e)];exact g1) ?_ (gs (λ a b p9=>b! bw _ _ hx p9) g3));rw[aV (show r≠q from λ e2=>e (awX h.nd hr (by rw[fY e2 hq])))];exact g2
abu{α β:Type}{F:mi α β}:∀(l:rY)(m:GK),eZ=d?->(∀(i:Y)(a:α),l[i]?=Z a->∃b,m[i]?=Z b/\F a b)->fu F l m|[],[],_,_=>iw|[],_::_,h,_=>by simp at h|_::_,[],h,_=>by simp at h|a::l,b::m,h,g=>by refine ah eW (g 0) a ad b' e hf;cases e;exact G8 hf (abu l m DA h λ i x hx=>g uv x hx)
jm.lst{D:ak}(h:jm R H1 H D qs ls):eC (eC R) H ND ls:=by rw[<-ti D uR (abu _ _ (by rw[fY el h.len]) ad i v hv),Ak hv];cases hq:qs[i]? with|ac=>rw[cA hq hv hv]|gT q=>rw[cA hq hv hv,<-aO (h.has i q hq) Nb xs l h1,g9 (wF l h1 q xs) h2 h3]
jm.new{R:Hp->V->vk α->Prop}{D:ak}{n:Y}(h:IY H1 H D qs)(hn:S3):jm R H1 H D qs (pK n ([]:AP)):=#[uR,h.nd,h.off,h.d0,λ q hq=>(h.q0 q hq).1,h.same,by rw[o6 pK hn];simp,λ i q hq=>(aE ([]) ([]) (by have:=qx hq;rw[q7 n3 TC a6 hn];rfl) ((Ep h.q0 q hq).2) iw)]
ayw{p:al}{k:Y}(h:w5):rF<14:=by rw[ni r!];split at h;(.cases h);.have:=_B.BN ce _B.Na h _ HH;rw[QG eY a6,NA]
aBg(A:a!):PW (jx "range_records") ps (eC (eC mG) H v (Nk (nB cd ((jH a.2)/4)))):=or A.ars Vj λ q e H hr hp U hU=>by rw[QK p uM Vj.nd];have eh:dc ["numbers","records","at","kind"] (aA Fy) _ [("kind",3)]:=q6 nu mU Fy;rw[gm,wQ JW (Pp 3 1) qM g9 AD x9 dU Bz GA JM ji pk n' pp,Fz oX,M? (Jy 3 (n:=14)) A.g.ahC r];have yA:=bd hN.same kI;refine ch oi ai vq yA ai B! vs ev (qK 0 qn i2 4 ((i2+3)/4) ev.now JF Iq kj Am w8 (∃(x2:i1),a7=[l7,rj,x2,ac]/\jm mG H1 H' r qs (Nk M9)) f8 ac ((M_).si lY s3));(.rintro k a7 H' hk⟨x2,rfl,hB⟩;rw[Eo oC FW (BE+xv*4=tI)];rw[dq];obtain⟨KG,jN⟩:=K7 ((Bw uM k rJ NI).2 oC);have yH:rF<14:=ayw ((Bw uM k rJ NI).2 oC);have pD:=bd HN kI;rw[E? b MF rF aHw yH,<-wP b (cN au Aq pD oC j7 ch ey db hB.at_ (b_ (by rw[KC hb]))) cL H4 s4];have A4:=Cu lY s4;rw[KM A4.has l hx];have Lm:=db pD;refine #[EI hx,At mG (k,#[rh,re,AM]) ((r5 iI [vN k,vN rh,vN re,vN AM] ve oD AW aN mb (by show tI/4=dp k;exact Fq) wg (4*k+1) Lm Y4 d1 wg (4*k+2) Lm VT wg (4*k+3) Lm SH).imp λ v H5 s5 h=>h) λ tv H5 s5 fq=>?_];have zM:=A4.later lY s5;have Rq:=bd s5 hx;(have B5:Fo:=by rw[iX ik];(have:l=uX rF (nB p k):=by rw[q7 yH]at hl;rw[vL tf hl]);rw[a6];rw[Ap QP];rw[TF];rw[z! nB,axv hk ap]);refine #[b,xs,tv,rfl,rfl,Rq,j2 iY AG B5,_,rfl,?_];have:=zM.add art hb hl Rq (gs B? (lY _ _ _ _ s5) ik) fq.now;(have dW:l=uX rF (nB p k):=by rw[q7 yH]at hl;rw[vL tf hl]);rw[_B.OM,show _B.Bj p k=(rF,#[rh,re,AM])from rfl,bd _B.Nj yH,<-dW,show bL M9=k by rw[z! nB]];rw[qY]);.rintro a7 H'⟨x2,rfl,hB⟩;rw[kZ (S7/4=S5) Wz h4]at hB;exact ch O (pp _ _ HN kw (Cu lY s4).lst)
Bu(k:Y)(l:AP):bL M4<=eZ:=by rw[Ap QP];rw[TF];exact x? _
J4{X:Cx}{σ:eo}{o ea eb:d'}{p1 p2 p3 bi:d8}{l:al}{a b:Y}{r:al}(hm:eX (pt "tuple"))(hq:fx q LG)(ho:lW o q)(ha:ip ea (vN a))(hb:ip eb (vN b))(p9:a<=b)(hl:Mz b)(hr:(l.drop a).uK (b - a)=r)(hg:g6 (Gl X "tuple"))(he:kH [J_] f9 J_ [])(a_:zm zd []):m0 lM (.pu "tuple" p3) [J_] (cT H v r):=iT E2 Po gM r (xs:=r.map vN) hm (iT tR P gM r ho ha hb (Gr FE q rk hq λ p H4 s4=>f8 p db (by rw[aX,ad4 n3 hH p9 hl p9,hr]))) Gr (by refine ah mc ad q e1 e2;exact #[q,e1,ey e2]) (by rfl) hg he a_
af3(A:a!):jx "map_records" (RQ c0 (V×al×tz) [a.1] ci (d2 bm bS/\y! bS/\m8 (Hv (jH ut+1) 0) bS cm) dV (eC (eC jt) H v (BH cm))):=or A.aG7 P_ λ q e H hr hp U hU=>by obtain⟨iq,m,ms⟩:=q;rw[EB (λ aS ap ku=>n0 aS) ap ku,lP P_.nd];have eh:dc ["numbers","records","at","record","behind","kind"] (aA Hq) _ [("kind",5)]:=q6 nu mU Hq;rw[gm,wQ JW (Pp 5 1) Ef ki JU ki eE dL xl aI (lI JM) eE dL qu NO R6 G0 nd ki dg pk n' pp,Fz oX,M? (Jy 5 (n:=15)) A.g.aqY r];(have gK:∀{a i a? fj},E9->o9->gC pG=0:=λ{a i a? fj}h hl=>by by_cases e:gC pG=0;(.exact e);.have:=Hx hl e;rw[vD ku]);refine #[sV z (∃(a i:Y)(a?:jp)(fj:tz)(x4:i1),a7=[l7,rj,gu a,gu i,x4,ac]/\E9/\xP/\z=qS/\E! jt H' BH),#[d?,0,0,ac,[],ac,rfl,L?,qN,rfl,M_],?_];rintro z a7 H'⟨a,i,a?,fj,x4,rfl,hM,Bs,rfl,hB⟩;have pD:=bd HN kI;refine ch (bP cK aN vq pD) Kg;(. (have ha:o9:=by rw[oj uz]);have hz:=gK hM ha;refine bW (_B.J6 hz) ad km fV tF;have yt:=HR ha hz;rw[P6 (∃(a i:Y)(a?:jp)(fj:tz)(x4:i1),d!=[l7,rj,gu a,gu i,x4,ac]/\E9/\xP/\z'=qS/\E! jt rD BH) (r_+F3) eW mu (a+2) jb aN dn aKC km];have A4:=FL jW s4;rw[E? b MF oh Wh fV,<-wP b (cN au Aq pO ha xx ch ey pd A4.at_ (b_ (by rw[KC hb]))) cL H5 s5];have zM:=A4.later jW s5;rw[KM zM.has l xk];have jT:=bd s5 pO;refine #[EI xk,At jt (i,#[t7,M6]) (lb (Ae (cq bN qQ eW mu (a+1) jT aN dn ay6 km (J4 (a:=a+3) (b:=a+3+fK qH) (r:=M6) HE jT az q9 FT dt iV O2 km (by unfold _B.uJ;rw[A5 (a+3+fK qH - r_=F3) S4]))) bn vs H (by(refine sG h λ _ _ aU _ _ _ a9 _ _ _ bu _ bV=>?_;subst aU a9 bu bV);exact(ab:3<=100))) nr H6 s6 h) λ tv H6 s6 fq=>?_];(. (refine B1 h λ q _ e1 e2 _ _ cI dB _ _ d6 fL y _ iH hy jF=>?_;subst cI dB d6 fL iH jF);exact(aE q y e1 e2 hy));have sf:=zM.later jW s6;(have XH:=bd s6 xk;(have dW:l=uX oh fj:=by rw[q7 fV]at hl;rw[vL tf hl]);have B5:Fo:=by rw[iX ik,dW];rw[Ap D'];rw[Cv];exact as2 km Bs ap);refine Re b tv XH;have:=sf.add arJ hb hl XH (gs B? (jW _ _ _ _ s6) ik) fq.now;refine #[_,rfl,_,rfl,_,_,rfl,rfl,d? - (r_+F3),uc akR km,_,i+1,_,_,_,rfl,yt,uc abW Bs,rfl,?_];rw[bd _B.Nj fV,<-dW,Cv];rw[qY]);.have hd:=Ou (by have:¬dp a<dp d?:=λ h=>wE hx h;rw[cX yu]);rw[cA ku hd hd,#[_,rfl,pp _ _ Sb kw (FL jW s4).lst]]
aDa(A:a!):jx "sequence_records" (RQ c0 (V×al×tA) [a.1] ci (d2 bm bS/\y! bS/\m8 (yi (jH ut+1) 0) bS cm) dV (eC (eC lq) H v (BY cm))):=or A.aI3 aa2 λ q e H hr hp U hU=>by obtain⟨iq,m,ms⟩:=q;rw[EB (λ lX ap ku=>n0 lX) ap ku,lP aa2.nd];have eh:dc ["numbers","records","at","record","key_end","behind","key","kind"] (aA Ib) _ [("kind",7)]:=q6 nu mU Ib;rw[gm,wQ JW (Pp 7 1) Ef ki JU ki (aP dL xl aI eE dL (bY (i:=5)) aI dL (bY (i:=6)) aI eE (lI JM) Ef (pv 5) (aP R6 G0 nd ki dg)) pk n' pp,Fz oX,M? (Jy 7 (n:=3)) A.g.arT r];(have gK:∀{a i a? fj},E_->o9->gC pI=0:=λ{a i a? fj}h hl=>by by_cases e:gC pI=0;(.exact e);.have:=Hx hl e;rw[vD ku]);refine #[sV z (∃(a i:Y)(a?:jp)(fj:tA)(x4 x5 x6:i1),a7=[l7,rj,gu a,gu i,x4,x5,x6,ac]/\E_/\xP/\z=qS/\E! lq H' BY),#[d?,0,0,ac,[],ac,ac,ac,rfl,Ma,qN,rfl,M_],?_];rintro z a7 H'⟨a,i,a?,fj,x4,x5,x6,rfl,hM,Bs,rfl,hB⟩;have pD:=bd HN kI;refine ch (bP cK aN vq pD) Kg;(. (have ha:o9:=by rw[oj uz]);have hz:=gK hM ha;refine bW (_B.Kh hz) ad km fV tF;have yt:=HR ha hz;have sP:py m a=a+2+fK p?:=rfl;rw[P6 (∃(a i:Y)(a?:jp)(fj:tA)(x4 x5 x6:i1),d!=[l7,rj,gu a,gu i,x4,x5,x6,ac]/\E_/\xP/\z'=qS/\E! lq rD BY) Bh eW mu (a+1) jb aN n3 aB1 tF sP];generalize hte:Bh=te at km fV tF yt sP;refine DX (NM+fK te) q9 qL dt eW (c_ (j:=te) pO az dt O) tF cL H5 s5;have jT:=bd s5 pO;refine eS (J4 (a:=a+2) (b:=te) (r:=Gq) HE jT az q9 FT dt dn axR sP Q0 tF (by unfold px;rw[kZ (te - qH=t7) atV sP])) λ kv H6 s6 lu=>?_;have Dk:=bd s6 jT;have sf:=FL mX L! HT s6;rw[E? b MF oh TH fV,<-wP b (cN au Aq Dk ha xx ch ey pd sf.at_ (b_ (by rw[KC hb]))) cL H7 s7];have Zh:=sf.later mX s7;rw[KM Zh.has l xk];have uH:=bd s7 Dk;refine #[EI xk,At lq (i,#[Gq,_B.EO m a]) (lb (Ae (cq bN (cq (iT lb jK P' (cT H v Gq) vC H8 s8 (by rw[e];exact lu _ (Ow s8))) GT (J4 (a:=te+1) (b:=te+1+fK te) (r:=_B.EO m a) HE uH az q9 pV dt it iV ajd km (by unfold _B.EO;rw[hte,show te+1+fK te - NM=fK te by exact aDf])))) bn vs H (by(refine sG h λ _ _ kE _ _ _ jJ _ _ _ kx _ kn=>?_;subst kE jJ kx kn);exact(ab:3<=100))) nr H8 s8 h) λ tv H8 s8 fq=>?_];(. (refine B1 h λ q _ e1 e2 _ _ lZ nJ y _ oJ hy z _ qW hz nY=>?_;subst lZ nJ oJ qW nY);exact(b8 q y z e1 e2 hy hz));have hB8:=Zh.later mX s8;(have hx8:=bd s8 xk;(have dW:l=uX oh fj:=by rw[q7 fV]at hl;rw[vL tf hl]);have B5:Fo:=by rw[iX ik,dW];rw[Ap D'];rw[Cv];exact apB Bs ha ap);refine Re b tv hx8;have:=hB8.add aCE hb hl hx8 (gs B? (mX _ _ _ _ s8) ik) fq.now;refine #[_,rfl,_,rfl,_,_,rfl,rfl,d? - (NM+fK te),by exact amG km sP,_,i+1,_,_,_,_,_,rfl,yt,by exact anb Bs sP,rfl,?_];rw[bd _B.Nj fV,<-dW,Cv];rw[qY]);.have hd:=Ou (by have:¬dp a<dp d?:=λ h=>wE hx h;rw[cX yu]);rw[cA ku hd hd,ch O (pp _ _ Sb kw (FL mX s4).lst)]
}
section _P
namespace _L
open hA hE hF
section
variable{sk:gV}{w:gX}{A:HV}{E:LS ia}
variable{h' h:ib}{H:Hp}{s:ll}
def z:={
TK.2(sk:gV)(w:gX):=tupleKind (f_ sk w)
FA{k:j1}{a:ak}(hk:AV h k a)(e:LO o a a):AV h' k a:=by refine lE hk λ o aF n h1 r=>?_;exact(tQ o aF n (e _ h1) r)
FU{S:ak}{xs:m7}(hm:h.DictOfH tn S xs)(hS:LO o S S)(hk:∀x∈xs,LO o ur ur):Ox tn S xs:=by obtain⟨o,es,ep,ho,hc,hd,he,his,hn⟩:=hm;exact #[o,es,ep,hS _ ho,hc,hd,he,λ x hx=>FA (his x hx) (hk x hx),hn]
DZ.1(xs lm:m7):m7:=Oy (λ gb x=>Cw gb x.1 ur eV.2) xs
aJ5(xs:m7)(k:j1)(a:ak)(v:ia):bL (Cw xs k a v)<=HP+1:=by unfold Cw;split;(.rw[fY el MH]);.rw[uQ];exact x? _
Rz{R:LS Result}{S I l:ak}{mf:Array ia}{res:ia}(hu:A.units+1<cLine)(hh:Sv)(we:l≠I)(rE:S≠I)(Cc:S≠l):∀(i3:m7)(i:Y)(gb:m7)(ix:cr)(t:Tok)(s:ll),Oz=i+yr->acc.length+yr<=uY->(∀(j:Y)(q:j1×C!),L5 i3 b (mf[i+j]?=l9/\b≠S/\b≠I/\J0/\AV yv q.1 j5/\j5≠S/\j5≠I))->(∀x∈gb,ur≠S/\ur≠I)->s.heap.IsListIter I l i->s.heap.IsList l mf->s.heap.DictOfH tn S gb->(∀h' tk,Ox tn S (DZ gb i3)->(∀b o,b≠S->b≠I->KX->Sc)->R (.ok (.ret res)) {s with heap:=h',toks:=tk})->codeAny SI A (.builtin "dict.update.loop" #[[a5 S,c! I,.f7 ix t,res],[]]) R s|[],i,gb,ix,t,s,hsz,lS,ht,jI,hit,hl,hm,hR=>by rw[ii TI Ip];rw[TJ pH _];show A! (pyNext (.ref I)>>=_) _ s;rw[rM (i8 (wpAny_pyNext_list_end (A:=A.in1) hh hit hl (by first|exact Array.getElem?_eq_none (Nat.le_of_eq hsz)|(simp at hsz;simp;omega)) cL h' he)) lG A! (Builtin.Dict.addKeywords S []>>=_),<-i8 (nA (nA ?_)),hR h' Hy (GJ hm (he S o rE e) λ x hx o e=>he _ o (jI x hx).2 e) λ b o _ hb e=>he b o hb e]|q::i3,i,gb,ix,t,s,hsz,lS,ht,jI,hit,hl,hm,hR=>by obtain⟨b,hb,hbS,Lo,NK,hk,hkS,hkI⟩:=eW (ht 0) q;rw[sl]at hsz lS;rw[ii TI Ip];rw[TJ pH _];show A! (pyNext (.ref I)>>=_) _ s;refine i8 (wpAny_pyNext_list_item (x:=c! b) hit hl DA hb ad h1 KJ fH);have Md:PH h1 b td:=NK.extBut yw Lo;have fk:R?:=hl.extBut yw we;have pN:h1.DictOfH tn S gb:=GJ hm (yw S o rE e) λ x hx o e=>Lx (jI x hx).2;have cH:AV h1 q.1 j5:=FA hk λ o e=>Lx hkI;refine zu iF Md λ o ho hc n hd=>?_;show lG A! (HY [OB b] _>>=_);rw[qP Fl N7 Fl wpAny_tryCatch];unfold Builtin.Dict.pairItems;refine AJ (TL (T:="tuple")) (af o ho hc) ?_;rw[gx (by first|decide|rfl|simp)];rw[rM (i8 (wpAny_seqItems ho hd L0)) lG A! (HY [OB j5,td] (dictSet S a5 j5 td)),<-N7 (wpAny_dictSet_heap (knd:=tn) (k:=q.1) (hsz:=uc Nat.le_of_add_right_le lS) (tupleKind_room_in1 hu) cH pN sC h2 m9 d4)];(refine nA #[K?,Rz (mf:=mf) hu hh we rE Cc i3 uv (Cw gb q.1 j5 td) (ix+1) 0 _ kZ (Oz=i+1+yr) IV hsz ?_ sC j q' e pe x hx ?_ ?_ m9 λ h' tk jD k=>?_];(.have z:=aJ5 gb q.1 j5 td;exact acn lS z);.obtain⟨b',iE,Ce,Aw,NN,cj,abI,WL⟩:=ht (j+1) q' L2;refine #[b',?_,Ce,Aw,(NN.extBut yw Aw).extBut CA Ce,FA cj λ o e=>CA _ o abI Lx WL,abI,WL];rw[A5 (i+1+j=i+(j+1)) yK];exact iE);((.rcases mem_storedH hx with⟨y,hy,_,e2⟩|⟨_,e2⟩;(.rw[e2];exact jI y hy);.rw[h! e2 #[hkS,hkI]]);.exact KJ.at λ o' e=>CA I o' (sg rE) e);(.exact fk.extBut CA (sg Cc));.exact hR h' tk jD λ c oc h3 h4 e=>k c oc h3 h4 (CA c oc h3 (yw c oc h4 e))
aIn{l:ak}{ol:Obj}{mf:Array ia}{n:Y}{prs:m7}{Q:LS ia}(hu:A.units+2<cLine)(hh:Sv)(hl:N5 l=Z ol)(hc:ol.cls=Mo)(hd:ol.dict=ac)(mM:ol.data=.seq mf n)(hsz:Oz=OK)(lS:OK<=uY)(ht:∀(j:Y)(q:j1×C!),L5 prs b (mf[j]?=l9/\J0/\AV yv q.1 j5))(h:∀h' tk,QH Ox (DZ [] prs)->(∀b o,KX->Sc)->QX {s with heap:=h',toks:=tk}):wpAny SI A (call S9 [a5 l]) Q E s:=by refine callType_codes (Q₁:=λ obj s₁=>obj=c! i9/\s₁={s with heap:=TN I_ []}) PySem.F.kt_called_dict (PySem.F.kt_typeCall_dict_1 _) PySem.F.entry_dict_init (kt_code_dict_new _ #[rfl,rfl]) ?_;rintro obj s₁⟨rfl,rfl⟩;have uV:QH JX DictOfH []:=Heap.DictOfH.new yv;have k0:∀b o,KX->JX get? b=Z o:=λ b o e=>Q1 e;rw[wX #[uV.typeIs,lG PySem.F.args_dict_init_2,?_] Builtin.«dict.__init__»,wX (i8 ?_) Builtin.Dict.selfAndRest,rM AJ wpAny_notOrdered_dict uV.typeIs ?_ lG A3 (pure (i9,[OB l])),rM L0 lG A3 (TO "dict.__init__" i9 a5 l [] .ac)];unfold TO;refine AJ (TL (T:="list")) (af ol bd k0 hl hc) ?_;rw[gx (by first|decide|rfl|simp)];rw[<-AJ (acr bd k0 hl hc mM hd) hh ad h1 LJ cH,rz (show bh (ac:j0 ia).isNone from rfl),<-Fl wpAny_rule];(have fk:R?:=(Ih ol FK hl hc n mM);have nk:i9<TP:=by have e:JX get? i9=Z I_ []:=Rg O;exact CB bd cH e);refine AJ wpAny_pyIter_list fk ?_;have k2:∀b o,h1.get? b=Z o->(h1.push IZ (Dd "list_iterator") fields [a5 l,.f7 0 0]).get? b=Z o:=λ b o e=>Q1 e;have a8:RZ l:=CB hl;have key:=Rz (sk:=sk) (w:=w) (A:=A.in1) (R:=wants (λ r s₂=>r=.ac/\QX s₂) E) (S:=i9) (I:=TP) (l:=l) (mf:=mf) (res:=Value.none) hu hh Lg a8 nk (yx nk) (TQ a8) prs 0 [] 0 0 {s with heap:=h1.push IZ (Dd "list_iterator") fields [a5 l,.f7 0 0],toks:=LJ} BT hsz HZ (by rw[TR,HZ];exact lS) (λ j q e=>by refine bM (ht j q e) λ b e1 e2 e3=>?_;have hb:RZ b:=e2.lt;(have hk:j5<i9:=by refine lE e3 λ o _ _ g _=>?_;exact CB g);exact #[b,by rw[fY HZ e1],yx hb,Lg hb nk,e2.keeps λ c o z=>BL FK z,FA e3 λ o z=>BL FK z,yx hk,Lg hk nk]) BW MN xa _ Rg O O (fk.at λ o e=>BL e) (GJ (GJ uV bd cH e λ x hx=>MN) BL e λ x hx=>MN) (λ h' tk jD k=>#[rfl,h h' tk jD λ b o e=>k b o (yx (CB e)) (yx (OL (CB e) nk)) BL FK e]);first|exact nA #[K?,key]|exact i8 (nA (nA #[K?,key]))
}
section z
def z:={
ya.1(aq lm:o0):o0:=Oy (λ gb kv=>u3 gb kv.1 kv.2) aq
KT.merge{lm:o0}{rs:m7}(m:KT H lm rs):∀{aq:o0}{vs:m7},KT H aq vs->KT H (ya aq lm) (DZ vs rs):=by induction m with|nil=>exact λ q=>q|@fF p q _ _ h t ih=>intro aq vs r0;(have e:KT H (u3 aq p.1 p.2) (Cw vs q.1 j5 td):=by rw[<-h.1];exact r0.put p.1 h.2.1 h.2.2);exact ih e
Y_:∀(lm aq:o0),bL (ya aq lm)<=li+more.length|[],aq=>by show li<=li+0;exact Qz|p::r,aq=>by have h1:=Y_ r (u3 aq p.1 p.2);have h2:=pA aq p.1 p.2;show bL (ya (u3 aq p.1 p.2) r)<=_;rw[sl];exact aaj h1 h2
}
section
variable{X:Cx}
def z:={
amz{iJ:c2 (ak×Obj)}{σ:St}(I:Inv X iJ σ H s){ps:kc}{jV:c2 (j1×sB V)}(p:Qb p kt p):∃prs:m7,KT H R' prs/\OK=OO/\∀(j:Y)(q:j1×C!),L5 prs b (ps[j]?=Z b/\J0/\(TK x7 X.w).is yv q.1 j5):=by induction p with|nil=>exact #[[],iw,rfl,λ j q e=>by simp at e]|@fF p kt _ _ h t ih=>obtain⟨prs,r,hl,hp⟩:=ih;obtain⟨aF,rv,ht,_⟩:=I.tuple h.1;obtain⟨u,y,ei,ru,ry⟩:=vals2 rv;subst ei;cases ru;refine #[(kt.1,v6,y)::prs,.fF #[rfl,h.2,ry] r,by rw[sl,sl,hl],ad j q e];cases j with|uB=>have e':(kt.1,v6,y)=q:=tf e;subst e';exact #[p,rfl,ht,xw I.aR h.2]|succ j=>obtain⟨b,e1,e2,e3⟩:=hp j q L2;exact #[b,by simpa using e1,e2,e3]
aqV(Og:F6)(hu:X.A.units+2<cLine):kg X S9 (λ xs H Q=>∃(a:ak)(ps:kc)(jV:c2 (j1×sB V)),xs=[a5 a]/\aC X.K H a Mg/\Qb p kt p/\∀p,eX (H p)->Q a5 p sF p (.dT KV)):=by intro iJ s σ H xs us Q I r q;obtain⟨a,ps,jV,ex,hq,hp,q⟩:=q;subst ex;obtain⟨u,eu,rx⟩:=vals1 r;subst eu;cases rx;obtain⟨aF,rv,pl,hz⟩:=I.list hq;have ei:=ON rv;subst ei;rw[ES hz];obtain⟨prs,rel,hl,ik⟩:=amz I hp;obtain⟨o,n,ho,hc,hd,mM⟩:=pl;refine aIn (prs:=prs) hu (I.ok.hd Og) ho hc hd mM Gy hl (by rw[fY hl hz]) sC j q' e λ h' tk jD k=>?_;(.obtain⟨b,e1,e2,e3⟩:=ik j q' e;exact #[b,by simp[e1],e2,e3]);. (have hm:(i9==sysModules)=false:=beq_eq_false_iff_ne.mpr (TQ I.Cy);have ap:bL KV<=uY:=by rw[Ap (Y_ _ [])];rw[TR,HZ,TS rel,hl];exact hz);obtain⟨q',es,ep,fD,h2,h3,h4,_,h5⟩:=jD;have hf:=I.aR.fresh (x? i9);refine #[a5 i9,sF i9 (.dT KV),I.laid (t':=tk) k qN (show fw x7 X.w _ _ _ (.dT _)from#[ap,hm,DZ [] prs,(KT.merge rel iw).keeps ad c ys ec,q',es,ep,fD,h2,h3,h4,h5]),rfl,q _ hf];rw[aV g8 (by rw[f' hf ec ec])];exact ec
}
section z
section _L
namespace _M
open hA hE hF _L
section
variable{X:Cx}{σ:eo}{H:Hp}{elt iter:d'}{lj:uN}{own:LC}{y:bt}{bi pos':d8}
variable{α:Type}
def z:={
Qa.1(X:Cx)(lj:uN)(elt:d'):TE:=λ a7 H' Q=>∃P:w2,(∀(s:ll)(H0:Hp)(C:ak)(cl:AE)(fp:kc),Ev J3 a7 H' elt P)/\vH (aj H' H2) (bc (P v) H2) (Q v H2)
ahe(s:ll)(H0:Hp)(C:ak)(cl:AE)(fp:kc):PE J3 elt (Qa X lj elt):=λ iJ s' a7 H' Q I bx=>ah bx λ P h q=>h s H0 C cl fp H' Go Q q iJ s' I
ac2{β:Type}{R S:mi α β}(h:∀x y,R x y->S x y){l:rY}{m:GK}(p:fu R l m):fu S l m:=_L.Paired.Ga p h
A0(i:Y){R:rI}{ls:rY}{Po:w2}{xs:g7}(hc:F6)(hN:NR)(ok:dc X.N Hh lj own)(ho:ig Ev iter Po)(hx:∀u H1,qg->Po u H1->∃a,u=c! a/\aC X.K H1 a xs)(hw:∀x,I0 KD=Jc)(hl:HP<uY)(rg:HP=ls.length)(he:∀(s:ll)(H0:Hp)(C:ak)(cl:AE)(fp:kc)(k:Y)(x:V)(z:α)(H1:Hp),qg->xs[k]?=Z x->ls[k]?=Z z->Ev J3 KD H1 elt sw v (R H v z))(tS:∀H H' v x,kl->R H v x->R H' v x)(bw:∀(H:Hp)(a:ak)(xs ys:g7)(v:V)(x:α),k9 a xs->R H v x->R Lu v x)(hg:∀(s:ll)(H:Hp)(C:ak)(cl:AE)(fp:kc),PG Jh H cl fp z3 (dC i))(hs:KR x iter x):m0 (.N? elt [#[z3,iter,[],0]] lj bi) (∃a ys,rU/\k9 a ys/\oT R ys ls):=by refine Co (wZ hc hN G9 ok hg Ny ahe hs) λ H1 s1 Q q=>?_;refine eS (OP s1) λ u H2 s2 hu=>?_;obtain⟨a,rfl,fk⟩:=hx u H2 SY mc;(have dW:∀H3,aj H2 H3->aC X.K H3 a xs:=λ H3 s3=>by obtain⟨a',e,h⟩:=hx _ H3 EK (hu H3 s3);cases e;exact h);refine #[a,rfl,#[xs,fk],λ D hD=>Ss (Dr (xs:=xs) (g:=dC i) (tt:=kd) (te:=Qa X lj elt)) vs D (λ k H'=>∃ys,aj H2 H'/\H' D=et .lst ys/\fu (R H') ys (ls.take k)) #[[],cS hD,aX,iw] (λ k H' _ cw=>ah cw λ _ s3 _=>dW H' s3) ?_ ?_];(.rintro k x H' hk⟨ys,s3,e,hP⟩;obtain⟨z,hz⟩:∃z,ls[k]?=Z z:=l? (Hk (by have:=qx hk;exact TC a6 rg));(refine #[hw x,_,λ s H0 C cl fp=>he s H0 C cl fp k x z H' EK hk hz,λ v H4 s4 hv=>#[ys,db e,?_,ys++[v],?_,aX,?_]];(.rw[TS hP,Ch,<-rg];exact HM lG Nat.min_le_right hl);.exact λ b o hb=>by rw[aV (c7 hb hD)];exact db gh hb);.rw[yy,hz];exact TB (ac2 bn a b (b! bw _ _ db e (b! tS s4 h)) hP) (b! bw _ _ db e dX));.rintro H'⟨ys,s3,e,hP⟩;rw[rg,OR]at hP;exact q _ H' F0 kw #[D,ys,rfl,db e,ac2 bn a b (b! tS s4 h) hP]
}
section z
section _M
namespace _P
open hA hE hF _L _M
variable{P:gV}{w:gX}{K:h?}{mg:hY}{de:ib}{c:Cs}
variable{H:Hp}{ys:g7}
def z:={
Oq{κ:Type} [DecidableEq κ]:∀(lm gb:c2 (κ×V)),(∀kv∈lm,eX (b7 gb kv.1))->(more.map (·.1)).CC->Oy (λ gb kv=>u3 gb kv.1 kv.2) gb=gb++lm|[],gb,_,_=>ul|p::r,gb,h,hn=>by have h0:=h p GV;rw[u4,List.nodup_cons]at hn;rw[List.foldl_cons,Hj _ h0,Oq r _ pe kv hk hn.2,H9];(.rfl);.rw[OG _ _ _ _ h0,b? g8 (hn.1 (by rw[<-e];exact CE hk))];exact h kv Gy hk
Es.1(H:Hp)(v:V)(x:vA):Prop:=∃b y,v=c! b/\oE b [vN rK,y]/\cT H y xE
GQ.1(H:Hp)(v:V)(x:w1):Prop:=∃b k y,v=c! b/\oE b [a5 k,y]/\fx k wl x.2.key.map vN/\cT H y xE
aHl:Up Es:=NB x bx F2 bx b (aE b y e ug (b! gN s t))
aof:Up GQ:=NB x cw (gQ cw λ b k y e h g t=>(b8 b k y e ug nS g (b! gN s t)))
tup_ne{a b:ak}{xs zs:g7}(ha:k9 a xs)(hb:oE b zs):Lu b=et .tup zs:=by rw[aV g8 (by rw[f' hb ha ha])];exact hb
aH4:rT Es:=λ H a xs ys v x ha dA=>F2 dA b (aE b y e MI h E1)
atR:rT GQ:=λ H a xs ys v x ha eG=>gQ eG λ b k y e h g t=>(b8 b k y e MI h MI g E1)
anq{l:tz}(h:oT Es ys l):∃(ps:kc)(aq:c2 (Key×V)),ys=Mg/\fu (λ p(kv:Key×V)=>aJ K H p [kV kv.1,kv.2]) ps aq/\fu (λ(kv:Key×V)(r:nC)=>kv.1=Sum.inl dp i!/\cT H kv.2 u5) aq FV/\aq.map (·.1)=se gr (kN rK):=by induction h with|nil=>exact eW (jg ([]) ([]) O iw) iw|@fF a x _ _ q r ih=>obtain⟨b,y,e,h,t⟩:=q;refine fR ih λ ps aq h1 h2 h3 h4=>?_;exact(jg (b::ps) ((kN rK,y)::aq) (by rw[e,h1];rfl) (.fF (Cm h) h2) (.fF #[rfl,t] h3) (by rw[u4,h4];rfl))
ag9{l:tA}(h:oT GQ ys l):∃(ps:kc)(jV:c2 (j1×sB V)),ys=Mg/\fu (λ p(kt:j1×sB V)=>aJ K H p [a5 v6,kt.2.2]/\fx v6 wl nf kt.1 kV) ps jV/\fu (λ(kv:j1×V)(r:yq)=>kv.1=uO r.key/\cT H kv.2 u5) R' FV/\(jV.map gr (x.1,eV.2)).map (·.1)=se gr Ng:=by induction h with|nil=>exact eW (jg ([]) ([]) O iw) iw|@fF a x _ _ q r ih=>obtain⟨b,k,y,e,h,g,t⟩:=q;refine fR ih λ ps jV h1 h2 h3 h4=>?_;exact #[b::ps,(Ng,k,y)::jV,by rw[e,h1];rfl,.fF #[Cm h,by rw[fY wb g]] h2,.fF #[rfl,t] h3,by rw[u4,u4,h4];rfl]
Xh{α β:Type}{f:α->β}(hf:∀a b,f a=f b->a=b){l:rY}(h:l.Nodup):(se f).CC:=by rw[RH];rw[H_];exact h.imp λ p9 e=>p9 bd hf e
aqW(A:a!):jx "lookup" (RQ c0 (V×tz) [a.1] ci (eC jt H bm cd/\zn/\GU Bx gr rK) dV (vo H v Bx ((·.2)))):=or A.lookup FI λ a e H hr hp U hU=>by rw[wK v l];obtain⟨⟨q,xs,hv,hq,hp⟩,ap,oP⟩:=hp;rw[QU hp rg hp];have eh:dc ["records","record"] (aA xB) _ [("record",1)]:=q6 (nu Ex xB 0);rw[gm,<-bg (Ik ce atB A.g.Ye O GT (Rd (A0 1) Es rg (λ s' dH C cl fp k x z H1 s1 hk hz=>?_) aHl aH4 sZ) (λ vs H1 s1 hv Q q'=>?_))];(.rw[<-ah (pj hp hz) ad x' d_ hR,cA hk d_ d_];(rw[jz hR (λ ax y aS zX hy=>?_) aS]);have BF:=gY zX;refine(r5 iI [vN Bc,y] d1 w! eP Ad Gp w! eP Ei Gp).imp nr H2 s2 h;refine ah h ad b e1 e2;exact(aE b y e1 e2 (b! gN (ga s2) hy)));. (refine aO dX λ v1 _ aU a9 bu=>aO a9 λ d ys bV hd hP=>?_;subst aU bu bV);refine fR (anq (K:=K) hP) λ ps aq e1 e2 e3 e4=>?_;refine #[d,ps,aq,rfl,LP hd e1,e2,λ p o7=>q' _ _ NJ wp s3 #[p,aq,rfl,gh ?_,QC h h s3]];rw[aX];congr 2;exact Oq aq [] (λ _ _=>rfl) (by rw[e4,show(λ x:vA=>kN rK)=kN∘(λ x=>rK)from rfl,<-nz];exact Xh vv DH oP)
aqK(A:a!):jx "lookup" (RQ c0 (V×tA) [a.1] ci (eC lq H bm cd/\zn/\GU Bx gr zL) dV (u0 H v Bx ((·.2)))):=or A.lookup FI λ a e H hr hp U hU=>by rw[wK v l];obtain⟨⟨q,xs,hv,hq,hp⟩,ap,oP⟩:=hp;rw[QU hp rg hp];have eh:dc ["records","record"] (aA xB) _ [("record",1)]:=q6 (nu Ex xB 0);have aM8:=De hr;rw[gm,<-bg (Ik (aqV O (HM (Nat.add_le_add_left kO (2<=64) _) (De hr))) A.g.Ye O GT (Rd (A0 1) GQ rg (λ s' dH C cl fp k x z H1 s1 hk hz=>?_) aof atR sZ) (λ vs H1 s1 hv Q q'=>?_))];(.rw[<-ah (pj hp hz) ad x' d_ hR,cA hk d_ d_];(rw[dl (gQ hR λ ax y0 y cI zX dB hy=>ah dB ad ky sQ apv) cI]);subst sQ;have BF:=gY zX;refine(r5 iI [a5 ky,y] d1 w! eP Ad Gp w! eP Ei Gp).imp nr H2 s2 h;refine ah h ad b e1 e2;exact(b8 b ky y e1 e2 iK gY apv (b! gN (ga s2) hy)));. (refine aO dX λ v1 _ d6 fL iH=>aO fL λ d ys jF hd hP=>?_;subst d6 iH jF);refine fR (ag9 (K:=K) hP) λ ps jV e1 e2 e3 e4=>?_;refine(b8 d ps jV O LP hd e1 e2 (λ p o7=>q' _ _ NJ wp s3 ti p gh ?_ QC h h s3));rw[aX];congr 2;exact Oq _ [] (λ _ _=>rfl) (by rw[e4,show(λ x:w1=>Ng)=uO∘(λ x=>zL)from rfl,<-nz];exact Xh vv Gm oP)
oH.1(B:sn)(u6:Mj)(l:al):Y:=bL (rows.filter λ q=>q.to==l&&!OU B 15 q.scalar)
Qc(B:sn)(u6:Mj)(r:nC)(l:al):oH B (u6++[r]) l=oH B u6 l+if(bh (u5==l&&!OU B 15 i!))then 1 else 0:=by unfold oH;rw[List.filter_append,uQ,List.filter_cons];split<;>rfl
To.1(B:sn)(u6:Mj)(aq:o0):Prop:=∀l,ue uO l=if oH B u6 l=0 then ac else gu (oH B u6 l)
azO(A:a!):sY 4 i? "composing_counts" (RQ c0 sB bR [a5 bm] ci (jj i? H bm cd/\(cd).ms.length<=8192) dV (∃co aq,v=c! co/\oL co dT/\To sy cd (CF 0 (cd).ms) aq)):=K6 A.bj.aIW abC ce b1 ck λ a f aK A' em s H0 H E hr hp=>by rw[wK b d,Fa hR ap];have aQ:jj i? H b d:=hR;rw[KO ap abC.nd];have hU:=jO hr;rw[wQ eE dL BB XR qM G9 Bz (cG (iA dz (aP (tV hU pk aI aI O) dg) dg)) ji pk n' p];intro r fN;have fg:=CG (ga (cS (o:=.dT []) fN));refine eS (Jt Xj ((b,d),0) az kG fg.cp d1 d3 OV d3 A.g.GH O eP #[H! s2,zW (0<15)]) λ lv H2 s2 hlv=>?_;(rw[jz hlv.now (λ q xs aS hq ik=>?_) aS]);dsimp only at ik;(have amv:Fo:=by rw[iX ik];exact hH D' ap);have hpk:(SW).map (·.2)=s9:=pM 0 eq;have nR:H2 r=et .dT []:=iK aX;have t2:mE H2:=(cS fN).jR s2;refine c1 q l? ey hq (tm (xs:=xs) w8 (∃(x2:i1)(aq:o0),a7=[l9,rj,x2]/\rX/\H' q=et .lst xs/\fu (jt H') xs SW/\H' r=et .dT aq/\li<=k/\nL To zv s9 aq) #[ac,[],rfl,t2,hq,ik,nR,qN,λ l=>rfl] BD k bx (fR bx λ _ _ _ _ hq _=>ey hq) ?_ ?_);(.rintro k x a7 H' hk⟨x2,aq,rfl,sH,fD,Ag,gA,c9,hC⟩;(refine ah (AR Ag hk) λ z hz aU=>jd aU λ ax y a9 zX ay bu cR=>?_;subst a9 bu);((have qT:k<8192:=by have:=qx hk;exact TT a6 amv);have fV:s9[k]?=Z z.2:=by rw[<-hpk,yp,hz];rfl);have IC:=CG (ga sH);have akv:=IC.dh.row 0 z.2 ab (by show z.2∈AS nD eq 0 [];rw[RK];rw[QZ fV]);have bJ:tJ Bc:=akv.sc;(have htk:(s9).uK kB=(CF 0 eq).uK k++[z.2]:=by rw[yy,fV];rfl);refine ch np (Dw z4 ((b,d),15,Bc) az kG IC.cp d1 d3 A.g.Ur zi aN fW Ad gh zX O fW #[IC.later s3,bJ]) Kg;(.rw[jn jN (Fh Bc=false)];have yG:=gh gA;have Vo:=gh zX;have ZX:=gh cR;refine DX (Ea+1) q9 (aY bT (i:=r4 Ea) (j:=1) (Tx (P:=iS v (v=vN Ea)) hU au zi aN j7 Ei db Vo ai (λ u H4 s4 hu=>(af r mc (.fz #[aq,.f? M2]))) (λ a y0 z0 H4 s4 h1 h2 h3=>?_)) ai) kw Gt (wP ay zi aN xx Ei pd db Vo cL H5 s5);(.have e1:=h1.now;have e2:=h2.now;have e3:=h3.now;cases e1;subst e2 e3;rw[iM (F4 dJ.t vU M2 (by rw[h! wb db ZX])) lw];rw[hC vU];by_cases e:Ea=0;(.rw[g? e,e];rfl);.rw[gS e];rfl);.have mj:=bd s5 M2;have J2:=nw (HF s5);refine ti r (F4 ja.t vU mj (by rw[h! wb pd db ZX]) (iY (by exact alb c9 qT))) ?_;(refine #[_,_,rfl,ad b' o' hb,?_,gs bn v x ?_ Ag,aX,hH bd pA _ dn Yl c9,xz l];(.rw[aV (c7 hb fN)];exact bd J2 kR sH);.rw[aV g8 (by rw[f' fD gA gA])];exact bd J2 fD);(.refine jd (b! jW J2 h) λ a1 y1 e1 e2 a2 e3 e4=>?_;exact(wY a1 y1 e1 (by rw[aV g8 (by rw[f' e2 mj mj])];exact e2) a2 e3 (by rw[aV g8 (by rw[f' e4 mj mj])];exact e4)));.rw[ko,htk,Qc,jN];by_cases e:l=vU;(.subst e;rw[nX,show RB (z.2.to==vU)=1 by simp,rd aIG]);.rw[b? gt (e (Gm h)),hC l,show RB (z.2.to==l)=0 from b? gt (by simp at h;exact e h.symm),N6]);.rw[jn jN bh (Fh Bc),<-#[_,aq,rfl,uP s3,gh fD,gs bn v x (b! jW s3 h) Ag,gh gA,uc TU c9,xz l]];rw[htk,Qc,jN,Hs,Bool.and_false,show(if false=dr then 1 else 0)=0 from rfl,N6];exact hC l);.rintro a7 H'⟨x2,aq,rfl,sH,fD,Ag,gA,c9,hC⟩;rw[N! (by rw[<-hpk,el,iX Ag];rw[K9])]at hC;exact ch O (p _ _ sH kw (aE r aq O db gA hC))
}
section _P
namespace _M
open hA hE hF _L
def z:={
aFL{X:Cx}{σ:eo}{H:Hp}{bi:d8}{es:ke}{PL:g7->Hp->Prop}(ha:tW fB PL)(hl:∀vs H,G5->Sl):m0 tb es bi (∃a vs,rU/\k9 a vs/\G5):=RJ ny vs H2
}
section _M
namespace _P
open hA hE hF _L _M
variable{P:gV}{w:gX}{K:h?}{mg:hY}{de:ib}{c:Cs}
variable{m:al}{α:Type}
def z:={
tY.1(R:rI):Prop:=∀(H:Hp)(z C dx:ak)(fs:k!)(o:HO)(v:V)(x:α),ET->R H v x->R xb v x
lF{H:Hp}{z C dx a:ak}{fs:k!}{o u:HO}(hz:ET)(ha:fx a u)(hu:∀C dx fs,u≠zb C dx fs):xb a=Z u:=by rw[aV g8 (by subst e;rw[ha]at hz;exact hu _ _ _ tf hz)];exact ha
AO:tY cT:=λ H z C dx fs o v x hz bx=>o? bx a uf zN
Xp:tY mG:=λ H z C dx fs o v x hz dA=>o? dA a uf zN
abo:tY jt:=λ H z C dx fs o v x hz eG=>F2 eG a vM y zN DN t
Vr:tY lq:=λ H z C dx fs o v x hz kz=>gQ kz λ a y k e h t u=>(b8 a y k e zN DN t DN u)
gD{R:rI}(h:tY R):tY (eC R):=λ H z C dx fs o v x hz lD=>aO lD λ a xs e h1 p=>vM xs sU hz h1 _ zA q (b! b! h hz q) p
zF:tY vo:=λ H z C dx fs o v x hz ou=>Qh ou aq aq
Ca:tY u0:=λ H z C dx fs o v x hz vR=>Qh vR aq aq
aGH:rT vo:=λ H a xs ys v x ha AX=>aO AX λ b aq e h p=>(aE b aq e (by rw[aV g8 (by rw[f' h ha ha])];exact h) zA q #[q.1,Do q.2] p)
aHT:rT u0:=λ H a xs ys v x ha Dh=>aO Dh λ b aq e h p=>(aE b aq e (by rw[aV g8 (by rw[f' h ha ha])];exact h) zA q #[q.1,Do q.2] p)
wx.2:=Ed
aIl.1(H:Hp)(v:V)(r:wx):Prop:=∃q v0 v1 v2 v3,nn/\RN (H q=et .lst BG\/(oE q BG)) v1 v3
}
structure Bv(r:wx)(d:bR):Prop where
 le:bL r.1+bL rc+bL z7+bL z8<=8192
 ps:m8 op r.1 kD
 ms:m8 (Hv (jH r.2.1+1) 0) rc eq
 ss:m8 (yi (jH r.2.2.1+1) 0) z7 hO
 ns:H?=(bL z8)/4
def z:={
Bv.dh{r:wx}{d:bR}(h:Bv r d):m?:=_B.aET h.ps h.ms h.ss
aaO{ms:tz}(h:m8 Du m ms):E7:=by(have key:∀(z a i:Y)(a?:jp)(fj:tz),qS<=z->E9->xP->E7:=λ z=>by induction z with|uB=>rw[Gz a i hM,Eb G3 hz hi]|succ z ih=>rw[Gz a i hM];by_cases ha:o9;(. (have h0:gC pG=0:=by by_cases e:gC pG=0;(.exact e);.have:=hM.fault ha e;rw[vD h]);exact b! ih dn auj hz (HR ha h0) dn abW hi);.rw[Eb Cq ha hi]);exact QW [] Gu L?
alz{ms:tA}(h:m8 Ra m ms):E7:=by(have key:∀(z a i:Y)(a?:jp)(fj:tA),qS<=z->E_->xP->E7:=λ z=>by induction z with|uB=>rw[Gz a i hM,Eb G3 hz hi]|succ z ih=>rw[Gz a i hM];by_cases ha:o9;(. (have h0:gC pI=0:=by by_cases e:gC pI=0;(.exact e);.have:=hM.fault ha e;rw[vD h]);refine b! ih ?_ (HR ha h0) ?_;(.unfold py;exact aAg hz);.unfold py;exact aiD hi);.rw[Eb Cq ha hi]);exact QW [] Gu Ma
QO:∀l:al,Ck l l=false|[]=>rfl|x::l=>by show(dS (x<x)||(x==x&&Ck l l))=false;rw[QO l];simp
Nf(d:bR):OW=(BH eq).map λ l=>FV:=by rw[Qx nD eq eq]
LK(d:bR):OX=(BY hO).map λ l=>FV:=by rw[Qx yJ hO hO]
an0{d:bR}(F:m?){k:Y}(hk:xI):GU ro eq gr rK:=by rw[show(λ x:vA=>rK)=(λ r:nC=>i!)∘(·.2)from rfl,<-nz,pM];have:=F.aEh k hk;rw[t8 (show kA u7=CF k eq from wN eq k nD)];unfold OS;rw[H_];exact this.imp λ h e=>by exact aDF h e
aIY{d:bR}(F:m?){k:Y}(hk:k<3):GU ro hO gr zL:=by rw[show(λ x:w1=>zL)=(λ r:yq=>r.key)∘(·.2)from rfl,<-nz,pM];have:=F.aLb k hk;rw[t8 (show kA Ia=CF k hO from wN hO k yJ)];unfold OS;rw[H_];exact this.imp λ h e=>by rw[e,QO]at h;cases h
}
section _P
namespace _M
open hA hE hF _L
def z:={
WZ{X:Cx}{σ:eo}{H:Hp}{k:Y}{m:bt}{o:d'}{bi pP:d8}{C b:ak}{α:Type}{c3:k?}{cv:j?}{e7:k_}{pl:Cb}(c:dO X.K C)(F:e_ x7 X.w X.K pt X.base k C m Mn)(hr:xD)(a:α)(ho:lW o b)(hi:tO (∃dx fs,H1 b=Z Dt/\Fk))(hv:c3 a=[a5 b])(hp:tO GO)(ht:DO lM I4 m [] EF ov m pl []):ig Ev lM I4 m [] S!:=by rw[Mu f hm G,<-Co (QD aI c hm G hr hb iw mO ht) v5 s1 Q (md (OP s1) cL H2 s2),<-df (hi H2 (ga s2)) λ dx fs h1 h2=>?_,rM (b8 b dx fs O h1 h2 ?_) (z_ Mn [sd b] H2 Q E0),(af S! xa a hv.symm (hp H2 (ga s2)) GL s4 hp (q v H4 (kC s4) hp))]
}
section _M
namespace _P
open hA hE hF _L _M
variable{P:gV}{w:gX}{K:h?}{mg:hY}{de:ib}{c:Cs}
variable{H H':Hp}{p1 p2 p0:V}{o:HO}{pa:ak}
def z:={
br.1(H:Hp)(k:ak):Hp:=λ a=>if a=k then ac else H a
ed(H:Hp)(k:ak):aj B_ H:=λ a o h=>by rw[ni br];split at h;(.cases h);.exact h
fb{k:ak}(s:kl):my lz k H' k:=λ a o h=>by rw[tN h];split at h;(.cases h);.rw[w?,gS e,ug]
Oi{k a:ak}{u:HO}(h:fx a o)(hk:fx k u)(bf:o≠u):br H k a=Z o:=by rw[kh,gS g8 (by subst e;rw[h]at hk;exact bf (TD hk)),h]
}
structure wA(H:Hp)(pa:ak)(d:bR)(p0 p1 p2:V):Prop where
 at_:k9 pa [p0,p1,p2]
 h0:eC (eC mG) H p0 (Nk kD)
 h1:eC (eC jt) H p1 (BH eq)
 h2:eC (eC lq) H p2 (BY hO)
def z:={
wA.later{d:bR}(h:B3 H d p2)(s:kl):B3 H' d p2:=#[nS uR,nc (gn lY) s h.h0,nc (gn jW) s h.h1,nc (gn mX) s h.h2]
wA.ins{d:bR}{z C dx:ak}{fs:k!}(h:B3 H d p2)(hz:ET):B3 xb d p2:=#[sU hz uR _,q? (gD Xp) _ hz h.h0,q? (gD abo) _ hz h.h1,q? (gD Vr) _ hz h.h2]
adP(m:bt)(hm:m∈qU)(a b cc dd:V):eX ((LR a (Le b (Ds cc (zg dd [])))).CI m):=by(have:∀m∈qU,m≠"name_count"/\m≠"sequence_rows"/\m≠"map_rows"/\m≠"parts":=by rw[vi]);refine dm (a6 m hm) λ h1 h2 h3 h4=>?_;rw[cW,b? h1,cW,b? h2,cW,b? h3,cW,b? h4];rfl
aFk(m:bt)(hm:m∈qU)(x y a b cc dd:V):eX ((Sm x (Sw y (LR a (Le b (Ds cc (zg dd [])))))).CI m):=by(have:∀m∈qU,m≠"known_by_k"/\m≠"composing":=by rw[vi]);obtain⟨h1,h2⟩:=a6 m hm;rw[cW,b? h1,cW,b? h2];exact adP m hm _ _ _ _
Sz(S:kb)(A:a!):mn me P 5 "Book" i? c0 (V×wx×bR) [a.1] ci ((∀x,S x->∃o,fx x o)/\aIl H bm bS/\Bv bS cm) dV (∃q kk,nn/\¬S kk/\sE lz kk q cm/\H kk=et .dK []):=by refine BO A.Book A.bj.init Uk ce b2 ck λ a f aK A' em s E z dx H1 hr hz nV bf hp=>?_;obtain⟨rv,⟨rp,rm,rs,rn⟩,d⟩:=a;rw[jk bW λ hSS aS J=>yd aS λ q v0 v1 v2 v3 hv hq k0 k1 k2 k3=>?_];have F:m?:=J.dh;have hle:=J.le;have jps:=J.ps;have GR:=J.ms;have Jk:=J.ss;have jns:=J.ns;dsimp only at hv hq k0 k1 k2 k3 hle jps GR Jk jns⊢;rw[pZ hv Uk.nd];(have row:∀{X:Cx}{H2:Hp}{σ:eo}{o:d'}{bi p2:d8}{j:Y}(i:Y)(v:V),mE H2->BG[i]?=Z v->w7 H2 o a5 q->w7 H2 Dy (.yn i0 dp i j p2) bi v:=λ{X}{H2}{σ}{o}{bi}{p2}{j}i v s1 hi ho=>by rcases hq with hq|hq;(.exact cN ho ai fW ch rk nN NL);.exact bU ho ai fW ch j4 gh nN NL);have b1:dc ["self","rows","records"] (aA zC) _ [("records",2)]:=q6 (nu wo zC 1);have b2:dc ["self","rows","records"] (aA zC) _ [("records",2)]:=q6 (nu wo zC 2);(rw[iM eE tM tM eE tM tM eE tM (ic sW Bp O) dg pe D n];have s0:=By (o:=.own z) (o':=nP zb dx []) hz nV;have mh:tT H' Hp (rX->mE (upd H' z o)):=λ s' b' o' hb=>by rw[aV (c7 hb hz)];exact kR s');have lp:∀{f:bt}{v:V}{fs:k!}{m:Y},fs.length<=m->bL (bK f v fs)<=m+1:=λ h=>hH bd Hl _ (Nat.succ_le_succ h);have cl:=so;obtain⟨o4,ops⟩:=GD jps;rw[Ku (rB (fs:=[]) cl OY ab (iT lb (aFL (cq (aT (aBg A) c? (v0,rp) e? (row 0 v0 s0 O au) eP #[KE k0,q_ CJ LH hle,kD,jps]) qQ (aT (af3 A) c? (v1,rm,eq) e? (row 1 v1 s0 O au) eP #[KE k1,q_ yM Eg hle,GR]) (aT (aDa A) c? (v2,rs,hO) e? (row 2 v2 s0 O au) eP #[KE k2,q_ yN OI hle,Jk])) bn vs H (by(refine sG h λ _ _ aU _ _ _ a9 _ _ _ bu _ bV=>?_;subst aU a9 bu bV);exact(ab:3<=100))) P' (∃pa p0 p1 p2,v=c! pa/\B3 H d p2) nr H2 s2 h)) H2 fV];(. (refine B1 h λ pa _ e1 e2 p0 _ cI g0 p1 _ dB g1 p2 _ d6 g2 fL=>?_;subst cI dB d6 fL);rw[<-#[pa,p0,p1,p2,e1,e2,?_,g1,g2],fY ops g0]);(rw[wy D7 (λ pa p0 p1 p2 iH Ij=>?_) iH]);have l1:=mH (lp (f:="parts")) pa (fs:=[]) (m:=0) ab;have t2:=lU mh K_ (OZ s2);have Nz:=lU Ij.ins K_ fV;(have qD:(zg a5 pa []).CI LW=cx pa:=by rw[ow]);(rw[jz Nz.h1 (λ a1 o3 jF oa xU=>?_) jF]);refine rB cl A.bj.LZ Ab l1 (kj (A0 2 (R:=vo) (ls:=OW) O nd b1 (mH cN a1 (cQ az fW (b8 _ dx _ wi cl OY qD)) d3 OV fW qc rk Nz.at_ (b_ (j:=1)))) n1 H3 s3 nO a1 rk oa ck (λ s' dH C cl fp k x zz H3 s3 hk wj=>?_) B6 aGH sZ) (λ v H3 s3 hv tF=>?_) aX O;(((.rw[iX xU];rw[z! pK,iY ab]);.rw[iX xU,Nf,el]);. (have xQ:xI:=by rw[Qf wj Nf a6]);(rw[<-ah (AR xU hk) ad l' dW hL,ka q7 xQ dW dW];have Mv:zz=jL FS ((·.2)):=by rw[Qs Nf xQ wj]);rw[h! Mv (aT (aqW A) c? (x,FS) e? aN j7 #[nc jW w3 hL,RD aaO GR QJ Eg,an0 F xQ])]);(rw[jz dX (λ am ym lX sN pm=>?_) lX]);have hDm:eC vo H3 I9 OW:=(aE am ym O sN pm);have l2:=mH (lp (f:="map_rows")) am l1;have t3:=lU mh Ec (t2.trans s3);have OA:=lU (Nz.later s3).ins Ec tF;have aKs:=ox zF Ec _ tF hDm;(have aFd:(Ec).CI LW=cx pa:=by rw[ow]);(rw[jz OA.h2 (λ a2 pB kE yz ye=>?_) kE]);refine rB cl A.bj.LD Ab l2 (kj (A0 2 (R:=u0) (ls:=OX) O nd b2 (mH cN a2 (cQ az fW (b8 _ dx _ wi cl OY aFd)) d3 A.g.Rm fW qc rk OA.at_ I8 j)) n1 H3 s3 nO a2 rk yz ck (λ s' dH C cl fp k x zz H3 s3 hk wj=>?_) DV aHT sZ) (λ v H4 s4 hv oF=>?_) aX O;(((.rw[iX ye];rw[z! pK,iY ab]);.rw[iX ye,LK,el]);. (have j9:k<3:=by rw[Qf wj LK a6]);(rw[<-ah (AR ye hk) ad l' dW hL,ka q7 j9 dW dW];have Mv:zz=jL FQ ((·.2)):=by rw[Qs LK j9 wj]);rw[h! Mv (aT (aqK A) c? (x,FQ) e? aN j7 #[nc mX w3 hL,RD alz Jk kZ (yN<=8192) OI hle,aIY F j9])]);(rw[jz dX (λ as ys jJ has pS=>?_) jJ]);have hDs:eC u0 H4 a5 as OX:=(aE as ys O has pS);have l3:=mH (lp (f:="sequence_rows")) as l2;generalize zG:Le a5 as (Ds I9 K_)=f3 at l3⊢;have t4:=lU mh f3 (Om s4);have hP5:=lU (OA.later s4).ins f3 oF;have aH0:=ox zF f3 _ oF nc B6 s4 aKs;have aMc:=ox Ca f3 _ oF hDs;(rw[dl (ah k3 ad q3 kx jb) kx]);refine rB cl A.bj.P2 Ab l3 (uk y (vN H?) AW p6 bd t4 jb (row 3 a5 q3 t4 O au) (r? mb (by rw[fY jns aAm]))) (λ v H5 s5 hv MU=>?_) aX O;cases dX;have l4:=im (lp (f:="name_count")) (vN H?) l3;generalize wC:LR (vN H?) f3=f4 at l4⊢;have t5:=lU mh f4 (t4.trans s5);have CS:=lU (hP5.later s5).ins f4 MU;have aLf:=ox zF f4 _ MU nc B6 s5 aH0;have ahs:=ox Ca f4 _ MU nc DV s5 aMc;have xA:jj i? (upd H5 z p! f4) z d:=#[F,dx,f4,pa,p0,_,_,aX,by rw[<-wC,<-zG];rw[ow],cL m hm,CS.at_,CS.h0,CS.h1,CS.h2];(.refine rB cl A.bj.ad6 Ab l4 (WZ cl (azO A) hr (z,d) az kG xA.cp O (λ H6 s6=>#[xA.later s6,hH (aaO GR) QJ Eg])) (λ v H6 s6 hv yZ=>?_) aX O;(rw[jz dX (λ co aq kn Lc hC=>?_) kn]);dsimp only at hC;have l5:=mH (lp (f:="composing")) co l4;generalize xX:Sw a5 co f4=f5 at l5⊢;have t6:=lU mh f5 (t5.trans s6);have ZH:=lU (CS.later s6).ins f5 yZ;have Vb:=ox zF f5 _ yZ nc B6 s6 aLf;have V0:=ox Ca f5 _ yZ nc DV s6 ahs;have SS:Kx co=et .dT aq:=sU yZ Lc _;have vZ:Kx z=Z p! f5:=aX;generalize Kx=G at t6 ZH Vb V0 SS vZ⊢;intro kk j8;(have MS:z≠kk:=λ e=>by rw[f' vZ j8 j8]);refine #[_,rfl,z,i?,dx,f5,rfl,by rw[aV MS];exact vZ,cl,A.bj.Dc,Ab l5,?_];generalize vQ:Sm a5 kk f5=f6;have FC:=lU ZH.ins f6 vZ;have atD:=ox zF f6 _ vZ Vb;have aFg:=ox Ca f6 _ vZ V0;(have ap6:(upd G z p! f6) co=et .dT aq:=sU vZ SS _;have Ze:∀m∈qU,eX (f6.lookup m):=λ m hm=>by rw[<-vQ,<-xX,<-wC,<-zG];exact b! (aFk m hm _ _));(have GF:sE (upd G z p! f6) z d:=by(refine #[#[F,dx,f6,pa,p0,_,_,aX,?_,Ze,FC.at_,FC.h0,FC.h1,FC.h2],dx,f6,_,_,co,aq,aX,?_,?_,?_,?_,?_,Ze,atD,aFg,ap6,cL l hl];(.rw[<-vQ,<-xX,<-wC,<-zG];rw[ow]);.rw[<-vQ,<-xX,<-wC,<-zG];rw[ow]);(((.rw[<-vQ,<-xX,<-wC,<-zG];rw[ow]);.rw[<-vQ,<-xX,<-wC];rw[ow]);(.rw[<-vQ,<-xX];rw[ow]);.rw[<-vQ];rw[ow]);.have h1:=hC l;(have h2:nL oH s9 l=gZ tj l:=by unfold oH tj TY;rw[show u7 0 []=s9 from RK]);rw[h2,wH Nat.ne_zero_of_lt hl]at h1;exact h1);refine n _ _ (mh (λ b' o' hb=>by rw[aV (c7 kR t6 j8)];exact kR t6)) λ H8 s8=>(jg z kk O (λ hS=>(by obtain⟨o,ho⟩:=hSS kk hS;rw[ka bd t6 ho j8 j8])) (GF.later sC b' o' hb) ui (by rw[aV (sg MS)];exact aX));(have Gb:b'≠kk:=λ e=>by subst e;rw[aV (sg MS),j8]at hb;cases hb);rw[kh,gS Gb,<-ui ?_];by_cases e:b'=z;(.subst e;rw[aX]at hb⊢;exact hb);.rw[aV e]at hb⊢;rw[aV Gb];exact hb);.rw[<-wC,<-zG];exact adP m hm _ _ _ _
}
section _P
namespace _M
open hA hE hF _L
def z:={
GP.1{α:Type}(c3:k?)(cv:j?)(gc:l6)(e7:k_):Sp:=λ vs H Q _=>∃a,vs=DD/\cv a H/\vH Dg Df (Q v H2)
}
section
variable{α:Type}
def z:={
mJ.1(P:gV)(w:gX)(K:h?)(mg:hY)(de:ib)(k:Y)(x:bt)(c3:k?)(cv:j?)(gc:l6)(e7:k_):Prop:=∃f fd ps,mg x=cx f/\bh R8 a5 f/\Binds K fd ps []/\ED k f GP
sj.1(P:gV)(w:gX)(K:h?)(mg:hY)(de:ib)(k:Y)(C:ak)(m:bt)(c3:k?)(cv:j?)(gc:l6)(e7:k_):Prop:=∃f fd ps,mY K C m f/\Binds K fd ps []/\ED k f GP
Mq.1(P:gV)(w:gX)(K:h?)(mg:hY)(de:ib)(k:Y)(f:ak)(c3:k?)(cv:j?)(gc:l6)(e7:k_):Prop:=∃fd ps,bh R8 a5 f/\Binds K fd ps []/\ED k f GP
}
variable{P:gV}{w:gX}{K:h?}{mg:hY}{de:ib}{x pQ:bt}{st:Stmt}{f:ak}{fd:O0}{N ps:M'}{k:Y}{c3:k?}{cv:j?}{gc:l6}{e7:k_}
def z:={
mJ.at_(h:t_ ty mJ x c3):∃f,mg x=cx f/\t_ ty Mq f c3:=by refine gQ h λ f fd ps h1 h2 h3 h4=>?_;exact(wF f h1 fd ps h2 h3 h4)
aeo(F:gd K x pQ st f fd)(S:aD N ps vy)(ap:∀a,Lk)(pq:∀(a:α)(aK:ia)(A:HV)(em:M!)(s:ll)(H:Hp)(E:XK),Ko pQ f aK):ED kB f GP:=F.ok S (λ vs H Q E bx=>ah bx λ a e _=>by rw[e];exact ap a) λ aK A em s H vs Q E hr cw=>bM cw λ a e hp q=>by subst e;refine ah (pq a aK A em s H E hr hp) ad t ht hq;exact(af t ht (hq _ (λ v H2 h1 h2=>q v H2 h1 h2) (λ a7 H2 h1 h2=>q .cz H2 h1 h2)))
wI(h:∃f fd,mg x=cx f/\gd K x pQ st f fd)(S:aD N ps vy)(hb:∀(kV doc pm:ia)(an:j0 ak)(aK ct:ia)(us:ME),RL x)(ap:∀a,Lk)(pq:∀(a:α)(f:ak)(aK:ia)(A:HV)(em:M!)(s:ll)(H:Hp)(E:XK),Ko pQ f aK):t_ (mt mJ de kB x c3):=by refine df h λ f fd hm F=>?_;exact(b8 f fd ps hm F.kp (F.binds hb) (aeo F S ap λ a=>pq a f))
Ee{C:ak}(h:∃f fd,mY K C x f/\gd K x pQ st f fd)(S:aD N ps vy)(hb:∀(kV doc pm:ia)(an:j0 ak)(aK ct:ia)(us:ME),RL x)(ap:∀a,Lk)(pq:∀(a:α)(f:ak)(aK:ia)(A:HV)(em:M!)(s:ll)(H:Hp)(E:XK),Ko pQ f aK):Dp (mt sj de kB C x) cv:=by refine df h λ f fd hm F=>?_;exact(lL f fd ps hm (F.binds hb) (aeo F S ap λ a=>pq a f))
}
section z
section
variable{X:Cx}{k:Y}{x m:bt}{e o:d'}{es:ke}{p bi pP:d8}{C:ak}{α:Type}{c3:k?}{cv:j?}{gc:l6}{e7:k_}
def z:={
tCR.1(X:Cx)(es:ke)(c3:k?)(cv:j?)(gc:l6)(e7:k_):TE:=λ σ H Q=>∃a,tW eM DD/\tO (GO/\Ke)
Xv.1(X:Cx)(C:ak)(m:bt)(o:d')(es:ke)(c3:k?)(cv:j?)(gc:l6)(e7:k_):TE:=λ σ H Q=>∃a b vs,lW o b/\(∀H1,qg->∃dx fs,H1 b=Z Dt/\Fk)/\tW eM vs/\c3 a=c! b::vs/\tO (GO/\Ke)
yQ(F:t_ Aj mJ x c3)(hr:xD)(hg:g6 (Gl X x))(d5:DK (x==Ay))(he:zT e)(a_:D5):PE X lM BA lH (tCR X lH c3 cv gc e7):=by refine gQ F λ f fd ps hm hk hb G=>?_;intro iJ s σ H Q I#[a,ha,q];refine R4 G hr hg hm hk hb iw mO dU d5 he a_ iJ s σ H Q I ch ha LU;obtain⟨h1,h2⟩:=q H2 s2;rw[h! Ie (aZ a dX h1 h2)]
SO{pl:Cb}(c:dO X.K C)(F:Dp Aj sj C m cv)(hr:xD)(bw:zT e)(a_:D5)(ht:DO D? EF ov m pl lH):PE X D? (Xv X C m o lH c3 cv gc e7):=by rw[Mu f hm G,Gk H Q I];obtain⟨a,b,vs,ho,hi,ha,hv,q⟩:=zz;refine Ml aI c hm G hr hb iw mO dU bw a_ ht iJ s σ H Q I (md ho cL H2 s2);refine df uu hi λ dx fs h1 h2=>?_;refine #[b,dx,fs,rfl,h1,h2,_,NT s2,λ us H3 s3 hu=>?_];obtain⟨g1,g2⟩:=q H3 (kC s3);rw[h! Ie (aZ a BT hv mc g1 g2)]
}
section z
section _M
namespace _P
open hA hE hF _L _M
variable{P:gV}{w:gX}{K:h?}{mg:hY}{de:ib}{c:Cs}
variable{H H':Hp}{S:kb}{l:al}
def z:={
gJ.1(S:kb)(H:Hp)(v:V)(l:al):Prop:=∃a,rU/\¬S a/\fx a LG
lO.1(S:kb)(H:Hp):Prop:=∀x,S x->∃o,fx x o
gJ.lst{v:V}(h:gJ S H v l):gM l:=by refine bM h uj a e g;exact uf g
gJ.later{v:V}(h:gJ S H v l)(s:kl):gJ S H' v l:=by refine bM h λ a e f g=>?_;exact(aZ a e f nS g)
lO.later(h:uo)(s:kl):lO S H':=λ x hx=>by obtain⟨o,e⟩:=h x hx;exact #[o,nS e]
lO.off(h:uo){a:ak}(ha:eX (H a)):¬S a:=λ hs=>by obtain⟨o,e⟩:=h a hs;rw[cA e ha ha]
Ln{X:Cx}{σ:eo}{es:ke}{bi:d8}{vs:g7}(hS:uo)(ha:tW eM vs)(hl:pU (Op<=uY) kY._auto_1):m0 tb es bi (∃a,rU/\¬S a/\k9 a vs):=Co (ny dU) v5 s1 Q ch D0 vw us #[by rw[fY pw hl],λ p hp=>q _ _ DY cS hp kw c1 p ((ri If).off hp) db BT aX pw]
ahj(S:kb)(A:a!):sY 4 i? "stepped_by_k" (RQ c0 (BK×j!) oR bS ci (uo/\nP eg bm H/\d2 bS cm/\bL cm<=18/\∀n,bL (_B.dI on n)<=18) dV (gJ S H v (yS on cm))):=iG A.bj.ah4 acO ce b2 ck λ a e H hr hp U hU=>by obtain⟨⟨b,d,kk⟩,v,l⟩:=a;rw[jk gG λ hS hR aS ap CD=>ah aS ad av hv gi];have aQ:tB:=hR;dsimp only at hv gi ap CD;subst hv;(have hsz:∀m:al,bL qq yS<=18*d?:=λ m=>by induction m with|nil=>simp[yS]|fF x m ih=>(have h1:bL gZ _B.lQ x<=18:=by unfold _B.lQ;split;(.simp);.exact CD x);unfold yS at ih⊢;rw[Qp,Ki h1 ih]);have nd:=acO.nd;rw[gm,wQ eE dL qu He qM G9 GC (aP dL xl aI (cG zP GA JQ aFI Hd NO GA I6 uq Hd r')) ji Hd n p,<-#[wR,cL p0 o7]];have s2:mE qA H1 p0 []:=NJ;refine md au wp s3 c1 av l? rk iK gY gi (tm (xs:=se vN) sV i (∃x y,a7=[l9,cx av,cx p0,x,y]/\rX/\H' p0=Z og nf (yS hI (CL i))) (aE ac ac O F0 wi) BD i bx (aO bx GW _ s4 ey db gY gi) ?_ ?_);(.rintro i x a7 H' hi⟨x',y',rfl,s4,h0⟩;(rw[Ek hi aU aU]);have ot:=CG (ga s4);refine eS (Dw QR (m5,m) az kG ot.cp e? bN O xx SZ) λ vs H5 s5 hs=>?_;(have a8:bL (CL i)<=18:=by rw[Ch];exact ao3 ap);have v8:=hsz (CL i);rw[iM (n_ dt n1 H6 s6 (by have e':=pw;subst e';exact Fg (hs H6 s6))) pe H6 s6];have Dx:H6 p0=Z og nf (yS hI (CL i)):=BX pd h0;have s7:mE H6:=L! HT s6;obtain⟨a4,e4,h4⟩:∃a4,vs=c! a4/\H6 a4=Z wl nf LT vN:=hs H6 s6;(have V4:∀o:HO,mE (upd H6 p0 o):=λ o b' o' hb=>by rw[aV (c7 hb o7)];exact kR s7);refine fC ge ge;(.rw[jn bf (¬LT=[])];have lJ:=CD m;subst e4;rw[Q4 #[_,rfl,.f? g9 kX _ ey Dx,_,rfl,p0,a4,_,_,rfl,rfl,Dx,j4 h4,by rw[Qw,hH (show _<=1000 by exact axw v8 lJ a8) ab],?_] _ (V4 _),gS bf]);.rw[jn bf (LT=[]),Q4 #[_,rfl,.f? g9 kX _ ey Dx,_,rfl,p0,_,_,rfl,rfl,Dx,by rw[JV (show _<=1000 by exact axq v8 a8)],?_] _ (V4 _),rz bf];rfl);.rintro a7 H'⟨x',y',rfl,s4,h0⟩;rw[Kd h0,ch O (p _ H' s4 λ H6 s6=>c1 p0 ((If s1).off o7) BX h0)]
aqA(S:kb)(A:a!):sY 5 i? "find_by_k" (RQ c0 (BK×Y) oR tu ci (uo/\nP eg bm H) dV (gJ S H v Rl)):=iG A.bj.apX Cn ce b2 ck λ a e H hr hp U hU=>by rw[KA b d a];have hR:tB:=hp.2;have hS:uo:=hp.1;rw[ii hU _,<-gI 2 Cn.nd (Ln hS (ae au ao)) nr H1 s1 hv,<-q5 Cn.nd ai ?_,<-mw sV m (∃(k:Y)(u:V),a7=[l9,gu n,Z u,gu k]/\gJ S H' u sK/\xK/\m=8 - k/\wt<=324) (λ _ _ _ _ s2 cw=>aO cw λ k u h1 h2 h3=>(aE k u h1 (h2.later s2) h3)) 8 x8 (fM 0 v O dX ab O (by rw[_B.Gx];simp)) ?_];rintro m a7 H2 s2⟨k,u,rfl,hu,hk,rfl,ap⟩;have eO:=CM (ga s2);have eA:ba H2 u sK:=hu.lst;have Oa:=If (ga s2);refine(aZ _ (lg (cE (bP d7 (dj (m:=wt) jQ aN B! u' e (by have e':=pw;subst e';exact JB FJ)) d3 A.g.VX) λ _=>c4 (bO (Dw aqQ (m5,u,sK) az kG eO.cp e? aN O fW #[Mk,FJ,hH ap ab])))) ge ge);(.simp only[eY,po,Oh]at hx;obtain⟨h1,h2⟩:=hx;refine aW ta bN A.g.Nw xq xq;(. (have qT:k=8:=by rw[oo cg az9]);subst qT;rw[rM mL lb (Ln Oa ao) (λ v' H3 _ dA=>Bn dA h (aZ a e g ?_)) (H3 a=Z og nf AU)];rw[h,_B.azn h2];rfl);. (have qT:k<8:=by rw[wu cg,alK hk a6]);refine gI 2 Cn.nd (cJ so (ahj S A) hr (m5,u,sK) az kG eO.cp e? aN O fW (j3 (Oa.later s3) Mk FJ kZ (wt<=18) ai5 h1 (adZ hR.dh))) λ v3 H3 s3 KY=>?_;have hl:=aaw hR.dh sK;refine lh 3 p5 Cn.nd O ai (c5 kw #[8 - kB,uc awm qT,k+1,v3,rfl,?_,uc Nat.succ_le_of_lt qT,rfl,?_]);(.have:=KY H4 s4;show gJ S H4 v3 Px kB;rw[fY _B.zO a6]);.rw[_B.zO];exact apl h1 hl);.refine aW (bP gL (dj (m:=wt) jQ aN B! u' e (by have e':=pw;subst e';exact JB FJ)) d3 A.g.VX) xq xq;(. (have G':18<wt:=by rw[oo cg asN]);rw[rM mL lb (Ln Oa ao) (λ v' H3 _ eG=>Bn eG h (aZ a e g ?_)) (H3 a=Z og nf AU)];rw[h,_B.avv hk G'];rfl);. ((have G':wt<=18:=by have:=ld cg;rw[cX ani]);have aFz:(jH sK:cr)<=18:=by exact aj8 G');rw[v? aFz,uC,CN]at hx;refine aG aN cL H3 s3;show gJ S H3 u AU;rw[_B.auI hk G' hx];exact gJ.later hu s3
Di.1(S:kb)(d:bR)(H:Hp)(kk:ak):Prop:=∃aq,oL kk dK/\(∀n v,ue kN n=Z v->gJ S lz kk v AU)/\(aq.map (·.1)).CC/\∀k∈aq.map (·.1),∃n,MQ/\k=Hc
BM.1(S:kb)(C:ak)(a:BK)(H:Hp):Prop:=bI C lz cm bm bS cm/\Di S bS H cm
S0.1:kb:=λ _=>False
nt.1(a:BK)(H H2:Hp):Prop:=my lz cm H2 cm
Di.later{d:bR}{kk:ak}(h:Di S d H kk)(s:kl):Di S d H' kk:=by refine bM h λ aq h1 h2 h3=>?_;exact(aZ aq Bt (λ n v e=>(h2 n v e).si (fb s)) h3)
O1{S:kb}{C:ak}{a:BK}{H H':Hp}(h:BM S C a H)(s:kl):BM S C a H':=#[h.1.si (fb s),h.2.si s]
BM.book{S:kb}{C:ak}{a:BK}{H:Hp}(h:BM S C a H):eg C a H:=LL h.1 ed _
Jv:∀(N:Y)(l:al),l.Nodup->(∀x∈l,x<N)->eZ<=N|0,l,_,h=>(by cases l with|nil=>rw[K9]|fF x r=>rw[jC (h x (by simp)) (Th _)])|N+1,l,hn,h=>by by_cases hm:N∈l;(. (have:=Jv N (l.erase N) (hn.erase N) λ x hx=>by(have h1:=h x (List.mem_of_mem_erase hx);have h2:x≠N:=λ e=>by subst e;exact(List.Nodup.not_mem_erase hn) hx);exact aax h1 h2);rw[t8 (List.length_erase_of_mem hm),cX Nat.le_add_of_sub_le]);. (have:=Jv N l hn λ x hx=>by have h1:=h x hx;have h2:x≠N:=λ e=>hm (e▸hx);exact aax h1 h2);rw[cX TU]
OE.1:Key->Y|.f? i=>i.toNat|.fz _=>0
aqL{ks:j1}(hn:ks.Nodup)(hk:∀k∈ks,∃n,MQ/\k=Hc):ks.length<=1114112:=by(have h:(ks.map OE).CC:=by rw[RH];rw[H_];refine hn.imp_of_mem λ{a b}ha hb p9 e=>p9 ?_;refine ah (hk a ha) λ n _ e1=>?_;refine ah (hk b hb) λ m _ e2=>?_;subst e1 e2;(have:n=m:=by simp only[OE]at e;exact ave e);rw[a6]);(have:=Jv 1114112 _ h λ x hx=>by(rw[dl (ah (T0 hx) ad k cj aS) aS]);refine ah (hk k cj) ad n h1 e1;subst e1;simp only[OE];exact Cg h1);rw[t9 el,qY]
ame{m:Y}(h:m<=1114112):m<uY:=by rw[N9];exact afE h
aeJ(S:kb)(A:a!):Fd 6 i? "by_k" c0 (BK×Y) oR tu ci (uo/\y9 S bm H/\tJ cd) r7 (nt bm) dV (y9 S bm H/\gJ S FP v Rl):=Ee A.bj.aEo awL ce b2 ck λ q f aK A' em s H E hr hp=>by rw[KA b d q,<-bW hp ad hS i_ bJ];obtain⟨hB,aq,jf,HC,oP,Hb⟩:=i_;dsimp only at hB jf HC oP Hb bJ⊢;have hU:=jO hr;have hR:tB:=LL hB ed _;(refine xW hR.ex λ dx fs mr sr co aMG hb _ _ _ _ hfk _=>?_;have hn:MQ:=by have:=(S_).mp bJ;rw[cX arP]);rw[lT (aP (iA dz (aP (tV hU aI pk aI O) dg) dg) qF) D p];have Ii:∀{X:Cx}{H1:Hp}{σ:eo}{o:d'}{bi:d8},dO X.K i?->cb X.K i? "known_by_k"->H1 b=Z p! fs->w7 H1 o a5 b->Ff (FB o "known_by_k") o=f9 o->w7 H1 (z1 o "known_by_k" bi) a5 kk:=λ{X}{H1}{σ}{o}{bi}hc hn qE ho rf=>cQ ho eP (b8 _ dx fs iK qE hc hn hfk) rf;refine ch (Jl (n:=n) hU Fu hb au O jf) eP vz;(. (have ng:eX ue kN n:=by cases h:ue kN n with|ac=>rfl|gT v=>rw[cA h hx hx]);refine eS (cJ so (aqA S A) hr (m5,n) az kG (CM s2).cp zy O fW #[I5 If,I5 CM]) λ v H3 s3 hv=>?_;(rw[wy bM (λ qv aU hfq iO=>?_) aU]);dsimp only at iO;refine md Fu gh iK hb cL H4 s4;have Mp:=kC (nw s4);have Bm:=bd Mp jf;have ap:=aqL oP Hb;rw[ES ap,<-g9 (wF _ O kk _) (ja.k (k:=kN n) Bm (ame ap)) ?_];((have nb:b≠kk:=λ e=>by rw[f' hb jf jf]);have nq:qv≠kk:=λ e=>by subst e;rw[ka gh iK jf iO iO]);(have hb5:(upd H4 kk (.dK (u3 aq Hc Nn))) b=Z p! fs:=by rw[aV nb];exact kR Mp);refine wP qv (yI (n:=n) hU Fu hb5 au O aX (by rw[ko,nX])) cL H6 s6;(have hs:oy H6:=λ a o ha=>by have h1:=fb (k:=kk) Mp _ _ ha;(have ne:a≠kk:=λ e=>by subst e;unfold br at ha;rw[ka nX ha ha]);rw[tN h1];rw[b? ne]at h1⊢;exact BX (by rw[aV ne];exact h1));have hl:gJ S un H6 Nn AU:=c1 qv hfq (by rw[kh,gS nq,BX (by rw[aV nq];exact db iO)]);(refine p _ H6 hs #[#[Cu hs,u3 aq Hc Nn,BX aX,ad m v hm,?_,?_],hl];(.rw[ko]at hm;by_cases e:m=n;(.subst e;rw[ka nX hm hm,hl]);.rw[lf (zI e)]at hm;exact(HC m v hm).si hs);.rw[Hj _ ng,yo,Tv];refine #[oP,ul,λ a ha b' iE e=>?_];simp at iE;subst iE e;exact amK ng ha);.rw[Hj _ ng,yo];intro k hk;rcases Tz hk with hk|hk;(.exact Hb k hk);.simp at hk;exact(af n hn hk));.cases h:ue kN n with|ac=>rw[h]at hx;rw[jC O hx]|gT v=>refine md (v:=v) (yI (n:=n) hU Fu iK hb au O iK jf h) cL H3 s3;have VC:=kC s3;have hs:oy H3:=fb VC;exact p _ H3 hs #[#[Cu hs,Di.later (fE aq jf HC oP Hb) VC],(HC n v h).si hs]
}
section _P
namespace _M
open hA hE hF _L
def z:={
aBw{X:Cx}{k:Y}{m:bt}{e o:d'}{es:ke}{bi pP:d8}{C:ak}{α β:Type}{c3:k?}{cv:β->j?}{gc:l6}{e7:β->α->w2}{pl:Cb}(c:dO X.K C)(F:∀S:β,Aj sj C m c3 (cv S) gc S')(hr:xD)(bw:zT e)(a_:D5)(ht:DO D? EF ov m pl lH):PE X D? (λ σ H Q=>∃S,Xv X C m o lH c3 (cv S) gc S' σ H Q):=λ iJ s σ H Q I bx=>t! bx S (SO c (F S) hr bw a_ ht iJ s σ H Q I h)
}
section _M
namespace _P
open hA hE hF _L _M
variable{P:gV}{w:gX}{K:h?}{mg:hY}{de:ib}{c:Cs}
variable{H H2 H':Hp}{α β:Type}{X:Cx}{n b6 hG:Y}{e:d'}{a z C b:ak}{l:rY}{fI:gP}{cl:jX}{aq:c2 (Key×V)}{o:HO}{c3:k?}{f:Y->fm}{xs:g7}{cv:j?}{dk:mS}{gc:l6}{e7:k_}{m:al}{g:Ls}{R:rI}{es:ke}{x:vA}{p1 pP:d8}{i:cr}{y:O3}{u:U}
def z:={
Ew(H:Hp):lO S0 H:=λ _ h=>Im
Hn.2(c:Cs)(a:DR)(H:Hp):Prop:=tC/\jt FP bS cm/\tJ BS e!
RF(A:a!):tD 7 "ends_by_k" c0 DR oR bS (Hn c) r7 (nt bm) dV (tC/\v=.bl n5 wT on BS e!):=Eu A.aJd afG λ q f aK A' em s H E hr hp=>by obtain⟨⟨b,d,kk⟩,rv,num,r⟩:=q;rw[jk bW λ i_ aS bJ=>aO aS λ ar y pX bo hy=>?_];dsimp only at pX bo hy bJ i_⊢;subst pX;have hR:tB:=O5;have N8:=ff bo;rw[lT ji (tK gL (VB W7 (by rfl) jQ Tq (iz (SO so (aeJ S0 A) hr) fQ)) ki (by first|exact Sk _ ab ab|rfl)) D p,<-(oZ RM b ([vN i!]) az I3 e? w! il Ad gY N8 O tg #[Ew _,SU,bJ] nr H2 bw jo)];obtain⟨D4,qv,rfl,_,iO⟩:=jo;rw[qP ti qv (.f? (x! ff iO)) ?_ ti _ O (p _ H2 (nE (fb s1) bw) #[D4,Ji])];dsimp only;rw[_B.Vp,el,ux];simp
kq.1(B:sn)(n:Y):al:=(if BP B 5 n=[]then[n]else BP B 5 n).O7 (u8 B)
Uv(A:a!):tD 7 "folded_by_k" c0 (BK×Y) oR tu ci (tC/\tJ cd) r7 (nt bm) dV (tC/\ba FP v (kq on cd)):=Eu A.axh aec λ q f aK A' em s H E hr hp=>by rw[KA b d q,Fa i_ bJ];dsimp only at i_ bJ⊢;have nd:=aec.nd;have hR:tB:=O5;have F:=hR.dh;unfold kq;generalize oS:(if n7 n=[]then[n]else n7 n)=cZ;(have DE:∀x∈cZ,Lw:=λ x hx=>by rw[<-oS]at hx;split at hx;(.simp at hx;rw[fY hx bJ]);.exact F.ER ab ab ab hx);(have yU:Hu<=3:=by rw[<-oS];split;(.exact(ab:1<=3));.rename_i bf;rw[<-bM (_B.map_some bf) uj r gA e,h! e (F.row 5 r ab gA).most]);rw[lT (aP Ef aI eE dL vY He qM (AZ aI) (cy (i:=4)) GA JQ GZ r' (aBw so (λ S=>aeJ S A) hr) ji r') D p,<-At cT cZ (Ic (bO PP uG n au) ge ge) λ fv H1 s1 hfv=>?_];((.rw[jn bf (n7 n≠[])];rw[b? bf]at oS;rw[<-oS];exact PP EL n au);.rw[jn he (n7 n=[])];rw[g? he]at oS;rw[<-oS];exact(r5 iI [vN n] (ae au ao)).imp λ v H1 s1 h=>h);(rw[Al hfv.now qf Hr]);refine #[wR,cL r fN];refine iN i_ λ Gv aq jf OT=>?_;dsimp only at jf;have aJZ:y9 ((· = r)) xh La:=O1 (H:=H1) #[Gv.later (fb s1),aq,gY jf,λ m v hv=>by refine bM ((OT.1 m v hv).si (fb s1)) uj a e g;exact(aZ a e (λ er=>by subst er;rw[ka ff g fN fN]) g),OT.2] (cS fN);((have M8:r≠kk:=λ e=>by subst e;rw[ka gY jf fN fN]);have nqk:qf≠kk:=λ e=>by subst e;rw[ka gY jf Hr Hr]);(have nrq:qf≠r:=λ e=>by rw[f' Hr fN fN]);(have aa7:A_ La qf wl cZ.map vN:=by rw[kh];rw[b? nqk,aV nrq];exact Hr);have s2:oy La:=fb (ga (cS fN));refine wP qf aN wp s3 c1 qf l? j4 gh ff aa7 (Bf Kk K qf (xs:=cZ.map vN) w8 (∃x4:i1,a7=[l9,gu n,cx qf,rj,x4]/\oy H'/\A_ H' qf wl cZ.map vN/\y9 ((· = r)) xh H'/\A_ H' r og nf Kq) (rQ ac O (kC (fb s3)) (fb s3 _ _ aa7) (aJZ.later s3) (fb s3 _ _ (by rw[kh,gS M8,aX]))) BD k cw (wU cw GW _ h j4 ff h) ?_ ?_);(.rintro k x a7 H' hk⟨x4,rfl,sH,fD,kU,gA⟩;(rw[Ek hk bu bu]);have hRk:sE H' b d:=kU.book;refine #[_,rfl,.f? g9 kX _ ey ff gA,(· = r),(m5,m),b,[vN m],az,kG hRk.cp,e? dt,rfl,kw #[#[BW (by subst hx;exact l? db ff gA),Mm,Ep DE m hm],nr H5 bw jo]];obtain⟨mN,qv,rfl,xp,iO⟩:=jo;dsimp only at iO bw mN;have vJ:my un H' H5 kk:=nE (fb s4) bw;have mj:=bd vJ gA;have jT:=bd vJ fD;(have j9:k<3:=by have:=qx hm;exact TT a6 yU);(have jN:∀l:al,bL (l.flatMap (u8 hI))<=18*eZ:=λ l=>by induction l with|nil=>rw[K9]|fF a l ih=>rw[Qp];have:=gZ _B.adH a;exact Ki a6 ih);have aIH:=qq _B.adH;refine(Az r qv _ _ O O ff mj ff iO ?_ ?_);(.rw[Qw];have:=jN (cZ.take k);rw[t9 Ch];rw[N9];exact alT a6 aIH j9);refine iN mN λ zM kv5 hk5 J9=>?_;(dsimp only at zM hk5 J9;have s5:oy qA H5 r (GM Kq++jL qq u8 vN):=λ a o ha=>by(have h1:=nE sH vJ _ _ ha;have ne:a≠r:=λ e=>by subst e;have h2:=ff ha;rw[ka gY h2 fN fN]);rw[tN h1];split at h1;(.cases h1);.rename_i e2;rw[b? e2,aV ne];exact h1);have ups:∀{v:V}{l:al},Su un H5->Su un qA H5 r (GM Kq++jL qq u8 vN):=λ dA=>Bn dA h (aZ a e g (by rw[tN h];split at h;(.cases h);.rename_i e2;rw[b? e2,aV g];exact h));refine(rQ _ O s5 ?_ (LX (Gv.later s5) kv5 (by rw[aV (sg M8)];exact hk5) (λ m' v' o8=>ups (J9.1 m' v' o8)) J9.2) ?_);(.rw[tN jT];rw[b? nqk]at jT⊢;rw[aV nrq];exact jT);.rw[kh];rw[b? M8,aX,yy,hm,T1,yo];simp);.rintro a7 H'⟨x4,rfl,sH,fD,kU,gA⟩;rw[N! (by rw[el];exact x? _)]at gA;refine iN kU λ hB' kv' cj SE=>?_;exact #[_,rfl,p _ _ sH #[#[hB',kv',cj,λ m' v' o8=>by refine bM (SE.1 m' v' o8) uj a e g;exact(aZ a e (λ h=>h) g),SE.2],r,rfl,gA]]
wq.2(B:sn)(l:al):fm:=l.all gr kQ (BP B 5 x)
aau{B:sn}(h:∀n,bh n5 wT B n)(n:Y):kq B n=O9 B n:=by unfold kq O9;congr 1;funext x;exact _B.aws (h x)
M0(A:a!):tD 8 "folding_settles" c0 DR oR bS ci (Hn c a H/\∀n,bh n5 wT on n) r7 (nt bm) dV (tC/\v=.bl ((Is on BS e!).all gr kQ (BP on 5 x))):=Eu A.ai6 ab5 λ q f aK A' em s H E hr hp=>by obtain⟨⟨b,d,kk⟩,rv,num,r⟩:=q;rw[sS aS b9 (bW aS λ i_ aU bJ=>aO aU λ ar y pX bo hy=>?_)];dsimp only at pX bo hy bJ i_ b9⊢;rw[pZ pX ab5.nd];have N8:=ff bo;have F:m?:=(show tB from O5).dh;(have hft:PB=(sM kq).O7 (kq hI):=by unfold Is;rw[aau b9,show kq hI=sx O9 from funext (aau b9)]);rw[hft];(have aH:∀{m x:Y},tJ m->x∈qq kq->Lw:=λ{m x}hm hx=>by unfold kq at hx;refine ah (List.mem_flatMap.mp hx) ad z hz hxz;refine F.aw1 ?_ hxz;split at hz;(.simp at hz;rw[fY hz hm]);.exact F.ER ab ab ab hz);rw[lT (aP qM (l8 (yQ (Uv A) hr)) Bz (cG qM (l8 (yQ (Uv A) hr)) GC (cG (iA dz ji Cj dg))) ji Cj) D p,<-(af RM AL w! il Ad gY N8 tg #[SU,bJ] nr H2 bw jo)];(rw[dl (iN jo λ D4 qv a9 iO=>?_) a9]);dsimp only at bw D4 iO;have vJ:oy H2:=nE (fb s1) bw;generalize hL:sM kq=L at iO;have hLs:∀x∈L,Lw:=λ x hx=>aH bJ (by rw[fY hL hx]);rw[hL]at p;refine c1 qv l? ey ff iO (Bf tm K qv (xs:=L.map vN) w8 (∃x2 x3:i1,a7=[l9,cx ar,x2,x3]/\oy H'/\A_ H' qv og L.map/\mz xh H'/\bh gZ wq Dz L.take k kq) (fM ac ac O vJ iO D4 O) BD k bx (fR bx λ _ _ _ _ h _=>ey ff h) ?_ ?_);(.rintro k x a7 H' hk⟨x2,x3,rfl,sH,fD,kU,gK⟩;(rw[Ek hk bu bu]);refine(af (m5,m) AL aN fW #[#[O8 s3,Ep hLs m hm],nr H4 ad8 jo]);(rw[dl (iN jo λ adL q4 bV pO=>?_) bV]);dsimp only at ad8 adL pO;have Ld:my un H' H4 kk:=nE (fb s3) ad8;(have UO:gZ wq Dz L.take kB kq=(gZ wq Dz L.take k kq&&wq hI (kq hI m)):=by unfold wq;rw[yy,hm,T1,T3];simp);generalize hM:qq kq=M at pO UO;refine c1 q4 l? ey ff pO (Bf tm K q4 (xs:=M.map vN) (λ j d! H5=>∃x3:i1,d!=[l9,cx ar,gu m,x3]/\my un H' H5 kk/\A_ H5 q4 og M.map/\mz xh H5/\bh (wq hI (M.take j))) eW (rQ x3 O Ld pO) adL (λ j d! H5 _ cw=>wU cw GW _ h ey ff h) ?_ ?_);(.rintro j z d! H5 hj⟨x3,rfl,v9,jT,mN,Ct⟩;(rw[dl (ah (eK hj) ad e he cI) cI]);have D1:sE H5 b d:=mN.book;refine(ch (bO (Jt uG (m5,5,e) az kG D1.cp d1 d3 A.g.C2 bN O (λ H6 s6=>#[D1.later s6,zW (5<15)]))) λ H6 s6=>vz);(.rw[jn bf (n7 e≠[]),<-p _ H6 (nE sH (nE v9 (fb s6))) #[O_ s6,Ji]];symm;rw[An];intro h;have h1:=Ho h e (List.mem_flatMap.mpr (af m (yf hm) (by rw[hM];exact yf he)));simp at h1;exact bf h1);.rw[jn pL (n7 e=[]),<-(rQ _ O (nE v9 (fb s6)) (fb s6 _ _ jT) (O_ s6) ?_)];unfold wq at Ct⊢;rw[yy,he,T3,Ct];simp[pL]);.rintro d! H5⟨x3,rfl,v9,jT,mN,Ct⟩;rw[Kd Ct,<-(fM _ x3 O (nE sH v9) bd v9 fD mN ?_)];rw[UO,gK,Ct];rfl);.rintro a7 H'⟨x2,x3,rfl,sH,fD,kU,gK⟩;rw[Kd gK,p _ H' sH #[kU,r? sb gK.symm]]
}
inductive U where
 |p(x:SA)
 |m(x:vA)
 |s(x:w1)
def z:={
U.num.1:U->Y|.p x=>x.1|.m x=>x.1|.s x=>x.1
vj.1(H:Hp)(v:V):U->Prop|.p x=>mG H v x|.m x=>jt H v x|.s x=>lq H v x
MX:Up vj:=NB x h (by cases x with|p x=>exact b! lY s h|m x=>exact b! jW s h|s x=>exact b! mX s h)
}
structure jX where
 hG:Y
 ln:Y
 b6:Y
 nm:bt
 g:bR->U->fm
def z:={
lV.1(hG b6:Y)(nm:bt)(g:K'):jX:=#[hG,0,b6,nm,KW u u p]
cY.1(hG b6:Y)(nm:bt)(g:Ls):jX:=#[hG,1,b6,nm,KW u u m]
tE.1(hG b6:Y)(nm:bt)(g:Lr):jX:=#[hG,2,b6,nm,KW u u s]
i5.1(d:bR)(ln b6:Y):c2 U:=if ln=0 then jL F! kD U.p else if ln=1 then jL F! eq U.m else jL F! hO U.s
}
structure yR(d:bR):Prop where
 dh:m?
 names:namesOk d
def z:={
uD.1(d:bR)(l:gP):Prop:=∀p∈l,∀u∈i5 d p.part p.kind,bh (p.g d u)
DU.2:=BK×V×U
xG.2(a:DU):g7:=oR bS
zJ.1(c:Cs)(fI:gP)(cl:jX)(a:DU)(H:Hp):Prop:=tC/\vj FP bS cm/\cm∈i5 xu u9 u_/\yR xu/\uD xu fI
BI.1(c:Cs)(cl:jX)(a:DU)(v:V)(H:Hp):Prop:=tC/\v=.bl (cl.g xu cm)
cP.1(P:gV)(w:gX)(K:h?)(mg:hY)(de:ib)(c:Cs)(fI:gP)(cl:jX):Prop:=∃f,KP/\mn Mq P 8 f xG (zJ c fI cl) r7 (nt bm) (BI c cl)
yT{k:Y}(h:ty aM u! Mn)(hk:xK)(conv:RA a (c3 a') (∀v H2,e7 a' v H2->v=.bl (cl.g xu cm))):ww cl:=by rw[Q9 (λ f h1 fd ps h2 h3 h4=>?_) h2 (λ vs H Q E bx=>bM bx λ a e hp q=>?_),<-bM (conv a H hp) λ a' e' g1 g2=>?_,ch xa a' BT e e' g1 zp v (q v H2 (fb s2) #[hp.1.si s2,g2 v H2 dX])]
It{k:Y}(h:t_ ty mJ u! c3)(hk:xK)(conv:RA a (c3 a') vH (gc a' H H2) (e7 a' v H2) (nt bm H H2/\BI c cl a v H2)):ww cl:=by rw[Q9 (λ f h1 fd ps h2 h3 h4=>?_) h2 (λ vs H Q E cw=>bM cw λ a e hp q=>?_),<-bM (conv a H hp) λ a' e' g1 g2=>?_,(aZ a' BT e e' g1 (λ v H2 h5 h6=>q v H2 (g2 v H2 h5 h6).1 (g2 v H2 h5 h6).2))]
Ej{d:bR}{k:Y}(hk:xI)(h:x∈FS):eV∈kA u7:=by show eV∈kA AS nD eq;rw[wN eq k nD,<-pM];exact CE h
aG2{d:bR}{k:Y}(hk:k<14){x:SA}(h:x∈vl kD):eV∈kA O':=by show eV∈kA AS Iu kD;rw[wN kD k Iu,<-pM];exact CE h
ac1{d:bR}{k:Y}(hk:k<3){x:w1}(h:x∈FQ):eV∈kA Ia:=by show eV∈kA AS yJ hO;rw[wN hO k yJ,<-pM];exact CE h
cP.row{fI:gP}{k hG b6:Y}{nm:bt}{cv:mi bR nC}{g g':Ls}(h:ty aM nm nP jM cv g)(hk:xK)(pC:BJ)(hp:Lv r u7 _B.zQ):ww wO cY:=by rw[<-yT (cl:=wO cY) h hk ad a H n9,q! bk v u,<-gG n9 t?,tw cY h2 h3];(rw[qO h3 aS aS]);have hm:=Ej pC hx;have hf:=O! b6 eV pC hm;rw[K3 h4 h5 hf,<-c1 (bk,v,x) (fG O? (b! jW xF h2) g8 ?_ g1) LY];have:=hf.pos;rw[cA e a6 a6]
cP.hZ{fI:gP}{k hG b6:Y}{nm:bt}{cv:mi bR Cl}{g g':K'}(h:ty aM nm nP p7 cv g)(hk:xK)(pC:b6<14)(hp:Lv r O' _B.zh):ww wO lV:=by rw[<-yT (cl:=wO lV) h hk ad a H n9,q! bk v u,<-gG n9 t?,tw lV h2 h3];(rw[qO h3 aU aU]);have hm:=aG2 pC hx;rw[K3 h4 h5 (h4.dh.hZ b6 eV pC hm),c1 (bk,v,x) #[O?,b! lY xF h2,g1] LY]
cP.sqn{k:Y}{nm:bt}{cv:mi bR yq}{g g':Lr}(h:ty aM nm nP abV cv g)(hk:xK)(pC:b6<3)(hp:Lv r Ia _B.CW):ww wO tE:=by rw[<-yT (cl:=wO tE) h hk ad a H n9,q! bk v u,<-gG n9 t?,tw tE h2 h3];(rw[qO h3 a9 a9]);have hm:=ac1 pC hx;rw[K3 h4 h5 (h4.dh.seq b6 eV pC hm),c1 (bk,v,x) #[O?,b! mX xF h2,g1] LY]
}
section
variable{d:bR}{k:Y}{r:nC}
def z:={
p8(h:_B.zQ (k,r)):T7<=32:=by have h1:=h.most;(have h2:SL<=32:=by have:∀k,xI->SL<=32:=kK;exact a6 k h.kind);exact hH h1 h2
DP(h:_B.zQ (k,r))(h1:k≠10)(h2:k≠11):bh (r.to.all xZ):=by have:=h.dh;unfold NW at a6;rw[Fm];rw[b? h1,b? h2]at a6;rw[qY]
Xa(F:m?)(h:tJ n):bh Sq Sd:=List.all_eq_true.mpr λ x hx=>F.aaW _ _ _ h hx
za{r:Cl}(h:_B.zh (k,r)):rP r:=#[h.le,((S_).mp h.last).1]
xi(F:m?)(n c:Y):bL nL Mt.apart n c<=n+1:=F.xi n c
an4(F:m?)(n:Y):bh dS (jH Sd<=18):=v? Ai (xi F 8) n
aAy(F:m?)(hk:k<14)(n:Y):nL Pa k n<=Mt.most k:=by unfold Pa;split;(.rename_i r h;exact(F.hZ k r hk (List.mem_of_find?_eq_some h)).most);.exact Tu _
}
section z
def z:={
cls.1:gP:=[cY 20 0 "canonical_steps_end" ez (nL Mt.ends Io i!&&((r.to.drop 1).all gr kQ R!)),G! 0 "canonical_row_without_hangul" up r ((i!::u5).all λ c=>DQ c c),G! 1 "scalar_is_no_hangul" up r Qt,lV 21 0 "range_without_hangul" up r Ax r c DQ c c,cY 22 0 "taken_apart_in_order" ez (Mt.sorted hI (Iv hI i!)&&dS (jH sM Iv<=18)),pg 1 "has_no_canonical_row" ez kQ o! (Mt.map hI 0),Qe (pg 1),Qe (pg 0),cY 24 0 "composes_alone" ez (o! Fh||(T7==2&&(sM Iw==0&&(gZ Iw A6==0&&(jH ((sx TY).filter λ q=>q.to==u5&&!Fh q.scalar)==1&&Mt.joined A6 (r.to.getD 1 0)==ac))))),cY 25 5 "folded_stays" ez FH (kQ (n7 x)&&(Sh).all n? kQ (n7 y)),cY 25 6 "simply_folded_stays" ez FH kQ (vm 6 x),cY 26 7 "mirror_holds" ez (vm 7 A6==S6&&o! (vF 13)),cY 27 8 "partner_holds" ez (o! (sX 9)!=0&&(sX 9 A6+o! (sX 9)==3&&(vm 8 A6==S6&&o! (sX 8)==13))),lV 27 9 "brackets_have_partners" ez Ax r c (vm 8 c !=[]),lV 28 11 "digits_stand_in_tens" ez (Pb==r.last&&(sp 10).all λ i=>sX 11 (Pb+1 - Ix+i)==i+1&&dS (Ix<=Pb+1)),lV 29 10 "script_is_named" ez dS (Ix<Rf (max 3)),cY 29 10 "scripts_are_named" ez FH dS (x<Rf (max 3)),cY 30 9 "prototype_stays" ez FH ((Sh).all n? (kQ (vm 9 y)&&!vF 11 y)),lV 31 13 "flags_agree" up r ((!u? 7||u? 8)&&!u? 16),lV 32 0 "combining_extends" ez Ax r c (AK==4&&sX 3 c !=2),cY 33 0 "canonical_row_stays_cluster" ez gZ BZ r,cY 34 11 "weights_hold" up r Rr u5,tE 34 0 "weights_hold" up s Rr s.to,tE 35 0 "contraction_holds" λ d s=>(s.key.all gr kQ R!)&&(gZ Mt.sorted s.key&&gZ Iw (s.key.headD 0)==0),cY 36 11 "weighed_has_no_step" ez kQ sM Mt.canon,KH (cY 37 2) o! (vF 2),KH (cY 37 3) o! (vF 2),KH (cY 37 4) o! (vF 2),lV 37 13 "letter_case_is_cased" up r (!(u? 0||u? 1)||u? 2),cY 38 1 "scalar_has_no_class" ez (sM Iw==0),JP (r9 5),JP (r9 1),JP (r9 0),lV 40 3 "conjuncts_hold" ez Ax r c (if Ix=2 then AK==0 else AK==4||AK==5),lV 41 13 "pictures_hold" ez (!u? 12||Ax r c (AK==0))]
zt.1(P:gV)(w:gX)(K:h?)(mg:hY)(de:ib)(c:Cs):gP->gP->Prop|_,[]=>True|fI,cl::r=>ww cl/\vr zt (cl::fI) r
CK{d:bR}{l:gP}(h:uD d l){nm:bt}(hm:cY hG b6 nm g∈l)(hk:BJ){r:nC}(hr:r∈u7 b6 []):bh (g d r):=by(have e:u7 b6 []=jL F! eq ((·.2)):=by show AS nD eq b6 []=_;rw[wN eq b6 nD,pM]);rw[e]at hr;(rw[qO hr aS aS]);exact h _ hm (.m x) (CE hx)
KS{d:bR}{l:gP}(h:uD d l){Hf HQ F_ HG:bt}(h1:G! 0 Hf r8 r ((i!::u5).all λ c=>DQ c c)∈l)(h2:G! 1 HQ r8 r Qt∈l)(h3:pg 1 F_ (λ d r=>zE)∈l)(h4:pg 0 HG (λ d r=>zE)∈l)(n:Y):bh n5 nL O4 Io n:=by refine _B.aB7 pe r hr pe r hr (λ r hr=>CK h h4 ab hr) (λ r hr=>CK h h3 ab hr) n;(.have:=CK h h1 ab hr;rw[List.all_cons,eY,eY]at a6;simpa using NA);.have:=CK h h2 ab hr;rw[LQ]
aK6{v:V}(h:jt H v x):J1 H v xE:=by rw[KN g t (qK a _ _ y e g t)]
aGv{v:V}{x:w1}(h:lq H v x):J1 H v xE:=by refine gQ h λ a y z e g _ t=>?_;exact(qK a _ _ z e g t)
Ug{nm:bt}(hk:BJ){a:DU}(hp:zJ c fI (pg b6 nm ez zE) a H):Qm (Hn c a' H) (mz zl H2/\v=.bl n5 wT FO BS a'.2.2.2) (pg b6 nm ez zE):=by rw[q! bk v u,jk gG t?,tw cY h2 h3];(rw[qO h3 aU aU]);exact c1 (bk,v,x) #[h1,h2,RY Ej hx sc] vw v' #[s2,e]
PQ{nm:bt}(hk:BJ){a:DU}(hh:uD xu fI->∀n,bh n5 wT on n)(hp:zJ c fI (r9 b6 nm ez I') a H):Qm (Hn c a' H/\∀n,bh n5 wT FO n) (mz zl H2/\v=.bl ((Is FO BS a'.2.2.2).all gr kQ (BP FO 5 x))) (r9 b6 nm ez I'):=by rw[q! bk v u,jk gG t?,tw cY h2 h3];(rw[qO h3 a9 a9]);exact c1 (bk,v,x) #[#[h1,h2,RY Ej hx sc],hh h5] vw v' #[s2,e]
Oj(A:a!):vr zt [] cls:=by(refine #[qI agU Ai p8 hf,qI aD9 Ai p8 hf,D8 ak4,wf au9 (za hf),C8 aCd #[Xa CP yV,by rw[an4 CP,Bool.and_true]],D8 am4,zw It (pg 1 "ends_by_k") RF,zw It (pg 0 "ends_by_k") RF,qI aA6 (fG yV EP hm (CK hh (hG:=21) (b6:=0) (nm:="canonical_row_without_hangul") y? ab hm)),D8 aF3,qI ayE ?_,z6 asR,qI aEb (fG yV ?_ EP (aAy CP ab _)),wf ax0 (za hf),wf ajn #[za hf,CP,hm],y7 cP.hZ alc #[hD.names,rfl],qI ara #[hD.names,Ai p8 hf],qI azb BW (Xa CP (Ho EP x hx)),P4 aHk,wf aKG (za hf),qI aEq #[yV,EP,IB],zw yT (cY 34 11 "weights_hold") Rc,zw yT (tE 34 0 "weights_hold") Rc,y7 cP.sqn att #[#[?_,yV,hH IB kO (Mt.keyMost 0<=1000)],rfl],D8 aoN,z6 JH,z6 JH,z6 JH,P4 aud,z6 aob,JS (r9 5) M0,JS (r9 1) M0,JS (r9 0) M0,wf aAq (za hf),wf ajA (za hf),trivial];(.exact Ug ab hp);.exact Ug ab hp);(((.exact T8 IB hf.pos);.exact T8 IB hf.pos);(.rw[q! bk v u,jk gG t?,tw cY h2 h3];(rw[qO h3 bu bu]);exact(c1 (a5 bk.1,v,xE) #[aK6 (b! jW xF h2),Ai p8 (O! 11 eV ab (Ej ab hx))] λ v' H2 e=>e));.rw[q! bk v u,jk gG t?,tw tE h2 h3];(rw[qO h3 bV bV]);exact(c1 (a5 bk.1,v,xE) #[aGv (b! mX xF h2),hH (h4.dh.seq 0 eV ab (ac1 ab hx)).L' kO (N4 0<=1000)] λ v' H2 e=>e));((.intro e;have:=hf.least;rw[Fm,t9 e,jC a6 ab]);.rw[JR n (KS hh) hp]);(.rw[JR n (KS hh) hp]);.rw[JR n (KS hh) hp]
brk.1(d:bR):gP->al|[]=>[]|G6=>match EH with|Z u=>Ba|ac=>um l
aht(d:bR)(cl:jX)(l:gP):um (cl::l)=match EH with|Z u=>Ba|ac=>um l:=rfl
Ja.1:j0 NU->al|ac=>[]|Z f=>rG
}
structure xV(d:bR):Prop where
 ps:d.ps.Pairwise λ x y=>x.1<=y.1
 ms:d.ms.Pairwise λ x y=>x.1<=y.1
 ss:d.ss.Pairwise λ x y=>x.1<=y.1
def z:={
EE.1(d:bR)(cl:jX)(x:iW Nq):Prop:=x.1=su/\Au ur=bL zo/\∀(i:Y)(u:U),zo[i]?=Z u->u.num=Je ur+i/\eV.2 i=vT
Iy.1(d:bR):gP->c2 (Y×Nq)->Prop|[],[]=>True|G6,x::m=>EE d cl x/\Iy d l m|_,_=>False
akE{p:α->fm}(h:∀i u,l[i]?=Z u->f i=p u):((sp eZ).CQ Nr=ac/\eX (l.find? (λ u=>!p u)))\/∃i u,(sp eZ).CQ Nr=Z i/\l.find? (λ u=>!p u)=Z u/\l[i]?=Z u:=by cases e:(sp eZ).CQ Nr with|ac=>refine .f? #[rfl,Q! cL u hu];obtain⟨i,hi⟩:=T_ hu;have a8:=qx hi;have:=List.find?_eq_none.mp e i (List.mem_range.mpr a8);rw[t8 (h i u hi),qY]|gT i=>refine bW (List.find?_range_eq_some.mp e) ad h1 h2 h3;have a8:=List.mem_range.mp h2;have hi:l[i]?=Z l[i]:=Hk a8;refine .fz (aE i (l[i]) O ?_ hi);refine _B.Hm (j:=i) hi (by rw[<-h i _ hi];exact h1) λ j y hj hy=>?_;have:=h3 j hj;rw[t8 (h j y hy),LQ]
Tp{d:bR}:∀{l:gP}{m:c2 (Y×Nq)},Iy d l m->um l=Ja R_|[],[],_=>rfl|[],_::_,h=>Im|_::_,[],h=>Im|G6,(hG,b6,f)::m,h=>by rw[gf h λ aS h4=>bW aS ad h1 h2 h3];have ih:=Tp h4;dsimp only at h1 h2 h3;show(match EH with|Z u=>Ba|ac=>um l)=Ja (match(sp Au b6).CQ λ i=>!f i with|Z i=>Z #[hG,Je b6+i]|ac=>R_);rw[h2];rcases akE (l:=zo) (p:=cl.g d) (f:=f) (λ i u e=>(h3 i u e).2)with⟨e1,e2⟩|⟨i,u,e1,e2,e3⟩;(.rw[e1,e2];exact ih);.rw[e1,e2,h1];show Ba=[su,_];rw[(h3 i u e3).1]
JI(n k:Y)(l:AP)(h:k<=n):((zv Mf).map List.length).sum=_B.sumTo k l:=by rw[_B.CH,<-N',List.take_range,N_ h,nz];rfl
Pq{k:Y}(l:AP)(h:k<n):bL kA (Mf).getD=bL M4:=by rw[_B.jq l h,_B.DB]
getD_at{k i:Y}(l:AP)(h:k<n){x:vk α}(hx:M4[i]?=Z x):(kA (Mf).getD)[i]?=Z eV:=by rw[_B.jq l h,<-pM,yp,hx];rfl
rH{d:bR}(S:xN){k:Y}{nm:bt}{g:K'}(hk:k<14)(hf:∀i r,(kA O')[i]?=Z r->f i=g d r):My lV g (k+1):=by refine #[rfl,?_,ad i u hu];(.show Au kB=bL ro kD U.p;unfold ID;rw[E6 aeC,el,T!];exact Pq kD hk);.have eA:(ro kD U.p)[i]?=Z u:=hu;rw[Ak eA];cases e:(vl kD)[i]? with|ac=>rw[cA e eA eA]|gT x=>rw[Kl kD hk kB];rw[E6 aeC,T!,_B.Mb S.ps e];rw[Lt JI Iu kD]
gk{d:bR}(S:xN){k:Y}{nm:bt}(hk:xI)(hf:∀i r,(kA u7)[i]?=Z r->f i=g d r):My cY g (32+k):=by refine #[rfl,?_,ad i u hu];(.show Au (32+k)=bL ro eq U.m;unfold ID;rw[rd UT,E6 aaK,el,CR];exact Pq eq hk);.have eA:(ro eq U.m)[i]?=Z u:=hu;rw[Ak eA];cases e:FS[i]? with|ac=>rw[cA e eA eA]|gT x=>rw[Kl eq hk (32+k)];rw[rd UT,E6 aaK,CR,_B.Mb S.ms e];rw[Lt JI nD eq]
afj{d:bR}(S:xN){k:Y}{nm:bt}{g:Lr}(hk:k<3)(hf:∀i r,(kA Ia)[i]?=Z r->f i=g d r):My tE g (64+k):=by refine #[rfl,?_,ad i u hu];(.show Au (64+k)=bL ro hO U.s;unfold ID;rw[rd Tt,rd V3,el,CR];exact Pq hO hk);.have eA:(ro hO U.s)[i]?=Z u:=hu;rw[Ak eA];cases e:FQ[i]? with|ac=>rw[cA e eA eA]|gT x=>rw[Kl hO hk (64+k)];rw[rd Tt,rd V3,CR,_B.Mb S.ss e];rw[Lt JI yJ hO]
aFv{d:bR}(S:xN):Iy d cls sx T?:=#[fl (k:=0) ab bn i r (by rw[cO]),fl (k:=0) ab bn i r (by rw[cO]),fl (k:=1) ab bn i r (by rw[cO]),pi (k:=0) ab bn i r (by rw[cO]),fl (k:=0) ab bn i r (by rw[cO]),fl (k:=1) ab bn i r (by rw[cO]),fl (k:=1) ab bn i r (by rw[cO]),fl (k:=0) ab bn i r (by rw[cO]),fl (k:=0) ab bn i r (by rw[cO]),fl (k:=5) ab bn i r (by rw[cO]),fl (k:=6) ab bn i r (by rw[cO]),fl (k:=7) ab bn i r (by rw[cO]),fl (k:=8) ab bn i r (by rw[cO]),pi (k:=9) ab bn i r (by rw[cO]),pi (k:=11) ab bn i r (by rw[cO]),pi (k:=10) ab bn i r (by rw[cO]),fl (k:=10) ab bn i r (by rw[cO]),fl (k:=9) ab bn i r (by rw[cO]),pi (k:=13) ab bn i r (by rw[cO]),pi (k:=0) ab bn i r (by rw[cO]),fl (k:=0) ab bn i r (by rw[cO];rfl),fl (k:=11) ab bn i r (by rw[cO]),afj S (k:=0) ab bn i r (by rw[cO]),afj S (k:=0) ab bn i r (by rw[cO]),fl (k:=11) ab bn i r (by rw[cO]),fl (k:=2) ab bn i r (by rw[cO]),fl (k:=3) ab bn i r (by rw[cO]),fl (k:=4) ab bn i r (by rw[cO]),pi (k:=13) ab bn i r (by rw[cO]),fl (k:=1) ab bn i r (by rw[cO]),fl (k:=5) ab bn i r (by rw[cO]),fl (k:=1) ab bn i r (by rw[cO]),fl (k:=0) ab bn i r (by rw[cO]),pi (k:=3) ab bn i r (by rw[cO]),pi (k:=13) ab bn i r (by rw[cO]),trivial]
alE{d:bR}(S:xN):um cls=Ja KI:=Tp (aFv S)
mK.1(mg:hY)(H:Hp)(v:V)(cl:jX):Prop:=∃t f,v=c! t/\oE t [vN su,vN u9,vN u_,c! f]/\KP
F'.1(R:rI)(H:Hp)(v:V)(l:rY):Prop:=∃a xs,rU/\oE a xs/\oT R xs l
axu{σ:eo}:ig fB [] sw vs oT R vs []:=fB.of fQ v5 s1 Q (q _ H1 Go vv Paired.nil)
am7{σ:eo}{a:α}(h:ig Ev e λ v H=>R H v a)(r:tW fB λ vs H=>oT R vs l)(hs:zT e):ig fB lH sw vs oT R vs (a::l):=fB.of (iz aI dU hs) v5 s1 Q (eS (h.later s1) λ v H2 s2 hv=>ch ri r.later B! us e (q _ H3 F0 kw (G8 (hv.later s3 H4 s4) (e H4 s4))))
HX.1:d'->j0 bt|DI p _=>Z p|_=>ac
Lz{p:bt}(h:HX e=Z p):∃x,e=DI p x:=by cases e<;>cases h;exact I7
inC.1:Const->j0 cr|.f7 r=>Z r|_=>ac
Zw.1:d'->j0 cr|.yn c _ _=>inC c|_=>ac
ao1{r:cr}(h:Zw e=Z r):∃j x,e=.yn i0 r j x:=by cases e with|yn c j x=>cases c<;>cases h;exact #[_,_,rfl]|_=>cases h
clL.1:ke->j0 S?|[a,b,c,d]=>(Zw a).bind λ r=>(HX b).bind λ p=>(HX c).bind λ k=>(HX d).bind λ f=>Z (r,p,k,f)|_=>ac
clE.1:d'->j0 S?|.Cr l _ _=>clL l|_=>ac
aA5{l:ke}{r:cr}{p k f:bt}(h:clL l=Z (r,p,k,f)):∃j p1 p2 p3 p4,l=Q5 r f p4:=by(rw[P7 l d l];((.cases h);.cases h);(.cases h);.cases h);(.rw[Eh h1 h,Eh h2 h,Eh h3 h,Eh h4 h];cases h;obtain⟨_,_,rfl⟩:=ao1 h1;obtain⟨_,rfl⟩:=Lz h2;obtain⟨_,rfl⟩:=Lz h3;obtain⟨_,rfl⟩:=Lz h4;exact #[_,_,_,_,_,rfl]);.cases h
ahI{r:cr}{p k f:bt}(h:clE e=Z (r,p,k,f)):∃j p1 p2 p3 p4 x1 bi,e=.Cr Q5 r f p4 x1 bi:=by cases e with|Cr l x y=>obtain⟨_,_,_,_,_,rfl⟩:=aA5 h;exact #[_,_,_,_,_,_,_,rfl]|_=>cases h
knd.1:LC:=[("MAPS",1),("CANONICAL",0),("COMPATIBILITY",1),("PROPERTIES",0),("COMBINING",0),("FOLD",5),("SIMPLE_FOLD",6),("MIRROR",7),("PARTNER",8),("BRACKET",9),("DIGIT",11),("SCRIPT",10),("EXTENSIONS",10),("PROTOTYPE",9),("FLAGS",13),("WEIGHTS",11),("SEQUENCES",2),("CONTRACTIONS",0),("UPPER",2),("LOWER",3),("TITLE",4),("CONJUNCT",3)]
fa{p:α->Prop}{a:α}(h:p a)(r:∀x∈l,p x):∀x∈a::l,p x:=List.forall_mem_cons.mpr #[h,r]
ZK(A:a!):∀p∈knd,GI mg p.1 r4 p.2:=fa OV pc A.g.GH A.g.Ky pc A.g.Xq A.g.v7 (fa A.g.C2 pc A.g.Tn A.g.T5 pc A.g.OD A.g.Fw pc A.g.XI A.g.aIB pc A.g.MT A.g.UQ pc A.g.MP A.g.N2 (fa A.g.Rm pc A.g.aLA A.g.aip pc A.g.aDV A.g.aC7 (fa A.g.sI r8 h (nomatch h))))
Yz.1(sc:uN)(cl:jX)(e:d'):fm:=match clE e with|Z (r,p,k,f)=>dS (r=su)&&(Ua (p,u9)&&(Ua (k,u_)&&(dS (f=u!)&&[p,k,f].all gr (R7==Z .globalImplicit&&!(x==Ay)))))|ac=>false
Ti.1(sc:uN):gP->ke->fm|[],[]=>dr|G6,e::es=>Yz sc cl e&&Ti sc l es|_,_=>false
Yd{σ:eo}{sc:uN}(A:Bb)(hs:∀x,X.env.kindOf x=R7):∀{l:gP}{es:ke},bh (Ti sc l es)->(∀cl∈l,∃f,pt u!=cx f)->tW fB sw vs fu (mK pt H) vs l:=by intro l;induction l with|nil=>(intro es h hf;cases es with|nil=>exact axu|fF _ _=>cases h)|fF cl l ih=>intro es h hf;rcases es with _|⟨e,es⟩;(.cases h);obtain⟨h1,h2⟩:=Bool.and_eq_true_iff.mp h;unfold Yz at h1;split at h1;(.rename_i r p k f he;obtain⟨j,p1,p2,p3,p4,x1,bi,rfl⟩:=ahI he;rw[eY,eY,eY,eY,po,po]at h1;refine gG h1 λ g1 g2 g3 g4 g5=>?_;subst g1 g4;(have gl:∀x∈[p,k,u!],Gl X x/\(x==Ay)=false:=λ x hx=>by have:=Ho g5 x hx;rw[eY,Oh]at a6;exact #[by unfold Gl;rw[hs];exact eq_of_beq NA,a6.2]);obtain⟨fa,hfa⟩:=hf cl HH;have a1:=gl p GV;have a2:=gl k GV;have a3:=gl u! GV;refine am7 rb (r5 iI [vN su,vN u9,vN u_,c! fa] ve ai (ag QF ZK A g2 a1.1 a1.2) d1 (ag QF ZK A g3 a2.1 a2.2) (lK hfa a3.1 a3.2)) tc v bx o? bx a vM fa h hfa (ih h2 λ cl' h'=>Kt hf cl' h'));.cases h1
zt.names:∀{l fI:gP},vr zt fI l->∀cl∈l,∃f,KP|[],_,_,cl,h=>GB|x::l,fI,h,cl,hc=>by rcases Ub hc with rfl|hc;(.refine ah h.1 l! f h1;exact #[f,h1]);.exact zt.names h.2 cl hc
Rj.1:MY->ke|[.Return Z (.Cr es _ _) _]=>es|_=>[]
aHv(A:a!):jx "clauses_20_to_30" (RQ MR Gg (λ _ v H=>F? F' mg CT)):=c6 A.aI4 aJ8 ce b0 ck λ a f aK A' em s H0 H E hr hp=>mL lb (Ae (es:=nu Rj Ht) (Yd A (sc:=aA Ht) ck (by rw[vi]) λ cl h=>(Ks).names cl (List.mem_of_mem_take h)) bn vs H (by rw[iX h];decide)) (λ v H1 _ h=>h)
aHh(A:a!):jx "clauses_31_to_41" (RQ MR Gg (λ _ v H=>F? F' mg vb)):=c6 A.avQ ai0 ce b0 ck λ a f aK A' em s H0 H E hr hp=>mL lb (Ae (es:=nu Rj FR) (Yd A (sc:=aA FR) ck (by rw[vi]) λ cl h=>(Ks).names cl (List.mem_of_mem_drop h)) bn vs H (by rw[iX h];decide)) (λ v H1 _ h=>h)
aeH{R:mi α β}{l':rY}{m m':GK}(p:fu R l m)(h:fu R l' m'):fu R (l++l') (m++m'):=by induction p with|nil=>exact h|fF r t ih=>exact G8 r ih
xT{k:ak}(hk:oL k dK)(h:oE a xs):br H k a=et .tup xs:=Oi h hk rq
M3{k:ak}{v:V}{l:al}(hk:oL k dK)(h:cT H v l):cT B_ v l:=by refine ah h ad a e h;exact uf B8
aE1{k:ak}{v:V}(hk:oL k dK)(h:vj H v u):vj B_ v u:=by cases u with|p x=>refine ah h ad a e h;exact uf B8|m x=>rw[KN h t vM y B8 (M3 hk t)]|s x=>refine gQ h λ a y z e h t q=>?_;exact(b8 a y z e B8 (M3 hk t) (M3 hk q))
awz{k:ak}{v:V}(hk:oL k dK)(h:mK mg H v cl):mK mg B_ v cl:=by refine aO h λ t f e h m=>?_;exact(aE t f e B8 m)
aeT{v:V}(s:kl)(h:mK mg H v cl):mK mg H' v cl:=by refine aO h λ t f e h m=>?_;exact(aE t f e ug m)
au1{v:V}(h:vj H v u):∃a r,rU/\oE a (vN u.num::r):=by cases u with|p x=>refine ah h ad a e h;exact Nd|m x=>rw[KN h t Nd]|s x=>refine gQ h λ a y z e h t q=>?_;exact Nd
ace:∀{l fI:gP}{i:Y}{cl:jX},vr zt fI l->l[i]?=Z cl->vr cP ((CL i).Pd++fI) cl|[],_,_,_,_,e=>by simp at e|x::l,fI,0,cl,h,e=>by cases e;exact h.1|x::l,fI,i+1,cl,h,e=>by have:=ace (l:=l) (i:=i) h.2 L2;rw[List.take_succ_cons,List.reverse_cons,H9];rw[qY]
Jg.1(ln b6:Y):Prop:=(ln=0/\b6<14)\/(ln=1/\BJ)\/(ln=2/\b6<3)
awv:∀cl∈cls,Jg u9 u_:=by unfold Jg;rw[vi]
JC{γ:Type}{R:mi α γ}{f:β->γ}{m:GK}(h:fu (λ x y=>R x (f y)) l m):fu R l (m.map f):=by induction h with|nil=>exact iw|fF r t ih=>exact G8 r ih
axH{σ:eo}{o e1 e2:d'}{bi:d8}{kk:ak}{d:bR}{ln:Y}(A:Bb)(hr:bX 1 X.A)(hk:Jg ln b6)(hR:tB)(ho:lW o b)(h1:ip e1 (vN ln))(h2:ip e2 (vN b6)){pl:Cb}(fH:kH GX f9 e1 [e2])(d4:kH [e2] f9 e2 [])(a_:zm zd [e2])(ht:DO lM (Rw pP) GX (HY [ov] (getMethod ov "records" pl)) GX):m0 lM (Rw pP) GX (eC vj H v (i5 d ln b6)):=by rcases hk with⟨rfl,hk⟩|⟨rfl,hk⟩|⟨rfl,hk⟩;((.rw[Kp amL cw cw]);.rw[Kp Xj dA dA]);.rw[Kp azm eG eG]
axa{bi p:d8}{k:Y}{x:bt}(i:Y)(hr:xD)(hN:g6 (X.N[i]?=DF))(hv:Ro nh)(hd:DK (x==Ay))(gj:P! bt)(he:zT e)(a_:D5):PE X lM BA lH (λ σ H Q=>∃(cv:j?)(e7:k_)(f:ak)(a:α),t_ Aj Mq f c3/\σ[i]?=Z cx f/\ig eM lH DD/\tO (GO/\Ke)):=by rw[Gk H Q I];obtain⟨cv,e7,f,a,G,h0,ha,q⟩:=zz;refine aO G λ fd ps hk hb G=>?_;refine SN i G hr hk hb dU hN hv hd gj he a_ iJ s σ H Q I (eI h0 _ ha LU);exact(aZ a dX (uu q).1 (q H2 s2).2)
aCb(A:a!):tD 9 "broken_clause" B0 BK [a5 bm] ci (mz a H/\yR bS) nt dV (mz a H/\gM (brk bS cls)):=wI A.ale ZG ce b1 ck λ q f aK A' em s H E hr hp=>by obtain⟨b,d,kk⟩:=q;rw[Fa i_ ZM,KO ZM ZG.nd,lT (aP Pz (AZ (Ar awt aI aI)) (aDi O (DJ ze (cy (i:=1)) (DJ ze Bz (DJ ze GC (DJ ze (cy (i:=4)) an7))))) (cG qM G9 (cy (i:=5)) (cG (iA (T2 (RW (axa (α:=DU) (c3:=xG) (gc:=λ a=>nt bm) 4 hr))) qF dg))) qF) D p,<-eS (iT (Jn (aHv A) (NX ab)) P F? F' mg CT AT c1 () Pf O Gw) λ u1 H1 s1 hu1=>eS (iT (Jn (aHh A) (NX ab)) P F? F' mg vb AT c1 () Pf O Gw) λ u2 H2 s2 hu2=>?_];(rw[jz uu hu1 (λ a1 o3 a9 oa xU=>?_) a9]);(rw[jz hu2.now (λ a2 pB bu yz ye=>?_) bu]);have l1:=iX xU;have l2:=iX ye;have Nt:o3.length=18:=l1;have KZ:pB.length=17:=l2;refine #[a1,a2,o3,pB,rfl,rfl,j4 oa,j4 yz,g8 (by rw[cA e Nt Nt]),(by rw[Nt,KZ];decide),g8 (by rw[cA e KZ KZ]),λ _ tp htp=>?_];have s3:=ga DY (cS (o:=.tup xL)) htp;refine iN iF i_ λ Gv aq jf OT=>?_;dsimp only at jf Gv;have Mw:=gh jf;(have pr3:fu (mK mg (br (upd H2 tp (.tup xL)) kk)) xL cls:=by have:=(aeH xU ye:fu (mK mg H2) xL (CT 18++vb 18));rw[t9 List.take_append_drop,gs bn x y (awz Mw (aeT (cS htp) h)) a6]);have Y0:br (upd H2 tp (.tup xL)) kk tp=et .tup xL:=xT Mw aX;generalize o3++pB=xs at s3 Mw pr3 Y0⊢;refine c1 tp l? j4 aX (Bf Kk K tp (xs:=xs) sV i (∃x1 x2 x3 x4 x5:i1,a7=[l9,x1,x2,x3,x4,x5]/\oy H'/\br H' kk tp=et .tup xs/\fu (mK mg (br H' kk)) xs cls/\mz xh H'/\uD d (CT i).Pd/\um cls=brk d (vb i)) (rS ac ac ac ac ac O (fb s3) Y0 pr3 (O6 s3) (λ p hp=>by simp at hp) O) BD i kz (awd kz λ _ _ _ _ _ _ _ h _=>j4 ff h) ?_ ?_);(.rintro i x a7 H' hi⟨x1,x2,x3,x4,x5,rfl,sH,ac3,ik,kU,Pc,AA⟩;(rw[dl (vV (AR ik hi) λ cl ie t f0 bV ht EN=>?_) bV]);refine ah (ace Ks ie) ad f1 EZ hC;rw[Ie]at hC;(have ef:f1=f0:=by rw[cA EN EZ EZ];rfl);subst ef;have pC:=Ep awv cl ie;refine #[t,_,rfl,j4 ff ht,rfl,_,_,rfl,_,_,rfl,_,_,rfl,_,_,rfl,rfl,?_];have aQ:sE H' b d:=kU.book;refine eS (axH A c? pC aQ az aN bN) λ rv H4 s4 pX=>?_;(rw[jz pX.now (λ lr xr cI hlr QS=>?_) cI]);refine iN Mm λ _ aMW Bm _=>?_;dsimp only at Bm;(have W9:vb i=cl::vb uv:=by rw[Qk a8 e ie];rw[Tk a8,e]);generalize iD:zo=us at QS;refine c1 lr l? ey hlr (Bf tm K lr (xs:=xr) (λ j d! H5=>∃x5:i1,d!=[l9,gu su,gu u9,gu u_,cx f1,x5]/\my un H' H5 kk/\br H5 kk lr=et .lst xr/\fu (vj (br H5 kk)) xr us/\mz xh H5/\∀j' u,j'<j->us[j']?=Z u->bh vT) #[x5,rfl,fb s4,Oi hlr Bm rq,gs bn x y (aE1 Bm h) QS,Mm,λ j' u h=>Kw h _] (λ j d! H5 _ lD=>wU lD GW _ h ey ff h) ?_ ?_);(.rintro j y d! H5 hj⟨x5',rfl,s5,Qq,GG,mN,b9⟩;refine ah (AR GG hj) ad u hu fA;refine #[zJ c (CT i).Pd cl,BI c cl,f1,(m5,y,u),hC,rfl,AL it,λ H6 s6=>#[(j3 (O_ s6) (b! MX (fb s6) fA) (by rw[y6 iD,QZ hu]) ZM Pc),λ v H7 bw jo=>ch jo.2 vz]];(.rw[jn hg (vT=false)];have aoY:oy H7:=uP (HT ((fb s6).jR bw));(rw[dl (df (au1 (b! MX ((fb s6).jR bw) fA)) λ ar rr dB bo=>?_) dB]);refine eS (yY (i:=su) (j:=u.num) au (zi it λ H8 s8=>qc j4 ui ff bo (b_ (j:=0)))) Fv H8 (aoY.trans (fb s8)) #[O1 jo.1 s8,?_];rw[AA,W9];rw[aht];rw[iD,_B.Hm (j:=j) hu (by rw[hg];rfl) (λ j' y' ju yD=>by rw[b9 j' y' ju yD];rfl)];exact dX);.rw[jn hg bh vT];have Jb:=(fb (k:=kk) s6).jR bw;refine #[_,rfl,HT Jb,bd Jb Qq,gs bn x y (b! MX Jb h) GG,jo.1,λ j' u' ju eA=>?_];by_cases e:j'=j;(.rw[f' hu eA eA,hg]);.exact b9 j' u' n3 o_ ju e eA);.rintro d! H5⟨x5',rfl,s5,Qq,GG,mN,b9⟩;have hl:=iX GG;(have GY:∀u∈us,bh vT:=λ u hu=>by obtain⟨j,hj⟩:=T_ hu;exact b9 j u (by have:=qx hj;exact BU a6 hl) hj);refine kj (b! rS _ O (uP s5) pd ac3) (gs bn x y (aeT s5 h) ik) mN;(.rw[yy,ie,List.reverse_append];intro q hq;rcases E5 hq with hq|hq;(.simp at hq;subst hq;rw[fY iD GY]);.exact Pc q hq);.rw[AA,W9];show(match EH with|Z u=>Ba|ac=>brk d (vb uv))=_;rw[iD,Q! λ u hu=>by rw[GY u hu];decide]);.rintro a7 H'⟨x1,x2,x3,x4,x5,rfl,sH,ac3,ik,kU,Pc,AA⟩;rw[iX ik,List.drop_length]at AA;rw[<-eS qj Fv H8 (uP (fb s8)) #[O8 s8,?_],fY AA dX]
k8.1(H:Hp)(v:V)(l:xg):Prop:=eZ<=300/\∃a,rU/\fx a IR se
mD.1(w:Y)(t:al):cr:=if FY then -6 else Sx (bh (CU w).isSome/\K0)
Dv(A:a!):wG "refusal" (RQ c0 iW j! [vN bm,bS] ci d2 bS cm kW (.f7 (mD bm cm))):=ts A.refusal au4 λ a e H hr hp U hU=>by rw[q! wn tv t,<-ah hp ad q hv hq,Jf hq];subst hv;((rw[wr mD,fy (bP gL p6 hq au d3 A.g.P8) (aG (ag A.g.Mh) lw)];.rw[gx (by rw[oj Z0])]);have iL:¬FY:=by rw[kS RE]);rw[gS iL,<-aW oA np Aa aq7 wn az (eB (dF (bO (aT (Iz A) hr (a5 q,t) e? au tg vX vp EY nG XE iL)))) NE (aG (ag A.g.Wp) lw) NE eH];(.rw[gS gt (by rw[h.1,h.2]at h1;cases h1)]);.rw[uI,CN,CN]at h1;rw[rz h1]
uw.1(w n:Y)(t m:al):cr:=if Mi then -6 else if v_ w<0 then v_ w else Sx (MM/\Af)
aby(A:a!):mq 4 "lines_refusal" (RQ c0 ((Y×Y)×sD×j!) [vN hX,vN hV,tq,dE] ci (d2 tq q8/\d2 dE e!) kW (.f7 (uw hX hV q8 e!))):=bp A.aHG abE ce b4 ck λ a e H hr hp U hU=>by obtain⟨⟨wn,n⟩,⟨tv,t⟩,mv,m⟩:=a;rw[sS aS aU (ah aS λ q hv hq=>ah aU ad qm uh dR)];dsimp only at hv hq uh dR;subst hv uh;have nd:=abE.nd;((rw[wr uw,fy (bP gL p6 dR bN d3 A.g.P8) (aG (ag A.g.Mh) lw)];.rw[gx (by rw[oj Z0])]);have iL:¬Mi:=by rw[kS RE]);rw[gS iL,ii im (xR nd) (.f7 v_ wn) (aT (Dv A) hr (wn,vx,t) d1 az aN I!),<-aW mx cK dt NE (aG dt lw) IU h1];(.rw[gx (lc h1)]);rw[lf (ld h1)];refine aW (lg (du (dF xd sh au d3 A.g.awn) je (eB (dF (bO (aT (aoI A) c? ((a5 qm,m),vx,t) d1 bN aN il #[Lj,vp,EY d? XE iL])))))) Nx (aG (ag A.g.Wp) lw) Nx eH;(.rw[gS gt (by rw[h.2,Rv ((1:cr)<=n),Rv (dp n<=65535)]at h2;cases h2)]);.rw[uI,CN,CN,eY,po,po]at h2;rw[rz #[by omega,h2.2]]
mS.2:=sB BK
fO.1(c:Cs)(a:mS)(H:Hp):Prop:=(∃dx,fx bm sz pR [("book",c! bS)])/\nP eg cd H
fO.later{a:mS}{H H':Hp}(h:fO c a H)(s:kl):fO c a H':=by rw[Kz h a9 a9,#[B2 Bt,Gi h2 s]]
abQ{σ:eo}{o:d'}{bi:d8}{a:mS}(A:Bb)(h:fO c a H)(ho:lW o bm)(hb:g6 (Ff (FB o "book") o=f9 o)):lW (z1 o "book" bi) bS:=by rw[qB h bu bu,cQ ho il (b8 _ dx _ D2 yW Pg O) hb]
fO.cp{a:mS}{m:bt}(h:fO c a H)(hm:eX (([("book",c! bS)]:k!).CI m)):tO (∃dx fs,H1 bm=Z sz pR fs/\Fk):=λ H1 s1=>by rw[qB h bV bV,(cD dx _ D2 hm)]
Ig(A:a!):sY 9 pR "sheet_of" (RQ c0 (mS×(Y×O3)×j!) [Be,vN tq,dE] ci (o5/\EX tq q8/\d2 dE e!/\bh Sq e!/\bL e!<=64) dV (∃q,nn/\kM c H q hV q8 e!)):=Er A.gz.ayr amt λ a e H hr hp U hU=>by obtain⟨dk,⟨wn,y⟩,tv,t⟩:=a;rw[jk gG λ hD hy hT bJ ap=>?_];dsimp only at hy hT bJ ap;rw[gm,<-bg (OF (avz A) hr (cq (abQ A hD az) qQ J5 aN) zY)];(rw[AF λ _ _ cI dB _ _ d6 fL _ _ iH jF lX=>ah fL ad wa kE hW];subst cI dB d6 iH jF lX kE);exact(c1 (G?,(wa,y),_,t) (j3 Gi hD.2 s1 hW (b! gB s1 hT) bJ ap) λ v H2 s2 h=>h)
HB{w:Y}{t:al}{f:Sa}:(v_ w<0/\Fb t CX f=Ph (mD w t))\/(¬v_ w<0/\SF/\K0/\∃y,EX w y/\Fb t CX f=f y):=by unfold mD yX sv;by_cases h:FY;(.rw[Nc,Nc];rw[AC ab]);.rw[b? h,b? h];cases hw:CU w with|ac=>rw[gS gt (by cases h.1),AC ab]|gT y=>dsimp only;cases hs:MG with|false=>rw[b? gt (by cases h.2),gx (.fz O)];rw[AC ab]|dr=>rw[g? #[rfl,rfl],b? gt (by rcases h with h|h<;>cases h)];exact .fz #[ab,by exact Cq h,rfl,y,rfl,rfl]
Sf.2:=mS×iW j!
M1.2(a:Sf):g7:=th Be dE
DG.2(c:Cs)(a:Sf)(H:Hp):Prop:=o5/\d2 dE e!
qC{σ:eo}{bi:d8}(h:ip e i0 i)(hs:kH [e] f9 e []):m0 tb [e] bi (k8 H v [i]):=(r5 nU [i0 i] (ae h ao hs)).imp tc v h #[kO (1<=300),h]
RS(l:al):Rk=0::Sn::IG l:=rfl
ints_map(l:al):(IG l).map mb=Nh:=by rw[o6 IG nz];rfl
oO(n:Y)(cs:y8 fm):bL (IH n cs)=n:=by rw[z! IH]
Lp{σ:eo}{a b:d'}{bi:d8}{l:al}(ha:ip a (.f7 0))(hb:ip b (vN eZ))(he:ig Ev e λ v H=>gM l)(hl:eZ<=200)(hs:kH [a,b] f9 a [b])(d4:kH [b] f9 b []):Qu [a,b] e (k8 H v Rk):=(HA (r5 nU [.f7 0,vN eZ] (ae ha (ae hb ao d4) hs)) he (by rw[el];exact hH (show _<=2000 by simp;exact alF hl) ab)).imp tc v bx o? bx q (eI (by rw[RS];simp[IG];exact ag6 hl) q e (by rw[h,RS,u4,u4,ints_map];rfl))
aoy(h:EX n y):y.all=dr->y.keep=false:=by rw[ni CU];split at h;(.cases h);.rename_i hn;cases h;intro h1;cases h2:n.testBit 3 with|false=>rfl|dr=>rw[jC (.fz (.f? #[h1,h2])) hn]
aio(A:a!)(T:iv):JZ (sY 8 pR "chances") M1 (IF (IH bL e! (Uf l_ y e!))):=Er A.gz.av4 acN λ a e H hr hp U hU=>by rw[JL t a acN.nd];rcases Bg HB w wn (f:=n? (IF (IH nG (Uf mT y t))))with⟨h1,h2⟩|⟨h1,iL,bJ,y,hy,h2⟩;(.rw[z? bN bN h1]);.rw[I? bN hx je (bg (Lp ai (e9 p6 hq aN (by rw[oO])) ?_ (by rw[oO];exact aIP iL))),<-nZ lN asm hr (cq (abQ A hD az) qQ J5 aN) zY];(rw[AF λ _ _ jJ kx _ _ kn lZ _ _ nJ oJ qW=>ah lZ ad wa nY hW];subst jJ kx kn nJ oJ qW nY);exact(c1 (G?,(wa,y),vx,t) (E3 Gi hD.2 s1 hW (aoy hy) vp bJ iL) λ v H2 s2 h=>h)
aky(t:al):uA t 0 nG=t:=by unfold uA;rw[Nat.sub_zero,List.drop_zero,OR]
ajU(A:a!):JZ (EG "width") M1 s? r4 (Uh l_ y e!):=Er A.gz.am0 XB λ a e H hr hp U hU=>by rw[JL t a XB.nd];rcases Bg HB w wn (f:=n? s? r4 (Uh mT y t))with⟨h1,h2⟩|⟨h1,iL,bJ,y,hy,h2⟩;(.rw[z? bN bN h1]);.rw[PM ?_ (Kn A) ai];(rw[AF λ _ _ w_ xm _ _ xn AQ _ _ LF Me ax5=>ah xm ad sa asd hS];subst w_ xn AQ LF Me ax5 asd);exact c1 RU #[hS,wR,qN] ly v h (by rw[h];rw[y6 aky])
awf(A:a!):JZ (EG "measure") M1 s? r4 (Ui l_ y e! 0 bL e!):=Er A.gz.amZ aeN λ a e H hr hp U hU=>by rw[JL t a aeN.nd];rcases Bg HB w wn (f:=n? s? r4 (Ui mT y t 0 nG))with⟨h1,h2⟩|⟨h1,iL,bJ,y,hy,h2⟩;(.rw[z? bN bN h1]);.rw[PM ?_ (IW A) ai];(rw[AF λ _ _ axN aIc _ _ ahA aBx _ _ aqs aLE ayQ=>ah aIc ad sa aAQ hS];subst axN ahA aBx aqs aLE ayQ aAQ);exact(c1 RU #[hS,wR,qN] λ v H2 s2 h=>h)
xO.2(n:Y)(t m:al):fm:=n==0||(dS (Ul<=n)||!IX m)
Ry{w:Y}{t:al}{f:Sa}:(uw w n t m<0/\Ju EQ Fb t (xO n t m) f=s? (uw w n t m))\/(¬uw w n t m<0/\SF/\K0/\n<=65535/\Af/\∃y,EX w y/\Ju EQ Fb t (xO n t m) f=f y):=by unfold uw;by_cases h:Mi;(.rw[Nc,g? (show EQ from h)];rw[AC ab]);rw[b? h,b? Gf EQ h];rcases Bg HB w w (f:=f)with⟨h1,h2⟩|⟨h1,iL,bJ,y,hy,h2⟩;(.rw[rz h1,<-.f? #[h1,?_]];rw[<-h2];unfold yX;unfold mD at h1;by_cases h6:FY;(.rw[g? (show sv<nG from h6),g? (show sv<nG from h6)]);.rw[b? h6]at h1;rw[b? Gf L3 h6,b? Gf L3 h6];cases hw:CU w with|ac=>rfl|gT y=>dsimp only;rw[hw]at h1;(have hs:MG=false:=by cases hs:MG with|false=>rfl|dr=>rw[g? #[rfl,hs]]at h1;rw[jC h1 ab]);rw[gx (.fz hs),gx (.fz hs)]);.rw[gS h1];(have hb:(xO n t m=dr)↔¬(MM/\Af):=by unfold xO Ul;cases IX m<;>simp<;>omega);unfold yX;rw[b? (show¬L3 by unfold sv;exact avM iL),hy];dsimp only;by_cases hg:MM/\Af;(.rw[g? hg,b? gt (by rcases h with h|h;(.exact hb.mp h hg);.rw[cA bJ h h])];exact .fz #[ab,iL,bJ,hg.1.2,hg.2,y,rfl,rfl]);.rw[b? hg,g? (.f? (hb.mpr hg))];rw[AC ab]
Tf{t:al}(h:Af):Ao m t:=by rw[ni Uc];rw[eY,eY,NZ]at h;refine #[L8 h.1,xz bf];rcases h.2.2 with h|h;(.rw[jC (List.isEmpty_iff.mp h) bf]);.simpa using h
UY.2:=mS×(Y×Y)×sD×j!
TM.2(a:UY):g7:=[Be,vN tq,vN q8,dE.1,nj]
JA.2(c:Cs)(a:UY)(H:Hp):Prop:=o5/\d2 dE.1 dE.2/\d2 nj oq
avO(h:jP c.Ways H a y):∃dx fs,fx a sz c.Ways fs/\fs.lookup ("splits":bt)=et .bl y.split:=by obtain⟨dx,fs,h1,_,_,_,_,_,_,_,h2⟩:=h;exact(cD dx fs h1 h2)
afC(A:a!):PV (EG "fill") (sv<bL oq) (Pi l_ y q8 dE.2 (Pk oq)):=iG A.gz.apV U2 ce b5 ck λ a e H hr hp U hU=>by obtain⟨dk,⟨wn,n⟩,⟨tv,t⟩,mv,m⟩:=a;rw[Rb (λ hD arA qm uh dR=>ah arA ad q hv hq) uh U2.nd];rcases Ry (w:=wn) (n:=n) (t:=t) (m:=m) (f:=n? JG Jz Pi y t)with⟨h1,h2⟩|⟨h1,iL,bJ,hn,xj,y,hy,h2⟩;(.rw[z? it it h1]);.rw[PU Pi L (nZ (aLU A) c? (cq Jm t bN iL (cq aN qQ (NH (P:=iS v (v=.bl y.split)) J5 Bk ?_) dt)) zY)];((. (rw[dl (ah mc ad wa aEM hW) aEM]);refine df (avO hW) λ dx fs g1 g2=>?_;exact(lA wa _ dx fs _ O g1 A.eU.cl A.eU.Qj g2 Gn));. (refine B1 dX λ _ _ apM aJ9 _ _ azP ayH _ _ an3 aDU _ _ aDr amy ajN=>ah aJ9 ad sa Nl hS;subst apM azP ayH an3 aDU aDr amy ajN Nl);exact c1 ((sa,vn,y,t),n,zK,m) #[hS,Lj,Tf xj] ly v h (by rw[<-hL];exact h));. (rw[wy bq (λ Pe hl=>ah Pe ad ql Pj fX) Pj]);exact bg (Lp ai p6 fX jK rb jK vC H2 s2 (by rw[h! e mW ql fX]) dn RR hl)
agd(A:a!):PV (EG "ragged") (sv<bL oq) (Pm l_ y q8 dE.2 (Pk oq)):=iG A.gz.aDE UG ce b5 ck λ a e H hr hp U hU=>by obtain⟨dk,⟨wn,n⟩,⟨tv,t⟩,mv,m⟩:=a;rw[Rb (λ hD MV qm uh dR=>ah MV ad q hv hq) uh UG.nd];rcases Bg (Ry (w:=wn)) n n (m:=m) (f:=n? JG Jz Pm y t)with⟨h1,h2⟩|⟨h1,iL,bJ,hn,xj,y,hy,h2⟩;(.rw[z? it it h1]);.rw[PU Pm L (nZ (arF A) c? (cq Jm t bN iL qQ aN dt) zY)];(. (rw[AF λ _ _ PN Lf _ _ aJs aGO _ _ aoD aDH aul=>ah Lf ad sa awH hS];subst PN aJs aGO aoD aDH aul awH);exact c1 ((sa,vn,y,t),n,zK,m) (fG hS Lj (Tf xj) kZ (n<65536) Nat.lt_succ_of_le hn) ly v h (by rw[<-hL];exact h));. (rw[wy bq (λ aL0 hl=>ah aL0 ad ql aAl fX) aAl]);exact bg (Lp ai p6 fX jK rb jK vC H2 s2 (by rw[h! e mW ql fX]) dn RR hl)
JK{k:ak}(h:eX (H2 k)):br (upd H2 k o) k=H2:=by funext b;rw[kh];split;(.rw[w?];rw[e,h]);.rw[w?];rw[aV e]
ap4{t:TE}(h:PE X e t):PE X e (λ σ H Q=>∃l xs,k9 l xs/\t σ NC λ v H2=>eX (H2 l)->Q v qA H2 l xs):=by rw[Gk H Q I,<-df zz λ l xs hl ht=>?_];((have bf:∀{b:ak},eX (H b)->b≠l:=λ hb e=>by rw[f' hl hb hb]);have Av:∀{b:ak},eX (H b)->eX (br H l b):=λ hb=>by rw[kh];split;(.rfl);.exact hb);have oI:tT b ak (fx b o->(∀ys,o≠.lst ys)->br H l b=Z o):=λ hb ho=>Oi hb hl (ho _);obtain⟨hz,aF,n,rv,hg⟩:fw x7 X.w H yv l (.lst xs):=I.aR l _ hl;(have mC:l∉X.fs:=λ hb=>by refine iN (I.ok.lB.mem hb) λ _ o ho _=>?_;have:=Un l o ho (I.ok.tZ l hb) λ z=>I.ok.yL l z hb;rw[vD hl]);have pf:l≠X.env.locals:=λ e=>bf I.free e.symm;(have I1:Inv X ((l,({cls:=Mo,data:=.seq aF.toArray n}:Obj))::iJ) σ NC s:=by(refine #[I.ok,I.os,I.bare,#[I.base.keep,I.base.slot,λ b o h1 h2 h3=>Av Q_,I.base.there,λ b ys h1=>oI (I.base.oQ b ys h1) r8 e qe,λ b o u h1=>oI (I.base.oe b o u h1) r8 e qe,ad b ps h1],I.loc,I.cell,Av I.free,λ x c e=>Av (I.k6 x c e),cL p hp,ad b o hb,I.len];(.rw[Q7 I.base.oU b (oI hm r8 e qe)]);.rcases E5 hp with hp|hp;(.refine bW (I.pin p (Uo _ hp)) ad g1 g2 g3;exact #[g1,Av g2,g3]);.rcases Ub hp with rfl|hp;(.exact(j3 hg (by rw[kh];rw[nX]) pf mC (λ v e=>qe)));.refine bW QQ I.pin p hp ad g1 g2 g3;exact #[g1,Av g2,g3]);.rw[Se (I.aR b o ff hb).vh (oI h1 r8 e qe) (oI h1 r8 e qe)]);refine be (h _ s σ NC _ I1 ht) λ v s' bx=>aO bx λ x H2 I2 r q=>?_;refine bW QQ I2.pin (l,_) HH l! g1 g2;have q':=q g2;((have aki:tT b ak (H2 b=Z o->b≠l):=λ hb e=>by rw[f' g2 hb hb]);have tS:tT b ak (H2 b=Z o->upd H2 l (.lst xs) b=Z o):=λ hb=>by rw[aV (aki hb)];exact hb);(refine(aE x _ #[I2.ok,I2.os,I2.bare,#[I2.base.keep,I2.base.slot,Nb b o h1,I2.base.there,λ b ys h1=>tS (I2.base.oQ b ys h1),λ b o u h1=>tS (I2.base.oe b o u h1),ad b ps h1],I2.loc,I2.cell,?_,ad x c e,cL p hp,ad b o hb,I2.len] r q');(.rw[aV (bf Q_)];exact I2.base.free b o h1 h2 h3);.rw[Q7 I2.base.oU b (tS hm)]);((.rw[aV (bf I.free)];exact I2.free);.rw[aV (bf (I.k6 x c e))];exact I2.k6 x c e);(. (have oB:p∈X.pn++(l,({cls:=Mo,data:=.seq aF.toArray n}:Obj))::iJ:=by rcases E5 hp with hp|hp;(.exact Uo _ hp);.exact Kt Uq _ hp);refine bW (I2.pin p oB) ad k1 k2 k3;refine #[k1,?_,k3];rw[aV (bf (I.pin p hp).2.1)];exact k2);.by_cases e:b=l;(.rw[f' aX hb hb,(oW hz aF n rv g1)]);.rw[aV e]at hb;rw[Se (I2.aR b o hb).vh (tS h1) (tS h1)]
aBz{o2:HO}(s:my lz z H2 z)(h2:H2 z=Z o2):aj sF z o2 H2:=λ a o h=>by by_cases e:a=z;(.subst e;rw[aX]at h;rw[h2,<-h]);.rw[aV e]at h;(have h1:br H z a=Z o:=by rw[kh,gS e,h]);exact ff Bt
jj.ins{C' eQ:ak}{d:bR}{gE:k!}(h:jj C H b d)(hz:fx z (.ins C' eQ gE))(bf:b≠z):jj C xb b d:=by obtain⟨F,dx,fs,pa,p0,p1,p2,h1,h2,h3,h4,h5,h6,h7⟩:=h;exact #[F,dx,fs,pa,p0,p1,p2,by rw[aV bf];exact h1,h2,h3,sU hz h4 _,q? (gD Xp) _ hz h5,q? (gD abo) _ hz h6,q? (gD Vr) _ hz h7]
II{C:ak}{H:Hp}{b kk z C' eQ:ak}{d:bR}{gE:k!}{o:HO}(h:bI C H b d kk)(hz:fx z (.ins C' eQ gE))(hf:eX (gE.lookup LW)):bI C xb b d kk:=by obtain⟨hp,dx,fs,mr,sr,co,aq,h1,h2,h3,h4,h5,h6,h7,h8,h9,fc,eD⟩:=h;(have bf:b≠z:=λ e=>by subst e;obtain⟨_,Pu,fs2,pa,_,_,_,g1,g2,_⟩:=hp;rw[cA hz g1 g1,cA hf g2 g2]);exact #[hp.ins hz bf,dx,fs,mr,sr,co,aq,by rw[aV bf];exact h1,h2,h3,h4,h5,h6,h7,q? zF _ hz h8,q? Ca _ hz h9,sU hz fc _,eD]
lC.2:=ak×ak×al
dZ.1(c:Cs)(K:h?)(r:lC)(n:Y)(H:Hp):Prop:=(∃dx,fx r.1 sz nI [R5 rc,("at",vN n)])/\aC K H rc GM r.2.2
dw.1(z:ak)(H H2:Hp):Prop:=my lz z H2 z
pT(s:aj H H2):dw z H H2:=fb s
dw.trans{z:ak}{H H1 H2:Hp}(a:dw z H H1)(b:dw z H1 H2):dw z H H2:=nE a b
CY{z:ak}{H:Hp}{o:HO}:dw z H xb:=λ a u h=>by rw[tN h];split at h;(.cases h);.rw[w?];rw[b? e,aV e];exact h
C0(s:dw z H H2)(h:fx a o)(bf:a≠z):H2 a=Z o:=ff nS (by rw[kh,gS bf,h])
C_{dx:ak}{fs:k!}(hz:ET)(s:dw z H H2)(h:aC K H a xs):aC K H2 a xs:=by rcases h with h|h;(.rw[Qy h (s.at_ h (vS h hz rq)) (s.at_ h (vS h hz rq))]);.exact .fz h
tL(s:aj H H2)(h:aC K H a xs):aC K H2 a xs:=by rcases h with h|h;(.rw[Qy h ug ug]);.exact .fz h
dZ.later{r:lC}(h:tX r)(s:kl):io r n H':=by rw[Kz h aS aS,#[B2 Bt,tL s h2]]
YO(x y z:V):bK "at" z ([("numbers",x),("at",y)]:k!)=([("numbers",x),("at",z)]:k!):=by refine(Py).jR (r? (List.cons _) ?_);exact gx O
J8{σ:eo}{o:d'}{bi:d8}{r:lC}(A:Bb)(h:dZ c X.K r n H)(ho:lW o r.1)(hb:g6 (Ff (FB o "numbers") o=f9 o)):lW (z1 o "numbers" bi) rc:=by rw[PR aU aU A.fS.ae1]
EJ{σ:eo}{o:d'}{bi:d8}{r:lC}(A:Bb)(h:dZ c X.K r n H)(ho:lW o r.1)(hb:g6 (Ff (FB o "at") o=f9 o)):ip (z1 o "at" bi) (vN n):=by rw[PR a9 a9 IJ]
tM0.1(C:ak)(m:bt)(i:Y)(c3:k?)(cv:j?)(gc:l6)(e7:k_):TE:=λ σ H Q=>∃a b,σ[i]?=Z l9/\(∃dx fs,fx b Dt/\Fk)/\c3 a=[a5 b]/\cv a H/\vH Dg Df (Q v H2)
qZ{k:Y}{x m:bt}{p bi:d8}{pl:Cb}(i:Y)(cl:dO X.K C)(F:Dp Aj sj C m cv)(hr:xD)(hN:g6 (X.N[i]?=DF))(hv:Ro nh)(hd:DK (x==Ay))(gj:P! bt)(ht:g6 (f9 lM (.Id BA m pP) []=(do let ov<-f9 BA;standAt TX;let(f,first)<-EF ov m pl;PC f [] []))):PE X lM (.Id BA m pP) [] t_ (tM0 C m i c3):=by rw[Mu f hm G,Gk H Q I];obtain⟨a,b,h0,⟨dx,fs,h1,h2⟩,ha,h3,q⟩:=zz;exact QD (Bo hN hv hd gj) cl hm G hr hb iw mO ht iJ s σ H Q I #[_,h0,b,dx,fs,rfl,h1,h2,a,by rw[ha];rfl,h3,q]
B4(A:a!):Fd 1 nI "take_number" c0 (lC×Br) [a5 hX] ci (io bm bS H/\y_[ut]?=Z cm) r7 (dw hX) dV (v=vN cm/\io bm (ut+1) H):=Ee A.fS.aE6 adk ce b1 ck λ q f aK A' em s H E hr hp=>by obtain⟨⟨ra,ca,nl⟩,n,x⟩:=q;rw[Fa hR hx,KO hx adk.nd];have aQ:tX sT:=hR;rw[gf iF aQ λ bu h2=>gq bu dx h1];rw[lT eE dL BB aI (WS sW ki YG) ji pk D p,<-DX x (cN (J8 A aQ az) (EJ A aQ az) AT (tL s1 h2) (b_ (by rw[yp];rw[y6 hx];rfl))) cL H1 s1];have gU:=D2;rw[qP #[_,rfl,ra,nI,dx,_,vN n,rfl,gU,nK,IJ,rfl,dp n,1,rfl,rfl,dx,_,gU,RT,_,rfl,?_] (p _ _ ((pT s1).jR CY) #[rfl,#[dx,?_],C_ gU CY (tL s1 h2)])];rw[aX,YO];rfl
aB8{nl:al}{k:Y}(h:FZ (n+k)):g_ (nl.map vN) Z dp n Z mA (n+k)=jL zv (C3 n) vN:=by rw[LV α xy h];rw[o6 uA CR]
aCn{σ:eo}{o lo hi:d'}{bi p2:d8}{Po P:w2}{j:cr}(ho:ig Ev o Po)(hl:ip lo i0 i)(hh:ip hi i0 j)(hx:∀u H1,qg->bc (Po u) H1->∃q xs,u=vx/\aC X.K H1 q xs/\∀p,eX (H1 p)->bc (P (.ref p)) qA H1 p (g_ xs Z i Z j)):ig Ev Dy (.Slice Z lo Z hi ac p2) bi P:=Q6 (G7 IA aI (zc aI) (zc aI)) OP (md ri hl.later λ H3 s3=>#[i,rfl,md (hh.later EK) kw #[j,rfl,by(rw[jz (hx u H4 KF ga (hu.later (nw s4))) (λ a xs bV h1 h2=>?_) bV]);exact(aE a xs O h1 (λ l hl=>q _ _ DY nw L! cS hl (h2 l hl)))]])
RwD.2:=lC×iW iW (ak->Prop)
Ir(A:a!):Fd 2 nI "take_row" B0 RwD [a5 hX] ci (lO e! H/\io bm bS H/\y_[ut]?=Z dE/\bS+1+dE<=bL y_) r7 (dw hX) dV (gJ e! H v sJ xC a.1.2.2 (ut+1) dE/\io bm (ut+1+dE) H):=Ee A.fS.aCP YB ce b1 ck λ q f aK A' em s H E hr hp=>by obtain⟨⟨ra,ca,nl⟩,n,k,S⟩:=q;refine dm hp λ hS hR hx hle=>?_;dsimp only at hS hx hle⊢;have nd:=YB.nd;have aQ:tX sT:=hR;rw[gf iF aQ λ cI h2=>gq cI dx h1];rw[lT (aP dL BB (qZ 0 nK (B4 A) hr) eE dL qu aI (WS sW pk YG) ji Hd) D p,<-g9 (fM (n!,n,k) ra O n8 dx h1) #[aQ,hx] BR bw jo ?_];obtain⟨rfl,fg⟩:=jo;have G_:tx kP H1:=fg;rw[gf iF G_ λ dB g2=>gq dB wc g1];(have nk:lO S H1:=λ x hx=>by obtain⟨o,ho⟩:=hS x hx;by_cases e:x=ra;(.exact l? (by rw[fY e g1]));.exact #[o,C0 bw ho e]);refine eS (iT aCn P (gJ S H v zv (C3 kP)) (J8 A G_ az) (EJ A G_ az) (uk y (.f7 mA (kP+k)) (aY bT (EJ A G_ az) au) (by congr 1)) (w' zS ca (tL s2 g2) λ p hp H3 s3=>c1 p ((nk.later s2).off hp) (by rw[<-aB8 hle];exact wi))) λ v H2 s2 hv=>?_;(rw[wy bM (λ qv d6 Hz iO=>?_) d6]);have DT:=iK g1;rw[qP #[_,rfl,ra,nI,wc,_,vN kP,rfl,DT,nK,IJ,rfl,_,rfl,mA kP,dp k,rfl,rfl,wc,_,DT,RT,_,rfl,?_] (p _ _ (bw.trans ((pT s2).jR CY)) #[c1 qv Hz (lF DT iO (λ _ _ _ e=>qe)),#[wc,?_],C_ DT CY (tL s2 g2)])];rw[aX,YO];rfl
aok(A:a!):mn me P 1 "Reader" nI c0 (ak×al) [a5 bm] ci (aC K H bm Bx vN) dV (∃q,nn/\dZ c K (q,bm,cd) 0 H):=by rw[<-BO A.Reader A.fS.init awj ce b2 ck λ a f aK A' em s E z dx H1 hr hz nV bf hp=>?_,wK ca nl];dsimp only at hp⊢;(rw[iM (aP tM (cG tM)) pe D n];have s0:=By (o:=.own z) (o':=zb nI dx []) hz nV;have mh:tT H' Hp (rX->mE (upd H' z o)):=λ s' b' o' hb=>by rw[aV (c7 hb hz)];exact kR s');rw[Ku (rB (fs:=[]) nK A.fS.ae1 ab au) H2 fV];cases dX;refine im md (.f7 0) ai wp s3 #[_,rfl,z,nI,dx,_,rfl,wi,nK,IJ,RP,?_];refine n _ _ Q' kw c1 z #[dx,?_] (tL ((Q').jR s4) hp);exact db aX
aH6(A:a!):sY 1 nI "is_done" (RQ c0 (lC×Y) [a5 hX] ci io bm cd H kW (.bl (Hg (jH a.1.2.2<=cd)))):=iG A.fS.ak2 awI ce b1 ck λ a e H hr hp U hU=>by obtain⟨⟨ra,ca,nl⟩,n⟩:=a;have hR:tX sT:=hp;rw[ii hU _,<-aG (gO eF (EJ A hR az) (dj (m:=IK) jQ (J8 A hR az) zD zS ca vX (tL s1 hR.2) K4)) lw];dsimp only;congr 1;exact Ta iV Tc
WO:∀{l:al}{i:Y}{hv:Sy}{ns:Sy},Ok i hv l=.ok ns->eZ=4*pJ|[],i,hv,ns,h=>by cases h;rfl|[_],i,hv,ns,h=>GB|[_,_],i,hv,ns,h=>GB|[_,_,_],i,hv,ns,h=>GB|a::b::c::d::l,i,hv,ns,h=>by rw[_B.Xx]at h;generalize(([a,b,c,d].all λ(x:Y)=>dS (x<128))&&_)=q at h;cases q with|false=>cases h|dr=>rw[nX]at h;cases hm:Ok uv (_B.ee [a,b,c,d]::hv) l with|uy e=>rw[cA hm h h]|ok m=>rw[cA hm h h];have:=WO hm;simp only[sl];rw[cX ayp]
aye{p s n:al}(ap:i2+d?+s.length+yl<=8192):(∃f,IL p m s n=xt f/\Cf (p,m,s,n)=rG)\/(Cf (p,m,s,n)=[]/\∃d:bR,Bv (p,m,s,n) d/\yR d/\xN/\IL p m s n=(match KI with|Z f=>xt f|ac=>.ok hI)):=by unfold Cf IL;dsimp only;cases h1:op ac p with|uy f=>rw[mQ A7 f]|ok ps=>cases h2:Du ac m with|uy f=>rw[mQ A7 f]|ok ms=>cases h3:yi (s.length+1) 0 ac s with|uy f=>rw[mQ A7 f]|ok ss=>unfold o1;cases h4:SP [] n with|uy f=>rw[mQ A7 f]|ok ns=>dsimp only;by_cases h5:0<pJ/\pJ<3;(.rw[g? h5,g? h5];rw[mQ Gt O]);.rw[b? h5,b? h5];refine bW (_B.Mr h1) l! p1 p2;refine bW (_B.Yq h2) l! m1 m2;refine bW (_B.SQ h3) l! s1 s2;(have hw:Mt.walked #[yF Iu ps,yF nD ms,yF yJ ss,ns]=vt p:=by rw[_B.at6,_B.aJw ps BW (p1 x hx).b6];unfold vt;rw[<-(GD h1).2]);rw[o6 AB hw];by_cases h6:4096<vt p;(.rw[g? (show Mt.WALK<vt p from h6),g? h6];rw[mQ Gt O]);.rw[b? Gf (Mt.WALK<vt p) h6,b? h6];have J:Bv (p,m,s,n) #[ps,ms,ss,ns]:=#[ap,h1,h2,h3,by have:=WO h4;show pJ=yl/4;rw[cX aIe]];(refine .fz #[rfl,#[ps,ms,ss,ns],J,#[J.dh,by show pJ=0\/3<=pJ;exact apt h5],#[p2.imp xz h,m2.imp xz h,s2.imp xz h],rfl];(.rw[ni _B.nW,Uz h]);.rw[ni _B.Dq,Uz h]);.rw[ni _B.Fe];rcases h with h|h<;>omega
aAI{ys:g7}{ls:al}(h:fu (λ v n=>v=vN n) ys ls):ys=ls.map vN:=by induction h with|nil=>rfl|fF r t ih=>rw[r,ih];rfl
as3(y z:V):bK "book" z ([("book",y)]:k!)=([("book",z)]:k!):=by unfold bK;rw[nX]
wM.later{v:V}{r:wx}(h:wM H v r)(s:kl):wM H' v r:=by refine yd h λ q v0 v1 v2 v3 e h k0 k1 k2 k3=>?_;exact(lA q v0 v1 v2 v3 e ug FM k0 FM k1 FM k2 FM k3)
Uj{σ:eo}{a:d'}{bi:d8}{q:ak}{l:al}{f:NU}(ha:ip a i0 (-5))(he:lW e q)(hq:fx q LG)(hl:l=rG)(hs:kH [a] f9 a []):Qu [a] e qo #[-5,rG,ac]:=by subst hl;refine(HA (xs:=[i0 (-5)]) (ys:=jL rG vN) (r5 nU [i0 (-5)] (ae ha ao hs)) (he.imp AI s1 q nN) kO (3<=uY)).imp tc v bx o? bx q (eI kO (3<=300) q e h)
Jw.2(B:sn)(r:wx):sn×Ud:=vc B (.book r.1 rc z7 z8)
aJg(A:a!)(T:iv):Fd 10 pR "hand_over" c0 (mS×V×wx) oR bS ci (o5/\wM H bS cm) r7 (dw hX) dV (∃bk:BK,fO c (m6,bk) H/\w4=(Jw l_ cm).1/\qo (Jw l_ cm).2):=Ee A.gz.axx adA ce b2 ck λ q f aK A' em s H E hr hp=>by obtain⟨⟨da,bk⟩,rv,⟨rp,rm,rs,rn⟩⟩:=q;rw[sS hD aS (yd aS λ ra v0 v1 v2 v3 pX yC k0 k1 k2 k3=>?_)];have rL:fO c (da,bk) H:=hD;dsimp only at pX yC k0 k1 k2 k3⊢;rw[pZ pX adA.nd];have hRr:wM H No (rp,rm,rs,rn):=(lA ra v0 v1 v2 v3 O yC k0 k1 k2 k3);rw[lT (aP (iA dz qF dg) eE dL qu aI K8 eE dL vY aI dL qu (yQ (aCb A) hr) eE K8 (ic sW r' O) qF) D p];have rN:Jw w4 (rp,rm,rs,rn)=if Kc then(G4 bk.2.1,s? (-6))else(match IL rp rm rs rn with|xt f=>(G4 bk.2.1,#[-5,rG,ac])|.ok A=>(A,Ph 0)):=rfl;(refine ch (bP (i:=mA (CJ+yM+yN+IM)) gL oD (auP (ns:=[m_ CJ,yM,yN,IM]) O A.g.ajG (A0 4 (R:=λ _ v n=>v=vN n) (ls:=[CJ,yM,yN,IM]) O nd QE ["self","rows","broken","book","row"] MJ ("row",4) au zD nO ra ey gY yC ck (iY kO (4<=10000)) O (λ s' dH C cl fp k x z H1 s1 hk hz=>?_) (λ _ _ _ _ _ h=>h) (λ _ _ _ _ _ _ _ h=>h) sZ) Bk ?_) mb (by rw[rR ayI]) d3 A.g.asO) il vz;(. (obtain⟨l,hl,rfl⟩:∃l,d2 x l/\z=eZ:=by match k,hk,hz with|0,hk,hz=>cases hk;cases hz;exact ch k0 O|1,hk,hz=>cases hk;cases hz;exact ch k1 O|2,hk,hz=>cases hk;cases hz;exact ch k2 O|3,hk,hz=>cases hk;cases hz;exact ch k3 O|k+4,hk,hz=>simp at hk);exact dj (m:=eZ) jQ dt w' (by rw[oG JB vu ga s2 hl]));. (rw[jz mc (λ a ys aU ha pr=>?_) aU]);refine f8 a ey ?_;rw[ha,aAI pr];rfl);(. (have hb:Kc:=by rw[mV];show 8192<_;rw[cX arL]);refine eS (qC (ag A.g.Mh)) λ v H2 s2 hv=>p v H2 ri pT kj aZ bk ri C4;(.rw[rN,g? hb]);.rw[rN,g? hb];exact dX);have hb:¬Kc:=λ h=>wE hx (by have:8192<Jj:=h;rw[cX Int.lt_of_toNat_lt]);have ap:Jj<=8192:=Cq hb;rw[b? hb]at rN;refine eS (aT lN aic c? (No,rp,rm,rs,rn) zy eP #[ri hRr.later,ap]) λ bv H2 s2 rZ=>?_;(rw[Al rZ.now qb zk]);dsimp only at zk;have j6:=ga s2;rcases aye ap with⟨f1,hj,fA⟩|⟨fA,d,J,FD,SD,hj⟩;(.rw[fA]at zk;refine(af dr (n_ aN n1 H3 s3 (by rw[oG (s_ (l:=[f1.rule,f1.place])) f8 qb MZ])) fW (i' ?_));refine eS (Uj d3 A.g.ae0 aN MZ O) λ v H4 s4 hv=>p v H4 Q2 pT kj aZ bk Q2 C4;(.rw[rN,hj]);.rw[rN,hj];exact dX);rw[fA]at zk;refine(af CX (n_ aN n1 H3 s3 (by rw[oG (s_ (l:=[])) f8 qb MZ])) fW (jU ?_));have rV:=j6.trans s3;refine eS (uL (Sz (λ x=>∃o,fx x o) A) c? (No,(rp,rm,rs,rn),d) zy j7 #[λ x cw=>cF cw λ o ho=>#[o,db bd rV ho],(lA ra v0 v1 v2 v3 O vX db bd rV yC Ey k0 Ey k1 Ey k2 Ey k3),J]) λ bkv H4 s4 Gb=>?_;(rw[dl (fR Gb.now λ qk kk bu hnk GF jf=>?_) bu]);dsimp only at GF;have i_:mz Gs H4:=#[GF,[],jf,λ n v e=>(by cases e),ul,ul];refine(af Gs e? bN xx #[#[O6 s5,FD],λ bv2 H6 bw jo=>?_]);(rw[dl (iN jo λ azB YS bV vE=>?_) bV]);dsimp only at vE;rw[alE SD]at vE;(have uE:aj H H6:=λ a o ha=>by(have pF:a≠kk:=λ e=>by subst e;exact hnk #[o,ha]);have h5:=bd s5 db bd rV ha;exact ff bd bw (by rw[kh,gS pF,h5]));have amj:nP eg Gs H6:=BM.book azB;cases Vg:KI with|gT f2=>rw[Vg]at vE hj;refine(af dr (n_ aN n1 H7 s7 (by rw[oG (s_ (l:=[f2.rule,f2.place])) f8 YS Nm])) (λ H7 s7=>i' ?_));refine eS (Uj (l:=[f2.rule,f2.place]) d3 A.g.ae0 aN Nm O) Fv H8 (pT (IN (Ow s8))) kj aZ bk (C4 (IN (Ow s8)));(.rw[rN,hj]);.rw[rN,hj];exact dX|ac=>rw[Vg]at vE hj;rw[<-(af CX (n_ aN n1 H7 s7 (by rw[oG (s_ (l:=[])) f8 YS Nm])) (λ H7 s7=>jU ?_)),gf (C4 (IN s7)) iS cI gq cI dx Hw,<-#[_,rfl,_,rfl,da,pR,dx,_,rfl,Hw,yW,Pg,RP,?_]];(refine eS (qC ai) Fv H8 ((pT (IN s7)).jR (dw.upd.trans (pT s8))) kj aZ Gs #[B2 ui ?_,CO (II Gi amj s7 Hw O) s8];(.rw[aX,as3]);.rw[rN,hj]);.rw[rN,hj];exact dX
aLu(A:a!):mn me P 7 "Desk" pR MR Gg (λ _ v H=>∃q bk,nn/\fO c (q,bk) H/\w4=Mt.NOBOOK):=by refine BO A.jZ A.gz.init aBK ce b1 ck λ a f aK A' em s E z dx H1 hr hz nV bf hp=>?_;(rw[iM (aP (ic sW aI O) dg) pe D n];have s0:=By (o:=.own z) (o':=zb pR dx []) hz nV;have mh:tT H' Hp (rX->mE (upd H' z o)):=λ s' b' o' hb=>by rw[aV (c7 hb hz)];exact kR s');rw[Ku (iT rB P (∃q kk,nn/\sE H q #[[],[],[],[]]) (fs:=[]) yW Pg ab (OF (Sz (λ _=>False) A) c? GT (Ae (cq qj (cq qj qQ qj qj)) bn vs H (by(refine B1 h λ _ _ aS _ _ _ aU _ _ _ a9 _ _ _ bu _ bV=>?_;subst aS aU a9 bu bV);exact(ab:4<=100))) LU)) H2 fV];(.obtain⟨v,_,rfl,⟨a,_,rfl,ha,v0,_,rfl,g0,v1,_,rfl,g1,v2,_,rfl,g2,v3,_,rfl,g3,rfl⟩,rfl⟩:=dX;exact(c1 (a5 a,([],[],[],[]),#[[],[],[],[]]) #[λ _ h=>Im,(lA a v0 v1 v2 v3 O (.fz ha) g0 g1 g2 g3),#[kO (0<=8192),rfl,rfl,rfl,zW ((0:Y)=0/4)]] λ v H3 _ bx=>fR bx λ q kk e _ h _=>(cD q kk e LL h ed _)));. (rw[wy df (λ q kk fL hB=>?_) fL]);exact n _ _ PK kw (aE z (q,#[[],[],[],[]],kk) O #[B2 db aX,CO (II hB fV O) s4] O)
aed{r:lC}(hD:fO c dk H)(hR:tX r):dk.1≠r.1:=λ e=>by rw[qB hD iH iH,gf hR iS jF gq jF eQ h2];rw[e,h2]at h1;have:=r? (λ o:j0 HO=>match o with|Z bd .ins fs=>fs.length|_=>0) h1;rw[jC (show(2:Y)=1 from a6) ab]
fO.keep{r:lC}{n':Y}(hD:fO c dk H)(hR:tX r)(s:dw r.1 H H2)(eO:io r n' H2):fO c dk H2:=by have bf:=aed hD hR;rw[Kz hD lX lX,gf hR iS kE gq kE eQ g1,gf eO iS jJ gq jJ Pu g2,#[B2 (s.at_ h1 bf),CO (II h2 g1 O) (aBz s g2)]]
dZ.keep{r:lC}(hD:fO c dk H)(hR:tX r)(s:dw dk.1 H H2):io r n H2:=by have bf:=aed hD hR;rw[qB hD kx kx,gf hR λ kn g2=>gq kn eQ g1];exact #[#[eQ,s.at_ g1 (sg bf)],C_ h1 s g2]
C5.1(k w:Y)(t:al):Us:=if k=2 then .chances w t else if k=3 then .width w t else .measure w t
TaD.2:=mS×iW (lC×iW Br)
akr(A:a!)(T:iv):tD 11 "text_answer" B0 TaD th Be c! dE.1 ci (o5/\io dE nj H/\rA[zf]?=Z w0/\rA[zf+1]?=Z n2/\nj+1+1+n2<=bL rA) (λ _ _ _=>True) dV (o5/\io dE (tP+n2) H/\qo (vc l_ (C5 bS w0 sJ xC a.2.2.1.2.2 tP n2)).2):=wI A.aE3 Ru ce b3 ck λ q f aK A' em s H E hr hp=>by obtain⟨dk,k,⟨ra,ca,nl⟩,n,wn,m⟩:=q;rw[jk gG λ hD hR hw hm hle=>?_];dsimp only at hD hR hw hm hle⊢;have nd:=Ru.nd;rw[lT eE dL vY wm B4 dL xl wm Ir fJ D p,qB iF hR lZ lZ,D9 wn hw BR AH cw (bq cw cL e1 fg)];subst e1;have qi:=Pn hR AH fg;rw[gf iF fg iS nJ gq nJ wc h2,<-(g9 (fM (n!,n+1,m,S0) ra O n8 wc h2) (fG (Ew _) fg hm hle) λ v H2 r6 dA=>bq dA cL hT eO)];have mP:=qi.keep fg r6 eO;(rw[dl (bM hT uj qt oJ dQ) oJ]);dsimp only at dQ eO;generalize Fj (kP+1) m=t at dQ p;have yE:∀{H3:Hp},aj H2 H3->DG c (dk,wn,c! qt,t) H3:=λ s3=>(eI (Ps s3) qt O gh dQ);rw[wX RG qo (vc mT (C5 k wn t)).2 Ps Mk C5,<-aW ta au A.g.Np ge ge];(. (have hk:k=2:=by rw[oj As]);rw[rz hk,bg (cJ yW lN aio c? (dk,wn,c! qt,t) az ce mP.cp d1 bN dt O fW Jp)]);. (have hk:¬k=2:=λ e=>by rw[ws,atj e a6]);rw[gS hk,<-aW ta au A.g.Js xq xq];(. (have j9:k=3:=by rw[oo cg aoF]);rw[rz j9,bg PX ajU bN dt]);. (have j9:¬k=3:=λ e=>by rw[wu cg,afL e a6]);rw[gS j9,bg PX awf bN dt]
D6.1(k w n:Y)(t m:al):Us:=if k=4 then .fill w n t m else .ragged w n t m
LaD.2:=mS×iW (lC×iW ((Y×Y)×Br))
ahu(A:a!):tD 11 "lines_answer" B0 LaD th Be c! dE.1 ci (o5/\io dE nj H/\rA[zf]?=Z w0.1/\rA[zf+1]?=Z w0.2/\rA[tP]?=Z wS/\rA[tP+1+wS]?=Z n2.2/\nj+1+1+1+wS+1+n2.2<=bL rA) (λ _ _ _=>True) dV (o5/\io dE (tP+1+wS+1+n2.2) H/\qo (vc l_ (D6 bS w0.1 w0.2 sJ xC a.2.2.1.2.2 (tP+1) wS sJ xC a.2.2.1.2.2 (tP+1+wS+1) n2.2)).2):=wI A.af7 Vd ce b3 ck λ q f aK A' em s H E hr hp=>by obtain⟨dk,k,⟨ra,ca,nl⟩,n,⟨wn,co⟩,m,mm⟩:=q;rw[jk uZ λ hD hR hw hc hm m9 hle=>?_];dsimp only at hD hR hw hc hm m9 hle⊢;have nd:=Vd.nd;rw[lT eE dL vY wm B4 dL xl wm B4 eE dL (bY (i:=5)) wm Ir dL (bY (i:=6)) wm Ir fJ D p,qB iF hR qW qW,D9 wn hw BR AH eG (bq eG cL e1 fg)];subst e1;have qi:=Pn hR AH fg;rw[gf iF fg iS nY gq nY wc h2,<-(g9 (fM (n!,n+1,co) ra O n8 wc h2) #[fg,hc] λ v H2 r6 kz=>bq kz cL e2 eO)];subst e2;have mP:=qi.keep fg r6 eO;rw[gf iF eO iS w_ gq w_ Pu h3,<-(g9 (fM (n!,n+1+1,m,S0) ra O n8 Pu h3) (fG (Ew _) eO hm kZ FZ (n+1+1+1+m) aCp hle) λ v H3 yB lD=>bq lD cL hT kL)];have J':=mP.keep eO yB kL;(rw[dl (bM hT uj qt xm dQ) xm]);rw[gf iF kL iS xn gq xn LA h4,<-g9 (fM (n!,n+1+1+1+m,mm,S0) ra O n8 LA h4) (fG (Ew _) kL m9 hle) GL qV ou (bq ou cL hM ot)];have zV:=J'.keep kL qV ot;(rw[dl (bM hM uj qm AQ dR) AQ]);dsimp only at dQ dR ot h4;have V_:=C0 qV dQ (vS dQ h4 rq);generalize Fj (kP+1+1) m=t at dQ V_ p;generalize Fj (kP+1+1+m+1) mm=mk at dR p;have yE:∀{H5:Hp},aj H4 H5->JA c (dk,(wn,co),(a5 qt,t),zK,mk) H5:=λ s5=>(DL S1 f8 qt pd V_ qm O pd dR);rw[wX RG qo (vc mT (D6 k wn co t mk)).2 zV.later (ot.later s3) D6,<-aW ta au A.g.Rt ge ge];(. (have hk:k=4:=by rw[oj Ol]);rw[rz hk,bg P9 afC bN it]);. (have hk:¬k=4:=λ e=>by rw[ws,aHa e a6]);rw[gS hk,bg P9 agd bN it]
wL{nl:al}{a:Y}{x:cr}(h:NP[a]?=Z x):∃k:Y,nl[a]?=Z k/\x=dp k:=by rw[Ak h];cases e:nl[a]? with|ac=>rw[cA e h h]|gT k=>rw[cA e h h,A7 k]
atF(l:al):y5 (zs l)=l:=by unfold y5;rw[h! nz ((TW (λ x _=>Int.toNat_natCast x)).jR (List.map_id l))]
vK{nl:al}{a b:Y}{x:xg}(h:_R.ir (zs nl) a x b):nl[a]?=Z C6/\b=a+1+C6/\FZ (a+1+C6)/\y5 x=Fj p? C6:=by obtain⟨h1,h2,h3,h4,h5⟩:=h;rw[EC h2 k e,ES h3,<-(fG (by rw[hk];congr 1;exact aHj e) h4 n3 apR h4 h3 ?_)];(have h6:x=zs ((C3 p?).uK C6):=by rw[zs,N',Tm];exact h5);(conv=>lhs;rw[h6]);exact atF _
sm.1(n:Y)(ks:BC):BC|0=>n|j+1=>sm n ks j+1+ks j
aEe{S:kb}{D:ak}{vs:g7}{g:Y->al}(hv:k9 D vs)(pr:Lb i (gJ S H v (g i)) SR):wM H ND (g 0,g 1,g 2,g 3):=by rw[show SR=[0,1,2,3]from rfl]at pr;cases pr with|fF k0 pr=>cases pr with|fF k1 pr=>cases pr with|fF k2 pr=>cases pr with|fF k3 pr=>cases pr;exact(lA D _ _ _ _ O hv k0.lst k1.lst k2.lst k3.lst)
AoD.2:=mS×lC×iW (Fr×Y)
aqD(A:a!)(T:iv):tD 12 "answer_of" B0 AoD oR c! tq ci (o5/\io bS dE H/\_R.pY (zs bS.2.2) dE nj oq) (λ _ _ _=>True) dV (∃bk:BK,fO c (m6,bk) H/\w4=(vd l_ nj).1/\io bS oq H/\k8 H v (vd l_ nj).2):=Eu A.anY Wu λ q f aK A' em s H E hr hp=>by obtain⟨dk,⟨ra,ca,nl⟩,n,cc,b⟩:=q;refine bW hp ad hD hR hC;dsimp only at hD hR hC⊢;have nd:=Wu.nd;rw[<-gF Ac aJg λ fh fdh psh hmh hbh Gh=>?_,lT eE dL qu (qZ 1 nK (B4 A) c?) zP ji (Ml sW yW hmh Gh c? hbh iw mO (iz (wZ O nd g9 Cz x9 dU QE ["desk","reader","call","row"] Oc ("row",3) (λ _ _ _ _ _=>GC nd O (.f? O) (.fz O)) Ny (λ s' dH C cl fp=>qZ 1 nK (Ir A) c?)) fQ)) dg eE zP ji (yQ lN akr hr) dg zP ji (yQ (ahu A) hr) dg fJ D p,qB iF hR aS aS];(have first:∀(k:Y),nl[n]?=Z k->∀{Q:w2},(∀H1,fO c dk H1->tx kP H1->Q (vN k) H1)->∀v H1,dw ra H H1->(v=vN k/\tx kP H1)->Q v H1:=λ k hk Q hq v H1 AH bx=>bq bx λ e fg=>by subst e;exact hq H1 (Pn hR AH fg) fg);cases hC with|@book r0 r1 r2 r3 b0 b1 b2 b3 g0 R0 R1 R2 R3=>(rw[EC g0 k ek];(have cH:k=1:=by exact aiG ek);subst cH;rw[<-g9 (fM (n!,n,1) ra O n8 dx h1) #[hR,hk] (first 1 hk ad H1 qi fg),iM LI eP (fC tr dD (pE ab hx))];have mP:=Pt s2;have eO:=H! s2;rw[gf iF mP iS aU gq aU dxd Hw,KL R0 a0 e0,<-dm (vK R1) λ a1 e1 l1 x1=>?_,<-dm (vK R2) λ a2 e2 l2 x2=>?_,<-dm (vK R3) λ a3 e3 l3 x3=>?_];subst e0 e1 e2 e3;refine #[_,rfl,dk.1,dxd,_,rfl,Hw,rfl,?_];let ks:BC:=λ j=>[r0.length,r1.length,r2.length,r3.length].getD j 0;(have iZ:∀j,j<4->nl[w6]?=et ks j/\FZ (w6+1+ks j):=λ j hj=>by rcases j with _|_|_|_|j;(((.exact #[a0,l0]);.exact #[a1,l1]);(.exact #[a2,l2]);.exact #[a3,l3]);.rw[jC hj (Nat.not_lt.mpr (Nat.le_add_left 4 j))]);let cZ:Y->al:=λ j=>(C3 (w6+1)).uK (ks j);rw[iM e? ai B! vs NG (fE 4 NG.now ab ab pe Dl Jq)];have J':=Ps s3;have kL:=eO.later s3;rw[gf iF kL λ a9 q3=>gq a9 LA h3];(have awo:tT H' Hp (dw ra H3 H'->dw ra H3 (upd H' Dl o)):=λ st a o ha=>by have h5:=bd st ha;have bf:a≠Dl:=c7 ff ha Jq;rw[tN h5];split at h5;(.cases h5);.rw[w?];rw[b? e,aV bf];exact h5);refine kj (zH (g:=dC 3) (tt:=kd) (vs:=[3]) (σ:=[cx dk.1,cx ra,Z (vN 1),ac])) (λ j H'=>∃vs:g7,H' Dl=et .lst vs/\Lb i (gJ (· = Dl) H' v (cZ i)) (sp j)/\dw ra H3 H'/\∃dx,H' ra=Z sz nI [R5 ca,("at",vN w6)]) #[[],aX,Paired.nil,pT (cS Jq),LA,cS Jq _ _ h3];(.rintro j H' hj⟨vs,hv,pr,jv,eQ,gU⟩;obtain⟨oM,En⟩:=iZ j hj;have aQ:tx w6 H':=#[#[eQ,gU],C_ h3 jv q3];refine #[rfl,(n!,w6,ks j,(· = Dl)),ra,rfl,n8 eQ gU,rfl,(fG BW l? (show H' x=et .lst vs by rw[show x=Dl from hx];exact hv) aQ oM En),λ v H4 qV cw=>bq cw cL hT ot];have Z1:=C0 qV hv (vS hv gU rq);(rw[dl (bM hT λ qv bu Sg iO=>?_) bu]);dsimp only at Sg iO ot;have upL:∀{v:V}{l:al}{ys:g7},Sj H4->Sj qA H4 Dl ys:=λ dA=>Bn dA h #[a,e,g,by rw[aV g];exact h];(have pr4:Lb i (gJ (· = Dl) H4 v (cZ i)) (sp j):=gs (λ v i eG=>Bn eG h #[a,e,g,C0 qV h (vS h gU rq)]) pr;have hl:Op=j:=by rw[iX pr,Ot]);rw[gf iF ot λ bV g4=>gq bV dx4 h4];refine #[vs,Z1,by rw[hl];exact OL hj ab,_,aX,?_,awo (jv.trans qV),dx4,?_];(.rw[h! List.range_succ (aeH (gs bn v i (upL h) pr4) (.fF (upL c1 qv Sg iO) iw))]);.rw[aV (vS h4 Z1 rq)];exact h4);.rintro H'⟨vs,hv,pr,jv,eQ,gU⟩;have aQ:tx (sm kP ks 4) H':=#[#[eQ,gU],C_ h3 jv q3];have rL:=J'.keep kL jv aQ;have y0:E8 (cZ 0) r0:=x0.symm;have y1:E8 (cZ 1) r1:=x1.symm;have y2:E8 (cZ 2) r2:=x2.symm;have y3:E8 (cZ 3) r3:=x3.symm;refine(c1 (dk,c! Dl,(cZ 0,cZ 1,cZ 2,cZ 3)) #[rL,aEe hv pr] λ v H5 uF kz=>bM kz λ bk g1 g2 g3=>?_);dsimp only at g2 g3;rw[y0,y1,y2,y3]at g2 g3;exact DW H5 (fE bk g1 g2 (dZ.keep rL aQ uF) g3))|@text p' wv r b g0 gp g1 R0=>rw[EC g0 k ek,<-ah (wL g1) ad wn hw ew,KL R0 a0 e0];subst e0 ew ek;(rw[D9 k hk (first k hk ad H1 qi fg)];(have cj:k=2\/k=3\/k=6:=by exact agM gp);have bw:vd mT [[m_ k,dp wn],r]=(G4 G?.2.1,IQ (vc mT (C5 k wn RV)).2):=by rw[Q?]<;>rfl);rw[iM LI eP (fC dD (by rw[mV,(aAN cj a6).elim]) tr),iM Ql sO aN A.g.Js fW (fC tr dD (pE (by rw[Q?]<;>rfl) hx)),<-(af (dk,k,sT,n+1,wn,r.length) oi az aN au j7 #[(j3 KF Pt KF H! hw a0 l0),λ v H5 _ lD=>bW lD λ hD5 D1 hv=>DW H5 (fE vn hD5 ?_ D1 ?_)])];(.rw[bw]);.rw[bw,x0];exact hv|@lines p' wv nv r m b c' g0 gp g1 g2 R0 R1=>rw[EC g0 k ek,<-ah (wL g1) ad wn hw ew,<-ah (wL g2) ad co hc ec,KL R0 a0 e0,<-dm (vK R1) λ a1 e1 l1 x1=>?_];subst e0 e1 ew ek ec;(rw[D9 k hk (first k hk ad H1 qi fg)];(have cj:k=4\/k=5:=by exact agP gp);have bw:vd mT [[m_ k,dp wn,dp co],r,m]=(G4 G?.2.1,IQ (vc mT (D6 k wn co RV (y5 m))).2):=by rw[K1]<;>rfl);rw[iM LI eP (fC dD (by rw[mV,(ahY cj a6).elim]) tr),iM Ql sO aN A.g.Js fW (fC dD (by rw[K1]<;>rw[jC hx ab]) tr),iM (sO aN d1 d3 A.g.Rt d3 A.g.awx) j7 (fC tr dD (pE (by rw[K1]<;>rfl) hx)),<-(af (dk,k,sT,n+1,(wn,co),r.length,d?) ve az aN zy xx #[#[Pt (kC Rh),H! (kC Rh),hw,hc,a0,a1,l1],λ v H6 _ ou=>bW ou λ DS xA hv=>DW H6 (fE vn DS ?_ xA ?_)])];(.rw[bw]);.rw[bw,x0,x1];exact hv
HJ{k:ak}:br sF k o k=B_:=by funext b;rw[kh];split;(.rfl);.rw[w?];rw[aV e]
amQ(a:xg)(l:Fr):C7 (a::l)=dp a.length::(a++C7 l):=by rw[o6 C7 TZ];rfl
aqm{l:xg}(h:bh (Ut l)):∃cs,KK eZ l cs/\Pv<=400/\UA l=JT cs:=by rw[ni Ut];unfold UA;rw[_R.ahF]at h⊢;cases e:Uu Uy eZ l with|ac=>rw[cA e h h]|gT cs=>rw[e]at h;dsimp only at h;rw[eY]at h;refine c1 cs ?_ O;have:=h.1;unfold PyFlat.atMost at a6;rw[cX lc]
aGo(A:a!)(T:iv){f:ak}{fd:O0}(F:gd K "answers" "answers" Ov f fd):mt ej de eL 13 f fd ["calls"] (HU K):=F.ok T6 (λ vs H Q E bx=>df bx λ a nl e _=>by rw[e];rfl) λ aK A' em s H vs Q E hr jA=>by refine fR jA λ ca nl e hS Oe hQ=>?_;subst e;refine bM (aqm Oe) λ cs ud ap as4=>?_;rw[as4]at hQ;have nd:=T6.nd;rw[iM eE dL BB aI dL qu aI JU He eE dL xl (ap4 (yQ lN aqD hr)) (lI I6 uq r' aI) (aP (lI JQ GZ r' NO) dg) r' ?_,<-eS (az7 (aLu A) c? () O zj) λ dv H1 s1 hd=>?_];(rw[jz hd.now (λ da bk aS hD hB=>?_) aS]);refine eS (uL (aok A) c? (ca,nl) e? az eP (tL (ga s2) hS)) λ rv H2 s2 nR=>?_;(rw[dl (ah nR.now ad ra aU hR) aU]);refine #[wR,cL tl qG];have mP:=hD.later s2;have s3:aj H2 qA H2 tl []:=cS qG;refine #[sV z (∃(x4:i1)(bk:BK)(n g:Y)(i3:c2 Fr)(tt:xg),a7=[cx ca,cx da,cx ra,cx tl,x4]/\z=yr/\KK g xC NP n i3/\fO c (da,bk) (br H' tl)/\tx n (br H' tl)/\H' tl=Z Dn/\tt++Jd w4 i3=JT cs/\Si),#[Pv,ac,bk,0,_,cs,[],rfl,rfl,ud,by rw[JK qG];exact mP,by rw[JK qG];exact hR,aX,by rw[hB];rfl,by show 0+301*Pv<=120400;exact akG ap],?_];rintro z a7 H'⟨x4,CZ,n,g,i3,tt,rfl,rfl,hc,rL,aQ,htt,wd,gw⟩;have hRs:=CG xF;rw[gf iF hRs iS a9 gq a9 dxr yC,<-ch np (WZ nK (aH6 A) c? (n!,n) aN j7 n8 dxr db yC O j7 (hRs.later s4)) Kj];(.rw[oN,jn hn (n<IK)];rcases _R.T4 hc with⟨fU,_⟩|⟨cc,b,g',ds,rfl,hC,ub⟩;(.rw[ES fU,(EU hn fU).elim]);have zV:=C4 (fb (k:=tl) s4);have ot:=CG (fb (k:=tl) s4);rw[sl]at gw;rw[qP #[λ d! H2=>∃z',z'<bL (cc::ds)/\∃(x4:i1)(bk:BK)(n g:Y)(i3:c2 Fr)(tt:xg),d!=[cx ca,cx da,cx ra,cx tl,x4]/\z'=yr/\KK g xC NP n i3/\fO c (da,bk) (br H2 tl)/\tx n (br H2 tl)/\H2 tl=Z Dn/\tt++Jd w4 i3=JT cs/\Si,λ _ _ h=>h,?_] #[tl,_,db htt,((da,CZ),sT,n,cc,b),d1 au aN,λ H5 s5=>#[#[S1,SZ,hC],λ v H6 _ cw ng=>wU cw λ bk2 DS sf xA hv=>?_]]];(rw[dl (iN hv λ FG qa bu B9=>?_) bu]);dsimp only at DS sf xA FG B9;(have bf:qa≠tl:=λ e=>by rw[f' ng B9 B9]);have IE:Em tl=Z Dn:=aX;(have uH:Em qa=Z IR nf Ez.2:=by rw[aV bf];exact B9);have Qg:br Em tl=H6:=JK ng;generalize Em=H7 at IE uH Qg;generalize bw:Ez=D3 at sf FG uH B9;rw[qP c1 _ EI IE (im md (.f7 r4 jH D3.2) (dj (m:=bL D3.2) jQ dt n1 H8 s8 zS qa (.f? (x! ui uH)) K4) cL H8 s8) kj (oZ tl _ _ O) O ui IE];(.rw[JV kZ (tt.length<=120400) aCN gw]);(refine #[_,rfl,.f? g9 kX _ ey aX,_,rfl,tl,qa,_,_,rfl,rfl,aX,by rw[aV bf];exact ui uH,?_,?_];.rw[uQ,el,el];exact hH (show _<=200000 by simp;exact auM gw FG) ab);(have Vq:my H6 H8 tl:=by rw[<-Qg];exact fb s8);((refine #[ds.length,Nat.lt_succ_self _,_,bk2,b,g',ds,tt++((jH D3.2:cr)::D3.2),rfl,rfl,ub,?_,?_,?_,?_,?_];(.rw[HJ,HJ];exact DS.later Vq);.rw[HJ,HJ];exact xA.later Vq);.rw[aX,yo,u4,H9];rfl);(.rw[<-wd];show _=tt++C7 (Ez.2::UB vd Ez.1 ds);rw[bw,amQ,sf,H9];rfl);.rw[uQ,sl];exact aw8 gw FG);.rw[oN,jn hn (IK<=n)];rcases _R.T4 hc with⟨_,rfl⟩|⟨cc,b,g',ds,rfl,hC,ub⟩;(.rw[iM O bd hQ db ?_];rw[htt,<-wd];show _=Z (HO.lst (nf (tt++[]) mb));rw[Ie]);.have:=hC.lt;rw[t9 el,(afA a6 hn).elim]
}
section _P
namespace _P
open hA hE hF _L _M
open PySem.W(OpenSpec Codec)
def z:={
aMu{P:gV}{w:gX}{K:h?}{mg:hY}{c:Cs}{fa:ak}(A:a!)(T:iv)(PJ:mg "answers"=cx fa):∃fd:O0,(∀(s:ll)(us:ME),us.length=bL (["calls"]:M')->BindsTo s fd #[us,[]] ((["calls"]:M').zip us))/\∀de:ib,K.In de->base.Ns mainGlobals mg->mt ej de eL 13 fa fd ["calls"] (HU K):=by rw[<-df A.answers λ f fd h1 F=>?_,cA PJ h1 h1,<-(af fd sC s us hu (λ de _ _=>aGo A T F))];obtain⟨oc,od,kV,doc,pm,an,aK,ct,rW,rfl,lk,gj⟩:=F.ex;obtain⟨u,rfl⟩:=List.length_eq_one_iff.mp hu;exact .of_eq O
}
section _P
end
theorem PySem.Challenge.cw_brokenlinesdesk_s01_answers_holds : PySem.Challenge.rw_brokenlinesdesk_s01_answers.Holds :=
  _P.headAll fun _ _ _ _ _ _ A T h => _P.aMu A T h
