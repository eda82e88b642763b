import PyProof.Rows.All
import MtSeg
import MtLine
import PyYqmtfa
import PyProof.EqAt
import PyProof.EqKinds
import PyProof.TupleCall
import Wide.All
import OpenK.AllK
import Wide.FinOn
import KE.BitLaws
import PyProof.ListCopy
import PySem.Challenge.RW_brokenlinesdesk_s01_answers
import KE.KBits
import YfSpec
import Open.SpecLaws
import KE.OsHead
import KE.OsGo
import Lean
set_option Elab.async false
set_option linter.all false
set_option maxRecDepth 100000
set_option compiler.extract_closed false
section
open Lean
def Lean.Syntax.ks (x : Syntax) : String := match x.getKind with | .str _ s => s | _ => ""
def kP (a s : String) : Name := .str (.str (.str (.str .anonymous "Lean") "Parser") a) s
def kT : String → Name := kP "Term"
def kM : String → Name := kP "Command"
def kA : String → Name := kP "Tactic"
def mxF (f : Syntax) (as : Array Syntax) : Syntax := if as.size == 0 then f else if f.ks == "app" then f.setArg 1 (f[1].setArgs (f[1].getArgs ++ as)) else mkNode (kT "app") #[f, mkNullNode as]
def mxU (a : Syntax) : Syntax := if a.ks == "paren" then a[1] else a
def mxP (ts : Array Syntax) : Syntax := mkNode (kA "paren") #[mkAtom "(", mkNode (kA "tacticSeq") #[mkNode (kA "tacticSeq1Indented") #[mkNullNode (ts.foldl (fun a t => if a.size == 0 then a.push t else (a.push (mkAtom ";")).push t) #[])]], mkAtom ")"]
def mxG (x : Syntax) : Syntax := if x.ks == "term#[_,]" then mkNode (kT "anonymousCtor") #[mkAtom "⟨", x[1], mkAtom "⟩"] else if x.ks == "term_/\\_" then x.setKind (.mkSimple "term_∧_") else if x.ks == "term_\\/_" then x.setKind (.mkSimple "term_∨_") else if x.ks == "term_<=_" then x.setKind (.mkSimple "term_≤_") else if x.ks == "term_>=_" then x.setKind (.mkSimple "term_≥_") else if x.ks == "app" && x[0].ks == "app" then mxF x[0] x[1].getArgs else if x.ks == "rwSeq" && x[2][1].getSepArgs.any fun r => r[1].ks == "byTactic" then mxP (x[2][1].getSepArgs.map fun r => if r[1].ks == "byTactic" then mkNode (kA "paren") #[mkAtom "(", r[1][1], mkAtom ")"] else if r[0].getNumArgs == 0 then mkNode (kA "exact") #[mkAtom "exact", r[1]] else mkNode (kA "refine") #[mkAtom "refine", r[1]]) else x
def mxX (f : Syntax → Syntax) : Nat → Syntax → Syntax
  | k + 1, .node i n a => f (.node i n (a.map (mxX f k)))
  | _, s => f s
def mxT (f : Syntax → Syntax) : Syntax → Syntax := mxX f 9999
def mxE {α : Type} (f : α → Syntax → α) : α → List Syntax → α
  | a, [] => a
  | a, s :: l => mxE f (f a s) l
def mxI (t : List (Name × Syntax)) (s : Syntax) : Syntax := s |> mxT fun x => if x.isIdent then (t.lookup x.getId).getD x else mxG x
abbrev MxT := NameMap (List Name × Syntax)
def mxA (t : MxT) : Nat → List Syntax → List Syntax
  | 0, as => as
  | n + 1, as => match as with
    | [] => []
    | a :: r =>
      let r := mxA t n r
      match if a.isIdent then t.find? a.getId else none with
      | some (p :: ps, b) => mxI ((p :: ps).zip (r.map mxU)) b :: r.drop (ps.length + 1)
      | _ => a :: r
def mxS (t : MxT) (s : Syntax) : Syntax := s |> mxT fun x =>
  if x.isIdent then match t.find? x.getId with
    | some ([], b) => b
    | _ => x
  else if x.ks == "app" then match mxA t 1000 (x[0] :: x[1].getArgs.toList) with
    | f :: as => mxF f as.toArray
    | _ => x
  else mxG x
def mxN (c : Syntax) : Syntax := c.setArg 0 (c[0].setArg 4 (mkNullNode #[mkNode (kM "noncomputable") #[mkAtom "noncomputable"]]))
def mqA (f : Name) (as : Array Syntax) : Syntax := mkNode (kT "app") #[mkIdent f, mkNullNode as]
def mqN (s : Syntax) : Nat → Syntax
  | 0 => s
  | n + 1 => if s.ks == "paren" then mqN s[1] n else if s.ks == "typeAscription" && s[1].ks == "num" then s[1] else s
def mqZ (z : List Name) : Nat → Syntax → Bool
  | 0, _ => false
  | k + 1, s => if s.isIdent then z.contains s.getId else if s.ks == "typeAscription" then s[3][0].getId == `Int else if s.ks == "app" then s[0].getId != `Int.toNat && s[1].getArgs.any (mqZ z k) else s.getArgs.any (mqZ z k)
def mqT (r z : List Name) : Nat → Syntax → Syntax
  | 0, s => s
  | k + 1, s =>
    let g := mqT r z k
    let s := mqN s 9
    let c := s.ks
    if s.isIdent then mqA `v #[Syntax.mkNumLit (toString ((r.idxOf? s.getId).getD (z.idxOf s.getId)))]
    else if c == "num" then mqA `n #[s]
    else if c == "typeAscription" then if s[3][0].getId == `Int then mqA `c #[g s[1]] else g s[1]
    else if c == "app" then mqA (if s[0].getId == `min then `mi else if s[0].getId == `max then `ma else `o) (s[1].getArgs.map g)
    else if c == "term-_" then mqA `g #[g s[1]]
    else if c == "term_^_" then mqA `p #[mqN s[0] 9, mqN s[2] 9]
    else if c == "term_*_" then if (mqN s[0] 9).ks == "num" then mqA `m #[mqN s[0] 9, g s[2]] else mqA `u #[g s[0], mqN s[2] 9]
    else mqA (if c == "term_+_" then `a else `s) #[g s[0], g s[2]]
def mqF (r z : List Name) : Nat → Syntax → Syntax
  | 0, s => s
  | k + 1, s =>
    let g := mqF r z k
    let t := mqT r z k
    let s := mqN s 9
    let c := s.ks
    let q (a b : Name) := if mqZ z k s then b else a
    if s.isIdent then mkIdent `ff
    else if c == "arrow" then mqA `im #[g s[0], g s[2]]
    else if c == "term¬_" then mqA `no #[g s[1]]
    else if c == "term_∧_" then mqA `an #[g s[0], g s[2]]
    else if c == "term_∨_" then mqA `or #[g s[0], g s[2]]
    else if c == "term_↔_" then mqA `fi #[g s[0], g s[2]]
    else if c == "term_≠_" then mqA `no #[mqA (q `eq `zeq) #[t s[0], t s[2]]]
    else if c == "term_=_" then mqA (q `eq `zeq) #[t s[0], t s[2]]
    else if c == "term_<_" then mqA (q `lt `zlt) #[t s[0], t s[2]]
    else if c == "term_≤_" then mqA (q `le `zle) #[t s[0], t s[2]]
    else if c == "term_>_" then mqA (q `lt `zlt) #[t s[2], t s[0]]
    else mqA (q `le `zle) #[t s[2], t s[0]]
def mqL (l : List Name) : Syntax := mkNode `«term[_]» #[mkAtom "[", mkNullNode (l.foldl (fun a x => (if a.size == 0 then a else a.push (mkAtom ",")).push (mkIdent x)) #[]), mkAtom "]"]
def mqI : Nat → Syntax → List Name
  | 0, _ => []
  | k + 1, s => if s.isIdent then [s.getId] else (s.getArgs.toList.map (mqI k)).flatten
def mqQ (c : Syntax) : Syntax :=
  let d := c[1]
  let p := d[3][1].getId
  if d.ks == "theorem" && (p == `Q || p == `Qw) then
    let y := d[2][1]
    let z := (d[2][0].getArgs.toList.map fun b => b[1].getArgs.toList.map Syntax.getId).flatten
    let r := ((mqI 99 y[1]).filter fun n => n.toString.length == 1 && !z.contains n).eraseDups
    let a := #[mqL r, mqL z, mqF r z 99 y[1]]
    let e := d.setArg 3 (d[3].setArg 1 (mqA `oR (a.push (Syntax.mkNumLit (toString (max r.length z.length))))))
    c.setArg 1 (if p == `Q then e.setArg 2 (d[2].setArg 1 (y.setArg 1 (mqA `D a))) else e)
  else c
def mxH (x : Syntax) : Syntax := if x.ks == "hole" then mkIdent `zZ else if x.ks == "typeAscription" && x[1].ks == "hole" then x.setArg 1 (mkIdent `zZ) else x
def mxB (x : Syntax) : Syntax := x.setArgs (x.getArgs.map mxH)
def mxZ (q : Bool) (s : Syntax) : Syntax := s |> mxT fun x => match x with
  | .atom _ v => .atom .none v
  | .ident _ r v p => .ident .none r v p
  | .node _ k a =>
    let x := .node .none k a
    if !q then x else if x.ks == "arrow" then mkNode (kT "depArrow") #[mkNode (kT "explicitBinder") #[mkAtom "(", mkNullNode #[mkIdent `zZ], mkNullNode #[mkAtom ":", a[0]!], mkNullNode, mkAtom ")"], a[1]!, a[2]!]
    else if x.ks == "basicFun" then x.setArg 0 (mxB a[0]!)
    else if x.ks == "forall" || x.ks == "explicitBinder" then x.setArg 1 (mxB a[1]!)
    else x
  | x => x
def mxR (s : Syntax) : Bool := (s.find? fun x => x.ks == "renameI").isSome
def mxV (x : Syntax) : Option Syntax :=
  let k := x.ks
  if k == "first" || k == "tacticRepeat_" || k == "tacticTry_" then some x
  else if k == "rwSeq" && x[1][0].getNumArgs == 0 && x[3].getNumArgs == 0 then
    let w (a : String) (r : Array Syntax) : Syntax := mkNode (kA (if a == "rw" then "rwSeq" else "rewriteSeq")) #[mkAtom a, x[1], mkNode (kA "rwRuleSeq") #[mkAtom "[", mkNullNode r, mkAtom "]"], mkNullNode]
    let v (t : Syntax) : Syntax := mkNode (kA "tacticSeq") #[mkNode (kA "tacticSeq1Indented") #[mkNullNode #[t]]]
    let q (t : Syntax) : Syntax := mkNode `group #[mkAtom "|", v t]
    some (mxP ((x[2][1].getSepArgs.map fun r => if !r[1].isIdent then w "rewrite" #[r] else (mkNode (kA "first") #[mkAtom "first", mkNullNode #[q (mkNode (kA "withReducible") #[mkAtom "with_reducible", v (mkNode (kA "refine") #[mkAtom "refine", mkNode (kT "app") #[mkIdent (if r[0].getNumArgs == 0 then `rwL else `rwR), mkNullNode #[r[1], mkNode (kT "syntheticHole") #[mkAtom "?", mkAtom "_"]]]])]), q (w "rewrite" #[r])]]).raw).push (w "rw" #[])))
  else none
def mxY (c : Syntax) : Syntax := let c := Id.run (c.replaceM fun y => mxV y); if c[1].ks == "structure" || c[1].ks == "inductive" then mxZ false c else if mxR c then mkNode (kM "in") #[mkNode (kM "set_option") #[mkAtom "set_option", mkIdent `tactic.hygienic, mkNullNode, mkAtom "true"], mkAtom "in", mxZ false c] else mxZ true c
def mxK (c d : Syntax) (p : MxT × Array Syntax) (f : Syntax) : MxT × Array Syntax :=
  let t := p.1
  let n := f[0][0]
  let b := f[1][0]
  let y := f[1][1]
  let v := f[1][2]
  let k := f[0][1][0][1][0].getAtomVal
  if y.getNumArgs == 0 && k == "" then (t.insert n.getId (b.getArgs.toList.map Syntax.getId, mxS t v[2]), p.2)
  else
    let w := if v.ks == "structInstFieldDef" then d[3].setArg 1 v[2] else mkNode (kM "declValEqns") #[mkNode (kT "matchAltsWhereDecls") #[v[1], d[3][2], d[3][3]]]
    let n := mkNode (kM "declId") #[n, mkNullNode]
    let q := mkNode (kM "optDeclSig") #[b, y]
    let e := if k == "" then c.setArg 1 (mkNode (kM "theorem") #[mkAtom "theorem", n, mkNode (kM "declSig") #[b, y[0]], w]) else mxN (c.setArg 1 (if k == "1" then mkNode (kM "definition") #[mkAtom "def", n, q, w, d[4]] else mkNode (kM "abbrev") #[mkAtom "abbrev", n, q, w]))
    (t, p.2.push (mxY (mqQ (mxS t e))))
def mxJ (p : MxT × Array Syntax) (c : Syntax) : MxT × Array Syntax :=
  let d := c[1]
  let t := p.1
  let u (x : Syntax) := (t, p.2.push x)
  if d.ks == "definition" && c[0][4].getNumArgs == 0 then
    if d[3][1].ks == "structInst" then mxE (mxK c d) p d[3][1][2][0].getSepArgs.toList
    else if d[3][1].ks == "term[_]" then
      let s := d[1][0].getId.toString
      let l := d[3][1][1].getSepArgs.toList.map fun n => n[0].getAtomVal
      mxE (fun p n => (p.1, p.2.push (mxZ false (c.setArg 1 (mkNode (kM "theorem") #[mkAtom "theorem", mkNode (kM "declId") #[n, mkNullNode], mkNode (kM "declSig") #[mkNullNode, mkNode (kT "typeSpec") #[mkAtom ":", mkIdent `True]], d[3].setArg 1 (mkIdent `trivial)]))))) p ((if s == "o" then (List.range 1610).map toString else l).map fun n => mkIdent (Name.mkSimple ("tw" ++ if s == "tw" then n else toString (Name.str `_P.headAll (s ++ "_" ++ n)).hash)))
    else u (mxY (mxS t (c.setArg 1 (mkNode (kM "theorem") #[mkAtom "theorem", d[1], mkNode (kM "declSig") #[d[2][0], d[2][1][0]], d[3]]))))
  else if d.ks == "definition" || d.ks == "abbrev" then u (mxY (mxS t (mxN c)))
  else if c.ks == "section" && c[2].getNumArgs == 1 then
    let n := mxS t c[2][0]
    u (mkNode (kM "end") #[mkAtom "end", if n.getId == `z then mkNullNode else mkNullNode #[n, mkNullNode]])
  else u (mxY (mxS t c))
def mxC (cs : Array Syntax) : Syntax := mkNullNode (mxE mxJ ({}, #[]) cs.toList.tail).2
end
@[elab_as_elim] theorem rwL.{u} {α : Sort u} {a : α} {motive : α → Prop} {b : α} (h : a = b) (t : motive b) : motive a := h ▸ t
@[elab_as_elim] theorem rwR.{u} {α : Sort u} {a : α} {motive : α → Prop} {b : α} (h : b = a) (t : motive b) : motive a := h ▸ t
local macro_rules | `(mutual $cs* end) => if cs[0]!.raw.isOfKind ``Lean.Parser.Command.section then return mxC (cs.map (·.raw)) else Lean.Macro.throwUnsupported
set_option bootstrap.genMatcherCode false
set_option genSizeOf false
set_option genSizeOfSpec false
set_option tactic.hygienic false
mutual section
def z:={
aQ:=PySem
cT:=PySem.W
bh:=PyProof.Rows
a6:=Program
je:=PySem.Challenge.pw_brokenlinesdesk_s01_answers
ad:=true
bZ:=dX.main.body
am:=none
ax:=Str
jf:=moduleNames
jg:=PySem.Challenge.nm_brokenlinesdesk_s01_answers
cn:=Bool.and_eq_true
gG:=looksOpen
J:=top
d6:=Scope
jh:=TablesWhole.Ctx
I:=Stmt
d7:=TablesWhole.wSs
dl:=TablesWhole.holds
ac:=Nat
aS:=this
gH:=Nat.succ_pos
jj:=TablesWhole.gather
bP:=m.scope
jk:=TablesWhole.noTwice
gI:=TablesWhole.wModule
aH:=Bool
cU:=dX.main.scope
au:=rfl
aj:=True
fr:=Or.inr
gJ:=Nat.le_of_ble_eq_true
ak:=Int
ft:=Int.ofNat
gK:=List.map_cons
gL:=Int.mul_add
jm:=Int.mul_assoc
jn:=Int.zero_mul
gM:=Int.zero_add
ba:=false
jo:=List.mem_append.mp
jp:=List.mem_map.mpr
bb:=cons
d8:=if_pos
fu:=if_neg
gP:=Nat.zero_add
jq:=Int.add_zero
jr:=Nat.le_of_not_le
js:=Int.mul_comm
jt:=Int.neg_one_mul
ju:=Int.toNat_of_nonneg
gQ:=Int.le_of_lt
bi:=False
gR:=Classical.byContradiction
d9:=absurd
d_:=ofNat
gS:=Nat.ble
gT:=cs.filter
d!:=Bool.and_eq_true_iff.mp
jv:=List.all_cons
jw:=List.mem_map.mp
jx:=Int.mul_nonneg
jy:=List.all_eq_true.mp
bQ:=PySem.Spec
ah:=Value
aX:=Shared
bc:=base
ai:=Heap
bk:=outer
aD:=World
cV:=Sum.inl
cW:=Sum.inr
gV:=decide_eq_false
aI:=int
d?:=Array
aa:=Addr
cp:=RelV
gX:=Value.type
bR:=some
dm:=h.get?
cX:=type
ea:=o.data
gY:=fs.length
gZ:=h'.get?
jz:=h.objs.size
ag:=PySem.W.Frag
fv:=mainGlobals
cq:=K.lookup
eb:=aF.size
cY:=aF.toList
jB:=PySem.W.keepIn
ec:=s'.heap
ed:=FuncData
g0:=vs.length
b0:=args
g1:=BindsTo
b3:=init
bT:=qual
jC:=PySem.W.fnOf
jD:=PySem.Challenge.pw_brokenlinesdesk_s01_answers.main.body.getD
cZ:=l.map
bw:=WData
ee:=Codec
g2:=OpenSpec
ef:=WellAll
c0:=bool
cu:=bytes
eg:=tuple
jE:=PySem.W.WRecords
g3:=Dw.reads
g4:=Dw.readsAll
g5:=d.weight
fw:=List.mem_cons.mp
dn:=vs.toArray
b4:=Params
jF:=Nat.le_trans
jG:=vs.toList.map
jH:=vs.toArray.toList.map
jI:=beq_self_eq_true
fx:=Option.some.inj
fy:=us.toArray
fz:=Data.seq
jK:=Value.type.inj
cv:=s₁
b5:=vals
cy:=s₁.heap
g6:=s₁.heap.Ns
fA:=w.params
fB:=callerA
g7:=DictEntry
jL:=codeAny_mono
cz:=r.args
g8:=PySem.W.mg_of
g9:=decide_eq_true_eq
fD:=Nat.beq
jM:=Nat.eq_of_beq_eq_true
fF:=h.elim
jN:=List.length_cons
eh:=Nat.beq_refl
g_:=List.map_map
jO:=List.map_congr_left
fG:=PySem.Challenge.rw_brokenlinesdesk_s01_answers.args
jP:=Codec.inInt
cA:=PySem.Str
jQ:=PySem.Str.ofString
fH:=_P.viewQ
jR:=PySem.Challenge.rw_brokenlinesdesk_s01_answers.prog
jS:=PySem.Challenge.rw_brokenlinesdesk_s01_answers.name
ao a:=List a
O:=aN K mg
M:=GI mg
Z a:=bR a
ab a:=a=ad
a7 a b:=a r z b
bd a:=.ref a
ae:=cf K C
aT a:=val w a
bm a:=Option a
b6:=a7 d t
av a b:=ab (a b)
bz a:=inClass a
aY a b:=a b=Z o
az:=ao ah
ap:=ao aa
bE a b:=a->b->Prop
aB:=ao ak
a8 a:=a=am
ay:=gf K C
dq:=a7 d s
b8:=bd f
dr a b c:={a:=b,data:=c}
aL:=by decide+kernel
aE:=ao ac
a9 a b c:=λ a b hp hq=>c
aG a:=.a s t
aM:=ao V
a' a b:=(a).map b
dv a:=ft a
aP:=ax->bm ah
aO:=ac->ak
aU:=bz (J 90)
aV a b:=.bb a b
aW a:=a x0 x1 x2
aZ:=b6.2
bn a b:=aJ K H a b
a4:=.nil
fI a b:=a fv b
a5 a:=Hs w a
a!:=b6.1
g' a:=Bool.noConfusion a
bo:=g' (show false=ad from p)
c1 a b:=∀a∈A,b
dw a b:=cq a=Z b
a?:=K.In h
bA a b:=a=Z bd b
bF:=.am
c2:=K fA
cC a:=decide a
be:=aT p
bf:=ao L
bg a:=λ p q=>a
ei:=.cX "list"
bp a:=(a7 gr a).1
bq a:=(a7 gr a).2
br:=by rw[hp,hq]
bt:=a7 D f
fJ:=.cX "tuple"
bu a:=.a f g
bG:=ao bw
bv a:=a x0 x1
bB:=dq.2
bC a b:=lP K H a b
bD:=aT q
c3 a:=d9 a (by simp)
bU:=dr cls fJ (.seq dn)
bH b:=dm a=Z b
bV:=dr cls ei (.seq dn)
bI a:=a x0 x1 x2 x3
bJ a:=by exact .inr a
bK:=dq.1
bL:=a8 (H b)
bM:=mn p q
bW:=c1 a (ng h A a)
bO a c:=∀b a,c
cD a:=d7 dl J cx sc a
c4 a:=a<=sizeLine
bX a c:=a b=Z c
cF:=fI h.Ns mg
b9 a b c:=qW a b a9 p q c
b':=aY dm b
b!:=a0->bE a1 a2
b?:=bz (J 362)
ca:=dv k
dy a:=a=ps.length
bY a:=a P w
cb:=ao ax
cc:=.head _
fK:=PySem.W.nsIn K fv
ce a b:=λ a hb=>b
ch:=dS K C
ci:=tO K C
cj a b:=(a).mono b
cG a b:=ab (cC (a<=1000)&&b)
fL a b:=Codec.encAll a b
fM b c:=Codec.app b c a
c5:=∀u∈vs,ml A u
dz a:=(c2).In a
cm:=i+1
cH:=Z b8
cI:=dv g
cJ a:=by exact .inl a
cK:=al f ba
cL:=ao Env
cM a b:=at_ s t a b
cN a b:=pr a (al g b)
c6:=ab (jB K b8)
cO:=tr t b
cP a:=λ x=>a
cQ a:=tr s a
cR:=mn q p
cS:=x::a
c7 a b c:=by exact #[λ k=>a,λ b=>c]
c8 a b c:=by exact #[λ a=>b,λ h=>c]
c9:=gQ (Int.not_le.mp h)
dA:=PySem.W.findIn K bd C
c_ a b c:=by rw[iB];exact xG a b c
dB:=aY dm a
c!:=ao cA
ek a b c:=#[a,b,c,[],am]
c?:=bm aa
da a b:=congrArg a b
db:=bE a0 a1
dc:=al f ad
dd a:=((a:ac):ak)
de:=by cases x
df:=iO K h A
dg:=sR K mg
dh:=zc K as e hi
dC a:=dw a #[.cX "tuple",od,.seq aF n,sl]
di a:=a&&ad
dj:=.ref a
dk:=.aI i
dD b:=#[b,trivial,λ a m=>c3 m]
dE a:=fK x=Z a
dF a:=List.mem_cons_of_mem _ a
fN:=fI base.Ns mg
dG a:=List.mem_flatMap.mpr a
dH a b c:=dw a #[oc,od,.func b,c]
dI:=List.mem_cons_self ..
dJ:=av (PySem.W.codeIn K aK) bT
dL:=jC x bT (jA st) (cw st) (aw st) bF kV doc pm an aK ct
dM a b:=jp #[a,b,rfl]
dN a:=Codec.denoteAll a
dO a b c:=∃f fd,a/\b c st f fd
dP b:=fL b a
dQ:=ef P h vs ds
em b c d:=∃(a:aa)(b:c),d
dU:=qE cy H
dW:=a0->a1->bE a2 a3
dY a b:=by rcases a with b|m
dZ:=False.elim x
fO a:=.tup (a toV)
fP a:=.lst (a toV)
d1 b:=fD a b
d2:=dR P w H h
g! a:=a jg
d3:=a::as
d4:=wt r z
en:=ab (PySem.W.isFn K b8)
d5:=a++b
fQ a b c:=by obtain⟨a,vs,rfl,ho,b⟩:=c x
eo a b:=by rw[cn,a]at b
er a:=List.mem_filter.mp a
et:=g5<=1048576
eu:=g8 X G a
fR a b c:=jF (a b) c
ew a:=WData.weightAll a
ey:=gX "list"
eA:=a8 (cq b)
eB a b c:=(a).b (ft c)
eD a:=List.toArray a
eE a:=a' a ((·.1))
fS:=d? ah
eF:=d? (Option ah)
eG:=tr t ba
eH a b:=Well P h a b
eI:=fC P w H h
eJ:=vs.map toV
eL:=bm Obj
eM:=oi K xs fs
eN a b c:=λ a b c=>bi
eO:=ak->aH
eP a:=by simp[a]
eQ:=ao Key
fT:=ps.zip us
eR:=.c0 b
eS:=Ok w cs
eT:=.tup xs
eU:=J 371
eV a:=λ v H'=>a
eW:=bd p
eX:=qE h H
eY:=bd a
eZ:=.inr x
e6:=co k c
e7:=hf.2 q
e8:=b∉ex
fV:=YP w h
e_ a:=.inr a
e!:=E5 ar q
e?:=f p q
fb:=x::xs
fc:=D9 h H
fe:=a::as
fg:=zJ h2
fh:=hs.2
fj:=ht.2
fk:=.iU o u
fo:=DA q
fp:=2*i
fq:=a+1
fX a b c:=by rcases a with⟨b,u,rfl,e⟩|⟨y,c,rfl,e⟩
g? a:=dy us.length->g1 s fd #[us,[]] a
fY a b c:=by obtain⟨a,rfl⟩:=b;exact #[_,c]
f0:=d! e
hh:=by apply jO
f1:=aY s₁.heap.get? b
hj a b:=ab (Codec.withinAll a b)
f2:=r.ret.enc fM cz r.f
f3 a b c:=jy a b c
f4 a:=a (jr h)
hG a b c:=∃fd:ed,(∀(s:aX)(us:az),a)/\∀bc:ai,b->fN->c
f5 a b c:=match s with|a _ _=>b|_=>c
f6:=by rw[jq];rfl
f7:=jr h
f8 a b c:=∀(a:aB)(b:ac),c
f9 a:=jF a (by decide)
f_:=iO K cy A b
f?:=ft (gc l.2)
hH a b c:=∀(i:ac)(a:aa)(b:ax),fs[i]?=Z f->c[i]?=Z n->mg n=Z b8
hI:=.seq aF.toArray n
ga a b c:=a' a λ p=>(p.1,b c p.2)
hJ a:=PySem.call a vs
gd:=.FunctionDef
ge:=.Pass #[0,0,0,0]
gg:=.frozenset _
gh:=.bytearray _
gi:=b4->Frag
gj:=b7 k fB
hL:=ao String
gk a:=by simp[a,ev]
gl:=λ _ _ _=>bi
gm:=ao I
gn:=tr t ad
go:=K.In bc
gp:=.eg ds
gq:=nomatch e
gt:=dm b
gu:=.float _
gw:=.cu b
gx:=.obj _ _
gy:=.list ds
gz:=.dict _
gA:=.lst xs
gB a b c:=cE f _ a (KS b c k)
gC:=.set _
gD:=.str x
gE:=hf.1 q
gF:=D8 K
hN a b c:=fV->dz h->cF->mg a=Z bd fa->hG g? fT dz bc (ej r.prog w c2 mg bc b k fa fd ps c)
hP b c d:=em b ap (bA (c "RULES") a/\(∀H,bn a (fs.map V.ref))/\gY=28/\hH f n d)
hQ:=g! dX.boundNames.contains
hR:=g! startupNames.contains
hT a b c:=TablesWhole.wS dl J a sc b&&cD c
hU a:=d7 dl cU ek cU [] [] cU a
hW b:=fM fG b
hX a b c:=d7 dl a ek bP [] [] b c
hZ:=specDef dX jg PySem.Challenge.fa_brokenlinesdesk_s01_answers.length
h5:=PySem.Challenge.fa_brokenlinesdesk_s01_answers.all Codec.fits
h6 a:=a&&PySem.Challenge.fr_brokenlinesdesk_s01_answers.ok
h7 a:=fR PySem.W.length_le_weightAllW a z2
h8 a:=∀H,bn a ([90,122,122,122].map vN)
h9 a:=∀H,bn a ([90,121,121,121].map vN)
h_ a:=a' (a:hL) jQ
h!:=dA "__init__"
h? a b c:=by cases x with|a ho b_=>exact #[_,_,rfl,b,c]
ia a:=by obtain⟨v,vs,rfl,x1,x2⟩:=abZ x;have q:av kX d/\av mO ds:=d! a
ib:=fO jH
ic:=fP jH
id b c d:=b->hj cz a->ab fM cz r.asked->c->d
ie a:=by have a:=d! e
ig a:=c4 g0/\c5/\a
ii a b c:=by rw[hh];intro a hb;have:=b;rw[c,List.getElem?_cons_succ]
ij:=by rw[List.size_toArray];exact h1
ik b:=bA (b "FIRST_NAMES") a
il a:=ab (gI dl a)
io:=by rw[List.length_map];exact h1
iq a:=av jk a
ir a:=by rw[e]at q;exact d9 a (by decide)
it a d e:=by obtain⟨c,m,a⟩:=List.any_eq_true.mp h;exact SN b (d c e)
iu b c d:=_R H a b\/∃(o:Obj)(aF:fS)(c:ac),d
iv:=ab (PySem.W.makesIn K C)
iw:=(fx q).symm
ix b c d:=∃(aF:az)(b:Obj)(c:ac),bN xs aF/\dB/\o.cls=d/\ea=hI
iy:=dy r.args.length
iz:=[90,105,110,104].map vN
iA a b c:=by obtain⟨x,mx,ox⟩:=a;exact #[b,c _ mx,ox]
iC a:=av WData.layableAll a
iD a:=ab (jB K a)
iE a b c:=∀{l:a}{vs:az},ab (b l vs)->bN (cZ c) vs
iF a b:=gV (λ a=>b)
iG a b c:=∀(ds:bG)(vs:az),a->av mO ds->b->c
iH a b c:=by intro vs e;cases a with|nil=>exact a4|bb b c=>cases e
iI a b c:=by obtain⟨as,hr⟩:=g4 a b ds _ aF ha rv;exact #[_,c ho hc hd hr]
iJ:=ea=.seq aF n/\c4 eb/\bN xs cY
iK a:=List.mem_append.mpr a
iL a:=jO a
iM:=d.params.defaults=[]
iN:=b4->ag
iP a:=ju a
iQ:=c4 xs.length
iR a b c:=PySem.W.WalkOS a loose XP b c d [] (λ f vs=>hJ f)
iS:=Int.ofNat_le.mpr h
iT:=gV h
iV:=aY cq a
iW a:=fw a
iX:=fO vs.map
iZ:=fP vs.map
i3:=iO K cy A
i4:=ns.map WData.int
i5 a b c:=∀a:ax,b≠"__name__"->c=bootBuiltins x
i7:=r.wellSaid=ad
i8:=AllBare s'.gens
i9:=ao g7
i_ a:=(a).map Int.toNat
i':=gH 1
i!:=Value.int i t
i? a:=by simpa using a
ja a:=autoParam a Uw._auto_1
jb b c d:=by rw[fQ a b_ b];obtain⟨h2,hs⟩:=c KX ar hu ho;exact .d hs (HF KX ar ds _ b_ p h2)
jc:=ns.map V.int
jd:=cq b
}
set_option Elab.async false
set_option linter.all false
set_option maxRecDepth 100000
namespace _P
open aQ cT bh
def z:={
dX.2:a6:=je
aDq:av namesResolve dX:=aL
aKt:ab (noRoadLSs {strict:=!(importedModules bZ).all cThrough.contains,foot:=am,bare:=(["vars","dir","locals"]:cb).filter (readsOut dX bZ)} bZ):=aL
aGz:ab (namesMeet dX bZ λ _ n=>attrL n):=aL
aiS:ab (sreFenced dX.main&&((jf bZ).isEmpty||lookedIntoSs (jf bZ) bZ)):=aL
ara:ab (dX.boundNames.all λ n=>!worldNames.contains n):=aL
aoE:ab (hQ&&!hR&&hZ):=aL
aJE:ab h6 h5:=aL
azs:PySem.Challenge.rw_brokenlinesdesk_s01_answers.wellSaid=ad:=by have f:=aoE;have g:=aJE;rw[eo cn f];rw[cn]at g;(have h:av gG dX:=by unfold gG;rw[aiS,aDq,ara,aKt,aGz];rfl);show ab h6 (gG dX&&hQ&&!hR&&hZ&&h5);rw[h,f.1.1,f.1.2,f.2,g.1,g.2];rfl
}
section _P
namespace _P
open aQ
def z:={
ZG(J:d6)(cx:jh)(sc:d6):∀(a b:gm),cD d5=(cD a&&cD b)|[],b=>rfl|s::a,b=>by have ih:=ZG J cx sc a b;show hT cx s d5=(hT cx s a&&cD b);rw[ih,Bool.and_assoc]
S9(J:d6)(cx:jh)(sc:d6):∀(k:ac)(l:gm),l.length<=47*k->(∀i,i<k->ab cD ((l.drop (47*i)).take 47))->ab cD l|0,l,hl,_=>by have:l=[]:=List.eq_nil_of_length_eq_zero (by omega);rw[aS];rfl|k+1,l,hl,h=>by have h0:=h 0 (gH _);rw[Nat.mul_zero,List.drop_zero]at h0;(have ih:=S9 J cx sc k (l.drop 47) (by rw[List.length_drop];omega) λ i hi=>by have:=h cm (by omega);rw[List.drop_drop,show 47+47*i=47*cm by omega];exact aS);rw[<-List.take_append_drop 47 l,ZG,h0,ih];rfl
apJ(m:Module)(h1:d7 jj bP ek bP [] [] bP m.body=[])(h2:iq bP)(h3:ab hX bP bP m.body):il m:=by unfold gI;rw[h1];show ab (ad&&(jk bP&&di hX bP bP m.body));rw[h2,h3];rfl
aJL(p:a6)(h:il p.main)(h1:p.modules=[])(h2:p.parses=[])(h3:p.harvested=[]):p.tablesWhole=ad:=by unfold Program.tablesWhole TablesWhole.wProgram;rw[h1,h2,h3];show ab di (gI dl p.main);rw[h];rfl
uO.2(i:ac):aH:=hU ((dX.main.body.drop (47*i)).take 47)
axf:d7 jj cU ek cU [] [] cU bZ=[]:=aL
aH2:iq cU:=aL
aBz:ab (uO 0):=aL
ar4:ab (uO 1):=aL
auU:ab (uO 2):=aL
aGe:ab (uO 3):=aL
anR:ab (uO 4):=aL
asM:ab (uO 5):=aL
an5:ab (uO 6):=aL
aJf:ab (uO 7):=aL
ai6:dX.main.body.length<=47*8:=aL
aKH:ab hU bZ:=S9 _ _ _ 8 _ ai6 λ i hi=>match i,hi with|0,_=>aBz|1,_=>ar4|2,_=>auU|3,_=>aGe|4,_=>anR|5,_=>asM|6,_=>an5|7,_=>aJf
aKQ:PySem.Challenge.rw_brokenlinesdesk_s01_answers.prog.bare:=#[rfl,rfl,rfl,rfl,rfl,aJL dX (apJ dX.main axf aH2 aKH) au au au]
}
section _P
namespace zY
section zY
namespace _B
section _B
namespace Ch
section Ch
namespace _H
section _H
namespace _L
section _L
namespace _M
section _M
namespace _E
section _E
namespace _Z
section _Z
namespace _X
section _X
namespace _P
section _P
namespace aQ
section aQ
namespace _R
section _R
namespace _W
section _W
def z:={
Uw(h:aj:=by decide+kernel):aj:=h
AQ(h:aj:=by first|rw[cJ au]|rw[bJ au]|assumption):aj:=h
bS(h:aj:=by kernel_rfl):aj:=h
Ay(h:aj:=by decide):aj:=h
gs(h:aj:=by intro _;rfl):aj:=h
aA(h:aj:=by rfl):aj:=h
Gj(h:aj:=by with_unfolding_all rfl):aj:=h
zb(h:aj:=by first|exact Or.inl au|exact fr (Or.inl au)|exact fr (fr au)):aj:=h
k6(h:aj:=by exact gJ au):aj:=h
nL(h:aj:=by intro _ _;rfl):aj:=h
sX(h:aj:=by first|rw[cJ au]|rw[bJ au]):aj:=h
ye(h:aj:=by first|exact Or.inl au|exact fr au):aj:=h
aw5(h:aj:=by exact #[rfl,rfl,rfl,rfl]):aj:=h
auY(h:aj:=by intros;rfl):aj:=h
}
namespace _Z
variable{w:aO}{x y:ak}{l q:L}{a b:A}
inductive T
 |v(i:ac)
 |n(k:ac)
 |a(s t:T)
 |s(s t:T)
 |m(k:ac)(t:T)
 |u(t:T)(k:ac)
 |g(t:T)
 |c(t:T)
 |o(t:T)
 |mi(s t:T)
 |ma(s t:T)
 |p(b k:ac)
def z:={
d.1(r:aE)(z:aB):T->ac×ak|.v i=>(r.getD i 0,z.getD i 0)|.n k=>(k,ca)|aG a=>(dq.1+a!,bB+aZ)|aG s=>(dq.1 - a!,bB - aZ)|.m k t=>(k*a!,ca*aZ)|.u t k=>(b6.1*k,aZ*ca)|.g t=>(0, -b6.2)|.c t=>(0,(b6.1:ak))|.o t=>(b6.2.toNat,0)|aG mi=>(min bK a!,min bB aZ)|aG ma=>(max bK a!,max bB aZ)|.p b k=>(b^k,ft b^k)
L.2:=ak×aB
ev.1(w:aO):ac->aB->ak|_,[]=>0|k,c::cs=>c*w k+ev w (k+1) cs
val.1(w:aO)(l:L):ak:=l.1+ev w 0 l.2
add.1:aB->aB->aB|[],b=>b|cS,[]=>cS|cS,y::b=>(x+y)::add a b
pl.1(p q:L):L:=(p.1+q.1,add p.2 q.2)
sc.1(k:ak)(p:L):L:=(k*p.1,a' p.2 ((k * ·)))
mn.1(p q:L):L:=pl p (sc (-1) q)
un.1:ac->aB|0=>[1]|i+1=>0::un i
aan(w:aO):∀(a b:aB)(k:ac),ev w k (add a b)=ev w k a+ev w k b|[],b,k=>gk add|cS,[],k=>gk add|cS,y::b,k=>by rw[add,ev,ev,ev,aan w a b,Int.add_mul];omega
WW(w:aO)(c:ak):f8 a k (ev w k (a.map (c * ·))=c*ev w k a)|[],k=>eP ev|cS,k=>by rw[gK,ev,ev,WW w c a,gL,jm]
HA(w:aO):∀(i k:ac),ev w k (un i)=w (k+i)|0,k=>gk un|i+1,k=>by rw[un,ev,HA w i,jn,gM];congr 1;omega
Ib(w:aO)(p q:L):aT (pl p q)=be+bD:=by unfold val pl;rw[aan];dsimp only;omega
B9(w:aO)(k:ak)(p:L):aT (sc k p)=k*be:=by unfold val sc;rw[WW,gL]
iB(w:aO)(p q:L):aT bM=be - bD:=by rw[mn,Ib,B9];omega
G.2:=ao (bf×L)
cr.1(A B:G)(f:L->L->G):G:=A.flatMap λ p=>B.flatMap λ q=>a' (f p.2 q.2) λ r=>(p.1++(q.1++r.1),r.2)
nl.1:L:=(0,[])
tr.1:T->aH->G|.v i,b=>[([],(0,un (bif b then 2*i else 2*i+1)))]|.n k,_=>[([],(ca,[]))]|aG a,b=>cr cQ b cO bg [([],pl p q)]|aG s,ad=>cr cQ ad gn bg [([bM],bM),([cR],nl)]|aG s,false=>cr cQ ba eG bg [([],bM)]|.m k t,b=>ga cO sc ca|.u t k,b=>ga cO sc ca|.g t,ad=>[([],nl)]|.g t,false=>ga eG sc (-1)|.c t,ad=>[([],nl)]|.c t,false=>gn|.o t,ad=>(eG).flatMap λ p=>[(p.2::p.1,p.2),(sc (-1) p.2::p.1,nl)]|.o t,false=>[([],nl)]|aG mi,b=>cr cQ b cO bg [([cR],p),([bM],q)]|aG ma,b=>cr cQ b cO bg [([cR],q),([bM],p)]|.p b k,_=>[([],(dv (b^k),[]))]
Ok.1(w:aO)(cs:bf):Prop:=∀c∈cs,0<=aT c
Gd.1(w:aO)(A:G)(x:ak):Prop:=∃p∈A,Ok w p.1/\aT p.2=x
Ok.nil:Ok w []:=λ _ h=>nomatch h
Ok.cons{w:aO}{c:L}{cs:bf}(h:0<=aT c)(k:eS):Ok w (c::cs):=λ x m=>by cases m with|head=>exact h|tail _ m=>exact k x m
Ok.app{a b:bf}(h:Ok w a)(k:Ok w b):Ok w d5:=λ x m=>(jo m).elim (h x) (k x)
Z3(w:aO):aT nl=0:=rfl
qW{A B:G}{f:L->L->G}{z:ak}(hA:Gd w A x)(hB:Gd w B y)(h:∀p q:L,be=x->bD=y->Gd w e? z):Gd w (cr A B f) z:=by obtain⟨p,mp,op,vp⟩:=hA;obtain⟨q,mq,oq,vq⟩:=hB;obtain⟨r,mr,or,vr⟩:=h p.2 q.2 vp vq;exact #[_,dG #[p,mp,dG #[q,mq,dM r mr]],op.app (oq.app or),vr]
Gd.one(h:aT l=x):Gd w [([],l)] x:=#[_,List.mem_singleton.mpr au,a4,h]
Gd.hd{c:L}{B:G}(h:0<=aT c)(h2:aT l=x):Gd w (([c],l)::B) x:=#[_,List.Mem.head _,aV h a4,h2]
Gd.tl{p:bf×L}{B:G}(h:Gd w B x):Gd w (p::B) x:=by obtain⟨q,m,o,v⟩:=h;exact #[q,.tail _ m,o,v]
Gd.sc{w:aO}{A:G}{x:ak}(k:ak)(h:Gd w A x):Gd w (A.map λ p=>(p.1,_Z.sc k p.2)) (k*x):=by obtain⟨p,m,o,v⟩:=h;exact #[_,dM p m,o,by rw[B9,v]]
wt.1(r:aE)(z:aB)(k:ac):ak:=if k%2=0 then dd (r.getD (k/2) 0)else z.getD (k/2) 0
T_(r:aE)(z:aB)(i:ac):a7 wt fp=dd (r.getD i 0):=by unfold wt;rw[d8 (Nat.mul_mod_right 2 i),Nat.mul_div_cancel_left i i']
wt1(r:aE)(z:aB)(i:ac):a7 wt (fp+1)=z.getD i 0:=by unfold wt;rw[fu (by rw[Nat.mul_add_mod];decide),Nat.mul_add_div i'];rfl
AX{a b:ak}(hx:x=b)(hy:y=a)(h:a<=b):0<=x - y:=by rw[hx,hy];exact Int.sub_nonneg_of_le h
xG{a b:ac}(hx:x=b)(hy:y=a)(h:a<=b):0<=x - y:=AX hx hy iS
gr(r:aE)(z:aB)(t:T):Gd d4 gn (b6.1:ak)/\Gd d4 eG aZ:=by induction t with|v i=>exact #[.one (by show 0+ev _ 0 (un fp)=_;rw[HA,gP,T_,gM];rfl),.one (by show 0+ev _ 0 (un (fp+1))=_;rw[HA,gP,wt1,gM];rfl)]|n k=>exact #[.one (by show ca+0=_;rw[f6]),.one (by show ca+0=_;rw[f6])]|a s t hs ht=>exact #[b9 hs.1 ht.1 (.one (by rw[Ib,hp,hq];exact(Int.natCast_add _ _).symm)),b9 fh fj (.one (by rw[Ib,hp,hq];rfl))]|s s t hs ht=>refine #[b9 hs.1 ht.1 ?_,b9 fh fj (.one (by rw[iB,hp,hq];rfl))];show Gd _ _ dd (dq.1 - a!);by_cases h:a!<=bK;(.exact .hd (by rw[c_ hp hq h]) (by rw[iB,hp,hq];exact(Int.ofNat_sub h).symm));.exact .tl (.hd (by rw[c_ hq hp f7]) (by rw[Z3,f4 Nat.sub_eq_zero_of_le];rfl))|m k t h=>exact #[by have:=eB h.1 sc k;exact aS,eB h.2 sc k]|u t k h=>refine #[?_,?_];(.have:=eB h.1 sc k;rw[js]at aS;exact aS);.have:=eB h.2 sc k;rw[js]at aS;exact aS|g t h=>exact #[.one au,by have:=h.2.sc (-1);rw[jt]at aS;exact aS]|c t h=>exact #[.one au,h.1]|o t h=>refine #[?_,.one au];obtain⟨p,m,o,v⟩:=h.2;show Gd _ _ dd b6.2.toNat;by_cases h:0<=aZ;(.exact #[_,dG #[p,m,cc],aV (by rw[v];exact h) o,by rw[v];exact(ju h).symm]);.exact #[_,dG #[p,m,.tail _ (.head _)],aV (by rw[B9,v,jt];exact Int.neg_nonneg_of_nonpos c9) o,by rw[Z3,Int.toNat_of_nonpos c9];rfl]|mi s t hs ht=>refine #[b9 hs.1 ht.1 ?_,b9 fh fj ?_];(.show Gd _ _ dd (min bK a!);by_cases h:bK<=a!;(.exact .hd (by rw[c_ hq hp h]) (by rw[hp,Nat.min_eq_left h]));.exact .tl (.hd (by rw[c_ hp hq f7]) (by rw[hq,f4 Nat.min_eq_right])));.show Gd _ _ (min bB aZ);by_cases h:bB<=aZ;(.exact .hd (by rw[iB];exact AX hq hp h) (by rw[hp,Int.min_eq_left h]));.exact .tl (.hd (by rw[iB];exact AX hp hq c9) (by rw[hq,Int.min_eq_right c9]))|ma s t hs ht=>refine #[b9 hs.1 ht.1 ?_,b9 fh fj ?_];(.show Gd _ _ dd (max bK a!);by_cases h:bK<=a!;(.exact .hd (by rw[c_ hq hp h]) (by rw[hq,Nat.max_eq_right h]));.exact .tl (.hd (by rw[c_ hp hq f7]) (by rw[hp,f4 Nat.max_eq_left])));.show Gd _ _ (max bB aZ);by_cases h:bB<=aZ;(.exact .hd (by rw[iB];exact AX hq hp h) (by rw[hq,Int.max_eq_right h]));.exact .tl (.hd (by rw[iB];exact AX hp hq c9) (by rw[hp,Int.max_eq_left c9]))|p b k=>exact #[.one (by show dv (b^k)+0=_;rw[f6]),.one (by show dv (b^k)+0=_;rw[jq];exact Int.natCast_pow b k)]
}
inductive F
 |le(s t:T)
 |lt(s t:T)
 |eq(s t:T)
 |zle(s t:T)
 |zlt(s t:T)
 |zeq(s t:T)
 |no(f:F)
 |an(f g:F)
 |or(f g:F)
 |im(f g:F)
 |fi(f g:F)
 |ff
def z:={
D.1(r:aE)(z:aB):F->Prop|aG le=>bK<=a!|aG lt=>bK<a!|aG eq=>bK=a!|aG zle=>bB<=aZ|aG zlt=>bB<aZ|aG zeq=>bB=aZ|.no f=>¬bt|bu an=>bt/\a7 D g|bu or=>bt\/a7 D g|bu im=>bt->a7 D g|bu fi=>bt↔a7 D g|.ff=>bi
A.2:=ao bf
pr.1(a b:A):A:=a.flatMap λ x=>b.map λ y=>x++y
at_.1(s t:T)(b:aH)(f:L->L->ao bf):A:=eE (cr cQ b cO (bg a' e? λ c=>(c,nl)))
m1.1(p:L):L:=(p.1 - 1,p.2)
Gw.1(p q:L):aH->A|ad=>[[cR]]|false=>[[m1 bM]]
qG.1(p q:L):aH->A|ad=>[[m1 cR]]|false=>[[bM]]
EA.1(p q:L):aH->A|ad=>[[cR,bM]]|false=>[[m1 cR],[m1 bM]]
al.1:F->aH->A|aG le,b=>cM ad bg (Gw p q b)|aG lt,b=>cM ad bg (qG p q b)|aG eq,b=>cM ad bg (EA p q b)|aG zle,b=>cM ba bg (Gw p q b)|aG zlt,b=>cM ba bg (qG p q b)|aG zeq,b=>cM ba bg (EA p q b)|.no f,b=>al f (!b)|bu an,ad=>cN dc ad|bu an,false=>cK++al g ba|bu or,ad=>dc++al g ad|bu or,false=>cN cK ba|bu im,ad=>cK++al g ad|bu im,false=>cN dc ba|bu fi,ad=>cN dc ad++cN cK ba|bu fi,false=>cN dc ba++cN cK ad|.ff,ad=>[]|.ff,false=>[[]]
Hs.1(w:aO)(a:A):Prop:=∃cs∈a,eS
Hs.pr{w:aO}{a b:A}(h:a5 a)(k:a5 b):a5 (_Z.pr a b):=by obtain⟨x,mx,ox⟩:=h;obtain⟨y,my,oy⟩:=k;exact #[_,dG #[x,mx,dM y my],ox.app oy]
Hs.inl(h:a5 a):a5 d5:=by rw[iA h x List.mem_append_left]
Hs.inr(h:a5 b):a5 d5:=by rw[iA h x List.mem_append_right]
mJ{s t:T}{b:aH}{f:L->L->A}(hA:Gd w cQ b x)(hB:Gd w cO y)(h:∀p q:L,be=x->bD=y->a5 e?):a5 cM b f:=by obtain⟨p,mp,op,_⟩:=qW (f:=bg a' e? λ c=>(c,nl)) (z:=0) hA hB a9 p q (by obtain⟨c,mc,oc⟩:=h p q hp hq;exact #[_,dM c mc,oc,rfl]);exact #[_,dM p mp,op]
Hd(w:aO)(p:L):aT (m1 p)=be - 1:=by unfold val m1;dsimp only;omega
Ec{p:L}:(be<=bD->a5 (Gw p q ad))/\(¬be<=bD->a5 (Gw p q ba)):=#[λ h=>#[_,cc,aV (by rw[iB];omega) a4],λ h=>#[_,cc,aV (by rw[Hd,iB];omega) a4]]
GK{p:L}:(be<bD->a5 (qG p q ad))/\(¬be<bD->a5 (qG p q ba)):=#[λ h=>#[_,cc,aV (by rw[Hd,iB];omega) a4],λ h=>#[_,cc,aV (by rw[iB];omega) a4]]
D5{p:L}:(be=bD->a5 (EA p q ad))/\(¬be=bD->a5 (EA p q ba)):=by refine #[λ h=>#[_,cc,aV (by rw[iB];omega) (.bb (by rw[iB];omega) a4)],λ h=>?_];by_cases k:be<bD;(.exact #[_,cc,aV (by rw[Hd,iB];omega) a4]);.exact #[_,.tail _ (.head _),aV (by rw[Hd,iB];omega) a4]
atp(r:aE)(z:aB)(f:F):(bt->Hs d4 dc)/\(¬bt->Hs d4 cK):=by induction f with|le s t=>rw[c8 h (mJ bp s bp t a9 p q (Ec.1 (by rw[br,iS]))) (mJ bp s bp t a9 p q (Ec.2 (by rw[br,λ k=>h (Int.ofNat_le.mp k)])))]|lt s t=>rw[c8 h (mJ bp s bp t a9 p q (GK.1 (by rw[br,Int.ofNat_lt.mpr h]))) (mJ bp s bp t a9 p q (GK.2 (by rw[br,λ k=>h (Int.ofNat_lt.mp k)])))]|eq s t=>rw[c8 h (mJ bp s bp t a9 p q (D5.1 (by rw[br,da Nat.cast h]))) (mJ bp s bp t a9 p q (D5.2 (by rw[br,λ k=>h (Int.ofNat.inj k)])))]|zle s t=>rw[c8 h (mJ bq s bq t a9 p q (Ec.1 (by rw[br,h]))) (mJ bq s bq t a9 p q (Ec.2 (by rw[br,h])))]|zlt s t=>rw[c8 h (mJ bq s bq t a9 p q (GK.1 (by rw[br,h]))) (mJ bq s bq t a9 p q (GK.2 (by rw[br,h])))]|zeq s t=>rw[c8 h (mJ bq s bq t a9 p q (D5.1 (by rw[br,h]))) (mJ bq s bq t a9 p q (D5.2 (by rw[br,h])))]|no f h=>rw[c7 (h.2 k) k (h.1 (gR k))]|an f g hf hg=>refine #[λ k=>(hf.1 k.1).pr (hg.1 k.2),λ k=>?_];by_cases q:bt;(.exact(hg.2 λ y=>k #[q,y]).inr);.exact(e7).inl|or f g hf hg=>rw[c7 (k.elim cP (hf.1 x).inl cP (hg.1 x).inr) k ((hf.2 λ x=>k (.inl x)).pr (hg.2 λ x=>k e_ x))]|im f g hf hg=>by_cases q:bt;(.rw[c7 (hg.1 (k q)).inr k ((gE).pr (hg.2 λ y=>k λ _=>y))]);.rw[c7 (e7).inl k (k λ y=>d9 y q).elim]|fi f g hf hg=>by_cases q:bt;(.rw[c7 ((gE).pr (hg.1 (k.1 q))).inl k ((gE).pr (hg.2 λ y=>k #[λ _=>y,λ _=>q])).inl]);.rw[c7 ((e7).pr (hg.2 λ y=>q (k.2 y))).inr k ((e7).pr (hg.1 (gR λ y=>k #[cP (d9 x q),λ x=>d9 x y]))).inr]|ff=>exact #[λ k=>k.elim,λ _=>#[_,cc,a4]]
neg.1:eO|.negSucc _=>ad|_=>false
I0.1:eO|.d_ 0=>ad|_=>false
arz(h:av I0 x):x=0:=by match x,h with|.d_ 0,_=>rfl
bad.1(l:L):aH:=neg l.1&&l.2.all I0
gc.1:aB->ac|[]=>0|cS=>Nat.gcd x.natAbs (gc a)
nm.1(l:L):L:=bif gS 2 (gc l.2)&&l.2.all cP (f?*(x/f?)==x)then(l.1/f?,a' l.2 ((· / Int.ofNat (gc l.2))))else l
co.1(k:ac)(l:L):ak:=l.2.getD k 0
pos.1:eO|.d_ (_+1)=>ad|_=>false
el.1(k:ac)(cs:bf):bf:=gT (λ c=>!(neg e6||pos e6))++(gT λ c=>pos e6).flatMap λ p=>a' (gT λ c=>neg e6) λ q=>nm (pl (sc (-(co k q)) p) (sc (co k p) q))
fm.1:ac->bf->aH|0,cs=>cs.any bad|k+1,cs=>cs.any bad||fm k (el k cs)
aa2(h:av neg x):x<0:=by cases x with|d_ n=>cases h|negSucc n=>exact Int.negSucc_lt_zero n
aCa(h:av pos x):0<x:=by match x,h with|.d_ (n+1),_=>exact Int.natCast_pos.mpr (gH n)
SN(h:av bad l)(k:0<=aT l):bi:=by obtain⟨h1,h2⟩:=d! h;(have h3:f8 a i (av a.all I0->ev w i a=0):=by intro a;induction a with|nil=>exact λ _ _=>rfl|bb x a ih=>intro i e;rw[jv]at e;obtain⟨e1,e2⟩:=f0;rw[ev,ih _ e2,arz e1,jn];rfl);have:=aa2 h1;unfold val at k;rw[h3 _ _ h2]at k;omega
aes(h:0<=aT l):0<=aT (nm l):=by unfold nm;generalize hg:gc l.2=g;cases e:(gS 2 g&&l.2.all cP (cI*(x/cI)==x))with|false=>exact h|ad=>obtain⟨h1,h2⟩:=f0;have h1:=gJ h1;(have h3:f8 a i (ab (a.all cP (cI*(x/cI)==x))->ev w i a=cI*ev w i (a.map (· / Int.ofNat g))):=by intro a;induction a with|nil=>intro _ _;exact(Int.mul_zero _).symm|bb x a ih=>intro i e;rw[jv]at e;obtain⟨e1,e2⟩:=f0;rw[gK,ev,ev,ih _ e2,gL,<-jm,eq_of_beq e1]);show 0<=l.1/cI+ev w 0 (l.2.map (· / Int.ofNat g));unfold val at h;rw[h3 _ _ h2]at h;(have hz:cI≠0:=λ e=>by cases e;omega);rw[<-Int.add_mul_ediv_left l.1 _ hz];exact Int.ediv_nonneg h (Int.natCast_nonneg g)
aHV{k:ac}{cs:bf}(h:eS):Ok w (el k cs):=by refine Ok.app (λ c m=>h c (er m).1) λ c m=>?_;obtain⟨p,mp,m⟩:=List.mem_flatMap.mp m;obtain⟨q,mq,rfl⟩:=jw m;obtain⟨mp,hp⟩:=er mp;obtain⟨mq,hq⟩:=er mq;refine aes ?_;rw[Ib,B9,B9];have:=jx (gQ (Int.neg_pos_of_neg (aa2 hq))) (h p mp);have:=jx (gQ (aCa hp)) (h q mq);omega
aeQ{w:aO}:∀(k:ac){cs:bf},ab (fm k cs)->eS->bi|0,cs,h,o=>by rw[it b o m]|k+1,cs,h,o=>by cases Bool.or_eq_true_iff.mp h with|inl h=>rw[it b o m]|inr h=>exact aeQ k h (aHV o)
bs.1:ac->bf|0=>[]|k+1=>(0,un (2*k))::bs k
abi(r:aE)(z:aB):∀k,Ok d4 (bs k)|0=>a4|k+1=>aV (by show 0<=0+ev _ 0 (un (2*k));rw[HA,gP,T_];omega) a7 abi k
ck.1(n:ac)(f:F):aH:=(cK).all λ cs=>fm (2*n+1) (bs n++cs.map nm)
ok{r:aE}{z:aB}{f:F}(n:ac)(h:ja (ck n f=ad)):bt:=gR λ k=>by obtain⟨cs,m,o⟩:=(a7 atp f).2 k;exact aeQ _ f3 h cs m ((a7 abi _).app λ c m=>by obtain⟨b,mb,rfl⟩:=jw m;exact aes (o b mb))
oR(r:aE)(z:aB)(f:F)(n:ac)(h:ja (ck n f=ad)):bt:=ok n h
}
section _Z
section
open _Z _Z.T _Z.F
variable{x y:ac}
def z:={
aqe:x<=x+1+y:=Qw
}
section z
section
variable{a0 a1 a2 a3:Sort _}{C:db}{E:dW}
def z:={
gN{A:b!}{B:b!}{C:b!}{U:Prop}(h:∃x0:a0,∃x1:a1,∃x2:a2,aW A/\aW B/\aW C)(k:∀x0,∀x1,∀x2,aW A->aW B->aW C->U):U:=by obtain⟨x0,x1,x2,hA,hB,hC⟩:=h;exact k x0 x1 x2 hA hB hC
af{A:a0->Prop}{B:a0->Prop}(x0:a0)(hA:A x0)(hB:B x0):∃x0:a0,A x0/\B x0:=#[x0,hA,hB]
cE{A:db}{B:db}(x0:a0)(x1:a1)(hA:bv A)(hB:bv B):∃x0:a0,∃x1:a1,bv A/\bv B:=#[x0,x1,hA,hB]
ji{A:db}{B:db}{D:db}(x0:a0)(x1:a1)(hA:bv A)(hB:bv B)(hC:bv C)(hD:bv D):∃x0:a0,∃x1:a1,bv A/\bv B/\bv C/\bv D:=#[x0,x1,hA,hB,hC,hD]
pf{A:b!}{B:b!}{C:b!}{D:b!}{E:b!}(x0:a0)(x1:a1)(x2:a2)(hA:aW A)(hB:aW B)(hC:aW C)(hD:aW D)(hE:aW E):∃x0:a0,∃x1:a1,∃x2:a2,aW A/\aW B/\aW C/\aW D/\aW E:=#[x0,x1,x2,hA,hB,hC,hD,hE]
BC{A:dW}{B:dW}{C:dW}{D:dW}(x0:a0)(x1:a1)(x2:a2)(x3:a3)(hA:bI A)(hB:bI B)(hC:bI C)(hD:bI D)(hE:bI E):∃x0:a0,∃x1:a1,∃x2:a2,∃x3:a3,bI A/\bI B/\bI C/\bI D/\bI E:=#[x0,x1,x2,x3,hA,hB,hC,hD,hE]
}
section z
namespace _L
open aQ bQ bh
variable{us:az}{Q:bE ah aX}{i n j:ac}{bc:ai}{mg:aP}{vs:aM}{κ:Type}{lo:ak}{y:V}{l:Expr}{bk:cL}
def z:={
Key.2:=Sum ak ax
rH.1:Key->ah->aH|.inl k,v=>Value.isInt k v|eZ,v=>Value.isStrOf x v
agB.1(w:aD):Key->ak|.inl k=>hashInt k|eZ=>hashStr w x
qC:∀{k:Key}{v:ah},ab (rH k v)->(∃i t,k=cV i/\v=i!)\/(∃x t,k=cW x/\v=Value.str x t)|.inl i,v,h=>by obtain⟨t,e⟩:=Value.isInt_shape (k:=i) (v:=v) h;rw[cJ (cE i t au e)]|eZ,v,h=>by obtain⟨t,e⟩:=Value.isStrOf_shape (x:=x) (v:=v) h;rw[bJ (cE x t au e)]
aq2(a b:ak):cC ((cV a:Key)=cV b)=(a==b):=by by_cases e:a=b;(.subst e;simp);.have h:¬(cV a:Key)=cV b:=λ q=>e (Sum.inl.inj q);rw[iT];exact(beq_eq_false_iff_ne.mpr e).symm
av2(a b:ax):cC ((cW a:Key)=cW b)=cC (a=b):=by by_cases e:a=b;(.subst e;simp);.have h:¬(cW a:Key)=cW b:=λ q=>e (Sum.inr.inj q);rw[iT,gV e]
aCH(a:ak)(b:ax):cC ((cV a:Key)=cW b)=false:=iF q (nomatch q)
aGi(a:ax)(b:ak):cC ((cW a:Key)=cV b)=false:=iF q (nomatch q)
}
meta def gb(prog:a6)(w:aD):PySem.KeyKind prog w Key where is:=rH;hash:=agB w;inj:=(λ v a b ha hb=>by rcases qC ha with⟨i,t,rfl,rfl⟩|⟨x,t,rfl,rfl⟩;(.rw[fX (qC hb) j u];(.injection e with e1 _;rw[e1]);.exact gq);.rw[fX (qC hb) j u];(.exact gq);.injection e with e1 _;rw[e1]);byValue:=(λ k v h=>by rcases qC h with⟨i,t,rfl,rfl⟩|⟨x,t,rfl,rfl⟩<;>rfl);pyHash:=(λ hv h=>by rcases qC hv with⟨i,t,rfl,rfl⟩|⟨x,t,rfl,rfl⟩;(.exact wpAny_pyHash_int h);.exact wpAny_pyHash_str h);eqBool:=(λ hu hv h=>by rcases qC hu with⟨i,t,rfl,rfl⟩|⟨x,t,rfl,rfl⟩;(.rcases qC hv with⟨j,u,rfl,rfl⟩|⟨y,u,rfl,rfl⟩;(.rw[aq2]at h;exact wpAny_eqBool_int h);.rw[aCH]at h;exact SeqAt.EqAt.int_str i t y u _ _ _ _ h);.rcases qC hv with⟨j,u,rfl,rfl⟩|⟨y,u,rfl,rfl⟩;(.rw[aGi]at h;exact SeqAt.EqAt.str_int x t j u _ _ _ _ h);.rw[av2]at h;exact wpAny_eqBool_str h);«strs»:=λ k x t v h=>by rw[fX (qC h) i u];(.exact gq);.injection e with e1 _;subst e1;cases v<;>rfl
inductive V where
 |cB
 |bl(b:aH)
 |aI(i:ak)
 |str(x:ax)
 |iY(b:d? UInt8)
 |qG(b:UInt64)
 |ref(a:aa)
 |ty(n:String)deriving DecidableEq
def z:={
cp.1:bE V ah|.cB,u=>u=Value.none|.bl b,u=>u=Value.bool b|dk,u=>∃t,u=i!|gD,u=>∃t,u=Value.str x t|.iY b,u=>∃t,u=Value.bytes b t|.qG b,u=>∃t,u=Value.float b t|dj,u=>u=Value.ref a|.ty n,u=>u=gX n
bN.2:aM->az->Prop:=Paired cp
jl.1:bm V->bm ah->Prop|Z v,Z u=>cp v u|am,am=>aj|_,_=>bi
KV.1:ao (κ×V)->ao (κ×ah)->Prop:=Paired λ(p:κ×V)(q:κ×ah)=>p.1=q.1/\cp p.2 q.2
kV.1:Key->V|.inl i=>dk|eZ=>gD
}
inductive HO where
 |lst(xs:aM)
 |tup(xs:aM)
 |dK(aq:ao (Key×V))
 |dT(aq:ao (eQ×V))
 |set(S:eO)(n:ac)
 |ins(C dx:aa)(fs:ao (ax×V))
 |own(x:aa)
 |xd(fs:ao (ax×V))
 |met(f x:aa)
 |gU(lo hi:ak)
 |iU(o:Obj)(u:HO)
 |wz(ps:fS)
 |ext(φ:ai->Prop)
def z:={
Hp.2:=aa->bm HO
}
section
variable(P:a6)(w:aD)
def z:={
fC.1(H:Hp)(h:ai)(a:aa):HO->Prop|.lst xs=>iQ/\∃(aF:az)(n:ac),bN xs aF/\bH dr cls ei hI|.tup xs=>iQ/\∃aF:az,bN xs aF/\IsTup h a aF.toArray|.dK aq=>c4 aq.length/\(a==sysModules)=false/\∃vs,KV aq vs/\h.DictOf bY gb a vs|.dT aq=>c4 aq.length/\(a==sysModules)=false/\∃xs:ao (eQ×aa×ah),Paired (λ(p:eQ×V)(q:eQ×aa×ah)=>p.1=q.1/\H q.2.1=Z (.tup (p.1.map kV))/\cp p.2 q.2.2) aq xs/\∃o es ep,dB/\o.ExactDict/\ea=.dict es ep/\es.toList=xs.map (entryOfKey (tupleKind bY gb))/\(xs.map (·.1)).Nodup|.set S n=>h.SetOf bY intKind a S n|.ins C dx fs=>H dx=Z (.own a)/\gY<=1000/\dx≠a/\bH (PySem.W.instObj C dx)/\∃mA,h.Ns1 dx mA/\(∀f,jl (fs.lookup f) (mA f))/\PySem.Within mA (fs.map (·.1))|.own _=>∃o,dB|.xd fs=>∃mA,h.Ns1 a mA/\∀f,jl (fs.lookup f) (mA f)|.gU lo hi=>∃t u v,bH dr cls (.cX "range") (.fields eD [.aI lo t,.aI hi u,.aI 1 v])|.iU o u=>dB/\fC H h a u|.wz ps=>bH dr cls bF (.fields ps)|.met f x=>bH (PySem.W.methodObj b8 bd x)|.ext φ=>φ h/\(∃o,dB)/\∀h1 h2:ai,φ h1->(∀o,aY h1.get? a->aY h2.get? a)->φ h2
dR.1(H:Hp)(h:ai):Prop:=∀a o,aY H a->eI a o
}
section z
def z:={
_R.1(H:Hp)(a:aa)(u:HO):Prop:=H a=Z u\/∃o,H a=Z fk
_R.ok{P:a6}{w:aD}{H:Hp}{h:ai}{a:aa}{u:HO}(r:_R H a u)(x:d2):eI a u:=by rcases r with r|⟨o,r⟩;(.exact x a u r);.obtain⟨_,q⟩:=x a _ r;exact q
}
structure Un(fs ex:ap)(H H':Hp)(h h':ai):Prop where
 keep:bO o (b'->bL->b∉fs->e8->aY gZ b)
 slot:bO o (b'->bL->b∈fs->e8->∃sl,bX gZ {o with slots:=sl})
 free:bO o (b'->bL->e8->a8 (H' b))
 there:bO o (b'->e8->∃o',bX gZ o')
 pk:bO xs (bX H eT->bX H' eT)
 nU:∀b o u,bX H fk->bX H' fk
 oS:bO ps (bX H (.wz ps)->∃more,bX H' (.wz (ps++more)))
def z:={
D9.1(h:ai)(H:Hp):ap:=(List.range jz).filter λ a=>(H a).isSome
qE.1(h:ai)(H:Hp):ai:=PySem.W.hideAll h fc
ars(h:ai)(H:Hp):(eX).objs.size=jz:=PySem.W.hideAll_size _ _
aHf{h:ai}{H:Hp}{b:aa}{o:Obj}(e:b')(n:bL):aY (eX).get? b:=PySem.W.hideAll_get _ e λ hm=>by have q:ab (H b).isSome:=(er hm).2;rw[n]at q;simp at q
aIO{h:ai}{H:Hp}{b:aa}{o:Obj}(e:aY (eX).get? b):b'/\bL:=by have e':b':=PySem.W.of_hideAll fc e;refine #[e',?_];cases q:H b with|am=>rfl|bR x=>have hm:b∈fc:=List.mem_filter.mpr #[List.mem_range.mpr (Heap.lt_size e'),eP q];have z:a8 ((eX).get? b):=PySem.W.hideAll_none fc hm;rw[z]at e;cases e
}
structure Mod(K:ag)(mg:aP)(bc:ai):Prop where
 zV:go
 glob:fN
 blt:∃mb,base.Ns builtinsNs mb/\i5 x x (mb x)
 nolimit:base.NoLimit
def z:={
oK.1(l:cL):ap:=l.filterMap (·.frame)
XK.2:=ah->c?->Hp->Prop
VK.2:=bE V Hp
aC.1(K:ag)(H:Hp)(a:aa)(xs:aM):Prop:=iu gA n (iV/\o.cls=ei/\o.dict=am/\iJ)
aJ.1(K:ag)(H:Hp)(a:aa)(xs:aM):Prop:=iu eT n (iV/\o.cls=fJ/\iJ)
}
section
variable{H:Hp}{a:aa}{xs:aM}
def z:={
aC.of{K:ag}(h:H a=Z gA):aC K H a xs:=.inl (.inl h)
}
section z
structure dS(K:ag)(C:aa):Prop where
 pg:av (PySem.W.plainGet K C) Str.empty
 hd:ab (PySem.W.hasDictIn K C)
 po:ab (PySem.W.plainOver K C)
 sa:dA "__setattr__"=Z Z (.builtin "object.__setattr__")
def z:={
cf.1(K:ag)(C:aa)(f:ax):Prop:=dA f=Z am
}
structure mL(K:ag)(C:aa)(m:ax)(f:aa):Prop where
 at_:dA m=Z cH
 fn:en
 kp:c6
structure b7(k:ac)(A:Around):Prop where
 hd:A.handled=am
 dp:A.depth+3*k+5<recursionLimit
 un:A.units+16*k+200<cLine
def z:={
Sp.2:=aM->Hp->bE VK XK
mY.2:=cL->Hp->aX->XK->bE ah aX
}
structure vH(P:a6)(w:aD)(K:ag)(mg:aP)(bc:ai)(A:Around)(bk:cL)(s:aX)(H:Hp):Prop where
 frames:A.frames=Z bk
 mod:Mod K mg bc
 bs:bO o (aY base.get? b->aY s.heap.get? b/\bL)
 pq:base.objs.size<=s.heap.objs.size
 mj:s.heap.FunFrames bc bk
 r_:∀b∈oK bk,bL
 aR:dR P w H s.heap
 bare:AllBare s.gens
def z:={
CE.1(bk:cL)(P:a6)(w:aD)(H:Hp)(s:aX)(Q:VK)(u:ah)(s':aX):Prop:=∃v H',s'.os=s.os/\i8/\Un (oK bk) [] H H' s.heap ec/\dR P w H' ec/\cp v u/\Q v H'
CR.1(CX:mY)(bk:cL)(P:a6)(w:aD)(H:Hp)(s:aX)(Q:VK)(E:XK)(r:Result)(s':aX):Prop:=match r with|.ok (.ret u)=>CE bk P w H s Q u s'|.ok _=>bi|.error e=>CX bk H s E e s'
}
structure ej(P:a6)(w:aD)(K:ag)(mg:aP)(bc:ai)(CX:mY)(k:ac)(f:aa)(fd:ed)(ps:cb)(sp:Sp):Prop where
 len:∀vs H Q E,sp vs H Q E->dy g0
 run:∀(A:Around)(bk:cL)(s:aX)(H:Hp)(b0:Args)(us:az)(vs:aM)(Q:VK)(E:XK),b7 k A->bY vH K mg bc A bk s H->g1 s fd b0 fT->bN vs us->sp vs H Q E->codeAny bY model A (.call b8 b0) (CR CX bk P w H s Q E) s
section
variable{f C:aa}
structure Mk(K:ag)(C f:aa):Prop where
 makes:iv
 b3:h!=Z cH
 fn:en
 kp:iD bd C
section z
section _L
namespace _L
open aQ bQ bh
variable{x bT:ax}{st:I}{f:aa}{fd:ed}
def z:={
inClass.1(s:I)(j:ac):I:=match s with|.ClassDef _ _ _ body _ _ _ _ _ _ _=>body.getD j ge|_=>.Pass #[0,0,0,0]
jA.1(s:I):Arguments:=f5 (gd _ a _ _ _ _ _ _) a {posonlyargs:=[],b0:=[],vararg:=am,kwonlyargs:=[],kw_defaults:=[],kwarg:=am,defaults:=[]}
cw.1(s:I):gm:=f5 (gd _ _ b _ _ _ _ _) b []
aw.1(s:I):d6:=f5 (gd _ _ _ _ _ _ sc _) sc {kind:=.function,names:=[],isGenerator:=false,isCoroutine:=false}
eK.2:mY:=λ _ _ _ _ _ _=>bi
}
structure fZ(K:ag)(x bT:ax)(st:I)(f:aa)(fd:ed):Prop where
 ex:∃(oc:ah)(od:c?)(kV doc pm:ah)(an:c?)(aK ct:ah)(rC:eF),fd=dL/\dH f fd rC/\dJ
 kp:c6
section
variable{K:ag}
def z:={
KS{oc:ah}{od an:c?}{rC:eF}{kV doc pm aK ct:ah}(l:dH f dL rC)(c:dJ)(k:c6):fZ K x bT st f dL:=#[#[oc,od,kV,doc,pm,an,aK,ct,rC,rfl,l,c],k]
}
section z
section _L
namespace _M
open aQ bQ bh _L
def z:={
GI.1(mg:aP)(x:ax)(n:ak):Prop:=∃t,mg x=Z (.aI n t)
}
section _M
namespace _P
open aQ bQ bh _L _M
def z:={
J.1(i:ac):I:=jD i ge
aN.2(K:ag)(mg:aP)(x:ax)(st:I):Prop:=∃f fd,mg x=Z b8/\fZ K x x st f fd
gf.2(K:ag)(C:aa)(x q:ax)(st:I):Prop:=dO (mL K C x f) (fZ K x) q
tO.2(K:ag)(C:aa)(q:ax)(st:I):Prop:=dO (Mk K C f) (fZ K "__init__") q
}
structure Gs(mg:aP):Prop where
 R':M "PROPERTIES" 0
 MAPS:M "MAPS" 1
 RR:M "SEQUENCES" 2
 wm:M "COMBINING" 0
 Jg:M "GENERAL" 1
 uG:M "CLUSTER" 2
 sD:M "CONJUNCT" 3
 aIl:M "LINE" 6
 afv:M "WIDTH" 7
 avM:M "DIRECTION" 8
 G8:M "BRACKET" 9
 awj:M "SCRIPT" 10
 acE:M "DIGIT" 11
 N5:M "FLAGS" 13
 Ih:M "CANONICAL" 0
 Mc:M "COMPATIBILITY" 1
 avn:M "UPPER" 2
 axy:M "LOWER" 3
 aAn:M "TITLE" 4
 Cp:M "FOLD" 5
 Ti:M "SIMPLE_FOLD" 6
 Yr:M "MIRROR" 7
 K':M "PARTNER" 8
 RD:M "PROTOTYPE" 9
 PU:M "EXTENSIONS" 10
 Kn:M "WEIGHTS" 11
 awy:M "CONTRACTIONS" 0
 aBq:M "WORDS" 1
 aLI:M "WHOLES" 2
 CN:M "CN" 0
 MN:M "MN" 6
 MC:M "MC" 7
 ME:M "ME" 8
 PI:M "PI" 16
 PF:M "PF" 17
 CC:M "CC" 26
 CF:M "CF" 27
 Gv:M "LINKER" 1
 Bz:M "CONSONANT" 2
 Iy:M "CONJUNCT_EXTEND" 3
 awn:M "AMBIGUOUS" 1
 aAz:M "HALF" 2
 Wa:M "WIDE" 3
 Zb:M "FULL" 4
 akB:M "NEUTRAL" 13
 aJ5:M "UPPERCASE" 0
 amQ:M "LOWERCASE" 1
 U2:M "CASED" 2
 az1:M "ID_START" 7
 ais:M "ID_PART" 8
 Yu:M "IGNORABLE" 11
 yG:M "PICTOGRAPHIC" 12
 av4:M "MIRRORED" 13
 Ra:M "NEVER_COMPOSED" 15
 ahb:M "SPARE" 16
 aBX:M "LAST_SCALAR" 1114111
 aeq:M "FIRST_SURROGATE" 55296
 Zi:M "LAST_SURROGATE" 57343
 adG:M "FIRST_LEADING" 4352
 aie:M "LAST_LEADING" 4370
 Y':M "FIRST_VOWEL" 4449
 akk:M "LAST_VOWEL" 4469
 Vz:M "BEFORE_TRAILING" 4519
 ayZ:M "LAST_TRAILING" 4546
 JC:M "FIRST_SYLLABLE" 44032
 alj:M "LAST_SYLLABLE" 55203
 Ky:M "SYLLABLES_OF_VOWEL" 28
 RM:M "SYLLABLES_OF_LEADING" 588
 aov:M "PROPERTY_COUNT" 14
 aLk:M "MAP_COUNT" 15
 aDc:M "SEQUENCE_COUNT" 3
 J8:M "STEPS_MOST" 8
 RW:M "SCALARS_MOST" 18
 XX:M "XX" 0
 AI:M "AI" 1
 AK:M "AK" 2
 AL:M "AL" 3
 AP:M "AP" 4
 AS:M "AS" 5
 B2:M "B2" 6
 BA:M "BA" 7
 BB:M "BB" 8
 BK:M "BK" 9
 CB:M "CB" 10
 CJ:M "CJ" 11
 CL:M "CL" 12
 CM:M "CM" 13
 CP:M "CP" 14
 rX:M "CR_classes" 15
 EB:M "EB" 16
 EM:M "EM" 17
 EX:M "EX" 18
 GL:M "GL" 19
 H2:M "H2" 20
 H3:M "H3" 21
 HL:M "HL" 22
 HY:M "HY" 23
 ID:M "ID" 24
 IN:M "IN" 25
 IS:M "IS" 26
 JL:M "JL" 27
 JT:M "JT" 28
 JV:M "JV" 29
 rO:M "LF_classes" 30
 NL:M "NL" 31
 NS:M "NS" 32
 NU:M "NU" 33
 OP:M "OP" 34
 PO:M "PO" 35
 PR:M "PR" 36
 QU:M "QU" 37
 ad4:M "RI_classes" 38
 SA:M "SA" 39
 SG:M "SG" 40
 SP:M "SP" 41
 SY:M "SY" 42
 VF:M "VF" 43
 VI:M "VI" 44
 WJ:M "WJ" 45
 ZW:M "ZW" 46
 EI:M "ZWJ_classes" 47
 i6:M "NONE" 0
 zw:M "CHANCE" 1
 yW:M "MUST" 2
 alK:M "RING" 9676
 aC1:M "SOFT" 8208
 DX:M "NOTHING" (-1)
 apb:M "UNKNOWN_COST" 65536
 IP:M "NO_PIECE" (-1)
 sE:M "SILENT" (-1)
 ML:M "CR_clusters" 1
 ND:M "LF_clusters" 2
 S3:M "CONTROL" 3
 SM:M "EXTEND_clusters" 4
 WL:M "ZWJ_clusters" 5
 Ll:M "RI_clusters" 6
 aue:M "PREPEND" 7
 aE5:M "SPACING_MARK_clusters" 8
 L:M "L" 9
 V:M "V" 10
 T:M "T" 11
 LV:M "LV" 12
 Pf:M "LVT" 13
 TAB:M "TAB" 9
 Ei:M "NOWHERE" (-1)
 agW:M "UNNAMED_SCRIPTS" 3
 LU:M "OTHER" 0
 F4:M "EXTEND_rules_31_to_41" 4
 aKI:M "ZWJ_rules_31_to_41" 5
 aKV:M "SPACING_MARK_rules_31_to_41" 8
 NB:M "VOWEL" 10
 Lb:M "VARIABLE" 31
 af1:M "SCRIPTS_END" 256
 aHU:M "NUMBERS_END" 65536
 axL:M "WALKED_MOST" 4096
 aKT:M "NAMES_MOST" 64
 SE:M "BREAK_ALL" 2
 Vi:M "KEEP_ALL" 3
 aqw:M "WORDS_ASKED" 4
 aBG:M "EASTERN" 5
 al4:M "SPLIT" 6
 az5:M "STRICT" 0
 VG:M "LOOSE" 2
 VY:M "KNOWN_BITS" 16255
 L1:M "TOO_MUCH" (-6)
 Sy:M "BROKEN" (-5)
 Ua:M "WRONG" (-1)
 am4:M "BOOK_MOST" 8192
 aaf:M "TEXT_MOST" 64
 asd:M "COLUMNS_MOST" 65535
 Pj:M "BOOK_CALL" 1
 Jh:M "CHANCES_CALL" 2
 Nv:M "WIDTH_CALL" 3
 Vu:M "FILL_CALL" 4
 asR:M "RAGGED_CALL" 5
 ae1:M "MEASURE_CALL" 6
 w6:a8 (mg "all")
 zi:a8 (mg "any")
 Ud:a8 (mg "dict")
 cg:a8 (mg "len")
 alJ:a8 (mg "list")
 LJ:a8 (mg "max")
 gO:a8 (mg "range")
 apr:a8 (mg "sum")
 zI:a8 (mg "tuple")
def z:={
Wp.2:I:=J 1
aaT.2:I:=J 71
GS.2:I:=J 72
ad2.2:I:=J 73
Xv.2:I:=J 74
aah.2:I:=J 75
Vm.2:I:=J 76
abY.2:I:=J 77
afa.2:I:=J 78
aeG.2:I:=J 79
Dy.2:I:=J 86
IB.2:I:=J 87
EV.2:I:=J 88
yB.2:I:=J 89
yu.2:I:=aU 0
aei.2:I:=aU 1
Qa.2:I:=aU 2
RY.2:I:=aU 3
ou.2:I:=aU 4
Wz.2:I:=aU 5
QV.2:I:=aU 6
W7.2:I:=aU 7
afm.2:I:=aU 8
abm.2:I:=aU 9
YO.2:I:=aU 10
aa1.2:I:=aU 11
GP.2:I:=aU 12
adT.2:I:=aU 13
afw.2:I:=aU 14
Rg.2:I:=aU 15
Vc.2:I:=J 140
Ww.2:I:=J 141
Vk.2:I:=J 142
Q_.2:I:=J 143
Ep.2:I:=J 148
YR.2:I:=J 149
GR.2:I:=J 150
X8.2:I:=bz (J 155) 0
Va.2:I:=J 156
YQ.2:I:=J 157
aao.2:I:=J 158
Zd.2:I:=J 159
Eo.2:I:=J 160
ZV.2:I:=J 164
aaF.2:I:=J 165
aak.2:I:=J 166
aeS.2:I:=J 167
Wv.2:I:=J 168
aaR.2:I:=J 171
RT.2:I:=J 172
adI.2:I:=J 173
US.2:I:=J 174
WK.2:I:=J 175
Z'.2:I:=bz (J 176) 0
S8.2:I:=J 177
Sw.2:I:=J 178
acQ.2:I:=J 179
aaI.2:I:=J 180
T1.2:I:=J 181
Q9.2:I:=J 182
W'.2:I:=J 183
Uq.2:I:=J 184
aa3.2:I:=J 185
aar.2:I:=J 186
ab8.2:I:=J 187
ZS.2:I:=J 188
Wb.2:I:=J 189
adN.2:I:=J 190
YG.2:I:=J 191
Su.2:I:=J 192
Zn.2:I:=J 193
Q8.2:I:=J 194
Vw.2:I:=J 195
UT.2:I:=J 196
YU.2:I:=J 197
VT.2:I:=J 198
Qy.2:I:=J 199
ac8.2:I:=J 200
abv.2:I:=J 201
aau.2:I:=J 202
acI.2:I:=J 203
YA.2:I:=J 204
ZR.2:I:=J 205
aeF.2:I:=J 206
TH.2:I:=J 207
aeZ.2:I:=J 208
adV.2:I:=J 209
RB.2:I:=J 210
RV.2:I:=J 212
Gf.2:I:=J 213
ZX.2:I:=J 228
UW.2:I:=J 229
TQ.2:I:=J 230
rW.2:I:=bz (J 231) 0
Wh.2:I:=J 232
XC.2:I:=J 233
acz.2:I:=J 234
VC.2:I:=J 235
aeP.2:I:=J 236
FT.2:I:=J 237
Vn.2:I:=J 240
vn.2:I:=bz (J 241) 0
adZ.2:I:=J 242
ae8.2:I:=J 243
aeC.2:I:=J 244
FC.2:I:=J 247
Vj.2:I:=J 248
RJ.2:I:=J 249
aaG.2:I:=J 252
Jo.2:I:=J 253
K_.2:I:=J 254
RA.2:I:=J 255
Oa.2:I:=J 256
acu.2:I:=J 257
UC.2:I:=J 258
QF.2:I:=J 259
acC.2:I:=J 260
aek.2:I:=J 261
afb.2:I:=J 262
ZQ.2:I:=J 263
ada.2:I:=J 264
VH.2:I:=J 265
V4.2:I:=J 266
NP.2:I:=J 267
VQ.2:I:=J 268
Qi.2:I:=J 269
LO.2:I:=J 270
XU.2:I:=J 271
He.2:I:=J 272
DN.2:I:=J 280
Xg.2:I:=J 281
abx.2:I:=J 282
S2.2:I:=J 283
ac2.2:I:=J 284
aeL.2:I:=J 285
ac6.2:I:=J 286
abW.2:I:=J 287
acL.2:I:=J 288
abU.2:I:=J 289
aef.2:I:=J 290
adp.2:I:=J 291
aeB.2:I:=J 292
Rf.2:I:=J 293
Li.2:I:=J 294
ZJ.2:I:=J 295
aaX.2:I:=J 296
VR.2:I:=J 297
abj.2:I:=J 298
aba.2:I:=J 299
Q4.2:I:=J 300
LY.2:I:=J 301
Nr.2:I:=J 302
G5.2:I:=J 303
ad1.2:I:=J 305
QK.2:I:=J 307
abq.2:I:=J 308
acw.2:I:=J 309
adk.2:I:=J 310
XO.2:I:=J 322
P9.2:I:=J 323
Z4.2:I:=J 324
adi.2:I:=J 325
Zm.2:I:=J 326
ac5.2:I:=J 327
aap.2:I:=J 328
aaJ.2:I:=J 329
aeH.2:I:=J 330
acq.2:I:=J 331
QA.2:I:=J 332
W3.2:I:=J 333
Sm.2:I:=J 334
Q2.2:I:=J 335
HR.2:I:=J 336
abc.2:I:=J 337
SR.2:I:=J 338
RF.2:I:=J 339
P8.2:I:=J 340
QE.2:I:=J 341
aaH.2:I:=J 351
S4.2:I:=bz (J 352) 0
ac7.2:I:=J 360
UE.2:I:=J 361
Tz.2:I:=b? 0
JD.2:I:=b? 1
So.2:I:=b? 2
aem.2:I:=b? 3
Ql.2:I:=b? 4
Sf.2:I:=b? 5
Tp.2:I:=b? 6
ZN.2:I:=b? 7
acD.2:I:=bz eU 0
Xe.2:I:=bz eU 1
Xz.2:I:=bz eU 2
adw.2:I:=bz eU 3
abb.2:I:=J 372
acy.2:I:=J 373
JF.2:I:=J 374
P5.2:I:=J 375
}
structure akI(K:ag)(C:aa):Prop where
 cl:ch
 vw:ae "parts"
 OA:ae "map_rows"
 Nh:ae "sequence_rows"
 adh:ae "name_count"
 RC:ae "composing"
 C8:ae "known_by_k"
 b3:ci "Book.__init__" yu
 KD:ay "records" "Book.records" aei
 axu:ay "value" "Book.value" Qa
 azg:ay "has_flag" "Book.has_flag" RY
 aB9:ay "in_order" "Book.in_order" ou
 aFo:ay "row" "Book.row" Wz
 ax0:ay "has_row" "Book.has_row" QV
 aiB:ay "number_of" "Book.number_of" W7
 aBH:ay "canonical_step" "Book.canonical_step" afm
 ajG:ay "taken_apart" "Book.taken_apart" abm
 aoq:ay "k_step" "Book.k_step" YO
 aF0:ay "stepped_by_k" "Book.stepped_by_k" aa1
 amP:ay "has_k_step" "Book.has_k_step" GP
 aAm:ay "find_by_k" "Book.find_by_k" adT
 aF4:ay "by_k" "Book.by_k" afw
 an8:ay "composing_counts" "Book.composing_counts" Rg
structure ay7(K:ag)(C:aa):Prop where
 cl:ch
 Kc:ae "kind"
 V2:ae "begin"
 Ph:ae "end"
 KJ:ae "joined"
 FV:ae "spaceless"
 PH:ae "east"
 KH:ae "initial"
 LF:ae "final"
 Kr:ae "ring"
 N8:ae "soft"
 Jp:ae "unassigned"
 b3:ci "Unit.__init__" X8
structure as0(K:ag)(C:aa):Prop where
 cl:ch
 ZU:ae "units"
 abk:ae "place"
 Xs:ae "is_cut"
 abB:ae "xx"
 YI:ae "x"
 YV:ae "y"
 Z0:ae "yy"
 acH:ae "yyy"
 Qq:ae "z"
 aa8:ae "zz"
 b3:ci "Place.__init__" Z'
structure ail(K:ag)(C:aa):Prop where
 cl:ch
 J4:ae "kinds"
 aab:ae "conjuncts"
 Wt:ae "pictures"
 b3:ci "Signs.__init__" rW
structure azE(K:ag)(C:aa):Prop where
 cl:ch
 zA:ae "book"
 abL:ae "text"
 w_:ae "tab"
 FH:ae "signs"
 Y4:ae "widths"
 VA:ae "alone"
 b3:ci "Sheet.__init__" vn
structure anL(K:ag)(C:aa):Prop where
 cl:ch
 Ut:ae "strict"
 Z5:ae "loose"
 IH:ae "break_all"
 Qp:ae "keep_all"
 Qc:ae "by_words"
 P0:ae "eastern"
 abn:ae "splits"
 w_:ae "tab"
 b3:ci "Ways.__init__" S4
structure aCU(K:ag)(C:aa):Prop where
 cl:ch
 zA:ae "book"
 b3:ci "Desk.__init__" Tz
 aw9:ay "hand_over" "Desk.hand_over" JD
 aLa:ay "sheet_of" "Desk.sheet_of" So
 aqM:ay "chances" "Desk.chances" aem
 aui:ay "width" "Desk.width" Ql
 awp:ay "fill" "Desk.fill" Sf
 aLR:ay "ragged" "Desk.ragged" Tp
 aFO:ay "measure" "Desk.measure" ZN
structure ald(K:ag)(C:aa):Prop where
 cl:ch
 abg:ae "numbers"
 Ga:ae "at"
 b3:ci "Reader.__init__" acD
 aut:ay "is_done" "Reader.is_done" Xe
 aGa:ay "take_number" "Reader.take_number" Xz
 akg:ay "take_row" "Reader.take_row" adw
structure Cs where
 Book:aa
 Unit:aa
 Place:aa
 k_:aa
 zU:aa
 Ways:aa
 jT:aa
 Reader:aa
structure Fs(K:ag)(mg:aP)(c:Cs):Prop where
 g:Gs mg
 azL:O "has_bit" Wp
 aB3:O "is_scalar" aaT
 ayg:O "all_scalars" GS
 aqc:O "is_leading" ad2
 azY:O "is_vowel" Xv
 aJv:O "is_trailing" aah
 akT:O "is_syllable" Vm
 anb:O "is_lv_syllable" abY
 avN:O "is_hangul" afa
 arH:O "syllable_step" aeG
 akh:O "range_records" Dy
 aoI:O "map_records" IB
 anB:O "sequence_records" EV
 lookup:O "lookup" yB
 aBE:O "first_class" Vc
 ayi:O "resolved_class" Ww
 aly:O "line_class" Vk
 alA:O "stands_alone" Q_
 aDl:O "are_marks" Ep
 aEE:O "first_must" YR
 ah0:O "chances_behind" GR
 aqZ:O "no_unit" Va
 aEO:O "is_east" YQ
 aLl:O "make_unit" aao
 ao4:O "unit_end" Zd
 ai2:O "units_of" Eo
 axD:O "in_row" ZV
 aLM:O "piece_cost" aaF
 ayt:O "least_pieces" aak
 arP:O "row_cuts" aeS
 anq:O "word_cuts" Wv
 ath:O "is_letter" aaR
 aLK:O "is_ideograph" RT
 ahu:O "is_korean" adI
 aER:O "unit_at" US
 apP:O "last_no_space" WK
 axA:O "none_if" S8
 aso:O "rule_1" Sw
 ard:O "rule_2" acQ
 alQ:O "rule_3" aaI
 aB1:O "rule_4" T1
 aAU:O "rule_5" Q9
 ant:O "rule_6" W'
 aB7:O "rule_7" Uq
 aGv:O "rule_8" aa3
 aLd:O "rule_9" aar
 awg:O "rule_10" ab8
 ahs:O "rule_11" ZS
 apG:O "rule_12" Wb
 ax5:O "rule_13" adN
 aoo:O "rule_14" YG
 aIW:O "rule_15" Su
 az9:O "rule_16" Zn
 aBN:O "rule_17" Q8
 akN:O "rule_18" Vw
 aBc:O "rule_19" UT
 ahy:O "rule_20" YU
 asn:O "digits_before" VT
 aDN:O "digits_end" Qy
 apZ:O "rule_21" ac8
 aGH:O "syllable_goes_on" abv
 aCP:O "rule_22" aau
 arB:O "rule_23" acI
 aCW:O "is_kernel" YA
 aGD:O "rule_24" ZR
 ami:O "rule_25" aeF
 ajX:O "rule_26" TH
 alW:O "indicators_up_to" aeZ
 agq:O "rule_27" adV
 azi:O "rule_28" RB
 verdict:O "verdict" RV
 aGm:O "marks_of" Gf
 aqL:O "cluster_class" ZX
 aHb:O "conjunct_class" UW
 aGA:O "is_pictographic" TQ
 axM:O "syllable_joins" Wh
 amJ:O "conjunct_joins" XC
 aHM:O "picture_joins" acz
 aod:O "indicator_joins" VC
 aIT:O "is_joined" aeP
 azc:O "cluster_ends" FT
 aLA:O "scalar_width" Vn
 aH0:O "cluster_width" adZ
 an0:O "row_width" ae8
 aty:O "line_measure" aeC
 aki:O "farthest_fit" FC
 aK5:O "line_end" Vj
 arC:O "filled_lines" RJ
 aLH:O "firsts_end" aaG
 aJk:O "canonical_steps_end" Jo
 aIM:O "canonical_row_without_hangul" K_
 aHz:O "scalar_is_no_hangul" RA
 auv:O "range_without_hangul" Oa
 atW:O "taken_apart_in_order" acu
 aEx:O "has_no_canonical_row" UC
 aD9:O "ends_by_k" QF
 ajS:O "composes_alone" acC
 azk:O "folded_stays" aek
 ar3:O "simply_folded_stays" afb
 atc:O "goes_both_ways" ZQ
 auR:O "mirror_holds" ada
 aqp:O "partner_holds" VH
 asG:O "brackets_have_partners" V4
 ajO:O "digits_stand_in_tens" NP
 art:O "script_count" VQ
 aCM:O "script_is_named" Qi
 aIN:O "scripts_are_named" LO
 aiz:O "prototype_stays" XU
 at3:O "clauses_20_to_30" He
 akH:O "scalars_of" DN
 aCL:O "flags_agree" Xg
 af3:O "combining_extends" abx
 aHo:O "as_the_first" S2
 azA:O "conjuncts_follow" ac2
 azF:O "second_follows" aeL
 ag0:O "canonical_row_stays_cluster" ac6
 aE2:O "first_weight" abW
 axp:O "second_weight" acL
 am8:O "third_weight" abU
 arD:O "is_first_weight_alone" aef
 ajK:O "weights_fit" adp
 anW:O "variable_fits" aeB
 aLF:O "weights_hold" Rf
 awf:O "contraction_holds" Li
 awT:O "weighed_has_no_step" ZJ
 aEU:O "scalar_is_cased" aaX
 aid:O "letter_case_is_cased" VR
 aKW:O "scalar_has_no_class" abj
 aLW:O "folded_by_k" aba
 arx:O "folding_settles" Q4
 aKL:O "conjuncts_hold" LY
 ai9:O "pictures_hold" Nr
 akd:O "clauses_31_to_41" G5
 ai8:O "broken_clause" ad1
 azG:O "line_badness" QK
 aJs:O "summed" abq
 aAg:O "least_ends" acw
 ago:O "ragged_lines" adk
 aht:O "touch" XO
 aJS:O "range_rule" P9
 aCV:O "broken_range" Z4
 ajA:O "rises" adi
 aqm:O "row_fits" Zm
 avX:O "map_rule" ac5
 aoL:O "map_end" aap
 aJg:O "key_at" aaJ
 ai3:O "comes_to_rule" aeH
 ana:O "sequence_rule" acq
 akU:O "sequence_end" QA
 aAH:O "broken_among" W3
 aLr:O "is_capital" Sm
 amV:O "is_small" Q2
 auJ:O "is_name" HR
 atG:O "name_fits" abc
 aG7:O "broken_name" SR
 ag8:O "is_walked" RF
 aKl:O "broken_walk" P8
 ahK:O "broken_record" QE
 aAZ:O "is_ways" aaH
 refusal:O "refusal" ac7
 ag9:O "lines_refusal" UE
 anU:O "text_answer" abb
 ay8:O "lines_answer" acy
 az8:O "answer_of" JF
 answers:O "answers" P5
 Book:bA (mg "Book") c.Book
 bj:akI K c.Book
 Unit:bA (mg "Unit") c.Unit
 du:ay7 K c.Unit
 Place:bA (mg "Place") c.Place
 eC:as0 K c.Place
 k_:bA (mg "Signs") c.k_
 md:ail K c.k_
 zU:bA (mg "Sheet") c.zU
 fE:azE K c.zU
 Ways:bA (mg "Ways") c.Ways
 e9:anL K c.Ways
 jT:bA (mg "Desk") c.jT
 gv:aCU K c.jT
 Reader:bA (mg "Reader") c.Reader
 fW:ald K c.Reader
section _P
namespace _P
open aQ bQ bh _L _M
def z:={
vN.2(n:ac):V:=.aI n
}
section _P
namespace _P
open aQ bQ bh _L _M
variable{K:ag}{mg:aP}
variable{x:ax}
def z:={
Be.1:cb:=a' (["rule_1","rule_2","rule_3","rule_4","rule_5","rule_6","rule_7","rule_8","rule_9","rule_10","rule_11","rule_12","rule_13","rule_14","rule_15","rule_16","rule_17","rule_18","rule_19","rule_20","rule_21","rule_22","rule_23","rule_24","rule_25","rule_26","rule_27","rule_28"]:hL) Str.ofString
sR.1(K:ag)(mg:aP)(x:ax)(l:aE):Prop:=∃a,mg x=Z eY/\∀H,bn a (cZ vN)
}
structure Ts(K:ag)(mg:aP):Prop where
 rules:hP fs mg Be
 QI:dg "VALUE_MOST" [254,28,13,3,18,14,47,5,22,2,255,10,8191,1048575]
 Y6:dg "ROW_MOST" [2,18,3,3,3,3,1,1,1,18,32,18,1,1,1]
 ase:dg "KEY_LEAST" [2,1,2]
 afe:dg "KEY_MOST" [18,32,32]
 aL3:dg "COMES_TO_MOST" [18,1,1]
 acs:∃a t0 t1 t2,ik mg/\(∀H,bn a [bd t0,.ref t1,.ref t2])/\h8 t0/\h9 t1/\∀H,bn t2 iz
section _P
namespace _P
open aQ bQ bh _L _M
variable{K:ag}
variable{H H':Hp}{α:Type}{a:aa}{l:ao α}{x:ac×Mt.Row}
def z:={
zs.2(l:aE):aB:=cZ λ x:ac=>(x:ak)
Ex.1(K:ag):Sp:=λ vs H Q _=>em nl aE (vs=[eY]/\aC K H a (nl.map vN)/\ab (PyYqmtfa.answers_asked (zs nl))/\∀(H':Hp)(p:aa),H' p=Z (.lst ((PyYqmtfa.answers (zs nl)).map V.int))->Q eW H')
}
section _P
section
set_option maxHeartbeats 2000000
namespace _L
open aQ bQ bh
open cT(bw ee g2 Well ef ReadsW ReadsAllW)
variable{ds:bG}{a b:aa}{ps loose:cb}{vs us:az}{CX:mY}{YP:bE aD ai}{XP:(ax->bm ah)->ai->Prop}{q:a6}{u:HO}{r:g2}{xs:aM}
mutual inductive Dw(K:ag)(H:Hp):bE V bw
 |cB:Dw K H .cB bF
 |bl(b:aH):Dw K H (.bl b) (.c0 b)
 |aI(i:ak):Dw K H (.aI i) (.aI i)
 |str(x:ax):Dw K H (.str x) (.str x)
 |iY(b:d? UInt8):Dw K H (.iY b) (.cu b.toList)
 |lst{a:aa}{xs:aM}{ds:bG}:aC K H a xs->bC xs ds->Dw K H eY (.list ds)
 |tup{a:aa}{xs:aM}{ds:bG}:bn a xs->bC xs ds->Dw K H eY (.eg ds)inductive lP(K:ag)(H:Hp):aM->bG->Prop
 |nil:bC [] []
 |bb{v:V}{vs:aM}{d:bw}{ds:bG}:Dw K H v d->bC vs ds->bC (v::vs) (d::ds)end
def z:={
Q1{K:ag}{H:Hp}:∀ns:aB,bC jc i4|[]=>a4|n::r=>aV (.aI n) (Q1 r)
aec{K:ag}{H:Hp}:∀(ns:aB)(xs:aM),bC xs i4->xs=jc|[],xs,h=>by cases h;rfl|n::r,xs,h=>by cases h with|bb h1 h2=>cases h1;rw[aec r _ h2]<;>rfl
}
section
variable{P:a6}{w:aD}{K:ag}{H:Hp}{h:ai}{R:jE}{cl:ax->bm aa}
def z:={
ax9(aR:d2)(KX:a?)(q:aC K H a xs):ix o n ei:=by rcases q with q|⟨o,aF,n,e,hc,_,hd,_,hv⟩;(.obtain⟨_,aF,n,hv,e⟩:=(show eI a gA from q.ok aR);exact #[aF,_,n,hv,e,rfl,rfl]);.exact #[cY,o,n,hv,KX _ _ e,hc,eP hd]
aGN(aR:d2)(KX:a?)(q:bn a xs):ix o n fJ:=by rcases q with q|⟨o,aF,n,e,hc,hd,_,hv⟩;(.obtain⟨_,aF,hv,o,e,hc,n,hd⟩:=(show eI a eT from q.ok aR);exact #[aF,o,n,hv,e,hc,hd]);.exact #[cY,o,n,hv,KX _ _ e,hc,eP hd]
}
mutual theorem g3(aR:d2)(KX:a?):∀(d:bw)(v:V)(u:ah),Dw K H v d->cp v u->∃as,ReadsW R cl h u d as|bF,_,_,x,r=>by cases x;cases r;exact #[_,ReadsW.none]|eR,_,_,x,r=>by cases x;cases r;exact #[_,ReadsW.bool b]|dk,_,_,x,r=>by cases x;rw[fY t r (ReadsW.int i t)]|.str s,_,_,x,r=>by cases x;rw[fY t r (ReadsW.str s t)]|gw,_,_,x,r=>by cases x;rw[fY t r (ReadsW.bytes _ t)]|gy,_,_,x,r=>(by cases x with|lst hs ha=>cases r;obtain⟨aF,o,n,rv,ho,hc,hd⟩:=ax9 aR KX hs;rw[iI aR KX ReadsW.list])|gp,_,_,x,r=>(by cases x with|tup hs ha=>cases r;obtain⟨aF,o,n,rv,ho,hc,hd⟩:=aGN aR KX hs;rw[iI aR KX ReadsW.tuple])|gu,_,_,x,_=>de|gz,_,_,x,_=>de|gh,_,_,x,_=>de|gC,_,_,x,_=>de|gg,_,_,x,_=>de|gx,_,_,x,_=>de theorem g4(aR:d2)(KX:a?):∀(ds:bG)(vs:aM)(us:az),bC vs ds->bN vs us->∃as,ReadsAllW R cl h us ds as|[],_,_,x,r=>by cases x;cases r;exact #[_,ReadsAllW.nil]|d::ds,_,_,x,r=>by cases x with|bb h1 h2=>cases r with|bb r1 r2=>obtain⟨as,q1⟩:=g3 aR KX d _ _ h1 r1;obtain⟨bs,q2⟩:=g4 aR KX ds _ _ h2 r2;exact #[_,ReadsAllW.cons q1 q2]end
section z
mutual noncomputable def kX:bw->aH|bF=>ad|.c0 _=>ad|.aI _=>ad|.str _=>ad|.cu _=>ad|.list xs=>mO xs|.eg xs=>mO xs|_=>false noncomputable def mO:bG->aH|[]=>ad|x::r=>kX x&&mO r end
def z:={
Tb{α:Type}{f:α->bw}(h:∀a,ab (kX (f a))):∀l:ao α,ab (mO (cZ f))|[]=>rfl|x::r=>by show ab (kX (f x)&&mO (r.map f));rw[h x,Tb h r]<;>rfl
tI:∀(c:ee)(a:c.denote),ab (kX (c.enc a))|.unit,_=>rfl|.c0,_=>rfl|.aI _ _,_=>rfl|.nat _ _,_=>rfl|.u8,_=>rfl|.cu _ _,_=>rfl|.text _ _ _ _,_=>rfl|.list _ _ c,a=>Tb cP (tI c x) a|.pair c d,a=>by show ab (kX (c.enc a.1)&&di (kX (d.enc a.2)));rw[tI c a.1,tI d a.2]<;>rfl|.triple c d e,a=>by show ab (kX (c.enc a.1)&&(kX (d.enc a.2.1)&&di (kX (e.enc a.2.2))));rw[tI c a.1,tI d a.2.1,tI e a.2.2]<;>rfl|.option c,am=>rfl|.option c,Z x=>tI c x
X5:∀(cs:ao ee)(a:dN cs),av mO dP cs|[],_=>rfl|c::cs,a=>by show ab (kX (c.enc a.1)&&mO fL cs a.2);rw[tI c a.1,X5 cs a.2]<;>rfl
Ot:∀{xs:bG}{d:bw},d∈xs->g5<=ew xs|[],d,h=>c3 h|x::r,d,h=>by show g5<=x.weight+1+ew r;rw[dY (fw h) e];(.rw[e];exact aqe);.have z:=Ot m;exact Nat.le_add_left_of_le z
toV.1:ah->V|bF=>.cB|eR=>.bl b|.aI i _=>dk|.str x _=>gD|.cu b _=>.iY b|dj=>dj|_=>.cB
ml.1(A:ap):ah->Prop|bF=>aj|.c0 _=>aj|.aI _ _=>aj|.str _ _=>aj|.cu _ _=>aj|dj=>a∈A|_=>bi
ml.mono{A B:ap}(h:c1 a (a∈B)):∀{u:ah},ml A u->ml B u:=λ{u}x=>by cases u with|ref a=>exact h a x|am=>trivial|c0 b=>trivial|aI i t=>trivial|str s t=>trivial|cu b t=>trivial|_=>exact dZ
aiW{A:ap}{u:ah}(x:ml A u):cp (toV u) u:=by cases u with|ref a=>rfl|am=>rfl|c0 b=>rfl|aI i t=>exact #[t,rfl]|str s t=>exact #[t,rfl]|cu b t=>exact #[t,rfl]|_=>exact dZ
zJ{A:ap}:∀{vs:az},c5->bN eJ vs|[],_=>a4|u::r,h=>aV (aiW (h u dI)) (zJ λ x hx=>h x dF hx)
ng.1(h:ai)(A:ap)(a:aa):Prop:=∃vs:az,ig (dm a=Z bV\/bH bU)
ng.mono{h:ai}{A B:ap}(k:c1 a (a∈B))(x:ng h A a):ng h B a:=by obtain⟨vs,h1,h2,h3⟩:=x;exact #[vs,h1,λ u hu=>cj (h2 u hu) k,h3]
EN{P:b4}{h:ai}{vs:az}{ds:bG}(w:dQ):g0=ds.length:=by cases w with|nil=>rfl|bb _ b=>show _+1=_+1;rw[EN b]
ad9{P:b4}{h:ai}{v:ah}(x:eH v (.list ds)):em vs az (v=dj/\bH bV/\dQ):=h? list ho b_
YZ{P:b4}{h:ai}{v:ah}(x:eH v (.eg ds)):em vs az (v=dj/\bH bU/\dQ):=h? eg ho b_
abZ{P:b4}{h:ai}{d:bw}(x:ef P h us (d::ds)):∃(v:ah)(vs:az),us=v::vs/\eH v d/\dQ:=by cases x with|bb a b=>exact #[_,_,rfl,a,b]
Xx{n:ac}(h:n<=1048576):c4 n:=f9 h
}
section
variable{P:b4}{h:ai}
mutual theorem axh:∀(d:bw)(v:ah),eH v d->av kX d->et->∃A:ap,ml A v/\bW|bF,_,x,_,_=>by cases x;exact dD []|eR,_,x,_,_=>by cases x;exact dD []|dk,_,x,_,_=>by cases x;exact dD []|.str s,_,x,_,_=>by cases x;exact dD []|gw,_,x,_,_=>by cases x;exact dD []|gy,_,x,p,z=>by rw[fQ a b_ ad9];have z2:ew ds<=1048576:=z;obtain⟨A,h1,h2⟩:=Gi ds _ b_ p λ d hd=>fR Ot hd z2;have k:c1 b (b∈a::A):=ce b dF hb;rw[<-#[a::A,dI,ce b ?_],dY (fw hb) e];(.rw[e];exact #[vs,Xx (by rw[EN b_];exact h7 ds),λ u hu=>cj (h1 u hu) k,.inl ho]);.exact cj (h2 b m) k|gp,_,x,p,z=>by rw[fQ a b_ YZ];have z2:ew ds<=1048576:=z;obtain⟨A,h1,h2⟩:=Gi ds _ b_ p λ d hd=>fR Ot hd z2;have k:c1 b (b∈a::A):=ce b dF hb;rw[<-#[a::A,dI,ce b ?_],dY (fw hb) e];(.rw[e];exact #[vs,Xx (by rw[EN b_];exact h7 ds),λ u hu=>cj (h1 u hu) k,.inr ho]);.exact cj (h2 b m) k|gu,_,_,p,_=>bo|gz,_,_,p,_=>bo|gh,_,_,p,_=>bo|gC,_,_,p,_=>bo|gg,_,_,p,_=>bo|gx,_,_,p,_=>bo theorem Gi:iG dQ (∀d∈ds,et) (∃A:ap,c5/\bW)|[],_,x,_,_=>by cases x;exact #[[],λ u m=>c3 m,λ a m=>c3 m]|d::ds,_,x,p,z=>by rw[ia p];obtain⟨A,a1,a2⟩:=axh d v x1 q.1 (z d dI);obtain⟨B,b1,b2⟩:=Gi ds vs x2 q.2 λ e he=>z e dF he;have kA:c1 b (b∈A++B):=ce b iK (.inl hb);have kB:∀b∈B,b∈A++B:=ce b iK e_ hb;refine #[A++B,λ u hu=>?_,ce b ?_];(.rw[dY iW hu e];(.rw[e];exact a1.mono kA);.exact cj (b1 u m) kB);.rw[dY (jo hb) m];(.exact cj (a2 b m) kA);.exact cj (b2 b m) kB end
section z
def z:={
D_.1(o:Obj):bm HO:=match ea with|.seq vs _=>if ab (o.cls==ey)then Z (.iU o fP jG)else Z (.iU o fO jG)|_=>am
iO.1(K:ag)(h:ai)(A:ap):Hp:=λ b=>if b∈A then(if ab (jd).isNone then(gt).bind D_ else am)else am
xX.1(H:Hp):Prop:=∀b,bL\/∃o u,bX H fk
XE(vs:az):D_ bV=Z (.iU bV iZ):=by show(if ab (ey==ey)then Z (HO.iU bV ic)else Z (HO.iU bV ib))=_;rw[d8 (jI _)]
RL(vs:az):D_ bU=Z (.iU bU iX):=by show(if ab (gX "tuple"==ey)then Z (HO.iU bU ic)else Z (HO.iU bU ib))=_;rw[fu (by decide)]
}
section
variable{P:a6}{w:aD}{K:ag}{h:ai}{A:ap}
def z:={
Hy{o:Obj}(hb:b∈A)(hk:eA)(e:b'):iO K h A b=D_ o:=by unfold iO;rw[d8 hb,hk,d8 (show ab (am:eL).isNone from rfl),e]<;>rfl
awE(q:iO K h A b=Z u):b∈A/\eA:=by unfold iO at q;by_cases hb:b∈A;(.rw[d8 hb]at q;cases hk:jd with|am=>exact #[hb,rfl]|bR o=>rw[hk,fu (by simp)]at q;cases q);.rw[fu hb]at q;cases q
E5(ar:bW)(q:iO K h A b=Z u):eA/\∃vs:az,ig ((gt=Z bV/\u=.iU bV iZ)\/(gt=Z bU/\u=.iU bU iX)):=by obtain⟨hb,hk⟩:=awE q;obtain⟨vs,h1,h2,h3⟩:=ar b hb;refine #[hk,vs,h1,h2,?_];rcases h3 with e|e;(.rw[Hy hb hk e,XE]at q;rw[cJ #[e,iw]]);.rw[Hy hb hk e,RL]at q;rw[bJ #[e,iw]]
aqo(ar:bW):xX (iO K h A):=λ b=>by cases q:iO K h A b with|am=>rw[cJ au]|bR u=>obtain⟨_,vs,_,_,⟨_,e⟩|⟨_,e⟩⟩:=e!;(.rw[bJ #[_,_,by rw[e]]]);.rw[bJ #[_,_,by rw[e]]]
afO(ar:bW):dR P w df h:=λ b u q=>by obtain⟨_,vs,h1,h2,⟨e,rfl⟩|⟨e,rfl⟩⟩:=e!;(.exact #[e,by rw[io],vs,_,fg,e]);.exact #[e,by rw[io],vs,fg,_,e,rfl,_,rfl]
DA{c c':ah}(e:(Z {cls:=c,data:=.seq dn}:eL)=Z {cls:=c',data:=.seq fy}):c=c'/\vs=us:=by have e1:=fx e;have e2:c=c':=da Obj.cls e1;have e3:fz dn=fz fy:=da Obj.data e1;injection e3 with e4;refine #[e2,?_];have e5:=da Array.toList e4;simpa using e5
aEW(KX:a?)(ar:bW)(ha:a∈A)(e:bH bV):c5/\aC K df a eJ:=by obtain⟨us,h1,h2,h3⟩:=ar a ha;(have hu:us=vs:=by rcases h3 with q|q;(.rw[e]at q;exact fo.2.symm);.rw[ir (jK fo.1)]);subst hu;refine #[h2,?_];cases hk:cq a with|am=>rw[cJ e_ #[_,by rw[Hy ha hk e,XE]]]|bR o=>have e2:=KX a o hk;rw[e]at e2;obtain rfl:=fx e2;rw[bJ #[_,fy,_,hk,rfl,rfl,rfl,by rw[ij],by simpa using fg]]
alO(KX:a?)(ar:bW)(ha:a∈A)(e:bH bU):c5/\aJ K df a eJ:=by obtain⟨us,h1,h2,h3⟩:=ar a ha;(have hu:us=vs:=by rcases h3 with q|q;(.rw[ir (jK fo.1)]);.rw[e]at q;exact fo.2.symm);subst hu;refine #[h2,?_];cases hk:cq a with|am=>rw[cJ e_ #[_,by rw[Hy ha hk e,RL]]]|bR o=>have e2:=KX a o hk;rw[e]at e2;obtain rfl:=fx e2;rw[bJ #[_,fy,_,hk,rfl,rfl,by rw[ij],by simpa using fg]]
}
mutual theorem aBw{Pm:b4}(KX:a?)(ar:bW):∀(d:bw)(v:ah),Well Pm h v d->av kX d->ml A v->Dw K df (toV v) d|bF,_,x,_,_=>by cases x;exact .cB|eR,_,x,_,_=>by cases x;exact .bl b|dk,_,x,_,_=>by cases x;exact .aI i|.str s,_,x,_,_=>by cases x;exact .str s|gw,_,x,_,_=>by cases x;have z:=Dw.iY (K:=K) (H:=df) b.toArray;exact z|gy,_,x,p,hu=>by rw[jb ad9 aEW lst]|gp,_,x,p,hu=>by rw[jb YZ alO tup]|gu,_,_,p,_=>bo|gz,_,_,p,_=>bo|gh,_,_,p,_=>bo|gC,_,_,p,_=>bo|gg,_,_,p,_=>bo|gx,_,_,p,_=>bo theorem HF{Pm:b4}(KX:a?)(ar:bW):iG (ef Pm h vs ds) c5 (lP K df eJ ds)|[],_,x,_,_=>by cases x;exact a4|d::ds,_,x,p,hu=>by rw[ia p,aV (aBw KX ar d v x1 q.1 (hu _ dI)) (HF KX ar ds vs x2 q.2 λ u m=>hu u dF m)]end
section z
def z:={
aCk{P:a6}{w:aD}{K:ag}{mg mb:aP}{k:ac}{fa:aa}{fd:ed}{sp:Sp}{cv:aX}{b5:az}{R:jE}{cl:ax->bm aa}{d0:bw}(KX:K.In cy)(qU:fI g6 mg)(hb:g6 builtinsNs mb)(Pk:i5 x x (mb x))(agk:s₁.heap.NoLimit)(hg:s₁.gens=eD [])(Bq:ef fA cy b5 ds)(a_:av mO ds)(hwt:∀d∈ds,et)(hr:gj)(F:∀bc:ai,go->fN->bY ej K mg bc CX k fa fd ps sp)(anj:∀(s:aX)(us:az),g? fT)(hlen:dy ds.length)(jJ:∀(H:Hp)(xs:aM),xX H->bC xs ds->sp xs H eV (Dw K H' v d0) eN _ _ _)(A4:∀H e s',CX [] H cv gl e s'->bi):codeAny bY model fB (.call bd fa #[b5,[]]) (λ r s'=>∃u as,r=.ok (.ret u)/\ReadsW R cl ec u d0 as/\OldK cy ec/\s'.os=s₁.os/\i8) cv:=by obtain⟨A,ho,ar⟩:=Gi ds b5 Bq a_ hwt;have hO:xX (iO K cy A):=aqo ar;have aR:dR P w i3 cy:=afO ar;have hS:=HF KX ar ds b5 Bq a_ ho;have hV:=zJ ho;(have hK:bO u (f_=Z u->eA):=λ b u q=>e!.1;have yC:∀{b:aa}{o:Obj}{es:d? g7}{ep:ac},f1->ea=.dict es ep->a8 f_:=λ{b o es ep}e d=>by cases q:f_ with|am=>rfl|bR u=>obtain⟨_,vs,_,_,⟨e2,_⟩|⟨e2,_⟩⟩:=e!;(.rw[e2]at e;cases e;have d':fz dn _=Data.dict es ep:=d;cases d');.rw[e2]at e;cases e;have d':fz dn _=Data.dict es ep:=d;cases d');generalize i3=H at hO aR hS hK yC;have WB:∀{b:aa}{o:Obj},f1->bL->aY (dU).get? b:=λ e n=>aHf e n;(have Hg:∀{b:aa}{m:aP},g6 b m->(dU).Ns b m:=λ{b m}bx=>gN bx λ o es ep e d r=>#[o,es,ep,WB e (yC e d),d,r];have nK:bO o (aY cq b->bL):=λ b o e=>by cases q:H b with|am=>rfl|bR u=>rw[hK b u q]at e;cases e);have hKb:K.In dU:=λ b o e=>WB (KX b o e) (nK b o e);have hM:Mod K mg dU:=#[hKb,Hg qU,#[mb,Hg hb,Pk],let#[mc,h1,h2]:=agk;#[mc,Hg h1,h2]];(have e0:bY vH K mg dU fB [] cv H:=#[rfl,hM,λ b o e=>aIO e,Nat.le_of_eq (ars _ _),trivial,ce b c3 (show b∈([]:ap)from hb),aR,.of_eq hg];have hl:dy vals.length:=by rw[EN Bq];exact hlen);refine jL ((F _ hKb (Hg qU)).run fB [] cv H #[b5,[]] b5 (vals.map toV) _ _ hr e0 (anj cv b5 hl) hV (jJ H _ hO hS)) λ r s' x=>?_;cases r with|error e=>exact(A4 H e s' x).elim|ok fl=>cases fl with|next=>exact dZ|brk=>exact dZ|cont=>exact dZ|ret u=>obtain⟨v,H',os,bare,un,aby,r',q⟩:=x;(have kept:bO o (f1->aY s'.heap.get? b):=λ b o e=>by cases q2:H b with|am=>exact un.keep b o e q2 (by intro z;exact c3 (show b∈([]:ap)from z)) (by simp)|bR u2=>rcases hO b with z|⟨ob,u3,z⟩;(.rw[q2]at z;cases z);.have z2:=un.nU b ob _ z;obtain⟨e1,_⟩:=aR b _ z;obtain⟨e2,_⟩:=aby b _ z2;rw[e]at e1;cases e1;exact e2);have KX':K.In ec:=λ b o e=>kept b o (KX b o e);obtain⟨as,Vp⟩:=g3 (R:=R) (cl:=cl) aby KX' d0 v u q r';exact #[u,as,rfl,Vp,OldK.of_keep kept,os,bare]
aoy(h:iC ds):∀d∈ds,et:=λ d hd=>(PySem.W.layableW_iff.mp f3 h d hd).2.2
acm:∀(cs:ao ee)(a:dN cs),(dP cs).length=cs.length|[],_=>rfl|c::cs,a=>by show(fL cs a.2).length+1=cs.length+1;rw[acm cs a.2]
aIn{k:ac}{d:DefRec}{K:iN}{CX:aD->mY}{sp:aD->Sp}(JS:i7)(Yq:iM)(hlen:iy)(hr:gj)(hY:∀(w:aD)(h:ai),fV->dz h)(F:∀(w:aD)(mg:aP)(fa:aa)(h:ai),hN d.name (CX w) (sp w))(jJ:∀(w:aD)(H:Hp)(xs:aM)(a:dN cz),id (xX H) (lP c2 H xs dP cz) (sp w xs H eV (Dw c2 H' v f2) eN _ _ _))(A4:∀(w:aD)(H:Hp)(s:aX)(e:ah)(s':aX),CX w [] H s gl e s'->bi):iR q YP r:=by intro w ip cv mg mb G Y fa o pm cd doc dV kV ho hd gW hD Me hg b0 b5 as nZ asP Vp Bq p5;obtain⟨a,e1,e2⟩:=PySem.W.os_pre_some nZ;obtain⟨e3,Fo⟩:=Codec.encAll_of_decAll cz b0 a e1;subst e3;have KX:=hY w _ Y;obtain⟨fd,hb,hF⟩:=F w mg fa _ Y KX G.T.g Me;refine PySem.W.enter_call (jL (aCk (R:=[]) (cl:=classAt ip.heap) (d0:=f2) KX G.T.g G.T.b G.T.builtins G.T.nolimit hg Bq (X5 _ _) (aoy asP) hr hF hb (by rw[acm];exact hlen) (λ H xs hO hS=>jJ w H xs a hO Fo e2 hS) λ H e s'=>A4 w H cv e s') λ r' s' hq=>?_);obtain⟨u,as',rfl,h1,h2,h3,h4⟩:=hq;exact #[.inl #[u,_,as',rfl,λ _=>rfl,h1,(OpenSpec.post_iff JS Fo _ _).mpr au,λ z=>g' (show false=ad from z)],h2,h3,h4]
aMy{k:ac}{d:DefRec}{K:iN}{sp:ag->Sp}(JS:i7)(Yq:iM)(hlen:iy)(hr:gj)(hY:∀(w:aD)(h:ai),fV->dz h)(F:∀(w:aD)(mg:aP)(fa:aa)(h:ai),hN d.name CX (sp (K fA)))(jJ:∀(K:ag)(H:Hp)(xs:aM)(a:dN cz),id (xX H) bC xs dP cz (sp K xs H eV (Dw K H' v f2) eN _ _ _))(A4:∀(H:Hp)(s:aX)(e:ah)(s':aX),CX [] H s gl e s'->bi):iR q YP r:=aIn (K:=K) (CX:=λ _=>CX) (sp:=λ w=>sp (K fA)) JS Yq hlen hr hY F (λ w H xs a h1 h2 h3 h4=>jJ c2 H xs a h1 h2 h3 h4) λ _ H s e s'=>A4 H s e s'
}
section _L
section z
namespace _P
open aQ bQ bh _L _M
section
variable{K:ag}{h:ai}{mg:aP}
variable{od an:c?}{sl:eF}{x bT:ax}{n:ac}{f C:aa}{oc doc aK pm ct:ah}{st:I}{l:aE}
def z:={
aM4(X:a?)(G:cF){n:ak}{t:Tok}(e:dE Z (.aI n t)):GI mg x n:=#[t,g8 X G e]
aMY(X:a?)(G:cF){kV:ah}(a:dE cH)(l:dH f dL sl)(c:dJ)(k:c6):dO (mg x=Z b8) (fZ K x) bT:=gB eu l c
aMD{kV:ah}(a:dA x=Z cH)(i:en)(l:dH f dL sl)(c:dJ)(k:c6):dO (mL K C x f) (fZ K x) bT:=gB #[a,i,k] l c
aMW{kV:ah}(m:iv)(kc:iD bd C)(a:h!=Z cH)(i:en)(l:dH f (jC "__init__" bT (jA st) (cw st) (aw st) bF kV doc pm an aK ct) sl)(c:dJ)(k:c6):dO (Mk K C f) (fZ K "__init__") bT:=gB #[m,a,i,kc] l c
}
section z
section
variable{K:ag}{h:ai}{mg:aP}
def z:={
wD.1:aE->az->aH|[],[]=>ad|n::l,.aI i _::r=>cC (i=(n:ak))&&wD l r|_,_=>false
aCc:iE aE wD vN:=by intro l;induction l with|nil=>rw[iH vs _ _]|bb a l ih=>(intro vs e;rcases vs with _|⟨v,r⟩;.cases e);cases v with|aI i t=>rw[ie e];have q:=of_decide_eq_true e.1;subst q;exact aV #[t,rfl] (ih e.2)|_=>cases e
GO{p:aa}(lk:dC p)(hv:cG eb (wD l cY))(H:Hp):bn p (cZ vN):=by rw[eo g9 hv,bJ (pf _ aF n lk au au f9 hv.1 (aCc hv.2))]
aM2(X:a?)(G:cF){p:aa}(a:dE Z eW)(lk:dC p)(hv:cG eb (wD l cY)):dg x l:=(af p eu (GO lk hv))
EH.1:ap->az->aH|[],[]=>ad|a::l,.ref b::r=>d1 b&&EH l r|_,_=>false
aAe:iE ap EH V.ref:=by intro l;induction l with|nil=>rw[iH vs _ _]|bb a l ih=>(intro vs e;rcases vs with _|⟨v,r⟩;.cases e);cases v with|ref b=>rw[ie e];have q:=jM e.1;subst q;exact aV au (ih e.2)|_=>cases e
adF{p:aa}{l:ap}(lk:dC p)(hv:cG eb (EH l cY))(H:Hp):bn p (cZ V.ref):=by rw[eo g9 hv,bJ (pf _ aF n lk au au f9 hv.1 (aAe hv.2))]
oi.1(K:ag):cb->ap->Prop|[],[]=>aj|fb,f::fs=>dE cH/\eM|_,_=>bi
aNk:oi K [] []:=trivial
aMx{xs:cb}{fs:ap}(h:dE cH)(r:eM):oi K (x::xs) (f::fs):=#[h,r]
oi.at_(X:a?)(G:cF):∀{xs:cb}{fs:ap},eM->hH f n xs|[],[],_,i,f,n,e,_=>by simp at e|[],_::_,h,_,_,_,_,_=>fF|_::_,[],h,_,_,_,_,_=>fF|fb,f'::fs,h,0,f,n,e,e'=>by cases e;cases e';exact g8 X G h.1|fb,f'::fs,h,i+1,f,n,e,e'=>oi.at_ X G h.2 i f n i? e i? e'
oi.len:∀{xs:cb}{fs:ap},eM->gY=xs.length|[],[],_=>rfl|[],_::_,h=>fF|_::_,[],h=>fF|fb,f::fs,h=>by rw[jN,jN,oi.len h.2]
aMt(X:a?)(G:cF){p:aa}{fs:ap}(hn:oi K Be fs)(a:fK "RULES"=Z Z eW)(lk:dC p)(hv:cG eb (EH fs cY)):hP fs mg Be:=(ji p fs eu (adF lk hv) hn.len (hn.at_ X G))
aM8(X:a?)(G:cF){p t0 t1 t2:aa}{od0 od1 od2:c?}{i0 i1 i2:fS}{n0 n1 n2:ac}{s0 s1 s2:eF}(a:fK "FIRST_NAMES"=Z Z eW)(lk:dC p)(hi:aF=eD [bd t0,.ref t1,.ref t2])(l0:dw t0 #[.cX "tuple",od0,.seq i0 n0,s0])(v0:cG i0.size (wD [90,122,122,122] i0.toList))(l1:dw t1 #[.cX "tuple",od1,.seq i1 n1,s1])(v1:cG i1.size (wD [90,121,121,121] i1.toList))(l2:dw t2 #[.cX "tuple",od2,.seq i2 n2,s2])(v2:cG i2.size (wD [90,105,110,104] i2.toList)):∃a t0 t1 t2,ik mg/\(∀H,bn a [bd t0,.ref t1,.ref t2])/\h8 t0/\h9 t1/\∀H,bn t2 iz:=by subst hi;exact(BC p t0 t1 t2 eu (adF (l:=[t0,t1,t2]) lk (by show ab (_&&(fD t0 t0&&(fD t1 t1&&di (fD t2 t2))));rw[eh,eh,eh];rfl)) (GO l0 v0) (GO l1 v1) (GO l2 v2))
}
section z
section _P
namespace _P
open aQ bQ bh _L _M
open cT(g2 ee)
def z:={
asl{l:aB}(h:∀x∈l,0<=x):zs (cZ Int.toNat)=l:=by unfold zs;rw[g_];exact(iL λ x hx=>iP (h x hx)).trans (List.map_id l)
aMw(K:ag)(H:Hp)(xs:aM)(a:dN fG)(hO:xX H)(Fo:hj fG a)(Ny:ab hW PySem.Challenge.rw_brokenlinesdesk_s01_answers.asked)(hx:bC xs dP fG):Ex K xs H eV (Dw K H' v (PySem.Challenge.rw_brokenlinesdesk_s01_answers.ret.enc hW PySem.Challenge.rw_brokenlinesdesk_s01_answers.f)) eN _ _ _:=by cases hx with|bb h1 h2=>cases h2;cases h1 with|lst hs ha=>have e:=_L.aec a.1 _ ha;subst e;have q:ab di (Codec.inLen 0 31700 a.1&&a.1.all (jP 0 4294967295)):=Fo;rw[eo cn q];(have hp:∀x∈a.1,0<=x:=λ x hx=>by have:=f3 q.1.2 x hx;unfold jP at aS;simp only[cn,g9]at aS;exact aS.1);have ez:=asl hp;(refine(ji _ i_ a.1 au ?_ ?_ (λ H' p nH=>.lst (_L.aC.of nH) ?_));(. (have:a' i_ a.1 vN=a' a.1 V.int:=by rw[g_];exact iL λ x hx=>da V.int iP (hp x hx));rw[aS];exact hs);.rw[ez];exact Ny);.rw[ez];exact _L.Q1 _
}
section _P
namespace cT
open aQ PySem.Calls bh
def z:={
HE.1:Obj->bm Obj|#[_,_,.freed,_]=>am|o=>Z o
zL.1:ap->ac->ao Obj->ao eL|[],_,_=>[]|d3,_,[]=>am::as.map λ _=>am|d3,i,o::os=>match d1 i with|ad=>HE o::zL as cm os|false=>zL fe cm os
nV.1:ac->aE->aH|_,[]=>ad|i,d3=>gS i a&&nV fq as
EG:∀{as:aE}{i:ac},ab (nV i as)->∀a∈as,i<=a|[],_,_,a,h=>by cases h|b::as,i,h,a,ha=>by unfold nV at h;rw[cn]at h;have h1:=gJ h.1;rcases iW ha with rfl|ha;(.exact h1);.have:=EG h.2 a ha;omega
afr{a b:ac}(h:a+1<=b):b - a=(b - fq)+1:=(Nat.succ_pred_eq_of_pos (Nat.sub_pos_of_lt h)).symm
IT:∀(os:ao Obj)(as:aE)(i:ac),ab (nV i as)->zL as i os=as.map λ a=>(os[a - i]?).bind HE|os,[],i,_=>by cases os<;>rfl|[],d3,i,_=>by show am::as.map _=_;simp|o::os,d3,i,h=>by have fU:=EG h a (by simp);show(match d1 i with|ad=>HE o::zL as cm os|false=>zL fe cm os)=_;cases e:d1 i with|ad=>have e':a=i:=jM e;subst e';(have h2:ab (nV fq as):=by unfold nV at h;rw[cn]at h;exact h.2);dsimp only;rw[IT os as fq h2,gK];congr 1;(.simp);.rw[ii b (EG h2 b hb) (afr aS)]|false=>((have e':a≠i:=λ q=>by subst q;rw[eh]at e;cases e);have h2:ab (nV cm fe):=by unfold nV at h⊢;rw[cn]at h⊢;exact #[Nat.ble_eq_true_of_le (Nat.lt_of_le_of_ne fU (Ne.symm e')),h.2]);dsimp only;rw[IT os fe cm h2];rw[ii b (EG h2 b hb) (afr aS)]
aJI(h:ai)(a:aa):dm a=(h.objs.toList[a]?).bind HE:=by unfold Heap.get?;rw[Array.getElem?_toList];cases e:h.objs[a]? with|am=>rfl|bR o=>obtain⟨c,d,dt,sl⟩:=o;cases dt<;>rfl
zc.1(K:gi)(as:ap)(e:∀P,as=eE (K P))(hi:av (nV 0) as):Hook:=#[ao eL,λ s=>zL as 0 s.heap.objs.toList,λ w=>a' c2 λ p=>Z p.2,InK K,λ w s x=>InK.of e w s (by rw[<-x,IT _ _ _ hi];rw[hh];intro a _;rw[aJI];rfl),InK.keeps]
}
section cT
namespace _P
open aQ cT
def z:={
kS.1:ah->cA|.str s _=>s|_=>#[(eD [])]
kC.1(s:cA):ac:=s.cps.toList.foldl (λ a c=>a*256+c) 1
nd.1:aE->aH|[]=>ad|a::l=>l.all (λ b=>!d1 b)&&nd l
Zf{v:ah}{n:cA}(h:av v.isStr n):kS v=n:=by cases v with|str s t=>exact eq_of_beq h|_=>cases h
aBT{a:ac}{l:aE}(h:av nd (a::l)):a∉l/\av nd l:=by have h:=d! h;refine #[λ m=>?_,h.2];have:=jy h.1 a m;rw[eh]at aS;cases aS
VU{n:cA}{e:g7}(he:av e.key.isStr n):∀{L:i9}{i:ac},ab (nd (L.map λ e=>kC (kS e.key)))->L[i]?=Z e->L.find? (·.key.isStr n)=Z e|[],_,_,h=>by cases h|x::L,0,_,h=>by cases h;exact List.find?_cons_of_pos he|x::L,i+1,hd,h=>by have hd:=aBT hd;have hm:e∈L:=List.mem_of_getElem? h;refine(List.find?_cons_of_neg λ q=>hd.1 (jp #[e,hm,?_])).trans (VU he hd.2 h);exact da kC ((Zf he).trans (Zf q).symm)
D8.1(K:Frag):i9:=match cq fv with|Z #[_,_,.dict es _,_]=>es.toList|_=>[]
Nq.1(K:Frag):Prop:=∀(i:ac){h:ak}{t:Tok}{v:ah}{n:cA},gF[i]?=Z #[h,.str n t,v]->nsIn K fv n=Z Z v
aMT{K:Frag}{hp:ai}(_:K.In hp)(ks:c!)(hn:ab (nd (ks.map kC)))(hk:ks=a' gF λ e=>kS e.key):Nq K:=by intro i h t v n hi;have hf:=VU (n:=n) (e:=#[h,.str n t,v]) (jI n) (L:=gF) (i:=i) (by rw[<-hn,hk,g_];rfl) hi;unfold D8 at hf;unfold nsIn;split at hf;(.rename_i es _ _ e;rw[e];show(match es.toList.find? (·.key.isStr n)with|Z e=>Z Z e.val|am=>if es.toList.any (·.refKey)then am else Z am)=_;rw[hf]);.cases hf
}
section _P
namespace _P
open aQ
def z:={
viewQ.1:a6:={je with main:={PySem.Challenge.pw_brokenlinesdesk_s01_answers.main with body:=[jD 375 ge]}}
looseL.1:c!:=h_ ["__name__","has_bit","PROPERTIES","MAPS","SEQUENCES","COMBINING","GENERAL","CLUSTER","CONJUNCT","LINE","WIDTH","DIRECTION","BRACKET","SCRIPT","DIGIT","FLAGS","CANONICAL","COMPATIBILITY","UPPER","LOWER","TITLE","FOLD","SIMPLE_FOLD","MIRROR","PARTNER","PROTOTYPE","EXTENSIONS","WEIGHTS","CONTRACTIONS","WORDS","WHOLES","CN","MN","MC","ME","PI","PF","CC","CF","LINKER","CONSONANT","CONJUNCT_EXTEND","AMBIGUOUS","HALF","WIDE","FULL","NEUTRAL","UPPERCASE","LOWERCASE","CASED","ID_START","ID_PART","IGNORABLE","PICTOGRAPHIC","MIRRORED","NEVER_COMPOSED","SPARE","LAST_SCALAR","FIRST_SURROGATE","LAST_SURROGATE","FIRST_LEADING","LAST_LEADING","FIRST_VOWEL","LAST_VOWEL","BEFORE_TRAILING","LAST_TRAILING","FIRST_SYLLABLE","LAST_SYLLABLE","SYLLABLES_OF_VOWEL","SYLLABLES_OF_LEADING","is_scalar","all_scalars","is_leading","is_vowel","is_trailing","is_syllable","is_lv_syllable","is_hangul","syllable_step","PROPERTY_COUNT","MAP_COUNT","SEQUENCE_COUNT","STEPS_MOST","SCALARS_MOST","range_records","map_records","sequence_records","lookup","Book","XX","AI","AK","AL","AP","AS","B2","BA","BB","BK","CB","CJ","CL","CM","CP","CR_classes","EB","EM","EX","GL","H2","H3","HL","HY","ID","IN","IS","JL","JT","JV","LF_classes","NL","NS","NU","OP","PO","PR","QU","RI_classes","SA","SG","SP","SY","VF","VI","WJ","ZW","ZWJ_classes","first_class","resolved_class","line_class","stands_alone","NONE","CHANCE","MUST","are_marks","first_must","chances_behind","RING","SOFT","NOTHING","Unit","no_unit","is_east","make_unit","unit_end","units_of","UNKNOWN_COST","NO_PIECE","in_row","piece_cost","least_pieces","row_cuts","word_cuts","SILENT","is_letter","is_ideograph","is_korean","unit_at","last_no_space","Place","none_if","rule_1","rule_2","rule_3","rule_4","rule_5","rule_6","rule_7","rule_8","rule_9","rule_10","rule_11","rule_12","rule_13","rule_14","rule_15","rule_16","rule_17","rule_18","rule_19","rule_20","digits_before","digits_end","rule_21","syllable_goes_on","rule_22","rule_23","is_kernel","rule_24","rule_25","rule_26","indicators_up_to","rule_27","rule_28","RULES","verdict","marks_of","CR_clusters","LF_clusters","CONTROL","EXTEND_clusters","ZWJ_clusters","RI_clusters","PREPEND","SPACING_MARK_clusters","L","V","T","LV","LVT","cluster_class","conjunct_class","is_pictographic","Signs","syllable_joins","conjunct_joins","picture_joins","indicator_joins","is_joined","cluster_ends","TAB","scalar_width","Sheet","cluster_width","row_width","line_measure","NOWHERE","farthest_fit","line_end","filled_lines","UNNAMED_SCRIPTS","firsts_end","canonical_steps_end","canonical_row_without_hangul","scalar_is_no_hangul","range_without_hangul","taken_apart_in_order","has_no_canonical_row","ends_by_k","composes_alone","folded_stays","simply_folded_stays","goes_both_ways","mirror_holds","partner_holds","brackets_have_partners","digits_stand_in_tens","script_count","script_is_named","scripts_are_named","prototype_stays","clauses_20_to_30","OTHER","EXTEND_rules_31_to_41","ZWJ_rules_31_to_41","SPACING_MARK_rules_31_to_41","VOWEL","VARIABLE","scalars_of","flags_agree","combining_extends","as_the_first","conjuncts_follow","second_follows","canonical_row_stays_cluster","first_weight","second_weight","third_weight","is_first_weight_alone","weights_fit","variable_fits","weights_hold","contraction_holds","weighed_has_no_step","scalar_is_cased","letter_case_is_cased","scalar_has_no_class","folded_by_k","folding_settles","conjuncts_hold","pictures_hold","clauses_31_to_41","broken_clause","line_badness","summed","least_ends","ragged_lines","VALUE_MOST","ROW_MOST","KEY_LEAST","KEY_MOST","COMES_TO_MOST","SCRIPTS_END","NUMBERS_END","WALKED_MOST","NAMES_MOST","FIRST_NAMES","touch","range_rule","broken_range","rises","row_fits","map_rule","map_end","key_at","comes_to_rule","sequence_rule","sequence_end","broken_among","is_capital","is_small","is_name","name_fits","broken_name","is_walked","broken_walk","broken_record","BREAK_ALL","KEEP_ALL","WORDS_ASKED","EASTERN","SPLIT","STRICT","LOOSE","KNOWN_BITS","is_ways","Ways","TOO_MUCH","BROKEN","WRONG","BOOK_MOST","TEXT_MOST","COLUMNS_MOST","refusal","lines_refusal","Desk","BOOK_CALL","CHANCES_CALL","WIDTH_CALL","FILL_CALL","RAGGED_CALL","MEASURE_CALL","UnknownCall","Reader","text_answer","lines_answer","answer_of"]
}
open cT bh
def z:={
aHa.1:c!:=_P.looseL.take 1++h_ ["__doc__","__package__","__loader__","__spec__","__annotations__","__builtins__","__file__","__cached__"]++_P.looseL.drop 1++([jQ "answers"]:c!)
aNg:ab (_P.nd (_P.aHa.map _P.kC)):=aL
aMB{K:gi}{as:ap}{e:∀P,as=eE (K P)}{hi:av (nV 0) as}{w:aD}{h:ai}(Y:(dh).says w h):dz h:=Y
okV:ab (chainsOk fH&&opensWell jR):=aL
SF.1:Prop:=∀(P:a6)(w:aD)(K:Frag)(mg:cA->bm ah)(c:_P.Cs)(fa:aa),_P.Fs K mg c->_P.Ts K mg->bA (mg "answers") fa->hG (us.length=(["calls"]:c!).length->g1 s fd #[us,[]] ((["calls"]:c!).zip us)) go (bY _L.ej K mg bc _L.eK 13 fa fd ["calls"] (_P.Ex K))
Wr.1(_:_P.SF)(p:Prop):Prop:=p
hd(hF:_P.SF){K:gi}{as:ap}(e:∀P,as=eE (K P))(hi:av (nV 0) as){N:ac}{d:DefRec}{pZ:ao (cA×PySem.Expr)}(l:LeftO jR fH _P.looseL (λ s=>recOk [] s) (Hook.obs dh) (Hook.val dh) N)(h1:defOf fH jS=Z (d,pZ))(h2:PySem.Challenge.rw_brokenlinesdesk_s01_answers.prog.theDef jS=Z (d.params,d.body,d.scope))(h3:kwWritten? d.params.kwonlyargs d.params.kw_defaults=Z pZ)(hw:∃b0,av PySem.Challenge.rw_brokenlinesdesk_s01_answers.pre b0/\iC b0)(hc:_P.Wr hF (WalkOS fH _P.looseL (λ _ _=>aj) (Hook.says dh) PySem.Challenge.rw_brokenlinesdesk_s01_answers d pZ λ f vs=>hJ f)):PySem.Challenge.rw_brokenlinesdesk_s01_answers.Holds:=holds_os l (Hook.of dh) (Hook.keeps dh) (λ _ _=>trivial) (λ _ _ _ _ _=>trivial) h1 h2 h3 (λ s e=>recFacts_of e) os_shapes _P.azs _P.okV _P.aKQ hw hc
}
section _P
end
namespace PySem.W.Fast
mutual section
def o:=[0]
def tree:=[7,17,45,102,224,305,309,357,413,485,543,636,729,779,835,889,967,1056,1133,1220,1273,1359,1415,1452,1522,1537,1595,1609]
def sts:=[9,18,46,103,309,311,358,414,486,544,637,730,780,836,890,968,1057,1134,1221,1274,1360,1416,1453,1523,1538,1596]
def heap:=[1,6,1610]
def env:=[1]
def tw:=[8114352165496834386,2279190212139269565,10235684441971954998]
end
end PySem.W.Fast
section
set_option tactic.hygienic true
set_option bootstrap.genMatcherCode true
set_option genSizeOf true
set_option genSizeOfSpec true
set_option maxHeartbeats 0
open PySem PySem.W PyProof.Rows
local macro_rules
  | `(tactic| refine $t) => let a := t.raw[1].getArgs; if a.size < 20 then Lean.Macro.throwUnsupported else let g (x : Lean.Syntax) : Lean.TSyntax `term := ⟨x⟩; let h := a[4]![3][1][0][1][1]; `(tactic| refine' _P.hd $(Lean.mkIdent `hF) (K := $(g h[0])) (as := $(g h[1])) $(g h[2]) (by decide +kernel) (N := $(g a[7]![3])) $(g a[8]!) (by rfl) (by rfl) (by rfl) $(g a[21]!) $(g a[22]!))
local macro_rules | `(-$n:num) => `(_P.aM4 $(Lean.mkIdent `KX) $(Lean.mkIdent `G) ($(Lean.mkIdent `nq) $n rfl)) | `(-$s:str) => do
  let k ← `(by k_is)
  match s.getString with | "z" => `(PySem.W.mg_none_of $(Lean.mkIdent `KX) $(Lean.mkIdent `G) $k) | "c" => `(⟨$k, $k, $k, $k⟩) | "n" => `(by ((show PySem.W.findIn _ _ _ = _); k_is)) | "i" => `(_P.aMW $k $k $k $k $k $k $k) | _ => `(_P.aMD $k $k $k $k $k)
local macro_rules | `(!$n:num) => do
  let k ← `(by k_is)
  `(by as_aux_lemma=>exact _P.aMY $(Lean.mkIdent `KX) $(Lean.mkIdent `G) ($(Lean.mkIdent `nq) $n rfl) $k $k $k)
local macro_rules | `(~~~$n:num) => `(by as_aux_lemma=>exact PySem.W.mg_of $(Lean.mkIdent `KX) $(Lean.mkIdent `G) ($(Lean.mkIdent `nq) $n rfl))
set_option maxHeartbeats 0 in
theorem _P.headAll (hF : _P.SF) : PySem.Challenge.rw_brokenlinesdesk_s01_answers.Holds := by
  w_on; k_headS; (case hw => exact ⟨[.list [.int 3, .int 0, .int 0]], by decide +kernel, by decide +kernel⟩)
  k_fillS
  unfold _P.Wr
  refine _L.aMy (r := PySem.Challenge.rw_brokenlinesdesk_s01_answers) (k := 13) (CX := _L.eK) (ps := ["calls"]) (sp := _P.Ex) _P.azs rfl rfl ⟨rfl, by decide, by decide⟩ (fun w h Y => _P.aMB Y) ?F _P.aMw (fun _ _ _ _ z => z)
  case F =>
    intro w mg fa h Y KX G Me
    have nq := _P.aMT KX _P.aHa _P.aNg rfl
    refine hF _ _ _ _ ⟨218, 284, 408, 699, 765, 1312, 1394, 1449⟩ _ ?_ ?_ Me
    · exact ⟨(by as_aux_lemma=>exact⟨-10,-11,-12,-13,-14,-15,-16,-17,-18,-19,-20,-21,-22,-23,-24,-25,-26,-27,-28,-29,-30,-31,-32,-33,-34,-35,-36,-37,-38,-39,-40,-41,-42,-43,-44,-45,-46,-47,-48,-49,-50,-51,-52,-53,-54,-55,-56,-57,-58,-59,-60,-61,-62,-63,-64,-65,-66,-67,-68,-69,-70,-71,-72,-73,-74,-75,-76,-77,-87,-88,-89,-90,-91,-97,-98,-99,-100,-101,-102,-103,-104,-105,-106,-107,-108,-109,-110,-111,-112,-113,-114,-115,-116,-117,-118,-119,-120,-121,-122,-123,-124,-125,-126,-127,-128,-129,-130,-131,-132,-133,-134,-135,-136,-137,-138,-139,-140,-141,-142,-143,-144,-149,-150,-151,-155,-156,-157,-164,-165,-171,-215,-216,-217,-218,-219,-220,-221,-222,-223,-224,-225,-226,-227,-238,-244,-248,-270,-271,-272,-273,-274,-275,-310,-311,-312,-313,-335,-336,-337,-338,-339,-340,-341,-342,-345,-346,-347,-348,-349,-350,-354,-355,-356,-357,-358,-359,-"z",-"z",-"z",-"z",-"z",-"z",-"z",-"z",-"z"⟩),!9,!78,!79,!80,!81,!82,!83,!84,!85,!86,!92,!93,!94,!95,!145,!146,!147,!148,!152,!153,!154,!159,!160,!161,!162,!163,!166,!167,!168,!169,!170,!172,!173,!174,!175,!176,!178,!179,!180,!181,!182,!183,!184,!185,!186,!187,!188,!189,!190,!191,!192,!193,!194,!195,!196,!197,!198,!199,!200,!201,!202,!203,!204,!205,!206,!207,!208,!209,!210,!211,!213,!214,!228,!229,!230,!232,!233,!234,!235,!236,!237,!239,!241,!242,!243,!245,!246,!247,!249,!250,!251,!252,!253,!254,!255,!256,!257,!258,!259,!260,!261,!262,!263,!264,!265,!266,!267,!268,!269,!276,!277,!278,!279,!280,!281,!282,!283,!284,!285,!286,!287,!288,!289,!290,!291,!292,!293,!294,!295,!296,!297,!298,!299,!300,!301,!302,!303,!304,!315,!316,!317,!318,!319,!320,!321,!322,!323,!324,!325,!326,!327,!328,!329,!330,!331,!332,!333,!334,!343,!351,!352,!362,!363,!364,!365,~~~96,(by as_aux_lemma=>exact⟨-"c",-"n",-"n",-"n",-"n",-"n",-"n",-"i",-"m",-"m",-"m",-"m",-"m",-"m",-"m",-"m",-"m",-"m",-"m",-"m",-"m",-"m",-"m"⟩),~~~158,(by as_aux_lemma=>exact⟨-"c",-"n",-"n",-"n",-"n",-"n",-"n",-"n",-"n",-"n",-"n",-"n",-"i"⟩),~~~177,(by as_aux_lemma=>exact⟨-"c",-"n",-"n",-"n",-"n",-"n",-"n",-"n",-"n",-"n",-"n",-"i"⟩),~~~231,(by as_aux_lemma=>exact⟨-"c",-"n",-"n",-"n",-"i"⟩),~~~240,(by as_aux_lemma=>exact⟨-"c",-"n",-"n",-"n",-"n",-"n",-"n",-"i"⟩),~~~344,(by as_aux_lemma=>exact⟨-"c",-"n",-"n",-"n",-"n",-"n",-"n",-"n",-"n",-"i"⟩),~~~353,(by as_aux_lemma=>exact⟨-"c",-"n",-"i",-"m",-"m",-"m",-"m",-"m",-"m",-"m"⟩),~~~361,(by as_aux_lemma=>exact⟨-"c",-"n",-"n",-"i",-"m",-"m",-"m"⟩)⟩
    · exact ⟨by as_aux_lemma=>exact _P.aMt KX G (_P.aMx (nq 179 rfl) (_P.aMx (nq 180 rfl) (_P.aMx (nq 181 rfl) (_P.aMx (nq 182 rfl) (_P.aMx (nq 183 rfl) (_P.aMx (nq 184 rfl) (_P.aMx (nq 185 rfl) (_P.aMx (nq 186 rfl) (_P.aMx (nq 187 rfl) (_P.aMx (nq 188 rfl) (_P.aMx (nq 189 rfl) (_P.aMx (nq 190 rfl) (_P.aMx (nq 191 rfl) (_P.aMx (nq 192 rfl) (_P.aMx (nq 193 rfl) (_P.aMx (nq 194 rfl) (_P.aMx (nq 195 rfl) (_P.aMx (nq 196 rfl) (_P.aMx (nq 197 rfl) (_P.aMx (nq 198 rfl) (_P.aMx (nq 201 rfl) (_P.aMx (nq 203 rfl) (_P.aMx (nq 204 rfl) (_P.aMx (nq 206 rfl) (_P.aMx (nq 207 rfl) (_P.aMx (nq 208 rfl) (_P.aMx (nq 210 rfl) (_P.aMx (nq 211 rfl) _P.aNk)))))))))))))))))))))))))))) (nq 212 rfl) (by k_is) rfl,by as_aux_lemma=>exact _P.aM2 KX G (nq 305 rfl) (by k_is) rfl,by as_aux_lemma=>exact _P.aM2 KX G (nq 306 rfl) (by k_is) rfl,by as_aux_lemma=>exact _P.aM2 KX G (nq 307 rfl) (by k_is) rfl,by as_aux_lemma=>exact _P.aM2 KX G (nq 308 rfl) (by k_is) rfl,by as_aux_lemma=>exact _P.aM2 KX G (nq 309 rfl) (by k_is) rfl,by as_aux_lemma=>exact _P.aM8 KX G (nq 314 rfl) (by k_is) rfl (by k_is) rfl (by k_is) rfl (by k_is) rfl⟩
end
mutual section
def z:={
Y:=Nat
ad:=Int
kB:=False
uU:=Int.toNat
gu:=us.length
oi:=congrFun
uV:=congrArg
bH:=last
kC:=Range
qI:=Fault
ca:=some
gv:=l.drop
y6:=List.getElem?_eq_some_iff.mp
lI:=error
ak:=none
kE:=firstOf
ol:=needs
y7:=PROPS
eu:=scalar
qK:=most
im:=next
om:=propsIn
Uz:=Except.error
y8:=Option.some.inj
kG:=List.range
bz:=map
u1:=List.range_succ
df:=List.map_append
oo:=p.length
qL:=p.drop
kH:=List.getD_eq_getElem?_getD
No:=List.getElem?_eq_getElem
UA:=Nat.lt_of_add_right_lt
UB:=Nat.lt_of_succ_lt
UC:=Nat.lt_of_succ_le
UD:=Nat.zero_le
fO:=hlen
Fc:=length
io:=List.length_drop
UE:=Nat.zero_lt_sub_of_lt
UF:=Nat.lt_irrefl
Nq:=Nat.not_lt.mpr
UG:=Nat.le_add_left
bP:=l.length
UH:=Nat.succ_le_of_lt
u2:=List.drop_eq_nil_of_le
u3:=l.take
Fd:=mapMost
Fe:=mapFine
gw:=mapsIn
kI:=r.drop
d3:=take
Nr:=keyLeast
Ff:=keyMost
ir:=before
y9:=toMost
lJ:=r.length
gx:=seqsIn
kJ:=drop
oq:=headD
aL:=Bool
au:=true
ag:=rfl
aX:=pos
qN:=value
fa:=Bool.and_eq_true
i5:=decide_eq_true_eq
lM:=Option.all_some
u4:=Option.bind_some
lN:=if_pos
y_:=Nat.lt_of_le_of_ne
al:=this
bt:=nil
aQ:=cons
Nt:=List.mem_cons.mp
u5:=trans
or:=List.length_take
Fg:=Nat.min_eq_left
y':=le_of_eq_of_le
UK:=ms.Pairwise
cu:=zero
cv:=succ
Fi:=Bool.or_eq_true
lP:=beq_iff_eq
Fj:=Nat.lt_trans
Nu:=Nat.lt_of_lt_of_eq
UL:=lt_of_eq_of_lt
ot:=least
Fl:=Nat.le_of_lt
u6:=List.all_eq_true
qO:=absurd
lQ:=pick
UM:=List.zipIdx_append
Nv:=List.filterMap_append
y!:=List.filterMap_cons
Nw:=List.filterMap_nil
Fm:=Nat.zero_add
ou:=if_neg
Nx:=snoc_ind
Ny:=List.reverse_cons
qP:=List.length_map
u7:=byKind
ox:=getD
qQ:=List.getElem?_map
Fn:=List.getElem?_set_self
NA:=List.getElem?_set_ne
oy:=List.append_nil
iu:=List.getElem?_eq_none
gy:=Nat.le_of_not_lt
NB:=List.length_set
qR:=sumTo
lS:=sum_append
ND:=List.cons_append
iw:=List.sum_cons
i6:=List.length_append
gA:=List.length_cons
u8:=List.length_nil
Fo:=l.Pairwise
UN:=List.pairwise_cons.mp
NE:=l.find?
UO:=List.find?_cons_of_pos
UP:=List.find?_cons_of_neg
Fq:=Nat.succ_pos
ai:=Book
UQ:=B.props.getD
oA:=r.first
kK:=prop
oC:=r.value
NF:=List.find?_eq_none.mpr
NG:=List.mem_of_find?_eq_some
NH:=List.find?_some
bb:=row
NI:=B.maps.getD
Fs:=map_none
qS:=r.scalar
Fu:=map_some
u9:=canon
qU:=syllable
UR:=List.append_assoc
ix:=apart
Fv:=l.flatMap
qV:=compat
eQ:=List.flatMap_cons
US:=List.flatMap_nil
u!:=Nat.le_refl
y?:=List.all_cons
za:=Nat.lt_of_lt_of_le
u?:=shortK
lU:=l.foldl
oE:=y.length
NJ:=z.length
zb:=List.foldl_cons
Fx:=Bool.true_and
Fy:=List.all_nil
Fz:=Bool.and_true
zc:=List.nil_append
UT:=List.flatMap
UV:=Nat.succ_eq_add_one
oF:=Nat.le_trans
vb:=STEPS
FB:=elementsFine
UW:=Bool.and_assoc
UX:=Nat.succ_ne_zero
FC:=sorted
ve:=valAt
NL:=z.toNat
UY:=Bool.not_eq_true'
zd:=Bool.eq_iff_iff
U0:=List.mem_range.mpr
U2:=Int.toNat_natCast
lV:=isSyllable
NM:=List.mem_cons
U5:=List.not_mem_nil
U6:=List.all_eq_true.mp
NO:=List.mem_append.mp
kL:=isJamo
ze:=decide_eq_true
gB:=Unit_
bj:=Text
di:=Ways
fP:=Sort_
vf:=isMark
iz:=s.cls
lX:=alone
FD:=u.is.cls
zf:=unitsFrom
dI:=units
zg:=joins
qW:=size
d8:=u.size
vg:=begin_
U7:=Nat.add_sub_cancel
qX:=List.drop_succ_cons
U!:=Nat.add_assoc
U?:=Nat.add_comm
eR:=words
FF:=acc.set
aB:=bef
Va:=Option.none
qY:=marked
Vc:=List.find?_append
lY:=total
zi:=l.map
i7:=rest
Vd:=Nat.le_of_add_right_le
NP:=Nat.lt_add_of_pos_right
Ve:=List.replicate
NQ:=List.getElem?_replicate
lZ:=speaks
fS:=word
zn:=head?
fT:=false
zo:=isEast
vi:=kernel
kM:=row.length
NR:=row.drop
Vh:=List.getElem?_cons_succ
zp:=foldl
zq:=flatten
NS:=Nat.le_of_succ_le
Vi:=Option.map_some
zr:=Nat.lt_succ_self
NT:=Nat.strongRecOn
FG:=Nat.add_sub_of_le
zs:=ns.sum
FH:=List.getElem?_append_left
NU:=List.getElem?_append_right
Vj:=Nat.sub_self
zw:=r.sum
Vk:=List.drop_append
Vm:=Nat.succ_pred_eq_of_ne_zero
l0:=texts
oG:=List.getElem?_drop
Vn:=List.mem_cons_of_mem
FI:=List.mem_cons_self
FJ:=cutText
q8:=t.drop
NV:=us.take
zy:=List.take_add_one
dJ:=List.map_cons
FK:=List.drop_zero
i8:=List.drop_drop
Vo:=List.take_add
NW:=Nat.sub_add_comm
FL:=resolve
Vp:=List.mem_of_mem_drop
Vq:=List.head?_drop
q9:=reverse
NX:=us.drop
vj:=Nat.add_zero
FM:=List.drop_eq_getElem_cons
Vt:=List.map_fst_zip
Vu:=Nat.le_of_eq
Vv:=List.map_drop
cP:=t.length
FN:=List.zip_cons_cons
NY:=List.map_map
Vw:=List.mem_map.mpr
vk:=l.headD
oH:=b.cls
q_:=Rules.none
vl:=closed
Vx:=clusterSays
Vz:=Bool.or_assoc
FS:=isBreak
zz:=List.range'
oI:=filter
NZ:=List.range_eq_range'
FT:=List.range'_succ
vn:=List.filter_cons_of_pos
oJ:=List.filter_append
VA:=List.filter_congr
N0:=List.filter_nil
VB:=List.getElem?_take_of_lt
N1:=List.headD_cons
kN:=ends
VC:=List.map_add_range'
N3:=List.filter_map
N4:=List.mem_filter.mp
N5:=List.mem_singleton
N6:=clusterWidth
N8:=l.getLast?.getD
VD:=getLast?.getD
FV:=MtLine.measure
VF:=List.reverse_append
N9:=sequence
zA:=w.tab
N_:=foldl_max
q!:=unmarked
cQ:=m.length
VG:=List.filter_cons
VH:=List.range'_append
N':=beq_eq_false_iff_ne
FW:=List.mem_map.mp
VI:=List.filter_cons_of_neg
VN:=Nat.not_le_of_lt
zB:=rowsOf
FX:=List.map_nil
N!:=beq_iff_eq.mpr
FZ:=hk.symm
F0:=beq_eq_false_iff_ne.mpr
zC:=e.symm
vp:=m.drop
i9:=s.drop
gD:=s.length
vq:=UInt8.ofNat
oM:=isName
VO:=hv.contains
N?:=UInt8.toNat_ofNat'
VP:=Nat.mod_eq_of_lt
F1:=contains
VQ:=List.contains_iff_mem
Oa:=capital
F2:=small_
VR:=decide_eq_false
VS:=Bool.false_or
VT:=List.mem_of_getElem?
VU:=Bool.eq_false_iff
Of:=Bool.false_and
vt:=n.length
l3:=namesIn
VV:=hv.reverse.map
q?:=gone
vu:=Nat.ne_of_lt
VW:=PyYqmtfa.whole
VX:=PyYqmtfa.calls
F3:=PyFlat.calls
ra:=PyYqmtfa.shape
Og:=x.length
Oh:=PyFlat.row
vv:=PyFlat.rows
VY:=Option.map_eq_some_iff.mp
rc:=text
vw:=lines
V0:=Nat.not_succ_le_zero
Oi:=PyFlat.call
V1:=PyProof.Rows
re:=lexLe
c6:=Around
ay:=Shared
cR:=int
dk:=prog
dL:=Program
dM:=World
a!:=Value
rf:=bool
i!:=wpAny
vx:=compareOp
V2:=wpAny_loadPart'
aI:=Addr
zD:=IntsAre
cS:=ref
rg:=s.heap.get?
oN:=dict
fW:=data
kO:=slots
i?:=xa.size
Oj:=ns.length
oO:=xb.size
rh:=wpAny_bind
zG:=rawInt
ri:=stop
V3:=plainId_quiet
V4:=codeAny_builtin
V7:=entry_eq_loop
eS:=base
dN:=Heap
aN:=Str
rk:=body
oR:=scope
vy:=Scope
bC:=Expr
d9:=outer
rl:=qual
fe:=xs.length
V8:=Paired.length
V!:=h.objs.size
Ol:=Heap.lt_size
kP:=h.get?
rm:=h'.get?
zI:=fields
oW:=True
F4:=Un.kept
Om:=List.toArray
l4:=keep
ja:=free
cb:=PySem.W.Frag
vz:=X.outer
V?:=sc.names.lookup
On:=env.kindOf
bQ:=X.K
oZ:=X.mg
jb:=X.base
Wa:=X.env.scope.kind
Wb:=X.env.globals
Wd:=X.ip.heap.objs.size
fX:=X.env.locals
Wg:=X.env.cells.lookup
Op:=X.env.kindOf
kQ:=X.stack
dl:=X.env
rn:=X.ex
jc:=X.fs
Wh:=X.ip.heap.FunFrames
ae:=pins
dm:=s.heap
o0:=X.prog
Oq:=σ.length
Wi:=I.base.keep
F5:=I.base.free
ff:=I.loc
vA:=I.ok.above
d!:=s.heap.objs.size
Wj:=I.ok.mj.mem
o2:=I.cell
Wk:=s.heap.FunFrames
Wl:=I.base.slot
jd:=I.ok.kind
je:=I.free
l5:=heap
o4:=toks
o5:=I.ly
ro:=I.os
o6:=I.len
zJ:=I.pin
l6:=I.bare
F6:=Ne.symm
fZ:=I.aR
Os:=I.aR.fresh
bI:=σ'
F7:=I.base
zK:=X.N.Nodup
Ot:=Heap.SameBut
F8:=s'.heap
Wm:=X.env.scope.names.lookup
Ou:=storeName
Ox:=tracked
l7:=Ends
rp:=D.nx
l8:=cont
o7:=X.xe
F!:=isTrue
rq:=whole
cT:=Pos
Oy:=wpAny_mono
Wn:=wpAny_loadName_local
Wo:=wpAny_loadName_cell
Wp:=Calls.Name_function_global
Wq:=I.mod.glob.keeps
Wr:=behindInMarks
Ws:=wpAny_Compare1
Wt:=wpAny_isTrue_Compare1
OA:=wpAny_truthy_bool
OB:=standAt
zL:=holding
Wu:=isTrue_plain
OD:=aF.toArray
F?:=sizeLine
l_:=I.jH
zM:=I.list
vC:=I.tuple
Wv:=wpAny_execs_nil
Ww:=wpAny_execs_cons
Wx:=interactive
OE:=swapsWith
Ga:=assign
zN:=Operator
OG:=inplaceOp
OI:=rv.length
vD:=s.toks
OJ:=wpAny_holding
OL:=wpAny_passesOwn
OM:=Bool.false_ne_true
ON:=letOwnedTupleGo
Gd:=wpAny_pure
OO:=p.isList
Wy:=IsRangeIter
l!:=s1.heap.objs.size
OP:=I1.kept
Gf:=Heap.get?_push_size
vF:=s.heap.push
OQ:=PyProof.Rows.callWith_type1
OR:=binaryOp
o8:=rule
Wz:=Int.le_of_lt
Gg:=y.size
OS:=sizeLine_eq
zO:=vs.length
OU:=builtin
dn:=name
OV:=PySem.W.lookIn
WA:=es.toList.any
WB:=PySem.W.plainGet
OW:=PySem.W.findIn
OX:=getAttr
WC:=PySem.W.plainGet_of
O0:=getMethod
O1:=PySem.W.takerIn
WD:=PySem.Within
vG:=PySem.W.emptyDict
Gh:=lookup
Gi:=fs.lookup
Gk:=List.lookup
O2:=fs.length
WE:=Heap.size_push
WF:=attributeBase
O3:=Attribute
kR:=args
O4:=A.depth
O5:=A.units
O_:=Around.under
WG:=Code.frames
O!:=Code.isFrame
zP:=FuncData
vI:=ps.length
WH:=PySem.W.callWith_K
WI:=I.ok.mod.zV
O?:=PySem.W.callWith_K0
Pa:=sc.names
o!:=kindOf
o?:=bindL
pa:=bindC
WJ:=List.nodup_cons.mp
zR:=start
Pb:=N.length
WK:=PySem.W.cellsFrom_some
WL:=e0.aR.fresh
WN:=PySem.mem_of_lookup
Pe:=scope.names.lookup
bA a:=List a
Z a:=ca a
pb a:=(a:ad)
ci a b:=a->b->Prop
aa:=pb x
cU a:=a x0 x1 x2 x3
ac:=bA Y
jg a b:=bA (a×b)
pc a:=a x0 x1
ap a:=a=au
l? a b c:=Inv X ae a b c
f6 a b:=l? σ a b
aG:=x+1
aj a:=ou a
cC a:=Option a
ao a:=lN a
bm a b:=by exact a b
ar a b c:=λ a b c=>?_
aw:=pb y
az a:=((a:Y):ad)
aM:=by simp
iA a:=f6 H a
cc a b c:=∀a,∀b,c
bn a:=decide a
jj a:=a x0 x1 x2 x3 x4
av:=iA s
am:=x<=y
gF a b c:=a ae b σ c
pd a:=a x0 x1 x2
ma a b:=a b dl
cD:=by decide
bd a b:=PE X a b
cF a c:=a b=Z c
bh:=x.1
ce a:=a B w n t
rs a:=jg Y a
d? a:=cU a x4 x5
ax:=x<y
aH:=ci a0 a1
dP a:=a=ak
bo:=by cases h
aW a b c:=af a b c
pe a:=gv a
ed a:=.cS a
vK a b:=autoParam a b
a?:=jg aI Obj
bp a:=(a).Fc
aT:=a0->Prop
dr:=Nat.div_add_mod _ _
bR:=pc B
ba:=x+y
kS:=.ak
bc:=a0->a1->ci a2 a3
bB:=(x:ad)
dt:=Nat.mod_lt _ cD
cI:=x+1
bD:=i+1
du:=4*t
br:=k+1
kT a b:=is (a aB) b
fh:=(4:Y)
bv:=y+1
pf:=model o0 X.w
gH a b:=a σ H b
bg a:=a->kB
iB:=(44032:Y)
jk a b c:=by intro ae s σ a b I c
bi:=x - y
fi a:=gF a s H
cp a:=is (gY bM) a
ef a:=m.getD a 0
cw a b:=dP (a b)
f8 a b:=by exact qO a b
b8:=x.2
bE:=a0->a1->a2->ci a3 a4
dv a:=by simpa using a
c7:=pc A
zS a:=ci a ay
mc:=(28:Y)
cL:=a+1
ck a b:=a[i]?=Z b
bF:=a0->ci a1 a2
cN a:=kT gX a
fj a:=∃x0:a0,∃x1:a1,a
gI a:=s.getD a 0
eh:=y+1
bG:=x=y
md a b c:=gH a λ b H1=>c
fk a:=p.getD a 0
f9 a:=∃x0:a0,a
ew g h:=g a b c d e f h
me b:=b - a
ez a:=ma eval a
bO a b c:=by rw[a]at b;cases c
bW:=zS a!
dw a b:=(a b).Fc
jo a b c:=by exact a (e7 b q c)
pi a b c:=i! pf X.A a b c s
f' a:=a::r
mf a:=Y×a
eT a:=.inl a
cg:=a0->a1->a2->a3->ci a4 a5
bZ:=by lia
eU a:=.cR a
mi:=a-iB
b6:=A x0
fo a b:=be (fi a _ I h) b
pj a:=ma starEach a
b!:=pc C
cq:=bA a!
eA a:=bm a h
cr a b:=λ a b=>?_
cl:=bA V
zU a:=vK a aA._auto_1
eB:=x - 1
Gm a b:=marksFrom B a b
cK:=bA ad
gK:=(1:ad)
ei a:=by exact a al
ml a:=ci a Hp
b?:=0<x
cx:=cU C
cy:=cU D
f? a b:=pi a b o7
fq:=u9 B c
cm:=B x0
cn:=C x0
dy:=((a:Y):ad)
zX a:=by obtain⟨t',rfl⟩:=a
jp a:=by obtain⟨t,rfl⟩:=a
ek:=aG - y
gL:=(2:ad)
cA:=pb z
ft:=by rw[jk H Q h]
jr a b:=dg X a b
mm a:=cF a u
rA a:=((a:Y):ad)
dz a b:=by refine a;subst b
c9 a:=a dr dt h0
el a:=uU a
rB:=(588:Y)
cZ:=rs α
iE a:=(a,kS)
cO a:=(a,kS)
c_ a:=λ x=>a
em:=(y:ad)
Gn a:=qV B a c
kU:=.cR
c0 a:=by unfold a at h
dE a b:=by rw[a];exact b
js:=by rw[zX ry]
eW:=a+n
ju a b c:=λ σ H Q=>md a b c
en:=bA α
iF a b c:=.a b c aX
eC a:=Nt a
c!:=bA gB
c?:=pd C
c3 a b:=¬a->¬b
gM:=e::es
iI:=dB s a
eo:=bA fP
iJ a:=Gm [] a
c4:=z+1
c5:=y<x
mn a:=gF a s1 H1
iK a b c:=by refine bL (a b) c
fv:=((b:Y):ad)
dQ:=cU E
jx a b:=zU (a=b)
kX a c:=a b o e c
da:=x<=z
dU:=pd D
ga:=aa - 1
eE:=z+1
db:=i+1
gc:=q+1
mo:=a+2
eF a b:=a _ _ b
eH a c d:=λ b a c=>d
gd a b:=cN a&&cp b
gO:=mi%mc
dW:=.bt
dF:=z<=y
eX:=cI - y
dG:=y<=z
dH:=y<=x
mq a:=∃x2:a2,∃x3:a3,a
fw a:=((a:Y):ad)
jA:=d!+1
gQ:=rs kC
er:=bA bj
vL a:=l.getD a 0
pp:=pe n
pr:=eT ag
ge a:=No a
eI:=cU B
eJ:=cU A
et:=(0:Y)
eY:=(1:Y)
kY a:=.lI a
eZ a b c:=Q (.a b) c
rD a:=RelV a u
iM a b:=a b=false
mr a:=cst B a
mt a:=λ i j=>a
e6:=Z b
rE a:=a X ae σ Q
eK:=pd B
e8 a b:=by unfold a;rw[b]
k0 a b c:=a o0 X.w b c
dX:=[c]
d0:=z<y
gR a:=a<2^62
eN a b c:=by exact a b c
Go a b:=vK (a=false) b
vM:=c - 0xAC00
gT:=d6 m a q
Pf a:=Wg x=Z a
e9:=cC gB
k1:=ml St
jD a:=Vn _ a
g0:=cC Y
eP:=.aQ
Gq:=.Name
gf a b:=bn a&&b
vN a:=qY n a
Gr a:=V2 a
fx:=jj D
e_:=bA aN
vP a:=λ a H1 I1 r1 q1=>?_
e!:=bb t a b
g4 a b c:=i! a A b c E s
fy a b:=.Call a b [] aX
iN a c d:=∀b a,c->d
gh:=u! _
jE:=Pf c
rG:=d7 [a,b,c,d]
fA:=by simp
g5:=t+1
Gs a b c:=za (a b) c
g6:=by rw[jp rx]
gj a b:=by simp;exact a b
vQ a:=.ins C dx a
gk a:=λ z=>a
e?:=aG+y
gl:=bh=k
g7:=aN->cC a!
k3:=#[_,rfl]
fE a:=by simp[a]
mv a:=Gq x a
k4:=(2:Y)
fF:=pc D
fG a b:=a σ H1 b
jL a:=-2^62<=a
g9:=by rw[f8 (show false=au from hs) OM]
g_ a:=by cases ry;rw[jo a I aM]
g! a:=fj (c7/\bR/\a)
jN a:=(a:ad)
vR a:=bT us a
g? a:=ol a
mw a b:=λ a H2=>b
jO:=x - 1
mx:=ez e
hM a b:=(a).bz b
vT a:=l++[a]
fI a:=(a).elim
vU a:=(a).kJ
gm:=k x0 x1 hA hB
gn a:=cc x0 x1 a
pt:=oA+1 - oC
Gu a:=begins B a
gp:=ef a
pu:=vL k
gq:=by simp at h
rJ a b:=¬(55296<=a/\b<57344)
fK:=D x0
fL:=f' u
pv a b d:=((a-b)+(((c:Y):ad)*(-gK)))=rA d
hO a:=by exact Ol a
jP a:=by simp[a]
hR:=jj C
hT:=jj E
hV:=jj F
hW:=by rw[jk H D h]
vW:=(3:Y)
rK a:=RelV x a
my:=I.tok _
px a:=ap (a x)
gr a:=by exact a
rN a b:=Gs Ol a b
hX a b c:=λ a b c=>?_
py a b:=af _ a b
mz:=ed C
rO:=fN s r
hY a:=by rw[a]at h;rw[bo]
hZ:=cU F
Pg a:=Go a bS._auto_1
iO a:=f9 (∃x1:a1,∃x2:a2,a)
zY:=.type
jQ:=by simpa using h
jS:=vM%28
mB a b:=a i bH (k::b)
h_ a b:=f9 (a/\b)
h!:=pd A
vX a b:=uV a b
h? a:=[iE a]
k5 a:=by rw[List.mem_range'_1]at a
ia:=bA Info
ic:=bd a ta
pz:=.cR
rP a:=ce lb e pe a
ie:=rD v
jT:=Pg (x==("__debug__":aN))
iQ:=jg gB bj
iR:=k _ _ pr e
jU a:=by rw[js,jo a I aM]
k6:=UQ k []
rQ:=x - 44032
z3 a b c:=a b CX c f fd ps sp
gt:=x=0
pC:=vP x
pD:=bA s
jV a:=fj mq a
rR a b:=iF BoolOp a b
z5:=Gu bb
ii a:=a x4 x5 x6
z6 a:=.own a
Gv:=bz B
jW a:=a b hb
rT:=gI cL
iT:=vN cs
mC:=(4352:Y)
mE:=(4449:Y)
k7 a:=by exact .inl a
ij:=dj B
rV:=x<1114112
iV:=a%fh
jX:=aa+1
jZ a:=cc x0 x1 (c7->bR->a)
j2 a c:=∀b∈a,c
vY a:=rp σ a
j4:=d? F
j5:=d? E
j7:=n+1
mF a:=bK f v a
j8:=jj B
j9:=jj A
z7:=mm rm
iW a b c:=a j0 j1 b c
iX:=dO B c
iZ a:=∀x0,a
j_:=cV k l
rW a:=(a).toNat
mG:=UD _
k8 a:=λ z=>a
k9 a b c:=λ a b H Q=>c
i0 a:=.inr a
i4:=g i j
pE a b c:=i! pf X.A a b o7 c
j':=Gn n
mI:=model dk w
j! a b:=uU a=b
mJ a b:=((a).bz b).sum
rX:=(4519:Y)
rY a:=a<=F?
j? a:=ap (gi B a)
mK a:=a (gX aB)
kb a b:=bn (a<=b)
vZ a:=Heap.get?_push_of_some _ a
k_ a:=a dr dt
kc a b:=∀y∈a,b
kd:=pe a
ke:=lQ k l
kh:=cw H b
kl:=u3 n
km:=p - 1
k! a b:=ju ta a b
mN:=x<=8192
mO b:=b a=Z vQ fs
pF:=x<4371
pG a b:=λ a b=>?_
v0:=ed a
mP:=Z v
kn:=vT x
v1 a:=vU a 1
kq a:=a->Prop
k? a b:=by obtain⟨a,e1⟩:=b
ld a b:=by unfold a;rw[ao b]
lf:=cC (Y×Y)
mQ a:=f? a rE EP
lg a:=by rw[f8 ag a]
li a b:=by have:=a;rw[ei b]
z8 a:=seg aB bM fS a
lj:=aa - aw
ks a b c:=λ a b _=>c
Gw a:=a x=Z .local
z9 b:=zz a b
rZ a b c:=.O3 a b c
pH:=t.map (inf B)
lm a:=ap (eu a)
pI:=fq=[]
mR:=ig r
r6 a b c:=fo ha λ v s1 a=>aO b c
mS:=z3 k0 ej bQ oZ jb k
ln:=uU x
lp:=fk du
lr a b c:=∀(a b:Y),c
v2:=a%mc
ls:=bA bC
mT a:=a i bH l
kt:=y - 1
kv:=y - 1
kx:=x - z
v3:=me q
ky:=y - z
kz:=x=y
kA:=x<y
r8 a b:=a bm gy b
lu:=lH m a q
lv:=Hp->Prop
Gz a b c:=be (a aX ae s σ H _ I b) c
Ph b:=FV B w t a b
Pi a b c:=envOfC a b d! f c
v4 a:=Wd<=a
mU a b c:=∀(a:ac)(b:Y),c
r!:=FI ..
mZ:=cF rg o
lw:=ed f
lx:=n4 n t
m3:=d? G
m4 a b c:=by have:=a;exact b al c
lz:=x≠0
lA:=x<=64
z_:=du+1
lC:=Gl X x
m5 a:=by exact False.elim a
m6:=rs aL
r?:=mn hb
m8:=b≠fX
z! a:=a (u! _)
GB a b c:=if a then Z b else c
z?:=rs Y
m9:=az cI
sd a b:=if a then b else ak
Aa a b:=if a then ak else b
m?:=gI iI
Ab a:=a X.env.scope x
nb b c d:=ce b e a c d
lE a b:=¬a\/¬b
lF:=z<28
Ac:=Pv bD
ng a:=∃x3:a3,∃x4:a4,a
v5 a b c:=a b (by simp[c])
ni:=Gn j
Ad a:=a (t':=vD)
nl:=Binds bQ fd ps ds
nn:=FJ t us
np:=(57344:Y)
nq a:=bp a<=18
nr:=ef mo
nt a b c:=a o! b m c
se:=Pi rl oR cd
nu:=cC (Y×ac)
nv:=mf kC
nw a:=by exact .inr a
nA a:=cc x2 x3 a
v6:=ci Hp VK
sf:=kK B k c
Ae:=f+1
GC:=oA+1
nB a:=show a from r
nC:=bA aI
Af:=Sem a!
nD:=x<=10000
Pj:=(62:Y)
v7 a b:=∀x∈a,b
nE a b:=∀x∈a,b
nF:=.cluster
nG a:=n.getD a 0
pJ a b:=(a b).elim
sg a:=(mr a).2
sh:=bN xs us
nI:=rK u
sj:=rO - 1
nJ a:=a (gY bM)
nK b:=bb t a b
GD:=backTo aX pj es
Ag b c:=lineBad n Ph b c
nL:=(0:ad)
nN:=pc E
nP a b:=(a).u5 b
nQ:=.tup xs
v9 a:=a bI H'
v_:=eA UC
Ah a:=FM a
pL a:=List.mem_append_right _ a
v!:=x<4470
nS:=4519+z
nT:=#[6,i]
nV a b:=(a).kJ b
Ai:=Pv i σ H
nX:=aG<=y
nY:=bN f7 ds
nZ:=.str _
n0 a:=max m a
sk:=x::aB
GE a:=(a).oq
n1 a b:=λ _ a=>b
n5:=rS CX X E
sn a:=a x hx
Aj:=du+3
n6:=eB+1
n8:=x - eh
n9 a:=A/\B/\a
n_:=bh<k
GF a:=ce leastBad e a
pM:=Gr h2
GI a b:=rg a=Z b
GJ a b:=PySem.W.instObj a b
pO a:=by exact py ag a
n!:=64*y
v?:=.seq
pR:=vs++f7
so a:=.bl a
GK a b c:={a with l5:=b,o4:=c}
pS a:=by unfold a;dsimp only
pT a b c:=if(ap a)then b else c
pU a b c:=if a=au then b else c
pX:=ck X.N x
Ak a b c:=mw a (b c σ2 H2)
wa a b c:=by have:=a;rw[b,c]at al
pZ:=x<44032+11172
p0:=dv h
p3 a b:=zz a b
sq:=ck xs x
p4:=px eu
p5:=jg aN V
p6 a:=by cases a<;>rfl
p7 a:=λ x H1 I1 r1 q1=>a
p_:={s with o4:=vD+1}
p! a:=((a:Y):ad)
n?:=_::_
oe:=x - y
og:=y - x
GL a:=cheapest B a
Al:=(a%rB)/mc
Am:=Value.ref a
Ar:=a/rB
p?:=Gv 1 c=[]
qa:=pe cL
qb:=q! m
sr a:=one a oH
su:=jx pj gM ((false,mx)::pj es)
qc:=by rename_i h
As a:=∀b∈fp,a
qd:=gI a
wb c:=kN c a b
wc:=vR eW
At:=vY H
qe:=bd b tb
qf:=bd e te
GM:=qV B 8
Au a:=by rw[ft,<-wpAny_Call_Name_kw a]
sv a:=hs.2 b (vu rN e a)
qg:=44032<=x
qh:=pe b
qi:=fh*a
sw:=x=.cS a
GN:=.OU
Pk:=sort B w
Aw a b c:=Gz ha h λ us s1 a=>aO b c
sx a:=by rw[kH,a];rfl
qj:=(1:ad)
qk:=4352<=x
ql:=.chance
sy a b c:=a I hg hm b c
qm a:=∃x1:a1,a
qo a:=∃x2:a2,a
sA:=mf α
qp a:=(u,a)::r
qq:=4*y+z=x
sB a:=by wp_walk using Gr h1,a
sD a b:=by simp only[a,i5]at b
sE:=rV/\rJ x x
wd a b:=by(have e:a=b:=by simpa using hb);subst e
Az:=x<4547
qr:=4352+y
qs:=4449+w
GO a:=(a).toNat
qt:=eV B c
sF a:=p.1≠a
GP:=28*y+z
qu:=us++ds
sH:=by exact uV Uz (y8 h)
wj a b:=by rw[io];exact a b
sI a b:=∃bI a,l? bI H' s'/\b
wl a b c:=by rw[iK a hq λ aF b c hz=>?_]
sJ:=ga=az jO
qv:=z<=64
wm:=bT us a
AA:=du+2
qw:=x+eh
qx:=eB<y
qy:=4*x+4
qz:=aG<y
qB:=x<bv
sK a:=(N4 a).1
sM a b:=(o.map λ a=>b).ox fT
sO a:=cU a x4 x5 x6 x7
AC a b c:=says a b GB (eR=au) m c
sP:=a0->a1->a2->a3->a4->ci a5 a6
wn a b c:=by refine ah h.eq ar a b c
sR:=by rw[io]
GQ:=[a,b,c,d].all λ(x:Y)=>bn (x<128)
sS:=a<((b+vW)/fh)
sT:=d? C
sV:=d? D
qC:=max 0
qD:=y<=w
qE:=a::l
sW a b c:=by refine ah a ar b c hl
wo a b c:=by refine lK (hf it aM) λ f0 a f2 f3 b c=>?_
sX a b:=jr (vx a) b
sY a b c:=PW X rR .a b c
sZ a:=z8 (1+a)
AD a:=ma assignEach a
s0 a:=aE (.cR a) H my k3 q
GR:=z9 v3
s8:=dI (t.map Pk)
s9 a:=ap (lV a)
s_:=dw u3 n
s?:=ew F us=ew G us
td:=jg aL Say
tf a b:=by obtain⟨a,e⟩:=b
GS b c:=.Compare a b c aX
th:=Om []
AH:=GE pp 0
Pl a c d:=a (λ b o hb e=>c) f0 f1 f3 d f5
AI:=me k
tj a b:=rh (a b)
tp:=ce filled
tq a b c:=zz a b=c
tt a b c:=by have a:=b;have h2:=c
tw:=mo+rT
AJ:=v1 pp
tx a b:=by unfold a;rw[b];rfl
tz:=fk z_
tD:=cU G
tE a b c:=a Ae i bH b=c
tF:={s with l5:=h'}
AK:=gL^(62:Y)
tG:=cC qI
tH a:=oZ x=Z a
tI:=gR aa
tJ a:=ap (a).isSome
tK:=(a+b)/k4
Pm:=(44032:ad)
tL a b:=show a by exact b
AL a b c:=a _ (show b from c)
tM:=ef cL
wp:=X.calm=au
tO:=el y
tP:=zY "list"
tQ:=aJ K H a xs
tR a b:=show a by exact b
tS:=K.In dm
wq a:=pv fv gL a
tT:=Y×ac
tU a:=bm a h1
tW:=pd E
wr a b:=(a).Pairwise b
tY:=l0 l a b
t0:=t1->t2->t3->t4->t5->t6->pD->r
t7:=bH=Z x
t8 a:=by unfold a;simp
t9:=dR P w H h
t!:=rW l[a]
Pn:=sort B w c
t?:=ao ag
ua:=a/(256:Y)
wt a b c:=#[hp,a,b,c,os]
ub a b:=∀a∈X.pn++ae,b
AM:=qV B n
ud:=mf aL
ue:=qR k l
wu a b c:=a (i:=i) (b:=c)
GT:=a/fh
AO:=cw H' b
uf b c d:=b c a i aB d
GU:=(64:Y)
ug:=(64:Y)
ui a b:=(a==b)=false
uj:=bA Env
uk:=mf Y
ul:=kY f
um:=ao h
uo:=[v0]
up:=dS bQ C
GW a:=zJ p a
AS:=kU i t
wv a b c:=by obtain⟨a,b⟩:=y6 c
ur:=x<=1000
ut:=by omega
GX:=(2:ad)
GZ:=4352<=x
G0:=4449<=x
G1:=4520<=x
ww:=p+d8
G2:=bb++[t]
uu a:=(k,a)::r
G4 a:=(a).oI
wy a:=cf a C f
uv:=c::n::l
G5 a:=Pl Ad I.turned a f4
wB:=vK (X.fn x=au\/Gw Wm) AQ._auto_1
wD:=zU ((GD).any (·.1)=false)
ux:=(0,[])
G6:=P.zip vs
uy:=x<=bv
uz:=eU _
AT:=eU j
uA a:=a+200<z
uB:=.cR i
uD:=z6 x
AU:=GJ C d!
wE a b d:=((a-b)+(d*(-gK)))=rA c
G7:=588*y
uE:=z<588
uF a:=λ q=>a
uG a:=(a).ox
uH:=.bl _
uI:=(k,x)
uJ a:=(a).d3
wF a b c:=by exact OA aW a b c
wG:=Except qI gQ
G8:=Value.ref jA
wJ a:=by rw[f8 a (UF _)]
wK a:=by exact Vn _ a
AV:=z! I1.aR.fresh
wL a:=by apply List.ext_getElem?;intro a
wP:=a-gO
uL:=x::l
AX:=b::r
uO:=n::r
wQ a:=a h1 h2
uP:=w<=z
Po a:=V? x=Z .a
wR:=GK s h' t'
wS a b:=by refine OL a b
Pp:=GN "type.__call__"
wT:=cF X.base.get? o
wU:=Except qI en
wV:=GF l
wW:=cC (Y×kC)
wX:=f6 H' s'
wY:=ce oj a gT
wZ:=bp z5
uS:=me p
uT:=b - a
Pq a b c:={a with nx:=b,ct:=c,bk:=rp}
Pr a:=F3 ra f a
w5:=zS Unit
w6 a b c:=λ D σ H=>md a b c
w8:=r.value.testBit 12
AY a:=iM lV a
AZ:=jg aN a!
w9:=Bad×z?
w_:=Ab Loc
w!:=ap (vf iz)
w? a b:=by obtain⟨a,b⟩:=h
G9 a b:=Ve a b
xc:=iJ l
xg:=jg aL Y
Ps a:=Wr a b
xi a:=by rw[show a from rfl]
Px:=ce lineEnd
xj b:=b<=(rX+v2)
xk:=az (4*x)
A0:=dv h1
xl:=jL aa
xm a b c:=GP=rQ->a->b->c
xo:=(Pn).cls
xp:=aa<=4546
xq:=a!->a!->Af
xr:=fk Aj
xt a b:=λ(a:kC)=>b
xu:=by dsimp only at h
xv:=4519<aa
xw a b c:=∃x4:a,∃b:a5,c
xx:=by split<;>simp
xy a b c:=show a by exact b c
xz:=PA X gM t
xA:=GO ((i:Y):ad)
xB:=(11172:Y)
G_:=!xs.isEmpty
xC:=b<=bP
xD:=mv aX
xE:=ej P w K mg
xG:=GM c
xH a:=by unfold a at hx
xJ a:=bm a hp
G' a b c:=iq CX a b K mg eS N rl oR f c A d9 s H E
xL:=GC - oC
xM:=jY m a aB
xN:=j6 s a aB
xQ a b c:=Un a ex H b h c
xR a:=width B w a
xS:=∀k∈ns,0<k
xU:=qL du
xV a:=bh<y.1\/(x.1=y.1/\a)
xX:=I.ok.hd hc
G!:=vF {cls:=zY "range",fW:=.zI (Om [kU lo t,pz hi u,pz 1 v])}
xZ:=bA Stmt
x_:=em - 1
A2:=model P w
x' a b c:=aE a H b c h
x!:=max y eE
x?:=upd H a o
ya:=(28:ad)
yb:=om 0
yd:=bN vs us
ye:=Sem aL
A4 a:=(a b o e).1
yf:=b7 k X.A
yg:=by rw[bo]
G? a b c:=λ a H2 I2 b q2=>c
yi:=4449<=x
A5:=ed it
yj a b:=(a).u5 b
yl:=dI l
ym:=zi f
yo:=h1 y hy
yp:=us.zip ms
A6:=Z ((Ag pu (pu==e)).plus (rP k).1,k)
Py a b c:=∃N:k1,(∀bI H',v9 N->∃m',m'<m/\a bD m' bI H')/\∀x b,c i H x H'->g x σ H' Ak σ2 tb Pq D N N
yq:=x<=200
yt a:=λ a=>?_
yu:=ib s r
yv:=b∉ch
yw:=uM K a
yx:=tV K a
yy:=Z e
yA a:=(a).zn
yB a:=#[a,?_]
Ha b d e:=by rcases b with _|⟨a,_|⟨d,_|⟨c,_|⟨e,l⟩⟩⟩⟩
yD:=x<=18
yE:=x<128
yF:=y<=18
yG:=x+2+y
yH:=x+3+y
yI:=4*g5
yK a:=a r hr
yL:=c8 q hn
yN:=x+(y+z)
yO:=n - gc
Pz e f g:=GQ&&((match rG with|c::r=>Oa c&&e|[]=>false)&&(!f (d7 [a,b,c,d])&&(bn (t<NAMES)&&((firstNames[g]?).all λ(x:Bytes)=>rG==x))))
A7:=A.under (Pp #[mz::us,kw])
Hb b c d:=by refine b c d;subst ex;obtain rfl:u=Am:=rx
A8:=iN u mm kP z7
A9 a b c:=by obtain⟨hp,g,d,a,os⟩:=s;refine bX b ar h1 h2 c
yP:=b.2+1
yQ:=f' b
yT a:=x - (a+z)
A_ a b c:=fo he λ v s1 a=>aO b c
A':=if u.sa=au then Gm G2 r else z5++false::iJ r
A!:=∀x c,jE->c≠b
A?:=eH o e vZ e
Bb:=G4 GR (nz m)
Bc:=Pr c.2
Bd a:=gd a [3,22]
Be a b c:=jr (vx .a) (jq mt (.b (decide c)))
Bf a b:=jr (OR .a) (jq mt b)
Bi:=Ah ha
Bj:=Po cell
PB a c d:=GI l a/\cF rg c/\R (.ok (.ret (.rf d))) s
yU:=x - 0
Hc:=n - 1
yW:=k+2
yZ:=a+3
y4:=f x
Hd:=me b
Bk b:=b<=(mE+Al)
Bl a b:=by rw[a];exact gy b
PF a b c:=callWith aX a b (backTo aX pj c) (backToKw aX ma keywordEach [])
Bm:=by refine OA ?_
Bn c g i:=by rcases us with _|⟨x0,us⟩;(.cases hl);.exact c vX g h a b i d e f us (Nat.succ.inj hl)
Bo:=u2 hl
Bq:=Gf _ ag
Br:=mB mW (a::z::v::l)
Bs a b c:=jr (OR .a) (rI b mt eU c)
He a:=bm gy a
Bu:=b∈rn\/v4 b
Hf a:=dw l.takeWhile a
Bv:=kX I.base.there hx
Bx a:=N6 B w col a
By a b c:=λ σ H R=>md a b c
Bz:=aN->cC NameKind
BA a b:=Px (q! a) b
BB:=d? A
BC:=d? B
Hg:=rY fe
BE:=(a+vW)/fh
BG:=ew G (x0::l)
BK:=ew F (x0::l)
BL a:=NO a
BM:=GS [op] [b]
BO:=jg gB aL
BS a b c:=by show kW eR a b c _=_
BT:=rZ o m apos
BU a:=λ z hz=>v5 a z hz
BV:=Y->k1
BW a b:=by obtain⟨h1,a⟩:=b
BX:=GZ/\pF\/G0/\v!\/G1/\Az
BY:=vv k p.2
BZ:=fh*GT
B2 a:=by exact Gd a
B4 a:=qO a aM
B6:=NI k []
B7 b:=measure B w t a b
B8 b:=b<=(mC+Ar)
Hh a:=a plain_eq_loop _
B9:=g0->aL
B!:=rs Seq
B?:=rs Row
Cb:=az eh
Cd:=fw cI
Cg a:=ze a
Ci a b:=(q8 a).d3 b
Cj:=aa+aw
Cl:=aa<aw
Cm:=V->v6
Cn:=(gv n).oq
Cp:=aa=aw
Cr:=(z:ad) - aa
Hi:=UF 0
Hj:=by simpa using al
Cs:=dv hy
Cu:=dv hx
Cv:=ml aL
Cw b:=kP a=Z b
PH:=jN oA - oC
Cy:=rE EP
CB a b c:=a f i bH b=.ok c
CC a b:=Fj a b
CD a b c:=a (by exact b hz c)
CF a b:=rm a=Z b
CG:=bn (a<bh)
CH:=4449<=aa
CI:=aa<=4469
CJ:=bA ac
CK a b:=pieceCost B a b
CL:=bA cK
CM:=(b8).to.length
CN a:=kY #[16,a]
Hk a:=a (t':=s1.toks)
CO a:=vX not a
CP:=fk AA
CR:=aj aM
Hl a:=a x=Z .ja
CS:=((0:Y):ad)
CU:=b-iB
Hm a b c:=∃W:Y->Y->ci St Hp,(∃m,W 0 m σ H)/\∀i m σ H,W i m σ H->((a).ri i H/\At)\/((b).go i H/\Py W H' (c).oU)
CW a b:=if a then b else[]
CZ:=iB+(11172:Y)
C0:=o2 x c e
C3:=weight1 e !=0
Hn:=by simpa using hx
C4:=i<=fe
C5:=GL r
C7:=wf B w t col
C8:=(k,#[a,z,v])
Ho:=Pz (r.all F2) VO t
C9:=a<=(10000:Y)
C':=(55296:Y)
C!:=(55295:Y)
C?:=cC aI
Da:=cC aL
Db:=b<=cP
Dc b:=b bQ H a xs
Dd:=cP<=a
De:=aC K H a xs
Dg:=kX F' hx
Di:=ix B n c
Dl a b c:=2*z+w=a->w<2->b->c
Dm:=u? B vb c
Dn a:=by simp[a]at h
Do:=Array a!
PK:=oE+1
Dp:=0<cP
Dq:=cP - 1
Dr:=bA Bytes
Du:=Array (Option a!)
Dw a b:=(vg a).b
Dy:=me cQ
Dz:=a<cQ
DA:=a<bP
DB:=mX.getD t []
DC:=((0:Y):ad)
DD:=lU max k
DF:=Gc eR n r u
DG:=GW hp
DI:=gS B bb k
DJ:=(p,w)::G6
DM:=oK kQ
DN a:=A.deeper a
DO a b c:=a aB bM fS b c
DP:=aa - 2
Hq:=vR br
DQ:=bz B k c
DU:=mF fs
DX:=cY us br
D0:=gL^Pj
D1:=GX^Pj
D2 a:=v7 l a
D4 a:=a=bP
D5:=GU*c
D6:=G7+z=x
D7:=zR N vs
D8:=cr x hx
D9 b:=back I a b
D_:=44032<=x
D! a:=a<=r.last
D? a:=AllBare a
Ea a b:=(a).oI b
Eb a b c:=λ a es ep b c=>?_
Ec:=(b8).bH
Ed:=Gv 1 c
Ee:=b∉jc
Ef:=pG b hb
Eg:=v? xb n2
Eh:=z.1.qW
Ei:=4520<=x
Ek:=gB×bj
El a b c:=λ i j a b c=>?_
Em:=eF HI hi
Eo:=cY us n
Hs:=(u,m)::r
Ep a:=ps.zip a
Er:=b::i7
Et:=g8 a ns
Eu:=a::b::i7
Ev:=64*eh
Ex:=B_ p t
Ey:=jm p t
Ez:=z6 a
EA:=Z u
EB:=ba<=z
EC:=sC B t
ED:=oP lo n
EE:=y<=64
EF:=.must
EG a:=λ x=>a
EH a:=λ i=>a
EI a:=λ p=>a
EJ:=k==13
EK:=-(2^62)
EL:=[op,lR]
EM:=bi - 1
EN:=x+2+z
EO:=y+3+z
EQ:=.cell
ER:=bD - a
ES:=gc - a
EU a:=(a).ox
EV:=ba - 1
Ht a b c:=do let ov<-a;OB apos.atName;let(f,first)<-zL [ov] (O0 ov b pl);PF f first c
EX:=0<=x
EY:=[b,c]
E0:=f' s
Hu:=AC sk (u::r.map gk z.1) Va
Hy:=jD jD r!
Hz a b d:=by rw[ft,<-a r6 b d pC];obtain⟨c,rfl,q1⟩:=q1;cases r1
HA a b c:=by refine be (fi a _ I h) λ v s1 b=>aO c pC
HB a:=#[rfl,G5 a]
E1:=x+3
E3:=8 - x
E4:=x=2
E5:=l++m
E6:=f - 1
E8:=hi - lo
E9:=me i
E!:=z - y
E?:=x<=y
HC a b:=by rcases eC hx with rfl|hx;(.exact a);.exact b x hx
HD:=G' P w aK
HE a b c:=by obtain⟨u,hu⟩:∃a,b:=#[c,ge v_]
HF a b:=by have hb:a:=N! h;simp only[Gk,hb,b]
HG a:=r8 u2 a
HH a b:=by have cj:a:=F0 b;simp only[cj,Option.all_none];rfl
HJ a b c:=by simp only[a,b,fa,i5]at c
HL a b:=by obtain⟨a,b,h⟩:=Option.bind_eq_some_iff.mp h
HM a b:=by have cj:a:=N! b;simp only[cj,lM];rfl
HN a:=∀b u,a->mm kP->z7
HP a b c:=g4 mI (a ed x b c) Q
HR a b c:=by rcases l with _|⟨a,_|⟨b,_|⟨c,l⟩⟩⟩
HS a b c:=be (r? _ I1 q1) λ u s2 a=>aO b G? y r2 (be (gF ho s2 H2 x y v u _ I2 r1 r2 q2) c)
HT a:=last.bind λ(x:a)=>sd gl Z b8
Fa:=a-b
HX a:=by rw[wa a i6 i6]
HY a b c:=by refine dc a λ bI H' b q=>?_;exact(cE bI H' I.uw c)
HZ:=G8::us
H0 a b c:=jx (a b c pos.line dl) (pure fT)
H8 a b c:=by apply VA;intro a b;rw[k5 c]
H9:=λ(a:cC ac)(x:Y)=>a.bind λ(y:ac)=>Aa (18<PK) ((u? B n x).bind λ(z:ac)=>Aa (18<oE+NJ) Z (y++z))
H_ a b c:=i! pf A a b c s
H!:=PH+1+(d:ad)
H? a b:=by unfold a;rw[y!,b]
Ib a b c:=by rcases l with _|⟨a,_|⟨b,c⟩⟩
Ic a:=bm Nat.le_add_left_of_le a
Id:=Gw V?
Ie a:=by(have:a:=by rw[jQ]);subst al
Ig a b:=by apply List.map_congr_left;intro a b
Ih:=by exact UE h
Ij:=au::G9 Hc fT
Ik a b c:=∀i q,i<a->k6[i]?=Z b->q.last<c
Ip a b c:=by(have e:i=a:=by exact uN hi a8);subst e;rw[k7 #[b,gH hd c]]
Iq:=by dsimp only[Vi]
Ir a b c:=g? gf a (last.all λ(x:b)=>bn (x.1<=c))
Is:=eA NS
Iv a b d:=match fq with|[]=>a|b=>d
Iw:=Pm<=rA a
PL a b:=PySem.W.methodCall_KW (a:=b)
Ix a b:=Pe a=Z b
Iy a:=bm UH a
IA:=(mi%rB)/mc
IB a b c:=by rw[dz (ah (a h) ar m e b) c]
IC:=kX Wl n hb hx
ID:=kX Wi n hb hx
IE:=dy-Pm
IF a b c:=by dsimp only at a;rw[AL jw (k<b) hk]at hr;exact c _ (DL.mp hr)
IG a b c:=by show(match a with|[]=>b|l=>c)=_
IH a c d:=match a with|ak=>c|e6=>d
II a:=vK (a≠"__name__") Ay._auto_1
IK a b d:=if pI then a else b++d
IM:=Ps op=false
IN:=λ k hk=>hp k jP hk
IO a:=List.mem_append_left _ a
IP a b c:=∀{xs:cl}{a:cq}(b:Y),sh->c
IQ:=cF X.ip.heap.get? o
IR:=rP j
IS:=by rw[zd];simp
IT a b c:=OW a mz b=Z c
IW a b c:=∀(a:Y)(b:eo),c
IX:=mi/rB
I0:=(AJ).d3 AH
I8 a b c:={a with b:=Ac,ct:=Ac,c:=rp}
I9:=wb pH
I_:=c - jS - 0xAC00
I!:=by rw[UR]
I? a:=by exact Wv a
Ja a:=vK a gs._auto_1
PM:=List.getElem?_range h
Jb a b c:=by refine aW (λ i m σ H=>m=a - i/\b/\Ai) (aZ c aM mG h0) ?_
Je a b c:=a (cQ+1) 0 ak b=c
Jf a b c:=a (gD+1) 0 ak b=c
Jg a b c:=by(conv=>lhs;whnf);delta a;dsimp only;generalize b=x;cases c
Jh a:=by rw[List.mem_range]at a
Ji a:=bootBuiltins x=Z a
Jj a:=(List.of_mem_zip a).1
Jk a b c:=by unfold lV at a;simp at b;exact c hs
Jl a:=WN a
Jo:=F5 b o e n hx
Jp:=iM lX FD
Js:=zD xa.toList ns
Jt a b c:=by rintro a b σ c⟨rfl,hi,p⟩
Jv a b c:=mn a x b c I1 r1 q1
Jw:=AD es
Jx:=As AO
Jy:=pt+i
Jz a:=by exact wpAny_Name a hd
JA:=by exact Fq _
JB a c d:=fM a H I1 c d jz (λ b hb=>(jW hf).1)
JC:=wC dm x dx C mA
JD:=d!+1
JE:=Nt h
JF a b c:=a0->a->a2->a3->a4->a5->ci b c
JG a b:=(kG a).bz b
JH a:=zD xb.toList a
JI a b c:=∀i σ a,b->Ai->c
JJ a b c:=Fj (a b) c
JL a:=by refine rh a
JM a b c:=cc x2 x3 (a->b->c->U)
JN:=-AK
JO b c d:=show a+b=c by exact d h1
PN a:=Gi a=Z v
JP:=bB - aw<0
PO:=UG 4
JR a b c:={a with zg:=b,qW:=c}
JS a:=Ve a 0
JT a:=dw gv a
JV:=Gm bb l
JW:=cF rm o
JX:=B.seqs.getD k []
JY:=ap (lX iz)
J2 a b c:=k9 x y (∃a b,x=eU i/\y=AT/\c)
J3:=rG::hv
J4:=ce yc e a l
J7:=(mr (NR br)).1
J8:=cw Gi m
J_ a b c:=a P w K mg b c d9 s H
J' a b c:=if(ap a)then b else c
J! a:=dw dI a
J? a:=FB a r
Kc:=dy<=(55203:ad)
Kd:=cF kP o
Kf:=mK zo
Kg a:=Fv c_ a
Ki:=bB<aw
Kj a:=ol (decide a)
Kl:=σ.set i mP
Km a:=a<=8192->mN
Kn a b:=if a then ak else b
Kq:=aa<=55203
Kr:=44032<=aa
Ks a b:=show a by exact b h1
Kt:=Gn j7
Ky:=V!<=a
KA:=55296<=ek+z
KB a b c:=#[so a,b,I1,rfl,c]
KD a b c:=∀k r,a->r∈b->c (k,r)
KF:=aa<=4370
KG:=4352<=aa
PP b:=b a OD
KH:=rQ<11172
KJ:=sg bb
KK:=ek+z<57344
KM:=ad->ad->ad
KN:=I.ok.A3 x c NC hc
PQ:=re (ns.drop i) (ms.drop i)
KO a:=Nx (p:=a)
KS a b c:=Turn P w K tg a [it] it (λ i b=>c)
KT:=zz 1
KU a b c:=if a<b then 6 else c
KW:=ez o
KY:=mv pos'
KZ a c d:=a b o k8 (c (by simp[d])) e
K0 a:=ek+(57343 - a)=57343
K1 a:=ek+(55295 - a)=55295
K2:=weight2 e !=0
K4:=by simpa using hy
K8 a b c:=a+w=y+3->w<4->b->c
K9:=wc - wm
K_:=qV B n x
K':=b7 br X.A
K!:=qV B n a
K?:=n<=gu
La:=h x aM
Lb:=4*t<oo
Lc:=(55204:Y)
Le:=x<=16777216
Lg a:=0x1100+a/588
PR:=!aq.isEmpty
Li a:=hM a ((·.1))
Lk:=sf=oC
Ll:=Fv AM
Lm:=dP (oZ x)
Ln:=plain w k g
Lo:=a-(b+eY)
Ls b:=b (gv a)
Lw:=y=16777216
Lx:=(4371:Y)
Ly:=(4470:Y)
Lz:=(4520:Y)
LC a:=0x1161+a/28
LD:=lJ+1
LE a:=a=ms.length
LF:=cP+1
LH:=0<bP
LI a:=a<=cQ
LJ a:=x+a<=120400
LK:=a<gD
LL:=a<cP
LM:=o5 x c e
LN:=f AS (kU j u)
LO:=k==0||(k==3||k==9)
LQ:=hm b _ q λ z=>z
LR a:=oA<=a
LS:=cs.headD 0
LT a:=gD - a
LU:=bA Says
LV:=bB=2
LX:=bB=4
LY:=bB - 1
L1:=(b8).first
L2:=(b8).qN
L3:=i3 _ ag y hy
L5:=λ _=>ak
L8:=upd H x o
L9:=x+aw
L!:=hv.map d7
L?:=i=oO
Ma:=(65:Y)
Mb:=l3 0
PU:=.UnaryOp
Mc:=vl l
Me:=i9 a
Mf:=bK f y fs
Mh a b c:=λ a b c e1 e2 e3=>?_
Mi:=kU c u
Ml a:=FL a
Mm:=iI+1
Mn:=Y->Y
Mr:=vg s
Mu:=y<=8192
Mv:=(1:Y)
Mx:=x<55296
My:=x<16384
Mz:=(0:ad)
MA:=b8≠0
MB:=eval e env
MC:=kU a t
ME:=min x y
MG:=sn f2
MH:=a::AX
MI a:=n.drop a
MJ:=jK s a
MK b:=(b - 1)::g8 eW r
ML:=iL p t
MM:=jB p t
PV:=mR - 1
MN:=DR r ta tb
MO:=bz B 0
MP:=si m a
MQ:=λ _ q=>q
MS:=X.pK E
MT:=8 - cI
MV:=x::xs
MW:=eh - z
MX:=Hd - 1
M0:=z - x - 1
M1:=x=10
M2:=x=11
M3:=64<x
M4:=f v u
M5:=x++r
M6:=z=0
M_:=z+2
M!:=a++b
M?:=a - 1
Nd:=b+1
Nf:=lo+i
Ng:=a+x
Nh:=x+z
Nj:=y<x
Nk:=i+j
Nl:=n+m
PX b d e:=by rw[ft,Hb PL pl pl (fo he λ u s1 b=>XM d e) ht,<-Ke I1 ea c hm l ?_]
P0 a c d:=Meets (Builtin.«list.__eq__.loop» #[a,[]]) (λ _ R s=>PB c d PQ)
P1 a b c:=by refine .inr (eM (cE xs (xs[i]) a jP a8) Ac (λ bI H' p'=>(fB (fe - bD) bm pw a8 ag a8 p')) hX x H' y);obtain⟨e,y⟩:=y;subst e;exact hs i b σ _ (y xs q) c
P3 a c d:=Meets (a #[[ed l,.cS b],[]]) (λ _ R s=>PB c d (re ns ms))
P4:=by(rw[Ha l b d];((.rw[f8 h0 Hi]);.rfl);(.rfl);.rfl);.rw[f8 h (Nq (PO bP))]
P5 a b c:=by rw[Au sy C1 ?_ d_,<-WH (h₀:=jb) WI a (Aw b c λ vs H1 I1 r q=>#[I1.jH,?_]) he a_]
P6 c d e:=f? ez a (λ v s₁=>pE ez b (λ c s₂=>pE d e s₂) s₁)
P8:=(G!).objs.size
P9:=by rw[wd b l!,I1.B3 (u! _) AV]
P_ b c d:=∃a C dx fs b,sw/\mO H1/\c/\wy K/\PN f/\d
P' a b c:=by rw[wl a rv p,<-ah (rv.get hx) ar u hu ru,wo f1 f4 f5,<-b st c (x:=u) dv hu ar h' jz sb]
P! a b:=by have hb:a:=F0 h;simp only[Gk,hb,b]
P? a b c:=by intro a hy;rcases eC hy with rfl|hy;(.exact b);.exact c y hy
Qa a c d:=aE ed l! (upd H1 l! a) (Hk I1.laid (λ b u c=>vZ e) gh ?_) ag (d _ hf)
Qc a:=by rw[wj UE a]
Qd:=iN u mm rg z7
Qf a b c:=by cases e with|lI f=>rw[bo]|ok a=>exact aW b ag c
Qi a b c:=by rw[g6];obtain⟨hy,e'⟩:rY a/\k=(jN b !=0):=c;subst e'
Qj a b c:=by rw[dz (ah (FW a) ar i hi b) c]
Ql a b c:=by rw[aj a];obtain⟨k,hk⟩:∃k,ig b=k+1:=#[PV,by exact Vs c];rw[hk]
Qm a b c:=by rw[NA (F6 hj)]at e2;refine ah (a e2 e3) ar b r' c;refine aW u' r' ?_
Qp:=(se).o!
Qq a:=(vF vG).a AU
Qr a b:=by(have:x=c:=by simpa[a]using b);rw[dE al hc]
Qu:=by cases i with|cu=>exact al|cv i=>rw[Hj]
Qx:=by(have:x=c:=by rw[Hn]);rw[dE al hc]
Qy a:=by rw[Int.fdiv_eq_ediv_of_nonneg i a];exact q
QA a b c:=by have a:b:=List.getElem?_zip_eq_some.mpr c
QB:=Go Ps op _L.gz._auto_1
QC a b c:=by subst e';rw[iK a hx λ aF b c hz=>?_];have fO:=lJ
QE:=Hl Wm
QF a b c:=by rw[wn f hf e];have a:=b hr;have e2:=wu c aB aB hl;unfold fz at e2;rw[ao hr]at e2
QG b c e:=by rw[F0 jI];have Ob:=V5 A.in1 wt g d tk a t b c dk e
QH:=Hh Around.under_plainId
QI:=show PP s.heap.IsTuple from p
QJ a c d:=av->As (pA X ae H b)->tn i dm->a->i! A2 c (pyNext A5) d E s
QK a:=by apply Classical.byContradiction;intro a
QL:=∀σ H,Pv fe σ H->At
QM b c d:=by rcases h with _|⟨x,_|⟨b,h⟩⟩;((.rfl);.rcases c with _|⟨a,_|⟨d,t⟩⟩<;>rfl);.rfl
QN a:=by intro l i bH ps h;cases a<;>rw[bo];exact #[aM,dW,fA]
QO a:=show a by exact Nat.sub_eq_zero_of_le h
QP a b c:=(∃xs,aC a H p xs/\k=G_)\/(∃xs,aJ b H p xs/\k=G_)\/∃aq,H c=Z (.dK aq)/\k=PR
QQ a b c:=by right;refine #[e,?_];simp only[u4,a,b,i5]at c
QS a b:=by show a;exact NP b
QT:=bm Vd h3
QU a:=(vF vG).a
QV b c d:=oi (oi (oi (oi (oi h a) b) c) d) e
QY a:=by simp only[Array.length_toList]at a
QZ a b c:=by injection d' with d1 a;(have:b:=by simpa using vX Array.toList d1);subst al;exact r.inj c
Q1 a:=g a eA UB
Q2:=oF I.ok.pq vA
Q4 a b c:=by simp only[List.zipIdx_cons,List.zipIdx_nil,a,b,c]
Q6 a b c:=by simp only[fa,i5]at a b c
Q7:=y6 h
Q8:=mB om (a::z::v::l)
Q9 b c d:=by unfold b;(have h1:(c a)[AI]?=Z d:=by rw[oG,show a+AI=k by exact FG h,e]);rw[show k+1 - a=AI+1 by exact NW h,zy,h1];simp
Q_ a b c:=kW eR (a km (num b)) c ww r
Q!:=by rw[gj Nat.sub_add_cancel h1]
Q? a:=by rw[a,Vh,qX]
Ra:=by dsimp only[Vi,u4,lM]
Rd a:=by rw[e8 a List.takeWhile_cons]
Re a:=Go a Gj._auto_1
Rf:=vF vG
Rg a b c:=ju t xs (Hg/\∀p,cw H1 a->eZ cS b (upd H1 p c))
Rh:=by rw[qQ,PM];rfl
Ri a:=by simp only[gA]at a
Rj:=FM hl
Rn:=NG hr
Rq a:=a eA gy
Rr:=He fO
Rs:=by simp only[List.size_toArray];exact L4 hs fO hz
Rt a b c:=match a with|b=>ak|Z (xs,t)=>Z (c::xs,t)
Rv a b:=VP bm a b
Rx a b c:=∀{binds:AZ}{m:g7},(∀v,(a,v)∉binds)->b=c x
RA a b c:=55296<=x/\x<57344->55295<=y/\y<=57344->a->z<1114112/\rJ z z->w<=y/\y<=b->bg c
RB a:=PySem.W.methodObj (.cS f) a
RC a:=u2 (by exact a)
RD:=List.Pairwise.filter _ List.pairwise_lt_range'
RF a b:=VR bm a b
RG a:=pJ NO a
RH:=V.ref jA
RI a b c:=GI p.1 a/\cw H p.1/\sF fX/\p.1∉jc/\∀b,c≠.cell v
RJ a b c:=by rw[iK Fu a λ b hr e _=>?_];rw[<-e];exact c r hr
RL:=Hf c_ (x.cls==6)
RM:=ap (PySem.W.hasDictIn K C)
RP a:=by exact h a FI
RQ:=by simp only[u8]
RR:=AY qS
RS:=eA gy
RT a b c:=PS X (.AugAssign a op b aX) c
RV:=WB K C dn
RW a:=(WC a).1
RX:=0xE000 - pt
RY:=0xD800 - pt
RZ:=0xDFFF - pt
R0:=0xD7FF - pt
R1:=s.heap.Ns fX m
R3 a:=Wk jb a
R5 a:=(WJ a).1
R6 a:=Fn a
R7 a b c:=by show a=_;unfold b;exact c (i:=i) (WJ nd).2 A0 dv h2 hk
R8:=cellsFrom jA scope.names []
R_:=#[λ b o e n hb hx=>?_,λ b o e n hb hx=>?_,F5,λ b o e hx=>?_,I.base.pk,I.base.nU,I.base.oS]
R':=by exact zr k
R! a b:=a i (List.mem_range.mp b)
R? a:=Nat.add_lt_of_lt_sub' a
Sa a:=ap (PySem.W.handedIn a)
Sc:=NA e
Sd a b c:=∃od,a/\∀dn,OV dn b=Z (c dn)
Se a b c:=a->¬(55296<=y/\b<=57343)->(em=jX\/aa=55295/\aw=57344↔c)
Sf a b c:=#[λ i H=>a,λ i H x H'=>H'=H/\∀xs,b->sq,λ i H=>∃xs,c/\fe<=i]
Sh:=WN h
Sj a b:=ap (PySem.W.keepIn a b)
Sl:=vu (zr _)
Sm a b c:=if bG then re a ys else bn (b<=c)
So:=by rw[N! jI]
Sr a:=Oi ra f' a
Ss a:=a (UX i)
Su:=N4 h
Sv a:=mJ a ((·.size))
Sw a c d:=j2 fp (∃a,c/\∀d,o.data≠.cell v)
Sy a b c:=by have hu:0<d8:=a (u,m) aM;have b:lY Hs=d8+c:=by simp[lY]
Sz:=d!<=a
SA a b c:=∀(a:Cx),o0=b->X.w=w->bQ=K->wp->c
SB:=wQ intBits_le_64
SC:=zO=vI
SD a:=Wa==a
SE:=zr _
SF a b c:=codeAny_mono (a r2 b) ar r s' c
SG:=NH hr
SH:=bn (i?<=oO)
SI:=dI (kI sj)
SL:=sr [1,2,3]
SM a b c:=∀{a i:Y}{y:sA},j_[i]?=Z b->y.1=c
SN a b c:=sp (ed x::pR) (upd a x vQ []) (λ v H2=>b=.cB/\eZ cS c H2) E
SQ a:=wr a ((· < ·))
SR a b c:=do let a<-rq;OB b;zL [v] (truthy c)
SS:=A4 I.ok.bs
ST:=s.heap.IsCell c v
SU a b c:=PySem.W.fnOf dn rl params rk oR a b c
SV:=mT om
SX a b c:=(a b (by exact c fs fm qH)).1
SY a:=mJ (kG 14) (λ k=>wg (lQ k a) k)
SZ:=PU .Not a aX
S0:=dv hle
S2 b:=one [12,10] a&&b
S3 a:=beq_iff_eq.mp a
S4:=O2<1000
S6:=(b8).key.length
S8:=GL bb
S9 a:=show¬a by decide
S':=(1114112:Y)
S! a:=a - 0xAC00<11172
S?:=a<V!
Ta:=I.ok.BD b o e
Tb:=Value.int i t
Tc:=one [1,2,3] a
Td:=NX br
Te:=FL w k g
Tf:=VO z
Tg:=I.ok.bs b o e
Ti:=Hq - 1
Tj:=kG 10
Tk:=by assumption
Tl:=NI 0
Tm:=NI 1
To:=w.keep=false
Tp:=zz 0
Ts:=vv 1
Tt:=j<1073741824
Tu a:=dP (a "range")
Tv:=lV x
Tw:=kG k
Tx:=kG n
Ty:=zY "tuple"
Tz:=weight3 e !=0
TD:=(57343:Y)
TH:=57343 - eX
TJ:=57344 - eX
TK:=55296 - eX
TN:=55295 - eX
TO:=variable_ e
TQ:=a<=cQ
TR:=cQ<=a
TV:=Fv f
TW:=oC<=GC
TY:=aa+(4 - 1)
TZ:=x<=1114112
T0:=(8192:Y)
T1:=[cP]
T2:=bP<4
T3:=N9 B
T4:=qU c
T5:=Nr k
T7:=bP=n
T8:=cQ - a
T9:=p<cP
T_:=bef.drop 1
T':=b.conj==2&&linked fT l
T!:=zA≠0
T?:=cQ=cP
Ua:=.function
Ud:=bB>=2^63
Uf:=neL b o e
Ug:=kI sj
Uh:=qV B 0
Ui a b c:=λ a s2 b=>aO c λ y H2 I2 r2 q2=>?_
Uk:=oH==2
Up:=b.pict&&sprout l
Uq:=oH==6
Ur:=vp a
Us a b c:=by rw[Au (yJ I hg hm hv ?_ hn d_),a (Aw b c λ vs H1 I1 r1 q1=>mn hc vs us Q I1 r1 q1) he a_]
Ut:=.lst xs
Uu a b c:=be (gF hc s3 H3 _ I3 q3) λ w' s4 a=>aO b λ z' H4 I4 r4 q4=>c
Uw:=u::x::aB
}
section
open _Z _Z.T _Z.F
variable{x y z w q r t:Y}
def z:={
AB:z=x->dF->am:=Qw
tu:0<=aa:=Qw
oz:bg (x<0):=Q
oT:qB->¬kz->ax:=Q
pw:c5->n8<bi:=Qw
uQ:Cl->ax:=Qw
yY:e?=qw:=Qw
r9:ax->x<bv:=Q
uN:am->¬kA->bG:=Qw
vo:x<=ba:=Q
AG:x<z->y=z->ax:=Qw
BN:ax->aa<aw:=Qw
xT:sJ->n6=x:=Q
zH:¬(em<aa)->am:=Q
Z8:am->am:=Qw
zj:x<aG:=Q
xP:c5->ga=az jO:=Q
aaa:¬(bB<0):=Qw
Ds:b?->ga=az jO:=Qw
Cf:x<e?:=Q
Ck:mN->nD:=Q
AW:Cp->bG:=Q
C6:bG->aa=aw:=Q
asF:K8 (4*z) (x<z) (4*x<y):=Qw
Ct{a b:Y}(h0:sS):qi<b:=c9 asF
Dj:aa=2->x=2:=Q
Gb:am->eB<=y:=Qw
Zx{x:ad}:b?->lz:=Qw
L4:Lw->z=x->dF->aa<2^63:=Qw
F9:bi<=0->am:=Q
Dv:yU<=x:=Q
Ii:sJ->0<=ga:=Q
HV:¬(0<=CS - 1):=Q
E2:0<aG:=Q
Fk:0<y->bG->b?:=Q
Dx:ax->bg dH:=Q
GG:da->y=z->am:=Q
FQ:c3 kz (bB=aw):=Q
DY:mN->x<2^40:=Q
DV:0+aa*4=az (4*x):=Q
Ia:Km (y+x+z+w):=Q
Fp:c5->eB - y<bi:=Q
DW:dH->¬Nj->bG:=Q
Nm:yD->y<=18*z->ba<=18*eE:=Q
NK:ax->x<y+z:=Qw
HK:c5->x≠y:=Q
Hx{a:Y}:((fw qi)/(4:ad))=rA a:=bZ
PZ:w+q<=z->w=x->q=y->EB:=Qw
Na:am->¬Ki->bG:=Q
Lq{y:ad}:aa<y->x<tO:=Q
J9:x<=aG:=Qw
Nb:x=y+eE->x=bv+z:=Qw
KR:j! (bB+1 - aw) ek:=Q
Ms:am->y<1114112->xl/\tI/\jL (aw+1)/\gR (aw+1):=Q
Lv:Cj=az (x+y):=Q
Kb:m9 - 1=aa:=Q
Jq:sJ->y=yU->qx:=Q
Ju:b?->x=n6:=Q
Nn:ax->aG<bv:=Q
Oo:x<z->z=y->am:=Q
K7:¬(0<aa)->x=0:=Q
KP:x+3+z<=y/\w<15/\0<z->x+3<=y:=Q
J1:x+3<=yH:=Q
LP:x<el x_->aG<y:=Q
Jn:qw=ba+1:=Q
Vy:aa<1\/c5->b?->c5:=Q
P7:1<=aa/\am->b?/\am:=Q
aGP:K8 (4*z) (x<z) (4*x<y+4):=Qw
Mj{a b:Y}(h0:sS):qi<(b+fh):=c9 aGP
Jr:Km (ba+z+w):=Q
Oc:Km (y+z+x+w):=Q
Kp:jL ga:=Q
M9:c5->ga>=aw:=Q
NN:aa=4->x=4:=Q
Pt:¬(LY>=aa):=Q
LG:yE->x<2^8:=Q
IL:yN<=w->ba+z<=w:=Q
L_:ba - x=y:=Q
aJJ:bi<=bi:=Q
aBV:am->Lw->x<=1099511627776:=Qw
K5{x:ad}:x<aw->dG->z<2^63->x<2^63:=Qw
Nz{x:ad}: -em<=x->dG->z<2^63->-2^63<=x:=Qw
Lj:EB->EB:=Qw
av0:e?=c4+w->ba=z+w:=Qw
aJr:y=z->w=x->ba=z+w:=Qw
X7:y=z->z=x->am:=Q
aax:y=x->am:=Q
ZI:bi=c4->n8=z:=Q
Tq:c3 kA Ki:=Q
acx:am->aG<=EO:=Q
aoM:ax->bg bG:=Q
ZK:w+eh<=z->x<=w+1->ba<=z:=Qw
Th:x<=c4->d0->qx:=Q
ab0:uy->eB<=bv:=Q
Sb:x<3->y=3->ax:=Q
abN:aG=z->x - kt<z:=Q
Xh:aG - 1=x:=Q
Qg:e?=ba+1:=Q
as2:aa≠ -1:=Q
acF:aa=m9 - 1:=Q
ae5:ax->¬(x=kv)->x<kv:=Q
abd:ax/\dG->am:=Q
abl:lA->ur:=Q
acG:dH->x=y+oe:=Q
aeT:am->x+1*og=y:=Q
Vf:1<=x/\x<1+kt->b?:=Q
UZ:z<x/\x<=w+1->w<q->q=y->am:=Q
abM:c5/\x<=c4->0<bi:=Q
acP:ax/\qD->x<w/\w<=c4->ax/\y<=c4:=Q
adO:x - w<=c4->w<y->bi<=z:=Q
XH:qy<=y->4*x+1<y:=Q
R9:0<aa->lz:=Q
aed:c3 M1 (bB=10):=Q
Xd:¬(oe=0)->1<=bi:=Q
acA:x<4*y+4->x - 4*y<4:=Q
Ye:ky<=x->d0->n6=x:=Q
RU:x+2<=yG:=Q
aaS:c4+w<=y/\q<3/\d0->x+2<=z->x+2<=y:=Q
ab5:y<=aG->lj+1+cA=az (eX+z):=Q
auK:m9=aa+1:=Qw
WM:0<y->da->aG<=y+z:=Q
aey:1+aa=az cI:=Q
aex:qz->x<el x_:=Q
Tr:aa<=aw->bg c5:=Q
ab4:¬(em<=aa)->ax:=Q
XZ:aa=11->x=11:=Q
XI:c3 (bB=11) M2:=Q
Wc:Cl->bg dH:=Q
Xi:yH - E1=y:=Q
aow{a:Y}:((wP-iB)%mc)=et:=ut
XW:n8=c4->x - (eh+1)=z:=Qw
U4:qB->x≠y->ax:=Q
U1:aa=13↔x=13:=Q
Ux:4*cI<y+4->4*x<y:=Q
afI:qq->z<4->4*y<x+4:=Qw
aav{a:Y}:BZ<(a+fh):=k_ afI
ae4{a b:Y}(h0:(b%fh)=et)(h1:sS):(qi+vW)<b:=bZ
afc{a b:Y}(h0:(b%fh)=et)(h1:sS):(qi+k4)<b:=bZ
abX{a b:Y}(h0:(b%fh)=et)(h1:sS):(qi+eY)<b:=bZ
atR:qq->z<4->4*w+q=x+3->q<4->z=0->w=y:=Qw
acS{a:Y}(h0:iV=et):BE=GT:=atR dr dt dr dt h0
aEp:aa<=aw->am:=Qw
V_:ba - x+1=bv:=Q
W4:x<=1+n!+z->aG<=1+n!+eE:=Q
ad7:x<=n!+z->aG<=n!+eE:=Q
Rw{a b c d e f:Y}(h0:pv fv gK d)(h1:(d+e)<b)(h2:a<=((eY+D5)+e))(h3:b<=f)(h4:f<=ug):C9:=bZ
ZH{a b c d e f:Y}(h0:pv fv gK d)(h1:(d+e)<b)(h2:a<=(D5+e))(h3:b<=f)(h4:f<=ug):C9:=bZ
Si:c3 (bB=6) (x=6):=Q
ae6:aa=6->x=6:=Q
aaj:da->d0->qx:=Q
av9:bv<=2->x<=c4->ba<=c4+1:=Q
abu:z<w->z=x->w=y->ax:=Q
aeE:x<=n6:=Q
XJ:am->dG->qv->2*x<=200:=Q
Qn:aG<z->y=z->qz:=Q
Qk:yN=ba+z:=Q
We:c3 (y=x) kz:=Q
aaL:z<z\/z=z/\ax->ax:=Q
atM:yF->ME<=18:=Q
aJO:x<=18*z->yF->z<=18->ba<=1000:=Q
aMm:x<=18*y->yF->ur:=Q
ags:aa=8->x=8:=Q
aEa:x<=8->¬(bB=8)->x<8:=Q
asQ:aa<=18->yD:=Q
ahI:x<8->MT<E3:=Q
ai4:aw<=18->x<=18*y->x<=324:=Q
aoH:18<aa->18<x:=Q
ah2:¬(18<aa)->yD:=Q
aA9:yD->aa<=18:=Q
Qo{a b c d e:Y}(h0:wq d)(h1:a<=((eY+D5)+e))(h2:b<=Ma)(h3:e<ug):C9:=bZ
YL{a b c d e:Y}(h0:wq d)(h1:a<=(D5+e))(h2:b<=Ma)(h3:e<ug):C9:=bZ
aad:bG↔Cp:=Q
Q0:aa=1->x=1:=Q
aam:c3 (bB=1) (x=1):=Q
Xj:z - 1=y->x<z->x≠bv:=Q
adC:c3 LV E4:=Q
abf:x<=x+0:=Qw
Xp:x<=w+z->w<=bv->x<=y+eE:=Qw
abF:x<14->aG<32:=Q
adb:¬(32+x<32):=Q
YF:x<15->32+x<64:=Q
adl:¬(64+x<32):=Q
adf:¬(64+x<64):=Q
YD:b?->am->y=1->x=1:=Q
acj:am->x+(eh - x)=bv:=Q
S1:x=z->z=y->bG:=Q
XT:0<aa->b?:=Q
aIL:4*y+z=x+3->z<4->x<=4*y:=Qw
acU{a:Y}:a<=(fh*BE):=k_ aIL
aeM:x<15->y=15->ax:=Q
VE:aa=0->x=0:=Qw
Rz:¬(Cd=0):=Q
Sg:0<xk->xk - 4=az (4*x - 4):=Q
TF:qy<=y->4*x - 4<y:=Q
TU:b?->xk - 2=az (4*x - 2):=Q
afl:qy<=y->4*x - 2<y:=Q
adB:xl:=Q
SO:ax\/bG/\z<w->am:=Q
W6:64<aa->64<x:=Q
YS:c3 (64<aa) M3:=Q
aal:¬M3->nD:=Q
Uv:yq->yq:=Q
S_:bG->¬kA:=Q
RK:qg/\x<55204->KH:=Q
Vs:¬gt->x=n6:=Q
aaD:da->min oe E!=bi:=Q
ae7:ax->x+og=y:=Q
XR:max (max x y) z=max x (max (qC y) z):=Q
Uj:z<w->z=q->w=q->bG:=Q
Um:rV->ek<=1114112:=Q
Uo:am->aG<=bv:=Qw
Yk:aG+z<=y->z=1->qz:=Q
Xu:EN<=y->ax:=Q
aeD:bG->Mu->nD:=Q
T6:am->lj<=0:=Qw
ats:am->Lw->¬Ud:=Qw
Sn:x+3*eh+5<z->aG+3*y+5<z:=Qw
aIw:uA (x+16*eh)->uA (aG+16*y):=Qw
aJZ:min oe E!<=z:=Qw
ab9:d0->z=x->am:=Qw
aqh:0+y=z+x->am:=Q
akt:c4+y=0+x->¬E?:=Q
ao8:x=z\/bG->¬(x=z)->bG:=Q
aLb:da->z=y->¬(x=z)->ax:=Q
aBo:z=y->z<=x->¬(z=x)->¬E?:=Q
aKu:y=z\/y=x->¬(y=z)->am:=Q
ayc:y - x=0->am->bG:=Q
aAf{x:ad}:(EX/\x<=1114111)/\lE (55296<=x) (x<=57343)↔0<=x/\ln<1114112/\¬(55296<=ln/\ln<57344):=Q
aju:x=yU:=Q
aB2{a b:Y}:((dy+fv)/gL)=az tK:=bZ
as7:2*q+r=ba->r<2->ax->qD->z=w->q<z:=Qw
aqu{a b c d:Y}(h0:a<b)(h1:b<=d)(h2:c=d):tK<c:=as7 dr dt h0 h1 h2
aqW:x<z->dF->am:=Q
amO:Dl (y+x) c5 (x - eE<bi):=Qw
aGq{a b:Y}(h0:b<a):(a-(((b+a)/k4)+eY))<Fa:=c9 amO
aEe:Dl ba ax (c4<=y):=Qw
aGc{a b:Y}(h0:a<b):(tK+eY)<=b:=c9 aEe
aGW{y:ad}:cA<y->da->aa<y:=Q
axX:Dl ba ax (z - x<y - x):=Qw
aq0{a b:Y}(h0:a<b):(tK-a)<(b-a):=c9 axX
azO:Dl ba ax da:=Qw
agE{a b:Y}(h0:a<b):a<=tK:=c9 azO
axv:2*w+q=ba->q<2->ax->dG->uP:=Qw
ayT{a b c:Y}(h0:a<b)(h1:b<=c):tK<=c:=axv dr dt h0 h1
aE6{x:ad}:x<=cA->dF->x<=aw:=Q
arK{x:ad}:x<=aw->ln<=y:=Q
alP{y:ad}:aa<=y->x<=tO:=Q
asC:x=z->¬(y<z)->am:=Q
awM:bi<=w+1->yT (y+3)<=w:=Q
aJB:bi<=q+1->x - (y+2+z+1+w)<=q:=Q
ayz:am->aG<=y+2+z+1+w:=Q
aC8:¬(bB= -1):=Q
akq: -1≠aa:=Q
aGV:¬(-1=aa):=Q
aBM{x:ad}:0<=x/\x<cA->y=z->ln<y:=Q
aqR{x:ad}:0<=x/\x<aw->x=az ln:=Q
aL4{y:ad}:¬(y<aa)->x<=tO:=Q
aAY:x<=min z y->am:=Q
aEA:1+x - 1=x:=Q
aCJ:x=3\/x=22->x≠22->bg (x≠3):=Q
aAp:x=9\/x=15\/x=30\/x=31\/x=41\/x=46->¬(x=3)/\¬(x=22):=Q
aw1:b?->uy->x+(y - jO)=bv:=Q
axY:0<=m9 - 1:=Q
aud:el (Cd - 1)=x:=Q
auu:ga=m9 - 2:=Q
aJT:0<=Cj:=Q
aia:j! (bB+aw) ba:=Q
apa:x<28->28=x+(27 - x+1):=Q
aCE:b?->bg (0=x):=Q
awt{a:Y}:(((dy%gL)=qj)↔((a%k4)=Mv)):=bZ
aJM:z<w/\w<=y->x<=y - w->aG<=ky:=Q
agy:x<=ky->EE->lA:=Q
ax8:am↔aa<=aw:=Q
aFC:aw<=aa->am->aa=aw:=Q
aIV:x<z/\dF->am:=Q
agv:ax/\qD->x<w/\uP->ax/\dG:=Q
aks:x<=2->z=16777216->w<8->q=bv->q<=w+1->EB:=Qw
aA8:am/\y<x+(z - x)->qB:=Q
aG2:c5->bi=n8+1:=Q
aw4:dG->z<x->bi=z - y+(x - z):=Q
auW:z<=x/\x<z+(y - z)->ax:=Q
aDJ:aG=1+x:=Q
awD:nX/\y<aG+(eE - x)->ax/\y<=c4:=Q
ahM:z<=x/\x<z+(y - z)->am:=Q
apB:nX/\y<aG+(z - cI)->ax:=Q
ajb:bi=0->bg c5:=Q
aEs:y<z->dF->x≠2:=Q
aps:am->¬(y=x)->nX:=Q
ak6:ax->¬(cI<y)->x=kv:=Q
akF:bi<=0->bg (¬E?):=Q
aDT:c5->x=n6:=Q
auQ:bi<=x:=Q
aze:bi<=aG:=Q
alv:¬(4*y+4<=x)->x - 4*y<4:=Q
agD:x<yH:=Q
ani:x<yG+1+z:=Q
aIc:0=aa\/4=aa\/8=aa\/10=aa↔x=0\/x=4\/x=8\/x=10:=Q
aDQ:x=10->aa=10:=Q
akm:y<z->y=z->x<x:=Q
agZ:bG->dG->z<w->w<=64->lA:=Q
aEq:b?->y+x<=z->bg dF:=Q
aJu:ur->xl/\tI:=Q
akW:c3 gt (0+aa=0):=Q
arW:¬gt->0+aa - 1=az jO:=Q
aLV:m9>0:=Q
agw:aa<8->x<8:=Q
aCX:aa<8->MT<E3:=Q
aL2:aa<8->aG<=8:=Q
aKg:aa<8->E3=MT+1:=Q
aAN:¬(bB<8)->E3=0:=Q
aqd:4*cI - 4=4*x:=Q
avA:4*cI - 2=4*x+2:=Q
aHN:4*cI - 1=4*x+3:=Q
aLm:x<y+3->bi<3:=Q
aiq:bi<=w->yT (y+3)<=w - 1:=Q
ank:x<y+2->c5->bi=1:=Q
aE0:x - q<=w->q+2<=y->yT eh<=w - 1:=Q
aB6:x+(1+y)=e?:=Q
aEn:rV/\lE (55296<=x) (x<57344)↔sE:=Q
aJw:55296<=w/\w<57344->55295<=y/\y<=57344->x<=w->uP->sE->z<1114112/\rJ z z->am/\dG:=Q
ag3:RA (z<=x) q (q<z):=Q
agS:RA da q (z<w):=Q
avP:x=bv->lz:=Q
aw7:ek+z<=w->w<1114112/\rJ w w->ek+z<1114112:=Q
afB:KA/\KK->z<10->TN<10:=Q
azp:KA/\KK->z<10->TK<10:=Q
auC:0<y->x<55296->K1 eX:=Q
avY:K1 eX->ek+(55296 - eX)=55296:=Q
auT:x=55296 - MW+1->lz:=Q
aCg:C'<=C'/\C'<np:=Q
azU:C!<=C!/\C!<=np:=Q
aHW:K1 eX->z=TN+1->z=w->bg (w=TK+1):=Q
ayU:sE->y<=10->¬Mx->TH<10:=Q
anu:sE->y<=10->¬Mx->TJ<10:=Q
asy:KA/\KK->K0 eX:=Q
au5:K0 eX->ek+(57344 - eX)=57344:=Q
anv:x=57343 - MW+1->lz:=Q
aCi:C'<=TD/\TD<np:=Q
ano:C!<=np/\np<=np:=Q
anT:K0 eX->z=TH+1->w=TJ+1->bg (w=z):=Q
avw:0<=az (eX+z):=Q
awR:CS=CS+1->uy:=Q
asY:aa=aw+1->x=bv:=Q
aHA:bg (CS=aa+1):=Q
aEd:d0->¬(z<x)->ax:=Q
aHG:¬Nj->¬(y=x)->ax:=Q
aje:ax->dG->z<w->bg (w<=x):=Q
ah5:dH->z=bi->x=y+z:=Q
atV:x<z+w->y=z+q->w=ky->ax:=Q
apf:EE->dF->w=z - q->r<=w->x<=q+t->t<r->nD:=Q
aA5:x<=y+z->aG<=y+eE:=Q
ayW:z<x->x - x!<kx:=Q
ax2:x<=z+w->w<=q->q=ky->x<=x!:=Q
atY:x=y+z->¬Nj->bG:=Q
aJp:x<z->x<x!:=Q
aIr:ax->x<x!:=Q
axa:x<x!->y=z+w->¬kA->bG:=Q
axd:ur->-D0<=qj/\qj<D1/\xl/\tI:=Q
arF:1+aa - 1=aa:=Q
asv:0<aa/\Cl->bg (x=0\/dH):=Q
aFc:¬(0<aa/\Cl)->x=0\/dH:=Q
ayY:da->d0->am:=Q
aJG:ax->x+(kt - x)<y:=Q
apF:ax->x+(kt - x)=kv:=Q
ayQ:y<256->z=x->dF->x<256:=Q
axq:mN->-D0<=qj/\qj<D1/\xl/\tI:=Q
alV:z<0->ax:=Q
aJA:x<el x_->ax:=Q
ake:aa=11->¬M1:=Q
auX:aa=10->x=10:=Q
akE:aa<256->x<256:=Q
aFf:x<256->aa<256:=Q
ak5:c3 (bB=10) M1:=Q
auV:lj<3->x<y+3:=Q
aJR:¬(em - aa<3)->x+3<=y:=Q
aDg:y+3<=x->¬(x<y+3):=Q
anQ:15<=aa->bg (x<15):=Q
aio:aa<15->x<15:=Q
aBx:1<=aa/\am->b?:=Q
asV:aw - cA - 3<aa->z+3<=y->¬(x<=y - (z+3)):=Q
azz:¬(Cr - 3<aw)->yH<=z:=Q
aii:yH<=z->min (E1+y - E1) (z - E1)=y:=Q
ag2:EO<=w->x=z->w<=8192->mN:=Q
au7:c3 M2 (bB=11):=Q
aIA:KG/\KF\/CH/\CI\/xv/\xp\/Kr/\Kq↔qg/\pZ\/BX:=Q
agc:lj<0->ax:=Q
ayC:lj<0->-(bB - aw)=az og:=Q
amg:x<65536->¬JP->-2^64<lj/\lj<2^64:=Q
aKz:c3 JP kA:=Q
aFP:¬JP->lj=az oe:=Q
aAF:z=w->q=r->(bB<=aw↔z<w\/z=w/\(q<r\/q=r/\am)):=Q
aqi:z=w->¬kz->(bB<=aw↔z<w\/z=w/\(kA\/bG/\q<=r)):=Q
aHl:¬kz->(bB<=aw↔ax\/bG/\(z<w\/z=w/\q<=r)):=Q
aF6:18<x->am->bg yF:=Q
avS:nX->y - cI=0->aG=y:=Qw
anl:j! aa el aw->bG:=Q
aJq:TZ->x<16777216:=Q
ah7:rV/\rJ x x->rV:=Q
akv:0=aa\/3=aa\/9=aa↔x=0\/x=3\/x=9:=Q
aA6:qq->z<4->¬M6->4*y<x:=Qw
aD2{a:Y}(h0:¬(iV=et)):BZ<a:=c9 aA6
aEc:4*w+q=x->q<4->4*w+4<=x/\dG->q=0:=Qw
aA1{a b c:Y}(h0:(((BZ+fh)<=a)/\(b<=c))):iV=et:=c9 aEc
apT:qq->z<4->z=0->x<=4*y:=Qw
aBY{a:Y}(h0:iV=et):a<=BZ:=c9 apT
aGX:dF->aa+(em - cA+1)=az (x+MW):=Q
axE:4096<aa->4096<x:=Q
axN:c3 (4096<aa) (4096<x):=Q
apt{a b:Y}(h0:(b%a)<a):(dy-(fv%dy))=az (a-(b%a)):=bZ
asr:lz->aa>0:=Q
apg:x+1*y=ba:=Q
amu:j! (bB - (em+1)) EM:=Q
ap9:am->dG->z<=1000->jL jX/\gR jX/\jL aw/\gR aw:=Q
anm:da->z<=1000->EM<=1000:=Q
aIj:jX+aw=az (cI+y):=Q
arj:y<el ((w:ad) - (bB+1))->uP->e?<z:=Q
afH:x<=ky - 1->qD->w<=1000->ur:=Q
aAO:j! (LY - x_) bi:=Q
at1:am->EE->gR ga:=Q
aLh:am->dG->qv->gR ga:=Q
az4:yU<=y->bg c5:=Q
avd:y<yU->x≠y:=Q
awI:y<kx->bi=EM+1:=Q
air{a b c:Y}(h0:Fa=(c+eY)):wE dy gK fv:=bZ
aCu{a b c d:Y}(h0:pv fv gK a)(h1:b<=d)(h2:d<=ug):((JN<=rA a)/\(((dy<AK)/\(((JN<=rA b)/\(fv<AK)))))):=bZ
azn:y<el Cr->ba<z:=Q
aDX:ba+1=qw:=Q
aoD:x<ba+1:=Q
apm:az (x+y)+1=az (x+y+1):=Q
aCG:ba=z->Cj=cA:=Q
aiN{a b c:Y}(h0:pv dy gK b):et<Fa:=bZ
aEC:x<=1+n!+(z - w)->z<=q->q<=64->x<=1+Ev:=Q
avH:x<=n!+(z - w)->z<=q->q<=64->x<=Ev:=Q
aF3{a b c:Y}(h0:wE dy gK fv):Lo=c:=ut
aHH{a b c:Y}(h0:pv fv gK a):a<b:=bZ
avh:c5->n6=x:=Q
aox:c3 (bB=5) (x=5):=Q
az0:aa=5->x=5:=Q
aw0:sJ->DP=az jO - 1:=Q
atx:sJ->eB<x:=Q
alF:x<z->d0->qx:=Q
ajJ:c3 LX (x=4):=Q
afS{a b:Y}(h0:b<=a):(((((dy-gK)-(fv-gK))%gL)=qj)↔((Fa%k4)=Mv)):=bZ
alE:x - x+y=y:=Q
aCB:aw - 1=az kt->dH->x - kt+z=bi+eE:=Q
axw:6=aa\/8=aa\/26=aa\/27=aa↔x=6\/x=8\/x=26\/x=27:=Q
ape:3=aa\/4=aa↔x=3\/x=4:=Q
akP:x<=18*min z w->yF->z<3->ba<=16777216:=Q
aC4:GZ/\pF->BX:=Q
aJ0:G0/\v!->BX:=Q
awL:G1/\Az->BX:=Q
aK6:¬(qk/\pF)->¬(yi/\v!)->¬(Ei/\Az)->(qk->4371<=x)/\(yi->4470<=x)/\(Ei->4547<=x):=Q
aHC:x<=ky->EE->aG<=65:=Q
aHm:lA->1+x<=100:=Q
ajL:aa<Cb->x<bv:=Q
asK:bv<bv->n6<x:=Q
aHK:ax->¬(x=kv)->qz:=Q
aKj:am->y<c4->z<w->w=q->q<=64->2*x<=998:=Q
akn:c5->d0->bi<kx:=Q
aAi:da->d0->nX:=Q
aGf:qB->aa<Cb:=Q
aAw:z<w->z=q->w=r+1->¬(q<r+1)->x=kv:=Q
aDo:y<w->dF->w=x->n8<kx:=Q
aj8:aG<z->y=z->ax:=Q
aAx:m9 - 2=ga:=Q
aGY:DP=ga - 1:=Q
avJ:bg (et<et):=Q
aKF:aG=z->bi<z:=Q
at8:0<y->x<=EV:=Q
aGk:ba - 1=x+z - 1->0<y->bg (y<z):=Q
apY:ba<=x+z - 1->bg d0:=Q
aoT:¬kA->¬kz->0<bi:=Q
aEt:y+z=w->x<w->¬kA->bi<z:=Q
awc:¬(z<y)->ba+E! - 1=x+z - 1:=Q
aL6:EV=x+z - 1->0<z->¬(y<z)->bg (¬(y=z)):=Q
av3:x<=90->yE:=Q
aIy:x<=122->yE:=Q
apK:x<4*y+4->min 4 (x - 4*y)≠4:=Q
ayp:¬(gt\/x=3\/x=9)->lz/\x≠3/\x≠9:=Q
ayl:ba+(z+0)=x+z+y:=Q
aG9:bg (x<x):=Q
afD:b?->18<bv->bg (y+Nh<=18):=Q
amF:18<ba->bg (yN<=18):=Q
alZ:y+Nh<=18->yD:=Q
aBh:0<z->x+z<=y->ax:=Q
amj:KG/\KF->¬(D_/\pZ):=Q
awF:KG/\KF->GZ/\pF:=Q
ato:CH/\CI->¬(D_/\pZ):=Q
ajE:CH/\CI->¬(qk/\pF):=Q
aFA:CH/\CI->G0/\v!:=Q
aDu:xv/\xp->¬(D_/\pZ):=Q
asz:xv/\xp->¬(qk/\pF):=Q
aJy:xv/\xp->¬(yi/\v!):=Q
aDv:xv/\xp->G1/\Az:=Q
ahj{a:Y}(h0:(((Iw/\Kc))/\((IE%ya)=nL))):((iB<=a)/\(a<CZ)):=ut
aCd{a:Y}(h0:(((Iw/\Kc))/\((IE%ya)=nL))):gO=et:=bZ
aGr:Kr/\Kq->qg/\pZ:=Q
afM{a:Y}(h0:(Iw/\Kc))(h1:¬((IE%ya)=nL)):¬(gO=et):=bZ
asa:j! (bB - 2 - (-1)) eB:=Q
arS:jL DP:=Q
aH1:x<=65->gR DP:=Q
awG:eB - 0<=y->bg (bv<x):=Q
aqC:kv - 0<=x->ax->x=kv:=Q
aoY:x<kv - 0->bg (x=kv):=Q
aII:y<eB->eB - y=x - 2 - y+1:=Q
aCh{a b c:Y}(h0:((a-eY)-b)=(c+eY)):wE dy gL fv:=ut
akD{a b c:Y}(h0:wq a):a<b:=bZ
auP{a b c:Y}(h0:wq a):(a+eY)<=b:=bZ
au2:bv+x<z->z<=65->x<64:=Q
agA{a b c:Y}(h0:wE fv gL dy)(h1:b<=Ma):a<ug:=bZ
aKJ{a b c:Y}(h0:pv dy gL b):Lo=((Lo-eY)+eY):=bZ
aoS:x<=65->n8<=64:=Q
amI:x<=1+n!+z->qv->x<=1+Ev:=Q
agp:x<=n!+z->qv->x<=Ev:=Q
aEz{a b c:Y}(h0:wE dy gL fv):((a-eY)-(b+eY))=c:=ut
ak9{a b c:Y}(h0:wq a):(a+eY)<b:=bZ
awH:eB - jO=0:=Q
aF8:ur->eB<=1000:=Q
aF7:lz->min 1 x≠0:=Q
aBk:lz->1<=x:=Q
axQ:Cp↔y=x:=Q
aIB:aa=39->x=39:=Q
aAI:c3 (bB=39) (x=39):=Q
avZ:1<=x->eB=y->x=bv:=Q
aLX:c3 (jO=y) (x=bv):=Q
asB:z=w->w=ba->ba<=z:=Q
azr:am->y<z->z<=w->w<=64->nD:=Q
aET:c5->dF->n8<kx:=Q
aGS:da->dF->uy:=Q
amY:da->dF->aG<=bv:=Q
alS:am->x+(og+1) - 1=y:=Q
ax7:am->x+(og+1)=bv:=Q
ajF:x=2->bg (¬LV):=Q
ap1:aa=3->x=3:=Q
ajB:x=3->bg (¬(bB=3)):=Q
aJV:aG+1+1+y+1+w<=z->aG+1+1+y<=z:=Q
azh:x=4->bg (¬LX):=Q
aCK:x=12\/x=10->¬(x=13)/\¬M2:=Q
aC7:x=1->¬E4:=Q
asW:x=1->aa=1:=Q
ark:x=3->¬E4:=Q
alx:x=3->¬(x=1):=Q
aD6:x=3->¬(bB=1):=Q
as8:c3 E4 LV:=Q
atL{x:ad}:0<=x/\ln<=y - eE->min (uU x) (y - eE)=ln:=Q
aAy{y:ad}:0<=y/\tO<=z - cI->x<z->aG+tO<=z:=Q
aMg:¬(x<0):=Q
aHd:0=aa↔x=0:=Q
ahB:4=aa\/5=aa↔x=4\/x=5:=Q
ar2:b?->da->dF->qx:=Q
aiX:qz->am:=Q
azV:ek+eE=w->aw - 1=az kt->y<=aG->aG - kt+z=w:=Q
arT:ek+0=z->y<=aG->aa - x_=cA:=Q
arQ:aG - 0+0=y->aa - (((0:Y):ad) - 1)=aw:=Q
akQ:b?->ax->¬(gt\/bG):=Q
aGl:1<=x/\x<1+kt->ax:=Q
ay3:dH->¬Ki:=Q
aKx:dH->aG=y+eX:=Q
agr:am->y<z->x+(eh - x)<=z:=Q
ajR{x:ad}:c3 EX EX:=Q
aHi:aw=aa->bi+1=1:=Q
aJo:dH->¬(em=aa)->¬(oe+1=1):=Q
avg:bi - z=x - (y+z):=Q
aGt:x<q\/x=q/\z<r->q<y\/q=y/\t<w->r<=t->ax\/bG/\z<w:=Q
afN:x<q\/x=q/\z<r->q<y\/q=y/\r<w->ax\/bG/\z<w:=Q
aJl:am->y=z->qv->lA:=Q
aCx:lA->nD:=Q
aD3:j! LY eB:=Q
ahm:lA->gR ga:=Q
aiD:0+aa=aa:=Q
aBe:bv<=x->ga=az jO:=Q
aLt:c4<=x->x<=w->y=w->qx:=Q
axg:y=x->bG:=Q
aip:b?->-bB<= -1:=Q
ajz:j! (-1+aa) eB:=Q
aDs:ME<=x:=Q
asS:bG->y=0->x=0:=Q
ajV:x<=bv - z->y<1114112->TZ:=Q
axj:aw=aa->bG:=Q
aKY:w=e?->uP->e?<=z:=Q
azo:1=aa->x=1:=Q
azJ:aa=2\/aa=3\/aa=6->x=2\/x=3\/x=6:=Q
aFy:x=2\/x=3\/x=6->bg (aa=1):=Q
aLL:aa=4\/aa=5->x=4\/x=5:=Q
azj:x=4\/x=5->bg (aa=1):=Q
ar0:uy->eB<bv:=Q
azX:0<y->EV=x+kt:=Q
awr:0<y->az (x+y) - 1=az (x+y - 1):=Q
azW:64<=aa->bg (x<64):=Q
aAo:¬(64<=aa)->x<64:=Q
aiF:¬((vW:ad)<=aa)->x<3:=Q
aMc:x<3->x=0\/x=1\/x=2:=Q
agi:3<=aa↔3<=x:=Q
arJ:4*x<=qy:=Q
atm:qy - 4*x=4:=Q
apO:bG->y=z->z<64->nD:=Q
arA:aa<(vW:ad)->0<aa->b?/\x<3:=Q
aoR:(0<x->3<=aa)->¬(0<x/\x<3):=Q
aEb:Kr/\Kq↔qg/\pZ:=Q
am1:qg/\pZ->aa - 44032=az (x - 44032):=Q
alY{a:Y}:((fw mi)%ya)=az gO:=bZ
aDr:xm lF (0<cA) (¬M6):=Qw
ati{a:Y}(h0:nL<az gO):¬(gO=et):=c9 aDr
aw2:GP=rQ->lF->aa - cA=az (x - z):=Qw
aoi{a:Y}:(dy-fw gO)=az wP:=k_ aw2
auh:GP=rQ->lF->4519+cA=az (4519+z):=Qw
ass{a:Y}:((4519:ad)+fw gO)=az (rX+gO):=k_ auh
aJd:xm lF (¬(0<cA)) (z=0):=Qw
aEK{a:Y}(h0:¬((0:ad)<az gO)):gO=et:=c9 aJd
aL8{a:Y}:((fw mi)/(588:ad))=az IX:=bZ
akl{a:Y}:(((fw mi)%(588:ad))/ya)=az IA:=bZ
aEP:G7+z=rQ->uE->4352+aw=az (4352+y):=Qw
aCD{a:Y}:((4352:ad)+fw IX)=az (mC+IX):=k_ aEP
aAC:G7+z=rQ->uE->28*w+q=z->q<28->4449+pb w=az (4449+w):=Qw
ayE{a:Y}:((4449:ad)+fw IA)=az (mE+IA):=aAC dr dt dr dt
az7:Cp->bg (¬kz):=Q
aD7:x=0->3=az (max 3 x):=Q
axn:c3 (bB=0) gt:=Q
aiA:x=0\/3<=x->¬gt->aa=az (max 3 x):=Q
aMs:2=aa\/3=aa↔x=2\/x=3:=Q
aj1:aa=3↔x=3:=Q
ahW:1=aa\/3=aa↔x=1\/x=3:=Q
axK:x<=400->0+301*x<=120400:=Q
aEu:LJ (301*eh)->x<=120400:=Q
amU:LJ (301*eE)->y<=300->e?<=200000:=Q
alg:LJ (301*eE)->y<=300->qw+301*z<=120400:=Q
anJ:ax/\dG->bg (z<=x):=Q
aKo:qB->x<bv+1:=Q
aqk:x+3+z<=y->x+2<y:=Q
aon:x+3+z<=y->aG<y:=Q
an9:EO<=w->am->w<=8192->mN:=Q
ave:EO<=x->yT (y+3)<bi:=Q
agd:d0->z=x+2+w->qz:=Q
aLD:y=EN->x+2<=y:=Q
ahT:x=y+2+z->x - (y+2)=z:=Q
arL:aG<=e?:=Q
aFL:e? - cI=y:=Q
aDP:am->y<z->z<=8192->mN:=Q
aFj:bv+z<=x->y=w+2+q->yT eh<x - w:=Q
ajs:x<=w->y=w+2+q->aG<=bv+z:=Q
awQ:55296<=x/\x<=57343->bg (rV/\(Mx\/57344<=x)):=Q
aBp:aa - az (4*y)<4->x<4*y+4:=Q
ahU:¬(em - xk<4)->qy<=y:=Q
aJP:4*y+4<=x->¬(x<4*y+4):=Q
aiI:0<4*aa/\aw=cA↔¬gt/\y=z:=Q
aEF:¬gt/\y=z->b?:=Q
aLe:b?->xk - 1=az (4*x - 1):=Q
anw:qy<=y->4*x - 1<y:=Q
aHI:y=x->aa=aw:=Q
aBl:am->y=16255->My:=Q
ahg{a:Y}:(dy%(gL^k4))=az iV:=bZ
atk:qq->z<4->2<cA->z=3:=Qw
aJz{a:Y}(h0:GX<az iV):iV=(3:Y):=c9 atk
apu:qq->z<4->z=3->bg (¬(2<cA)):=Qw
aHk{a:Y}(h0:iV=(3:Y))(h1:¬(gL<az iV)):kB:=apu dr dt h0 h1
aiC:2^14<=x->bg My:=Q
aL0{a:Y}:(dy/(256:ad))=az ua:=bZ
avB:256*y+z=x->z<256->0<=aw:=Qw
amw{a:Y}:nL<=az ua:=k_ avB
aBr{a:Y}:((fw ua)%(64:ad))=az (ua%GU):=bZ
aiV:qq->z<4->((z:ad)=2↔z=2):=Qw
aoF{a:Y}:((fw iV=GX)↔(iV=(2:Y))):=k_ aiV
aBR:256*y+z=x->z<256->64*w+q=y->q<64->My->q=y:=Qw
aFI{a:Y}(h0:a<(16384:Y)):(ua%GU)=ua:=aBR dr dt dr dt h0
awh:x<=100->tI:=Q
aEV:bG->y<z->z<=100->x<=100:=Q
au6:el aa=x:=Q
ao2:x<14->y=14->ax:=Q
aEv:K8 (4*z) (x<z) (Mu->mN):=Qw
akf{a b:Y}(h0:sS)(h1:b<=T0):a<=T0:=aEv dr dt h0 h1
axG:2+2*x=2*cI:=Q
afF:am->y<z->z=w->w<=64->2*x<=998:=Q
aHs:d0/\y<=w+1->z<q->q=x->bi<kx:=Q
aLo:d0/\y<=w+1->da->nX:=Q
aLz{a b:Y}:((fw ((a/b)%k4)=qj)↔(((a/b)%k4)=Mv)):=ut
anO{x:ad}:y<0->x= -1:=Q
atz:x=4*y->aG+1+1+1=4*eh:=Q
afL:4*z+w=y->w<4->y=4*x->x=z:=Qw
aw8{a b:Y}(h0:b=qi):a=(b/fh):=c9 afL
aI7:¬(0<x/\x<3)->x=0\/3<=x:=Q
aF9:aa+(em+((z:ad)+pb w))=Cj+cA+pb w:=Q
aCT:8192<az (x+y+z+w)->8192<ba+z+w:=Q
aB8:yq->2+x<=2000:=Q
asf:yq->x<=298:=Q
al9:lA->yq:=Q
apy:lA->¬M3:=Q
aLv:bG->x<bv:=Q
ar6:x+0+(y+(0+1))=ba+1:=Q
aF5:aG+(y+0)=ba+1:=Q
aoP:¬kA->¬kz->¬(x<bv):=Q
aKK:x+0+(y+0)=ba+0:=Q
aFz:da->z=y->qB:=Q
arn:y+w=x->z - w=0->¬(z<w)->x=y+0+z:=Q
aFK:da->d0->qB:=Q
alX:y+x=z->y=z->x=0:=Q
aFl:¬(E?/\dG)->am->d0:=Q
aDV{a:Y}:(dy/(4:ad))=az GT:=bZ
axt:588*z+w=y - 44032->w<588->28*q+r=w->r<28->44032<=y/\y<44032+11172->x=4352+z\/x=4449+q->sE:=Qw
aB4{a b:Y}(h0:((iB<=b)/\(b<CZ)))(h1:((a=(mC+(CU/rB)))\/(a=(mE+((CU%rB)/mc))))):((a<S')/\(¬((((55296:Y)<=a)/\(a<np))))):=axt dr dt dr dt h0 h1
arU:28*z+w=y - 44032->w<28->44032<=y/\y<44032+11172->x=y - w\/x=4519+w->sE:=Qw
awC{a b:Y}(h0:((iB<=b)/\(b<CZ)))(h1:((a=(b-(CU%mc)))\/(a=(rX+(CU%mc))))):((a<S')/\(¬((((55296:Y)<=a)/\(a<np))))):=arU dr dt h0 h1
aC3:D6->uE->x<11172->qr<4371\/4449<=qr/\qr<4470\/4520<=qr/\qr<4547:=Qw
aqA{a:Y}(h0:a<xB):(((mC+Ar)<Lx)\/((((B8 mE/\((mC+Ar)<Ly)))\/((B8 Lz/\((mC+Ar)<(4547:Y))))))):=c9 aC3
aw3:D6->uE->x<11172->44032<=qr->55204<=qr:=Qw
aBf{a:Y}(h0:a<xB):(B8 iB->B8 Lc):=c9 aw3
aK7:D6->uE->28*w+q=z->q<28->4352<=qs/\qs<4371\/qs<4470\/4520<=qs/\qs<4547:=Qw
aA0{a:Y}:(((Bk mC/\((mE+Al)<Lx)))\/((((mE+Al)<Ly)\/((Bk Lz/\((mE+Al)<(4547:Y))))))):=aK7 dr dt dr dt
aHj:D6->uE->28*w+q=z->q<28->44032<=qs->55204<=qs:=Qw
aIp{a:Y}:(Bk iB->Bk Lc):=aHj dr dt dr dt
awK:28*y+z=x->lF->z≠0->4352<=nS/\nS<4371\/4449<=nS/\nS<4470\/4520<=nS/\nS<4547:=Qw
ajI{a:Y}(h0:v2≠et):(((xj mC/\((rX+v2)<Lx)))\/((((xj mE/\((rX+v2)<Ly)))\/((xj Lz/\((rX+v2)<(4547:Y))))))):=c9 awK
amG:28*y+z=x->lF->44032<=nS->55204<=nS:=Qw
aoc{a:Y}:(xj iB->xj Lc):=k_ amG
aiJ:qg/\x<55204->qg:=Q
ah6:xm lF (¬M6) (44032<=kx):=Qw
aww{a:Y}(h0:¬(gO=et)):(44032:Y)<=wP:=c9 ah6
agU:xm lF KH (kx<44032+11172):=Qw
avI{a:Y}(h0:mi<xB):wP<CZ:=c9 agU
aGs:xm lF KH (kx - 44032<11172):=Qw
ajt{a:Y}(h0:mi<xB):(wP-iB)<xB:=c9 aGs
aFm:z=aG->dF->ax:=Q
aqH:w+x<=z->bi<=z - w - y:=Q
aqv:ba - Nh=ky:=Q
aG1:ax->y<z->x+og<=z:=Q
aBF:x<z->c5->bi<z - y:=Q
aGy:1<=y/\y<1+M0->x<ba:=Q
aJc:1<=y/\y<1+M0->ba<z:=Q
aHv:c5->x=y+oe:=Q
ah3:dH->¬kA:=Q
aBa:am->EM=0:=Q
aE3:nX/\y<aG+M0->ax/\dG:=Q
alH:x<z->y=z->ax/\dG:=Q
axS:c4<=x/\x<c4+(w - z - 1)->y=w->ax:=Q
aom:max x z<=y->am:=Q
amf:max z x<=y->am:=Q
aKb:x=0->dH->qC x=y:=Q
apN:ax->y<w->w=z->am/\y<z:=Q
aj3:da->dF->w<x->qx:=Q
aDY:sJ->b?:=Q
ahV:dF->uP->¬(w<x)->am:=Q
aCN:Le->¬Ud:=Q
awo:¬(z<=x)->bi<=z - y:=Q
aFW:97<=aa/\aa<=122↔97<=x/\x<=122:=Q
aib:x=4↔aa=4:=Q
aot:65<=aa/\aa<=90↔65<=x/\x<=90:=Q
aHr:¬(x<1114112/\rJ x x)->lE D_ (x<44032+11172)/\lE qk (x<4371)/\lE yi (x<4470)/\lE Ei (x<4547):=Q
aBD: -D0<=(10:ad)/\(10:ad)<D1:=Q
aEf:am->y<8192->nD:=Q
afE:¬(cI=0):=Q
alb:b?/\am->b?/\am:=Q
aus:aw - cA - 1<aa->¬(x<ky):=Q
aKi:¬(Cr - 1<aw)->e?<=z:=Q
ash:c4+x<=y->x<ky:=Q
aMq:b?->x<3->x=1\/x=2:=Q
awP:b?/\am->y=1->x=1:=Q
aoz:0<z/\z<=w->aG+z<=y->qz:=Q
afQ:b?->65536<=aw->¬gt/\65536<=y:=Q
aCw:¬(0<aa)->bg (¬gt):=Q
axB:¬(65536<=aw)->x=0\/y<65536:=Q
arG:lj<2->x<y+2:=Q
ax4:¬(em - aa<2)->x+2<=y:=Q
apX:y+2<=x->¬(x<y+2):=Q
anp:3<=aa->bg (x<3):=Q
aqy:aa<3->x<3:=Q
agJ:c5\/d0->am->d0:=Q
aiZ:am/\dG->am/\dG:=Q
aMn:aw - cA - 2<jX->¬(x<y - M_):=Q
aIa:¬(Cr - 2<aw+1)->yG<z:=Q
au9:z+2+x<y->x<y - M_:=Q
ahQ:Mu->min x (y - M_)<=8192:=Q
aDH:x+2+w<z->y=w->yG<=z:=Q
arV{x:ad}: -2^62<=x->x<2^62->-2^63<=x/\x<2^63:=Q
awX:x<2^40->tI:=Q
awi:4*y+z=x+3->z<4->jL aw:=Qw
apA{a:Y}:JN<=az BE:=k_ awi
aG8:4*y+z=x+3->z<4->x<2^40->gR aw:=Qw
aAa{a:Y}(h0:a<(k4^(40:Y))):az BE<AK:=c9 aG8
av5:jL TY:=Q
ax6:x<2^40->gR TY:=Q
auB:EN<=y->aG<y:=Q
avK:yG - (x+2)=y:=Q
aA7:EN<y->aG<y:=Q
aq8:bi=c4->x=y+eE:=Q
ayL:y<w->z=x+(w+1)->az (cI+y)<cA:=Q
aGT:z=y+0->e?=x+(1+z):=Q
ayo:z=x+(w+1)->¬(y<w)->¬(fw (cI+y)<cA):=Q
ajg:qD->z=w+q->q=0->¬(y<w)->e?=x+(1+z):=Q
au0:qw=e?:=Q
anP:qw+1=x+(y+2):=Q
ayj:x<=x+(y+2):=Q
aIf:x+(y+2) - x=bv+1:=Q
ajD:da->z<w->w<=y->am:=Q
akr:x=y+z->bi=z:=Q
aD8:x<q->dH->q=y+z->q<=w->bi<min z (w - y):=Q
aiO:aG<bv->ax:=Q
aDD:yN - 1=ba+z - 1:=Q
arY:0<y->EV<yN:=Q
aik:x<y+z+w->x<y+(z+w):=Q
aoB:x<w->dH->w=y+z->bi<z:=Q
aE8:bv=z->x=z - w->w<=y->b?:=Q
akc:c4=y->da->x+og - 1=z:=Q
aJh:x<w->dH->w=y+z->¬(cI=w)->ek<z:=Q
azf:dH->0<ek:=Q
aym:x<w->dH->z=w - y->¬(cI=w)->ek<z:=Q
ajx:am->x+(eh - x) - 1=y:=Q
aqr:qw - x=bv:=Q
aBi:¬(bB=0)/\aw=3 - aa->¬gt:=Q
aIs:¬(em=0)/\aa=3 - aw->ba=3:=Q
asx:x=4/\¬(y=2)->bg (¬LX\/aw=2):=Q
alh:aa=4/\¬(em=2)->x=4/\¬(y=2):=Q
awu:aa>2->bg (x<=2):=Q
aup:aa<=2->x<=2:=Q
apE:y≠x->dH->n8<bi:=Q
aCA:x≠y->am->nX:=Q
aj5:cA=2->z≠2->bG:=Q
ajj:j! (Cd+1 - (em+1)) ek:=Q
auz:am->y<z->qv->jL jX/\gR jX/\jL (Cb+1)/\gR (Cb+1):=Q
ahE:x<z->qv->ek<=1000:=Q
aIz:y<el (fw (w+1)+1 - (bB+1))->w<z->ba<z:=Q
aqX:jX+aw - 1=az (x+y):=Q
aws:el (bB+1+aw) - 1=ba:=Q
aDL:lE qk (x<4371)/\lE yi (x<4470)/\lE Ei (x<4547)->¬(qk/\pF/\4449<=y/\y<4470):=Q
arR:cA=2/\aa=0/\aw=0->x=0/\y=0:=Q
alu:aa=1↔x=1:=Q
aLU: -D0<=nL:=Qw
awN:nL<D1:=Qw
aEj:aG<=aG+1:=Qw
aDU:uy->aG<=bv+1:=Qw
aLi:x<1000->Le:=Qw
aLf:x+3*w+5<z->qD->x+3*y+5<z:=Qw
aIq:uA (x+16*w)->qD->uA (x+16*y):=Qw
aop:uA (x+16*eh)->uA (x+3+16*y):=Qw
aFM:x+3*z+5<y->ax:=Qw
aAA:x+16*z+200<y->x+64<y:=Qw
axP:ME=x->am:=Qw
aqF:x=z->dF->x+og=y:=Qw
aGB{x:ad}:x<0->el L9<=y:=Qw
aFS{x:ad}:max L9 0=az el L9:=Qw
aKs{x:ad}:¬(x<0)->min x aw=az (min (uU x) y):=Qw
aiu:¬(gK<nL):=Qw
aEG:j! (bB+aw*1) ba:=Qw
ajn:z<=w->min oe E!<=w:=Qw
arZ:cA=0->kx=y->bG:=Qw
axs{z:ad}:0<=z->el z=x->z<aw->ax:=Qw
aBP{y:ad}:0<=y->-bB<=y:=Qw
akp{z:ad}: -em<=z->el (z+aw)=x->¬(0<=z)->ax:=Qw
ahP{x:ad}:¬EX->x<aw:=Qw
ay4: -Cd<= -1:=Qw
ag6:el (-1+m9)=x:=Qw
aHn:am->¬(x>y):=Qw
aMk:x+(0+1)<=aG:=Qw
ak7:x<=0+y->y<=15->Le:=Qw
ahS:0<=az jO:=Qw
aEN{x y:ad}:0<=x->0<=y->w+z=ln+tO->ba - cA=pb w:=Qw
aen{y:ad}:y<0->qC (min (y+aa) aa)=(el (y+aa):ad):=Qw
aa4{y:ad}:¬(y<0)->qC (min y aa)=az (min (uU y) x):=Qw
aGI:jX>aw->jX=az (max y cI):=Qw
ao6:¬(bB+1>aw)->aw=az (max y cI):=Qw
aDf:Se (x=55295) y (57344=y):=Qw
alr:Se (¬(x=55295)) y (aG=y):=Qw
aI8:aa=0\/¬(em=3 - aa)->¬gt->bg (y+x=3):=Qw
}
section z
section
variable{a0 a1 a2 a3 a4 a5 a6:Sort _}{C:aH}{E:bc}{t1 t3 t5 t6 t2 t4 s r:Type _}{H:cg}
def z:={
bq{A:Prop}{B:Prop}{U:Prop}(h:A/\B)(k:A->B->U):U:=by rw[w? hA hB,k hA hB]
cG{A:aT}{U:Prop}(h:f9 b6)(k:iZ (b6->U)):U:=by rw[w? x0 hA,k x0 hA]
bX{A:Prop}{B:Prop}{C:Prop}{U:Prop}(h:A/\B/\C)(k:A->B->C->U):U:=by obtain⟨hA,hB,hC⟩:=h;exact k hA hB hC
ah{A:aT}{B:aT}{U:Prop}(h:h_ b6 cm)(k:∀x0,b6->cm->U):U:=by obtain⟨x0,hA,hB⟩:=h;exact k x0 hA hB
iS{A:Prop}{B:aT}{C:aT}{U:Prop}(h:A/\h_ cm cn)(k:A->∀x0,cm->cn->U):U:=by obtain⟨hA,x0,hB,hC⟩:=h;exact k hA x0 hB hC
bL{A:aT}{B:aT}{C:aT}{U:Prop}(h:f9 (b6/\cm/\cn))(k:iZ (b6->cm->cn->U)):U:=by obtain⟨x0,hA,hB,hC⟩:=h;exact k x0 hA hB hC
dc{A:aH}{B:aH}{U:Prop}(h:fj (c7/\bR))(k:gn (c7->bR->U)):U:=by obtain⟨x0,x1,hA,hB⟩:=h;exact gm
wH{A:aT}{B:aT}{C:aT}{D:aT}{U:Prop}(h:f9 (b6/\cm/\cn/\fK))(k:iZ (b6->cm->cn->fK->U)):U:=by obtain⟨x0,hA,hB,hC,hD⟩:=h;exact k x0 hA hB hC hD
aO{A:aH}{B:aH}{U:Prop}(h:g! b!)(k:jZ (b!->U)):U:=by obtain⟨x0,x1,hA,hB,hC⟩:=h;exact k x0 x1 hA hB hC
fR{A:aH}{B:aH}{D:aH}{U:Prop}(h:fj (c7/\bR/\b!/\fF))(k:gn (c7->bR->b!->fF->U)):U:=by obtain⟨x0,x1,hA,hB,hC,hD⟩:=h;exact gm hC hD
Ft{A:bc}{B:bc}{U:Prop}(h:jV (eJ/\eI))(k:gn nA (eJ->eI->U)):U:=by obtain⟨x0,x1,x2,x3,hA,hB⟩:=h;exact cU k hA hB
xn{A:aH}{B:aH}{D:aH}{E:aH}{U:Prop}(h:fj (c7/\bR/\b!/\fF/\nN))(k:gn (c7->bR->b!->fF->nN->U)):U:=by obtain⟨x0,x1,hA,hB,hC,hD,hE⟩:=h;exact gm hC hD hE
i_{A:aH}{B:aH}{C:bF}{D:bF}{U:Prop}(h:g! qo (c?/\dU))(k:jZ (∀x2,c?->dU->U)):U:=by obtain⟨x0,x1,hA,hB,x2,hC,hD⟩:=h;exact gm x2 hC hD
gP{A:bF}{B:bF}{C:bF}{D:bF}{U:Prop}(h:iO (h!/\eK/\c?/\dU))(k:iZ cc x1 x2 (h!->eK->c?->dU->U)):U:=by obtain⟨x0,x1,x2,hA,hB,hC,hD⟩:=h;exact k x0 x1 x2 hA hB hC hD
Qb{A:aH}{B:aH}{C:bF}{D:bF}{E:bF}{U:Prop}(h:g! qo (c?/\dU/\tW))(k:jZ (∀x2,c?->dU->tW->U)):U:=by obtain⟨x0,x1,hA,hB,x2,hC,hD,hE⟩:=h;exact gm x2 hC hD hE
Y5{A:bc}{B:bc}{C:bc}{D:bc}{U:Prop}(h:jV (eJ/\eI/\cx/\cy))(k:gn nA (eJ->eI->cx->cy->U)):U:=by obtain⟨x0,x1,x2,x3,hA,hB,hC,hD⟩:=h;exact cU k hA hB hC hD
aLp{A:aH}{B:aH}{D:bF}{E:bF}{F:bF}{U:Prop}(h:fj (c7/\bR/\b!/\qo (dU/\tW/\pd F)))(k:gn (c7->bR->b!->∀x2,dU->tW->pd F->U)):U:=by obtain⟨x0,x1,hA,hB,hC,x2,hD,hE,hF⟩:=h;exact gm hC x2 hD hE hF
pN{A:aH}{B:aH}{C:bc}{D:bc}{U:Prop}(h:g! mq (cx/\cy/\dQ))(k:jZ JM cx cy dQ):U:=by obtain⟨x0,x1,hA,hB,x2,x3,hC,hD,hE⟩:=h;exact gm x2 x3 hC hD hE
aHg{A:bE}{B:bE}{C:bE}{D:bE}{U:Prop}(h:iO ng (j9/\j8/\hR/\fx))(k:iZ cc x1 x2 cc x3 x4 (j9->j8->hR->fx->U)):U:=by obtain⟨x0,x1,x2,x3,x4,hA,hB,hC,hD⟩:=h;exact cU k x4 hA hB hC hD
aho{A:aH}{B:aH}{C:bc}{D:bc}{F:bc}{U:Prop}(h:g! mq (cx/\cy/\dQ/\hZ))(k:jZ nA (cx->cy->dQ->hZ->U)):U:=by obtain⟨x0,x1,hA,hB,x2,x3,hC,hD,hE,hF⟩:=h;exact gm x2 x3 hC hD hE hF
XM{A:aH}{B:aH}{C:bE}{D:bE}{E:bE}{F:bE}{U:Prop}(h:g! qo ng (hR/\fx/\hT/\hV))(k:jZ (∀x2,cc x3 x4 (hR->fx->hT->hV->U))):U:=by obtain⟨x0,x1,hA,hB,x2,x3,x4,hC,hD,hE,hF⟩:=h;exact gm x2 x3 x4 hC hD hE hF
ajm{A:bc}{B:bc}{C:bc}{D:bc}{F:bc}{G:bc}{U:Prop}(h:jV (eJ/\eI/\cx/\cy/\dQ/\hZ/\tD))(k:gn cc x2 x3 (eJ->eI->cx->cy->dQ->hZ->tD->U)):U:=by obtain⟨x0,x1,x2,x3,hA,hB,hC,hD,hE,hF,hG⟩:=h;exact cU k hA hB hC hD hE hF hG
av7{A:aH}{B:aH}{C:cg}{D:cg}{E:cg}{F:cg}{G:cg}{U:Prop}(h:g! mq xw a4 x5 (sT/\sV/\j5/\j4/\m3/\d? H))(k:jZ nA cc x4 x5 (sT->sV->j5->j4->m3->d? H->U)):U:=by obtain⟨x0,x1,hA,hB,x2,x3,x4,x5,hC,hD,hE,hF,hG,hH⟩:=h;exact gm x2 x3 x4 x5 hC hD hE hF hG hH
KQ{A:aH}{B:aH}{C:sP}{D:sP}{E:sP}{F:sP}{G:sP}{H:sP}{U:Prop}(h:g! qo ng (∃x5:a5,∃x6:a6,ii cx/\ii cy/\ii dQ/\ii hZ/\ii tD/\ii cU H))(k:jZ (∀x2,cc x3 x4 cc x5 x6 (ii cx->ii cy->ii dQ->ii hZ->ii tD->ii cU H->U))):U:=by obtain⟨x0,x1,hA,hB,x2,x3,x4,x5,x6,hC,hD,hE,hF,hG,hH⟩:=h;exact gm x2 x3 x4 x5 x6 hC hD hE hF hG hH
b0{F G:t0}(h:(λ a b c d e f=>ew F [])=λ a b c d e f=>ew G [])(a:t1)(b:t2)(c:t3)(d:t4)(e:t5)(f:t6)(us:pD)(hl:gu=0):s?:=match us,hl with|[],_=>oi QV b c d f
b1{F G:t0}(h:(λ a b c d e f x0=>ew F [x0])=λ a b c d e f x0=>ew G [x0])(a:t1)(b:t2)(c:t3)(d:t4)(e:t5)(f:t6)(us:pD)(hl:gu=1):s?:=match us,hl with|[x0],_=>oi (oi QV b c d f) x0
b2{F G:t0}(h:(λ a b c d e f x0 x1=>ew F [x0,x1])=λ a b c d e f x0 x1=>ew G [x0,x1])(a:t1)(b:t2)(c:t3)(d:t4)(e:t5)(f:t6)(us:pD)(hl:gu=2):s?:=by rw[Bn (b1 (F:=λ a b c d e f l=>BK) (G:=λ a b c d e f l=>BG)) (λ k a b c d e f y0=>k a b c d e f x0 y0) c]
b3{F G:t0}(h:(λ a b c d e f x0 x1 x2=>ew F [x0,x1,x2])=λ a b c d e f x0 x1 x2=>ew G [x0,x1,x2])(a:t1)(b:t2)(c:t3)(d:t4)(e:t5)(f:t6)(us:pD)(hl:gu=3):s?:=by rw[Bn (b2 (F:=λ a b c d e f l=>BK) (G:=λ a b c d e f l=>BG)) (λ k a b c d e f y0 y1=>k a b c d e f x0 y0 y1) c]
b4{F G:t0}(h:(λ a b c d e f x0 x1 x2 x3=>ew F [x0,x1,x2,x3])=λ a b c d e f x0 x1 x2 x3=>ew G [x0,x1,x2,x3])(a:t1)(b:t2)(c:t3)(d:t4)(e:t5)(f:t6)(us:pD)(hl:gu=4):s?:=by rw[Bn (b3 (F:=λ a b c d e f l=>BK) (G:=λ a b c d e f l=>BG)) (λ k a b c d e f y0 y1 y2=>k a b c d e f x0 y0 y1 y2) c]
b5{F G:t0}(h:(λ a b c d e f x0 x1 x2 x3 x4=>ew F [x0,x1,x2,x3,x4])=λ a b c d e f x0 x1 x2 x3 x4=>ew G [x0,x1,x2,x3,x4])(a:t1)(b:t2)(c:t3)(d:t4)(e:t5)(f:t6)(us:pD)(hl:gu=5):s?:=by rw[Bn (b4 (F:=λ a b c d e f l=>BK) (G:=λ a b c d e f l=>BG)) (λ k a b c d e f y0 y1 y2 y3=>k a b c d e f x0 y0 y1 y2 y3) c]
gG{A:aH}{U:Prop}(h:fj c7)(k:gn (c7->U)):U:=by obtain⟨x0,x1,hA⟩:=h;exact k x0 x1 hA
dq{A:Prop}{B:Prop}{C:Prop}{D:Prop}{U:Prop}(h:n9 (C/\D))(k:A->B->C->D->U):U:=by obtain⟨hA,hB,hC,hD⟩:=h;exact k hA hB hC hD
aCR{A:aT}{B:aH}{U:Prop}(h:h_ b6 qm bR)(k:∀x0,b6->∀x1,bR->U):U:=by obtain⟨x0,hA,x1,hB⟩:=h;exact k x0 hA x1 hB
iP{A:Prop}{B:Prop}{C:aT}{D:aT}{U:Prop}(h:n9 h_ cn fK)(k:A->B->∀x0,cn->fK->U):U:=by obtain⟨hA,hB,x0,hC,hD⟩:=h;exact k hA hB x0 hC hD
zl{A:Prop}{B:aH}{U:Prop}(h:A/\fj (bR/\b!))(k:A->gn (bR->b!->U)):U:=by obtain⟨hA,x0,x1,hB,hC⟩:=h;exact k hA x0 x1 hB hC
yk{A:aT}{B:aT}{U:Prop}(h:f9 (b6/\cm/\qm b!))(k:iZ (b6->cm->∀x1,b!->U)):U:=by obtain⟨x0,hA,hB,x1,hC⟩:=h;exact k x0 hA hB x1 hC
gE{A:Prop}{B:Prop}{C:Prop}{D:Prop}{E:Prop}{U:Prop}(h:A/\B/\C/\D/\E)(k:A->B->C->D->E->U):U:=by obtain⟨hA,hB,hC,hD,hE⟩:=h;exact k hA hB hC hD hE
mh{A:bF}{B:bF}{U:Prop}(h:iO (h!/\eK))(k:iZ cc x1 x2 (h!->eK->U)):U:=by obtain⟨x0,x1,x2,hA,hB⟩:=h;exact k x0 x1 x2 hA hB
BI{A:aT}{B:aT}{C:aT}{D:aT}{E:aT}{U:Prop}(h:f9 (b6/\cm/\cn/\fK/\E x0))(k:iZ (b6->cm->cn->fK->E x0->U)):U:=by obtain⟨x0,hA,hB,hC,hD,hE⟩:=h;exact k x0 hA hB hC hD hE
lK{A:Prop}{B:Prop}{C:Prop}{D:Prop}{E:Prop}{F:Prop}{U:Prop}(h:n9 (C/\D/\E/\F))(k:A->B->C->D->E->F->U):U:=by obtain⟨hA,hB,hC,hD,hE,hF⟩:=h;exact k hA hB hC hD hE hF
zx{A:Prop}{B:aH}{D:aH}{U:Prop}(h:A/\fj (bR/\b!/\fF))(k:A->cc x0 x1 (bR->b!->fF->U)):U:=by obtain⟨hA,x0,x1,hB,hC,hD⟩:=h;exact k hA x0 x1 hB hC hD
uZ{A:aT}{B:bF}{C:bF}{D:bF}{U:Prop}(h:h_ b6 (∃x1:a1,∃x2:a2,eK/\c?/\dU))(k:∀x0,b6->cc x1 x2 (eK->c?->dU->U)):U:=by obtain⟨x0,hA,x1,x2,hB,hC,hD⟩:=h;exact k x0 hA x1 x2 hB hC hD
wO{A:Prop}{B:Prop}{C:Prop}{D:Prop}{E:Prop}{F:Prop}{G:Prop}{U:Prop}(h:A/\B/\C/\D/\E/\F/\G)(k:A->B->C->D->E->F->G->U):U:=by obtain⟨hA,hB,hC,hD,hE,hF,hG⟩:=h;exact k hA hB hC hD hE hF hG
DS{A:bc}{B:bc}{C:bc}{U:Prop}(h:jV (eJ/\eI/\cx))(k:gn JM eJ eI cx):U:=by obtain⟨x0,x1,x2,x3,hA,hB,hC⟩:=h;exact cU k hA hB hC
Ko{A:bF}{B:bF}{C:bF}{D:bF}{E:bF}{U:Prop}(h:iO (h!/\eK/\c?/\dU/\tW))(k:iZ cc x1 x2 (h!->eK->c?->dU->tW->U)):U:=by obtain⟨x0,x1,x2,hA,hB,hC,hD,hE⟩:=h;exact k x0 x1 x2 hA hB hC hD hE
zt{A:bc}{B:bc}{C:bc}{D:bc}{U:Prop}(h:jV (eJ/\eI/\cx/\cy/\dQ))(k:gn nA (eJ->eI->cx->cy->dQ->U)):U:=by obtain⟨x0,x1,x2,x3,hA,hB,hC,hD,hE⟩:=h;exact cU k hA hB hC hD hE
Hv{A:Prop}{B:Prop}{C:aT}{D:bc}{U:Prop}(h:n9 h_ cn qm mq (cy/\dQ))(k:A->B->∀x0,cn->∀x1,nA (cy->dQ->U)):U:=by obtain⟨hA,hB,x0,hC,x1,x2,x3,hD,hE⟩:=h;exact k hA hB x0 hC x1 x2 x3 hD hE
RN{A:Prop}{B:Prop}{C:aT}{D:bc}{F:bc}{U:Prop}(h:n9 h_ cn qm mq (cy/\dQ/\hZ))(k:A->B->∀x0,cn->∀x1,JM cy dQ hZ):U:=by obtain⟨hA,hB,x0,hC,x1,x2,x3,hD,hE,hF⟩:=h;exact k hA hB x0 hC x1 x2 x3 hD hE hF
zT{A:bE}{B:bE}{C:bE}{D:bE}{E:bE}{F:bE}{U:Prop}(h:iO ng (j9/\j8/\hR/\fx/\hT/\hV))(k:iZ cc x1 x2 cc x3 x4 (j9->j8->hR->fx->hT->hV->U)):U:=by obtain⟨x0,x1,x2,x3,x4,hA,hB,hC,hD,hE,hF⟩:=h;exact cU k x4 hA hB hC hD hE hF
zF{A:bE}{B:bE}{C:bE}{D:bE}{E:bE}{F:bE}{G:bE}{U:Prop}(h:iO ng (j9/\j8/\hR/\fx/\hT/\hV/\jj G))(k:iZ cc x1 x2 cc x3 x4 (j9->j8->hR->fx->hT->hV->jj G->U)):U:=by obtain⟨x0,x1,x2,x3,x4,hA,hB,hC,hD,hE,hF,hG⟩:=h;exact cU k x4 hA hB hC hD hE hF hG
zh{A:cg}{B:cg}{C:a0->a1->a2->a3->ci a4 a5}{D:cg}{E:cg}{F:cg}{G:cg}{U:Prop}(h:jV xw a4 x5 (BB/\BC/\sT/\sV/\j5/\j4/\m3))(k:gn nA cc x4 x5 (BB->BC->sT->sV->j5->j4->m3->U)):U:=by obtain⟨x0,x1,x2,x3,x4,x5,hA,hB,hC,hD,hE,hF,hG⟩:=h;exact cU k x4 x5 hA hB hC hD hE hF hG
tN{A:aH}{B:aH}{C:bc}{D:bc}{E:cg}{F:cg}{G:cg}{U:Prop}(h:g! mq (cx/\cy/\xw a4 x5 (j5/\j4/\m3)))(k:jZ cc x2 x3 (cx->cy->cc x4 x5 (j5->j4->m3->U))):U:=by obtain⟨x0,x1,hA,hB,x2,x3,hC,hD,x4,x5,hE,hF,hG⟩:=h;exact gm x2 x3 hC hD x4 x5 hE hF hG
wx{A:cg}{B:cg}{C:cg}{D:cg}{E:cg}{F:cg}{G:cg}{I:cg}{J:cg}{K:cg}{U:Prop}(h:jV xw a4 x5 (BB/\BC/\sT/\sV/\j5/\j4/\m3/\d? H/\d? I/\d? J/\d? K))(k:gn nA cc x4 x5 (BB->BC->sT->sV->j5->j4->m3->d? H->d? I->d? J->d? K->U)):U:=by obtain⟨x0,x1,x2,x3,x4,x5,hA,hB,hC,hD,hE,hF,hG,hH,hI,hJ,hK⟩:=h;exact cU k x4 x5 hA hB hC hD hE hF hG hH hI hJ hK
Bp{a7:Sort _}{A:aH}{B:aH}{C:bc}{D:bc}{E:cg}{F:cg}{G:JF a1 a6 a7}{H:JF a1 a6 a7}{I:JF a1 a6 a7}{U:Prop}(h:g! mq (cx/\cy/\xw a4 x5 (j5/\j4/\∃x6:a6,∃x7:a7,sO G/\sO H/\sO I)))(k:jZ cc x2 x3 (cx->cy->cc x4 x5 (j5->j4->cc x6 x7 (sO G->sO H->sO I->U)))):U:=by obtain⟨x0,x1,hA,hB,x2,x3,hC,hD,x4,x5,hE,hF,x6,x7,hG,hH,hI⟩:=h;exact gm x2 x3 hC hD x4 x5 hE hF x6 x7 hG hH hI
ll{A:Prop}{B:aT}(hA:A)(x0:a0)(hB:cm):A/\f9 cm:=#[hA,x0,hB]
dZ{A:aH}(x0:a0)(x1:a1)(hA:c7):fj c7:=#[x0,x1,hA]
eM{A:Prop}{B:aT}{C:aT}(hA:A)(x0:a0)(hB:cm)(hC:cn):A/\h_ cm cn:=#[hA,x0,hB,hC]
fQ{A:Prop}{B:Prop}{C:Prop}{D:Prop}(hA:A)(hB:B)(hC:C)(hD:D):n9 (C/\D):=#[hA,hB,hC,hD]
aZ{A:aT}{B:aT}{C:aT}(x0:a0)(hA:b6)(hB:cm)(hC:cn):f9 (b6/\cm/\cn):=#[x0,hA,hB,hC]
HQ{A:Prop}{B:Prop}{C:aT}{D:aT}(hA:A)(hB:B)(x0:a0)(hC:cn)(hD:fK):n9 h_ cn fK:=#[hA,hB,x0,hC,hD]
o_{A:Prop}{B:aH}(hA:A)(x0:a0)(x1:a1)(hB:bR)(hC:b!):A/\fj (bR/\b!):=#[hA,x0,x1,hB,hC]
FP{A:aT}{B:aT}(x0:a0)(hA:b6)(hB:cm)(x1:a1)(hC:b!):f9 (b6/\cm/\qm b!):=#[x0,hA,hB,x1,hC]
j3{A:Prop}{B:Prop}{C:Prop}{D:Prop}{E:Prop}(hA:A)(hB:B)(hC:C)(hD:D)(hE:E):A/\B/\C/\D/\E:=#[hA,hB,hC,hD,hE]
aE{A:aH}{B:aH}(x0:a0)(x1:a1)(hA:c7)(hB:bR)(hC:b!):g! b!:=#[x0,x1,hA,hB,hC]
fB{A:aT}{B:aT}{C:aT}{D:aT}(x0:a0)(hA:b6)(hB:cm)(hC:cn)(hD:fK):f9 (b6/\cm/\cn/\fK):=#[x0,hA,hB,hC,hD]
tX{A:bF}{B:bF}(x0:a0)(x1:a1)(x2:a2)(hA:h!)(hB:eK):iO (h!/\eK):=#[x0,x1,x2,hA,hB]
MR{A:Prop}{B:aT}{C:aT}{D:aT}(hA:A)(x0:a0)(hB:cm)(hC:cn)(hD:fK):A/\f9 (cm/\cn/\fK):=#[hA,x0,hB,hC,hD]
rL{A:aT}{B:aT}{C:aT}{D:aT}{E:aT}(x0:a0)(hA:b6)(hB:cm)(hC:cn)(hD:fK)(hE:E x0):f9 (b6/\cm/\cn/\fK/\E x0):=#[x0,hA,hB,hC,hD,hE]
Hw{A:Prop}{B:Prop}{C:Prop}{D:Prop}{E:Prop}{F:Prop}(hA:A)(hB:B)(hC:C)(hD:D)(hE:E)(hF:F):n9 (C/\D/\E/\F):=#[hA,hB,hC,hD,hE,hF]
GH{A:Prop}{B:aH}{D:aH}(hA:A)(x0:a0)(x1:a1)(hB:bR)(hC:b!)(hD:fF):A/\fj (bR/\b!/\fF):=#[hA,x0,x1,hB,hC,hD]
lO{A:bF}{B:bF}{C:bF}(x0:a0)(x1:a1)(x2:a2)(hA:h!)(hB:eK)(hC:c?):iO (h!/\eK/\c?):=#[x0,x1,x2,hA,hB,hC]
Bw{A:aT}{B:aH}{D:aH}{E:aH}(x0:a0)(hA:b6)(x1:a1)(hB:bR)(hC:b!)(hD:fF)(hE:nN):h_ b6 qm (bR/\b!/\fF/\nN):=#[x0,hA,x1,hB,hC,hD,hE]
b9{A:bF}{B:bF}{C:bF}{D:bF}(x0:a0)(x1:a1)(x2:a2)(hA:h!)(hB:eK)(hC:c?)(hD:dU):iO (h!/\eK/\c?/\dU):=#[x0,x1,x2,hA,hB,hC,hD]
wN{A:aT}{B:bF}{C:bF}{D:bF}(x0:a0)(hA:b6)(x1:a1)(x2:a2)(hB:eK)(hC:c?)(hD:dU):h_ b6 (∃x1:a1,∃x2:a2,eK/\c?/\dU):=#[x0,hA,x1,x2,hB,hC,hD]
qA{A:bc}{B:bc}{C:bc}(x0:a0)(x1:a1)(x2:a2)(x3:a3)(hA:eJ)(hB:eI)(hC:cx):jV (eJ/\eI/\cx):=#[x0,x1,x2,x3,hA,hB,hC]
fM{A:aH}{B:aH}{D:aH}{E:aH}(x0:a0)(x1:a1)(hA:c7)(hB:bR)(hC:b!)(hD:fF)(hE:nN):fj (c7/\bR/\b!/\fF/\nN):=#[x0,x1,hA,hB,hC,hD,hE]
vB{A:aH}{B:aH}{C:bF}{D:bF}(x0:a0)(x1:a1)(hA:c7)(hB:bR)(x2:a2)(hC:c?)(hD:dU):g! qo (c?/\dU):=#[x0,x1,hA,hB,x2,hC,hD]
Ba{A:aH}{B:aH}{D:aH}{E:aH}{F:aH}(x0:a0)(x1:a1)(hA:c7)(hB:bR)(hC:b!)(hD:fF)(hE:nN)(hF:pc F):fj (c7/\bR/\b!/\fF/\nN/\pc F):=#[x0,x1,hA,hB,hC,hD,hE,hF]
AE{A:bc}{B:bc}{C:bc}{D:bc}{F:bc}(x0:a0)(x1:a1)(x2:a2)(x3:a3)(hA:eJ)(hB:eI)(hC:cx)(hD:cy)(hE:dQ)(hF:hZ):jV (eJ/\eI/\cx/\cy/\dQ/\hZ):=#[x0,x1,x2,x3,hA,hB,hC,hD,hE,hF]
sL{A:aT}{B:aH}{C:bF}{D:bE}{E:bE}{F:bE}(x0:a0)(hA:b6)(x1:a1)(hB:bR)(x2:a2)(hC:c?)(x3:a3)(x4:a4)(hD:fx)(hE:hT)(hF:hV):h_ b6 qm (bR/\qo (c?/\ng (fx/\hT/\hV))):=#[x0,hA,x1,hB,x2,hC,x3,x4,hD,hE,hF]
lq{A:bE}{B:bE}{C:bE}{D:bE}{E:bE}{F:bE}(x0:a0)(x1:a1)(x2:a2)(x3:a3)(x4:a4)(hA:j9)(hB:j8)(hC:hR)(hD:fx)(hE:hT)(hF:hV):iO ng (j9/\j8/\hR/\fx/\hT/\hV):=#[x0,x1,x2,x3,x4,hA,hB,hC,hD,hE,hF]
AF{A:bc}{B:bc}{C:bc}{D:bc}{F:bc}{G:bc}(x0:a0)(x1:a1)(x2:a2)(x3:a3)(hA:eJ)(hB:eI)(hC:cx)(hD:cy)(hE:dQ)(hF:hZ)(hG:tD):jV (eJ/\eI/\cx/\cy/\dQ/\hZ/\tD):=#[x0,x1,x2,x3,hA,hB,hC,hD,hE,hF,hG]
qM{A:bE}{B:bE}{C:bE}{D:bE}{E:bE}{F:bE}{G:bE}(x0:a0)(x1:a1)(x2:a2)(x3:a3)(x4:a4)(hA:j9)(hB:j8)(hC:hR)(hD:fx)(hE:hT)(hF:hV)(hG:jj G):iO ng (j9/\j8/\hR/\fx/\hT/\hV/\jj G):=#[x0,x1,x2,x3,x4,hA,hB,hC,hD,hE,hF,hG]
}
section z
namespace _B
open Mt
variable{α:Type}{c i n x f j z a low:Y}{l:ac}{bH:wW}{r:kC}{e:qI}
def z:={
xW{l:en}{x:α}(h:l[n]?=Z x):gv n=x::pe j7:=by obtain⟨a8,rfl⟩:=Q7;exact(List.getElem_cons_drop a8).symm
nW.1(l:gQ):wG->wG|ul=>ul|.ok m=>.ok E5
mW.1(i:Y)(bH:wW):ac->tG|[]=>ak|k::a::z::v::_=>let p:=HT nv;kE [Ir (k<y7) nv k 4 i,g? (eu a&&(p.all xt q bn (q.last<a))) 7 i,g? (eu z&&bn (a<=z)) 7 i,g? gf (0<v) bn (v<=qK k) 8 i,ol (p.all xt q (!(im q.last==a&&q.value==v))) 9 i]|_=>Z nT
aa9(i:Y)(bH:wW):om i bH []=.ok []:=rfl
ac4{k v:Y}:Q8=fI Br (nW [(k,#[a,z,v])] (om bD Z C8 l)) .lI:=by rw[Jg mW (kE _) x];(.generalize eF om _=y;cases y<;>rfl);.rfl
Bg{f:qI}(h:mT mW=Z f):SV=ul:=by(rw[Ha l b d];((.rw[bo]);.rw[sH]);(.rw[sH]);.rw[sH]);.rw[ac4,h];rfl
U8{k v:Y}(h:dP Br):Q8=nW [(k,#[a,z,v])] (om bD Z C8 l):=by rw[ac4,h];rfl
Cq.1(p:ac)(t:Y):nv:=(lp,#[tz,CP,xr])
iL.1(p:ac)(t:Y):gQ:=(kG t).bz (Cq p)
B_.1(p:ac):Y->cC (Y×kC)|0=>ak|t+1=>Z (Cq p t)
J6(p:ac)(t:Y):iL p g5=ML++[Cq p t]:=by unfold iL;rw[u1,df];rfl
aob(l m:gQ)(e:wG):nW l (nW m e)=nW E5 e:=by cases e with|lI f=>rfl|ok r=>simp[nW]
aqB(e:wG):nW [] e=e:=p6 e
DH{p:ac}{t:Y}(h:4*t+4<=oo):qL du=lp::tz::CP::xr::qL yI:=by(have g:∀j,j<oo->qL j=fk j::qL (j+1):=λ j hj=>by rw[xW (x:=fk j)];rw[sx ge hj]);rw[g du eA UA,g z_ eA XH,Q1 AA,g Aj v_];rfl
jm.1(p:ac)(t:Y):Prop:=4*t<=oo/\yb ak p=nW ML (om t Ex xU)
jm.zero(p:ac):jm p 0:=#[mG,by show _=nW [] _;rw[aqB];rfl]
jm.next{p:ac}{t:Y}(h:Ey)(hl:Lb)(hf:dP (mW t Ex xU)):jm p g5:=by(have h4:4*t+4<=oo:=by rw[QK hn];((have fO:dw qL du<4:=by rw[wj alv hn]);have jf:0<dw qL du:=by rw[Qc hl]);revert hf fO jf;generalize xU=q;intro hf fO jf;(rw[Ha q b d];((.exact Hi jf);.cases hf);(.cases hf);.cases hf);.exact Nq (PO bP) fO);refine #[Iy h4,?_];rw[h.2,DH h4];rw[DH h4]at hf;rw[U8 hf,aob,J6];rfl
jm.fault{p:ac}{t:Y}{f:qI}(h:Ey)(hf:mW t Ex xU=Z f):yb ak p=ul:=by rw[h.2,Bg hf];rfl
jm.done{p:ac}{t:Y}(h:Ey)(hl:oo<=4*t):yb ak p=.ok ML:=by rw[h.2,Bo,aa9];simp[nW]
jC.1(l:en):wU->wU|ul=>ul|.ok m=>.ok E5
O8(l m:en)(e:wU):jC l (jC m e)=jC E5 e:=by cases e with|lI f=>rfl|ok r=>simp[jC]
MY(e:wU):jC [] e=e:=p6 e
pP.1(i:Y)(bH:lf):ac->tG|[]=>ak|k::uv=>let p:=HT uk;let to:=kl;kE [Ir (k<MAPS) uk k 4 i,g? (eu c&&(p.all λ(q:Y)=>bn (q<c))) 10 i,g? gf (0<n) bn (n<=Fd k) 11 i,Kj (n<=bP) 6 i,g? (Fe k to) 12 i,g? (!(k !=10&&(k !=11&&to==dX))) 13 i]|_=>Z nT
aAP(f i:Y)(bH:lf):CB gw [] []:=p6 f
Qv{bH:lf}{k:Y}:tE gw (k::uv) (fI mB pP uv (jC [(k,#[c,kl])] (gw f bD Z (k,c) pp)) .lI):=by rw[Jg pP (kE _) x];(.generalize gw _ _ _ _=y;cases y<;>rfl);.rfl
V6{bH:lf}(h:mT pP=Z e):tE gw l kY e:=by rw[HR a b c];((.rw[bo]);.rw[sH]);(.rw[sH]);.rw[Qv,h];rfl
Zp{bH:lf}{k:Y}(h:dP mB pP uv):tE gw (k::uv) (jC [(k,#[c,kl])] (gw f bD Z (k,c) pp)):=by rw[Qv,h];rfl
qT.1(i:Y)(bH:nu):ac->tG|[]=>ak|k::n::l=>let p:=HT tT;let key:=kl;let r:=pp;let m:=r.headD 0;let to:=(kI 1).d3 m;kE [Ir (k<SEQS) tT k 4 i,g? gf (T5<=n) bn (n<=Ff k) 14 i,Kj (n<bP) 6 i,g? (key.all eu&&(p.all λ(q:ac)=>ir q key)) 14 i,g? gf (0<m) bn (m<=y9 k) 15 i,Kj (m<lJ) 6 i,g? (k==0||to.all λ(x:Y)=>bn (x<2^16)) 15 i]|_=>Z nT
aEH(f i:Y)(bH:nu):CB gx [] []:=p6 f
Xt{bH:nu}{k:Y}:tE gx (k::n::l) (fI mB qT (n::l) (jC [(k,#[kl,I0])] (gx f bD Z (k,kl) nV pp (1+Cn 0))) .lI):=by rw[Jg qT (kE _) x];(.generalize gx _ _ _ _=y;cases y<;>rfl);.rfl
Zg{bH:nu}(h:mT qT=Z e):tE gx l kY e:=by rw[Ib a b l];((.rw[bo]);.rw[sH]);.rw[Xt,h];rfl
abH{bH:nu}{k:Y}(h:dP mB qT (n::l)):tE gx (k::n::l) (jC [(k,#[kl,I0])] (gx f bD Z (k,kl) nV pp (1+Cn 0))):=by rw[Xt,h];rfl
IZ{o:tG}{l:bA tG}:cw kE (o::l)↔o=ak/\cw kE l:=by cases o<;>simp[kE]
IY{c:aL}{r:Y}:dP (ol c r i)↔c=au:=by unfold ol;split<;>simp_all
UJ{l:en}{e:wU}{r:en}(h:jC l e=.ok r):∃m,e=.ok m/\r=l++m:=Qf m m (by rw[bo];rfl)
azN{l:gQ}{e:wG}{r:gQ}(h:nW l e=.ok r):∃m,e=.ok m/\r=l++m:=Qf m m (by rw[bo];rfl)
}
structure xF(x:nv):Prop where
 kind:bh<14
 first:lm L1
 bH:lm Ec
 le:L1<=Ec
 aX:0<L2
 qK:L2<=qK bh
def z:={
nO.1(x y:nv):Prop:=xV (Ec<y.2.first)
amq{k v:Y}(h:dP Br):xF C8/\∀x,t7->nO x C8:=by rw[c0 mW,HJ IZ IY h,<-gE h λ aS aU a9 bu _=>bq aS λ h1 h2=>bq aU λ h3 h4=>bq a9 λ h5 h6=>bq bu cr h7 h8,<-#[#[h1,h3,h5,h6,h7,h8],D8]];subst hx;rw[sD lM h2];by_cases e:gl;(.rw[QQ ao e lM h4,h4]);.left;show n_;exact y_ h2 e
nO.trans{x y z:nv}(hy:xF y)(a:nO x y)(b:nO y z):nO x z:=by unfold nO at*;have:=hy.le;exact aGt a b al
Lp:∀{l:ac}{i:Y}{bH:wW}{ps:gQ},SV=.ok ps->v7 ps (xF x)/\ps.Pairwise nO/\∀x,t7->kc ps (nO x y)|[],i,bH,ps,h=>by rw[aa9]at h;rw[bo,#[aM,dW,fA]]|[_],i,bH,ps,h=>by rw[hY (Bg (f:=nT) ag)]|[_,_],i,bH,ps,h=>by rw[hY (Bg (f:=nT) ag)]|[_,_,_],i,bH,ps,h=>by rw[hY (Bg (f:=nT) ag)]|k::a::z::v::l,i,bH,ps,h=>by cases hf:Br with|ca f=>rw[hY (Bg hf)]|ak=>rw[U8 hf]at h;(rw[IB azN bU bU]);refine bX (Lp e) ar i1 i2 i3;obtain⟨f1,f2⟩:=amq hf;refine #[pG x hx,eP (i3 _ ag) i2,λ x hx y hy=>?_];(.rw[HC f1 i1]);.rcases eC hy with rfl|hy;(.exact f2 x hx);.exact(MG).u5 f1 L3
}
structure zQ(x:mf Row):Prop where
 kind:bh<15
 sc:lm (b8).eu
 aX:0<CM
 qK:CM<=Fd bh
 de:ap (Fe bh (b8).to)
 other:bh≠10->bh≠11->(b8).to≠[x.2.eu]
def z:={
HW.1(x y:mf Row):Prop:=xV ((b8).eu<y.2.eu)
aFe{bH:lf}{k:Y}(h:dP mB pP uv):zQ (k,#[c,kl])/\∀x:uk,t7->n_\/(x.1=k/\b8<c):=by rw[c0 pP,HJ IZ IY h,<-wO h λ cH dA ee h7 h8 h9 _=>bq cH λ h1 h2=>bq dA λ h3 h4=>bq ee cr h5 h6];(have hl:s_=n:=by rw[or,Fg h7]);refine #[#[h1,h3,by show 0<s_;exact Fk h5 hl,by show s_<=Fd k;exact y' hl h6,h8,ar e1 e2 e3],D8];(.dsimp only at e1 e2 e3;rw[e3]at h9;simp[e1,e2]at h9);.subst hx;rw[sD lM h2];by_cases e:gl;(.rw[QQ ao e lM h4,h4]);.left;exact y_ h2 e
TC:∀{f:Y}{l:ac}{i:Y}{bH:lf}{ms:B?},CB gw l ms->v7 ms (zQ x)/\UK HW/\∀x:uk,t7->kc ms xV (b8<y.2.eu):=by intro f;induction f with|cu=>rw[QN l]|cv f ih=>intro l i bH ps h;cases hf:mT pP with|ca e=>rw[hY (V6 hf)]|ak=>rw[HR k c n];((.rw[bo,#[aM,dW,fA]]);.cases hf);(.cases hf);.rw[Zp hf]at h;(rw[IB UJ fJ fJ]);refine bX (ih e) ar i1 i2 i3;obtain⟨f1,f2⟩:=aFe hf;refine #[pG x hx,eP (i3 _ ag) i2,λ x hx y hy=>?_];(.rw[HC f1 i1]);.rcases eC hy with rfl|hy;(.exact f2 x hx);.have a:=MG;have b:=L3;dsimp only at b;exact afN a b
Qz:∀{a b c:ac},ap (ir a b)->ap (ir b c)->ap (ir a c)|_,[],_,h,_=>Dn ir|_,n?,[],_,h=>Dn ir|[],n?,n?,_,_=>rfl|x::a,y::b,z::c,h1,h2=>by simp only[ir,Fi,i5,fa,lP]at h1 h2⊢;rcases h1 with h1|⟨e1,h1⟩<;>rcases h2 with h2|⟨e2,h2⟩;((.left;exact Fj h1 h2);.left;exact Nu h1 e2);(.left;exact UL e1 h2);.right;exact #[eN S1 e1 e2,wQ Qz]
}
structure BQ(x:mf Seq):Prop where
 kind:bh<3
 ot:Nr bh<=S6
 qK:S6<=Ff bh
 sc:ap ((b8).key.all eu)
 aX:0<CM
 LW:CM<=y9 bh
 small:bh≠0->∀y∈(b8).to,y<65536
def z:={
EZ.1(x y:mf Seq):Prop:=xV ap (ir (b8).key y.2.key)
al6{bH:nu}{k:Y}(h:dP mB qT (n::l)):BQ (k,#[kl,I0])/\∀x:tT,t7->n_\/(x.1=k/\ap (ir b8 (u3 n))):=by rw[c0 qT,HJ IZ IY h];obtain⟨⟨h1,h2⟩,⟨h3,h4⟩,h5,⟨h6,h7⟩,⟨h8,h9⟩,fb,eD,_⟩:=h;((have hl:s_=n:=by rw[or,Fg (Fl h5)]);have hm:dw uJ AJ AH=Cn 0:=by rw[or,io,Fg bm Nat.le_sub_one_of_lt fb]);refine #[#[h1,by show T5<=s_;exact GG h3 hl,by show s_<=Ff k;exact y' hl h4,h6,by show 0<dw uJ AJ AH;exact Fk h8 hm,by show dw uJ AJ AH<=y9 k;exact y' hm h9,ar e1 y hy],D8];(.dsimp only at e1 hy;simp only[Fi,lP,u6,i5]at eD;rcases eD with eD|eD;(.rw[f8 eD e1]);.rw[li (eD y hy) UC]);.subst hx;rw[sD lM h2];by_cases e:gl;(.right;refine #[e,?_];simp only[u4,ao e,lM]at h7;exact h7);.left;exact y_ h2 e
Q3:∀{f:Y}{l:ac}{i:Y}{bH:nu}{ms:B!},CB gx l ms->v7 ms (BQ x)/\UK EZ/\∀x:tT,t7->kc ms xV ap (ir b8 y.2.key):=by intro f;induction f with|cu=>rw[QN l]|cv f ih=>intro l i bH ps h;cases hf:mT qT with|ca e=>rw[hY (Zg hf)]|ak=>rw[Ib k n l];((.rw[bo,#[aM,dW,fA]]);.cases hf);.rw[abH hf]at h;(rw[IB UJ jF jF]);refine bX (ih e) ar i1 i2 i3;obtain⟨f1,f2⟩:=al6 hf;refine #[pG x hx,eP (i3 _ ag) i2,λ x hx y hy=>?_];(.rw[HC f1 i1]);.rcases eC hy with rfl|hy;(.exact f2 x hx);.have a:=MG;have b:=L3;dsimp only at b;rcases a with a|⟨a,a'⟩<;>rcases b with b|⟨b,b'⟩;((.left;exact Fj a b);.left;exact Nu a b);(.left;exact UL a b);.right;exact #[eN S1 a b,Qz a' b']
cV.1(k:Y)(l:cZ):cZ:=l.zipIdx.filterMap c_ sd (bh.1=k) Z (x.2,bh.2)
eL.1(n:Y)(l:cZ):bA cZ:=JG n λ k=>j_
lQ.1(k:Y)(l:cZ):en:=l.filterMap c_ sd gl Z b8
IV(k:Y)(l:cZ)(x:sA):cV k kn=j_++CW gl [(bP,b8)]:=by unfold cV;rw[UM,Nv];congr 1;rw[Q4 y! Nw Fm];by_cases e:gl;(.rw[ao e,ao e]);.rw[aj e,aj e]
Kk(k:Y)(l:cZ)(x:sA):lQ k kn=ke++CW gl [x.2]:=by rw[e8 lQ Nv];congr 1;simp only[y!,Nw];by_cases e:gl;(.rw[ao e,ao e]);.rw[aj e,aj e]
Nx{p:kq en}(h0:p [])(h1:∀l x,p l->p kn):∀l,p l:=by intro l;have:=λ(r:en)=>List.rec (motive:=λ r=>p r.reverse) dv h0 (λ a r ih=>by rw[Ny];exact eF h1 ih) r;simpa using al l.reverse
m_(k:Y)(l:cZ):(j_).bz (·.2)=ke:=by refine KO (λ l=>(j_).bz (·.2)=ke) ag hX l x ih l;rw[IV,Kk,df,ih];congr 1;split<;>rfl
ET(k:Y)(l:cZ):bp j_=bp ke:=by rw[<-m_,qP]
Ca(n:Y)(l:cZ):u7 n l=JG n λ k=>ke:=rfl
jw{k:Y}(l:cZ)(h:k<n):uG (u7 n l) k []=ke:=by rw[Ca,kH,qQ,PM];rfl
kj{k:Y}(l:cZ)(h:k<n):(eL n l)[k]?=Z j_:=by unfold eL;rw[Rh]
KE{k:Y}(l:cZ)(x:α)(h:k<n):eL n (l++[(k,x)])=(eL n l).set k (j_++[(bP,x)]):=by rw[wL j];by_cases hj:j<n;(.rw[kj _ hj,IV];by_cases e:k=j;(.subst e;rw[Fn (by unfold eL;rw[jQ]),t?]);.rw[Sc,kj _ hj,aj e,oy]);.rw[iu (by unfold eL;rw[gj gy hj]),iu (by rw[NB];unfold eL;rw[gj gy hj])]
qR.1(k:Y)(l:cZ):Y:=mJ Tw (λ j=>bp (lQ j l))
lS(a b:ac):(M!).sum=a.sum+b.sum:=by induction a with|bt=>simp|aQ x r ih=>simp only[ND,iw,ih];exact Qk
Ao(k:Y)(l:cZ):qR br l=ue+bp ke:=by unfold qR;rw[u1,df,lS];simp
aeX(k:Y)(l:cZ)(x:sA):qR k kn=ue+if n_ then 1 else 0:=by induction k with|cu=>simp[qR]|cv k ih=>rw[Ao,Ao,ih,Kk,i6];by_cases e:gl;(.rw[ao e,aj bm S_ e,ao bm aLv e];simp only[gA,u8];exact ar6);.rw[aj e];by_cases h:n_;(.rw[ao h,ao eA r9];rw[RQ,aF5]);.rw[aj h,aj eN aoP h e];rw[RQ,aKK]
LA{k:Y}(l:cZ)(h:nE l n_):D4 ue:=by revert h;refine KO (λ l=>D2 n_->D4 ue) (λ _=>?_) (λ l x ih h=>?_) l;(. (have:∀j,qR j ([]:cZ)=0:=λ j=>by induction j with|cu=>rfl|cv j ih=>rw[Ao,ih];rfl);exact al k);.rw[aeX,ih (λ y hy=>h y IO hy),ao La,i6];rfl
Kv{l:cZ}(hs:Fo λ x y=>bh<=y.1):SM k y (ue+i):=by revert hs;refine KO (λ l=>(Fo λ x y=>bh<=y.1)->SM k y (ue+i)) ?_ ?_ l;(.intro _ k i y h;simp[cV]at h);.intro l x ih hs k i y h;refine bX (List.pairwise_append.mp hs) λ h1 _ h3=>?_;have hle:∀z∈l,z.1<=bh:=λ z hz=>h3 z hz x aM;rw[IV]at h;rw[aeX];by_cases e:gl;(.rw[ao e]at h;rw[aj bm S_ e];rw[List.getElem?_append]at h;split at h;(.exact ih h1 h);. (rename_i hi;have fg:i - bp j_=0:=by rw[QK hn,hY (iu (by rw[gj Xd hn]))]);rw[fg]at h;rw[bo];show bP=_;have b_:=LA (k:=k+1) l (λ z hz=>by rw[m4 (hle z hz) aFz e]);rw[Ao]at b_;rw[ET]at hi fg;exact arn b_ fg hi);.rw[aj e,oy]at h;(have hk:¬n_:=λ hk=>by(have:j_=[]:=by apply List.eq_nil_iff_length_eq_zero.mpr;rw[ET];have b_:=LA (k:=k) l (λ z hz=>by rw[m4 (hle z hz) Nat.lt_of_le_of_lt hk]);have ZC:=LA (k:=k+1) l (λ z hz=>by rw[m4 (hle z hz) aFK hk]);rw[Ao]at ZC;exact alX ZC b_);rw[al]at h;rw[bo]);rw[aj hk];exact ih h1 h
DL{k:Y}{l:cZ}{x:α}:x∈ke↔uI∈l:=by rw[e8 lQ List.mem_filterMap];constructor;(.rintro⟨⟨j,y⟩,h1,h2⟩;dsimp only at h2;split at h2;(.rename_i e;cases h2;subst e;exact h1);.cases h2);.intro h;exact aW uI h aM
Cz{α:Type}{R:sA->sA->Prop}{S:ci α α}{k:Y}(h:∀x y,R uI (k,y)->S x y):∀{l:cZ},Fo R->wr ke S|[],_=>dW|uL,hp=>by obtain⟨h1,h2⟩:=UN hp;rw[e8 lQ y!];by_cases e:gl;(.rw[ao e];refine List.Pairwise.cons pG y hy (Cz h h2);have hm:(k,y)∈l:=DL.mp hy;have:=h1 _ hm;obtain⟨x1,x2⟩:=x;dsimp only at e;subst e;exact eF h al);.rw[aj e];exact Cz h h2
Fb{α:Type}{p:α->aL}:∀{l:en}{j:Y}{x:α},l[j]?=Z x->px p->(∀i y,i<j->ck l y->iM p y)->NE p=Z x|[],j,x,h,_,_=>gq|qE,0,x,h,hp,_=>by rw[bo];rw[UO hp]|qE,j+1,x,h,hp,hb=>by rw[UP (by rw[hb 0 a (Fq _) ag];simp)];exact Fb (j:=j) p0 hp λ i y hi hy=>hb bD y bm Nn hi Cs
apM{B:ai}{k:Y}(h:k6[j]?=Z r)(hb:Ik j q c)(h1:LR c)(h2:D! c):Lk:=by unfold kK;rw[Fb h (by simp[h1,h2]) (λ i y hi hy=>by have:=hb i y hi hy;simp;omega)]
aBZ{B:ai}{k:Y}(h:∀r∈k6,¬(oA<=c/\D! c)):sf=0:=by unfold kK;rw[NF (λ r hr=>by have:=yK h;simp;rw[ei aFl])]
afg{B:ai}{k:Y}(h:sf≠0):∃r∈k6,LR c/\D! c/\Lk:=by unfold kK at h⊢;split;(.rename_i r hr;rw[tt h1 Rn SG,sD fa h2,(fB r h1 h2.1 h2.2 ag)]);.rename_i hr;rw[hr]at h;rw[lg h]
}
structure dj(B:ai):Prop where
 gU:KD (k<14) k6 xF
 Ov:∀k,k<14->wr k6 λ x y=>x.last<y.first
 bb:KD (k<15) B6 zQ
 awx:∀k,k<15->wr B6 λ x y=>x.scalar<y.scalar
 seq:KD (k<3) JX BQ
 am3:∀k,k<3->wr JX λ x y=>ap (ir x.key y.key)
def z:={
ay5{p m s:ac}{ns:Dr}{ps:gQ}{ms:B?}{ss:B!}{g:Y}(hp:yb ak p=.ok ps)(hm:gw f 0 ak m=.ok ms)(hs:gx g 0 ak s=.ok ss):dj #[u7 y7 ps,u7 MAPS ms,u7 SEQS ss,ns]:=by refine bX (Lp hp) ks p1 p2 ?_;refine bX (TC hm) ks m1 m2 ?_;refine bX (Q3 hs) ks s1 s2 ?_;refine #[λ k r hk hr=>?_,cr k hk,λ k r hk hr=>?_,cr k hk,λ k r hk hr=>?_,cr k hk];(((.rw[IF hr y7 p1]);.dsimp only;rw[AL jw (k<y7) hk];rw[<-Cz (R:=nO) hX x y h p2,c0 nO,xu,aaL h]);(.rw[IF hr MAPS m1]);.dsimp only;rw[AL jw (k<MAPS) hk];rw[<-Cz (R:=HW) hX x y h m2,c0 HW,xu,aaL h]);(.rw[IF hr SEQS s1]);.dsimp only;rw[AL jw (k<SEQS) hk];rw[<-Cz (R:=EZ) hX x y h s2,c0 EZ,xu];rcases h with h|h;(.exact pJ aG9 h);.exact h.2
aKC{p:α->aL}{l:en}{x:α}(hx:x∈l)(hp:px p)(hu:kc l (ap (p y)->y=x)):NE p=Z x:=by cases h:NE p with|ak=>have:=List.find?_eq_none.mp h x hx;rw[f8 hp al]|ca y=>rw[hu y (NG h) (NH h)]
al2{R:ci α α}{l:en}(h:Fo R){x y:α}(hx:x∈l)(hy:y∈l):bG\/R x y\/R y x:=by induction l with|bt=>cases hx|aQ a l ih=>rw[BW h2 (UN h)];rcases eC hx with rfl|d5;(.rcases eC hy with rfl|hy;(.rw[k7 ag]);.rw[nw eT yo]);.rcases eC hy with rfl|hy;(.rw[nw i0 (h1 x d5)]);.exact ih h2 d5 hy
Fs{B:ai}{k:Y}(h:∀r∈B6,qS≠c):DQ=[]:=by unfold bz;rw[NF (λ r hr=>by simpa using yK h)]
Fu{B:ai}{k:Y}(h:DQ≠[]):∃r∈B6,qS=c/\DQ=r.to:=by unfold bz at h⊢;split;(.rename_i r hr;exact(aZ r Rn (by simpa using SG) ag));.rename_i hr;rw[hr]at h;rw[lg h]
dj.LB{B:ai}(F:ij)(c:Y):bp fq<=2:=by unfold u9;split;(.rw[pS qU,xx]);.by_cases h:MO c=[];(.rw[h];simp);.rw[iK Fu h λ r h1 _ h3=>?_];rw[h3];have:=(F.row 0 r cD h1).qK;exact al
F_.1(B:ai):ac->ac|[]=>[]|c::r=>if pI then c::r else fq++r
azK{B:ai}{x r:ac}(h:x≠[]):F_ B M5=F_ B x++r:=by cases x with|bt=>rw[lg h]|aQ c x=>show IK (c::M5) fq M5=(if pI then c::x else fq++x)++r;split;(.rfl);.rw[I!]
JU{B:ai}:(lr n c (Di≠[]))|0,c=>fE ix|n+1,c=>by unfold ix;split;(.simp);.intro e;exact JU n _ (List.append_eq_nil_iff.mp e).1
Jm{B:ai}:(lr n c (ix B j7 c=F_ B Di))|0,c=>(by show Iv dX (a::r) (ix B 0 a++r)=IK dX fq [];cases h:fq with|bt=>rfl|aQ a r=>simp[ix])|n+1,c=>by show Iv dX (a::r) (ix B j7 a++r)=F_ B Iv dX (a::r) (ix B n a++r);cases h:fq with|bt=>show dX=IK dX fq [];rw[ao h]|aQ a r=>dsimp only;rw[azK (JU n a),Jm n a]
dj.vm{B:ai}(F:ij):(lr n c (bp Di<=n+1))|0,c=>fE ix|n+1,c=>by have h1:=F.LB c;unfold ix;split;(.simp);.rename_i a r e;rw[e]at h1;have:=F.vm n a;rw[i6];rw[Ri h1,av9 h1 al]
dO.1(B:ai)(c:Y):ac:=if p? then fq else Ed
lW.1(B:ai)(c:Y):ac:=if iX=[]then dX else iX
gg.1(B:ai)(l:ac):ac:=Fv (lW B)
gi.1(B:ai)(l:ac):aL:=l.all λ c=>iX==[]
DK(B:ai)(c:Y):Uh c=dX:=rfl
sm(B:ai)(n c:Y):Kt=if iX=[]then dX else(iX).flatMap AM:=by rw[IG (if p? then fq else Ed) dX Kg K_,IG iX dX Kg K_];cases h:iX with|bt=>rfl|aQ a r=>simp
Zh(B:ai)(x y:ac):gg B (x++y)=gg B x++gg B y:=by rw[e8 gg List.flatMap_append]
Ro{B:ai}{f:Y->ac}:∀l:ac,gg B TV=Kg (gg B y4)|[]=>rfl|qE=>by rw[eQ,Zh,Ro l,eQ]
xK(B:ai):(lr n c (Kt=gg B j'))|0,c=>by rw[sm,DK];unfold gg lW;rw[eQ,US,oy];split;(.rfl);.have:Uh=c_ [x]:=funext λ x=>rfl;rw[al];simp|n+1,c=>by rw[sm,sm B n c];split;(.rw[qc];unfold gg lW;rw[eQ,um];rfl);.rw[Ro];congr 1;funext x;exact xK B n x
avD(B:ai)(c:Y):0<bp (lW B c):=by unfold lW;split;(.simp);.rw[qc,List.length_pos_iff.mpr h]
M7(B:ai):∀l:ac,bP<=bp (gg B l)|[]=>gh|qE=>by have:=avD B a;have ih:=M7 B l;unfold gg at ih⊢;rw[eQ,i6,gA];exact WM al ih
aeo{B:ai}:∀{l:ac},j? l->gg B l=l|[],_=>rfl|qE,h=>by rw[c0 gi];rw[y?,fa]at h;have ih:=aeo (B:=B) (l:=l) h.2;unfold gg at ih⊢;(have e:dO B a=[]:=by simpa using h.1);rw[eQ,ih];rw[ld lW e];rfl
J5(B:ai):(lr n c (0<bp j'))|0,c=>fE DK|n+1,c=>by rw[xK];exact za (J5 B n c) (M7 B _)
atU(B:ai)(x y:ac):gi B (x++y)=(gi B x&&gi B y):=by rw[e8 gi List.all_append]
aep{B:ai}{n:Y}(ih:∀c,u? B n c=sd (j? j'/\nq j') Z j'):∀(l y:ac),lU H9 Z y=Aa (l≠[]/\¬(gi B Ll=au/\nq (y++Ll))) Z (y++Ll)|[],y=>fA|qE,y=>by(have nk:∀l:ac,dP (lU H9 ak):=λ l=>by induction l with|bt=>rfl|aQ b l ih=>rw[dE zb ih]);have hp:=J5 B n a;rw[zb,u4,eQ,atU,ih a];by_cases h1:18<PK;(.rw[ao h1,nk,lN];rw[<-#[aM,yt h],HX h.2,afD hp h1 al]);.rw[aj h1];by_cases h2:j? K!/\nq K!;(.rw[ao h2,u4];by_cases h3:18<oE+bp K!;(.rw[ao h3,nk,lN];rw[<-#[aM,yt h],HX h.2,amF h3 al]);.rw[aj h3,aep ih l];rw[h2.1,Fx,UR];by_cases hl:l=[];(.subst hl;rw[CR,ou];rintro⟨_,h⟩;apply h;refine #[rfl,?_];simp only[US,oy,i6];exact gy h3);.simp[hl]);.rw[aj h2];show List.foldl _ (Option.bind ak _) l=_;rw[Option.bind_none,nk,lN];refine #[aM,λ h=>h2 yB ?_];(.have:=h.1;rw[fa]at al;exact al.1);.rw[HX h.2,ei alZ]
Kw{B:ai}:(lr n c (u? B n c=sd (j? j'/\nq j') Z j'))|0,c=>by show GB (p?/\pI) dX ak=_;rw[DK];(have e:(gi B dX=au/\nq dX)↔(Ed=[]/\pI):=by unfold gi dO;simp only[y?,Fy,Fz,lP,gA,u8];split;(.rw[qc];simp[h]);.rw[qc];simp[h]);by_cases h:p?/\pI;(.rw[ao h,lN (e.mpr h)]);.rw[aj h,aj uF (h (e.mp q))]|n+1,c=>by rw[IG iX Z dX (lU H9 Z [])];rw[sm];cases h:iX with|bt=>dsimp only;rw[t?,lN];unfold gi;simp[h]|aQ a r=>dsimp only;rw[aj (show¬f' a=[]by simp),aep (Kw n)];rw[zc];by_cases hq:j? (UT AM f' a)/\nq (UT AM f' a);(.rw[ao hq,aj uF (q.2 hq)]);.rw[aj hq,ao #[aM,hq]]
axH(B:ai)(c:Y):∀{j n:Y},j<=n->bp ni<=bp j':=by intro j n h;induction h with|refl=>exact u! _|step _ ih=>rw[UV,xK];exact oF ih (M7 B _)
ahk(B:ai)(c:Y)(h:j<=n)(hd:j? ni):j'=ni:=by induction h with|refl=>rfl|step _ ih=>rw[UV,xK,ih,aeo hd]
eV.1(B:ai)(c:Y):ac:=if j? xG/\dw GM c<=18 then xG else[]
ayu{B:ai}(hj:j<=8)(h:18<bp ni):qt=[]:=by rw[e8 eV ou];rintro⟨_,q⟩;have:=axH B c hj;exact aF6 h al q
anH{B:ai}(hj:j<=8)(h:nq ni)(hd:j? ni):qt=ni:=by unfold eV;rw[ahk B c hj hd,ao #[hd,h]]
ayF{B:ai}(h:gi B xG=false):qt=[]:=by rw[e8 eV ou];rintro⟨q,_⟩;rw[bO h q q]
Qh(B:ai)(c:Y):(Dm).isSome=bn (0<bp qt):=by rw[Kw];unfold eV vb;split;(.have:=J5 B 8 c;simp[al]);.simp
aqK{B:ai}(h:tJ Dm):qt=fullK B c:=by rw[Kw]at h;rw[c0 vb];unfold eV fullK vb;split at h;(.rename_i q;rw[ao q]);.rw[bo]
mH.1(p:g0)(e:Y):aL:=((C3&&(K2&&weight3 e !=0))||((!C3&&(Tz||!K2))||(C3&&(!K2&&(!Tz&&(match p with|Z q=>variable_ q==TO|ak=>false))))))&&(C3||!TO)
aAR(p:g0)(e:Y)(r:ac):FB p f' e=(mH p e&&J? yy):=by show(_&&(_&&J? yy))=(_&&J? yy);rw[tx mH UW]
N7:∀(l:ac)(p:g0),ap (FB p l)↔∀i e,ck l e->ap (mH (if i=0 then p else l[i - 1]?) e)|[],p=>fE FB|qE,p=>by rw[aAR,fa,N7 l];constructor;(.rintro⟨h1,h2⟩i e he;cases i with|cu=>cases he;exact h1|cv i=>have:=h2 i e dv he;rw[Ss ou];rw[Qu]);.intro h;refine #[h 0 a ag,ar i e he];have:=h bD e dv he;rw[Ss ou]at al;rw[Qu]
K3(B:ai):∀l:ac,ap (FC B l)↔∀i x y,ck l x->l[bD]?=Z y->ccc B y=0\/ccc B x<=ccc B y|[]=>fE FC|[a]=>fE FC|a::b::l=>by show ap ((ccc B b==0||kb (ccc B a) (ccc B b))&&FC B (b::l))↔_;rw[fa,K3 B (b::l),Fi,lP,i5];constructor;(.rintro⟨h1,h2⟩i x y hx hy;cases i with|cu=>cases hx;cases hy;exact h1|cv i=>exact h2 i x y Cu Cs);.intro h;refine #[h 0 a b ag ag,λ i x y hx hy=>h bD x y Cu Cs]
ve.1(B:ai)(k:Y)(z:ad):Y:=if 0<=z/\lm NL then kK B k NL else 0
oX(c:Y):lm c↔c<0x110000/\¬(0xD800<=c/\c<0xE000):=by unfold eu;simp only[fa,i5,UY,Bool.and_eq_false_iff,decide_eq_false_iff_not];exact aEn
adS{B:ai}(F:ij){k d:Y}(hk:k<14)(h:sf≠0)(hc:0xD800<=c/\c<0xE000)(hd:0xD7FF<=d/\d<=0xE000):kK B k d=sf:=by refine wH (afg h) λ r hr h1 h2 h3=>?_;have f:=F.gU k r hk hr;have f1:=(oX _).mp f.first;have f2:=(oX _).mp f.last;dsimp only at f1 f2;rw[h3];unfold kK;rw[aKC hr (by simp;exact aJw hc hd h1 h2 f1 f2) hX y hy e];have g:=F.gU k y hk hy;have g3:=g.le;dsimp only at g3;rw[sD fa e];rcases al2 (F.Ov k hk) hy hr with q|q|q;((.exact q);.exact fI (ag3 hc hd h1 f1 e q));.exact fI (agS hc hd h2 f2 e q)
awl{B:ai}(F:ij)(hr:r∈UQ 11 []):((Tj).all λ i=>kK B 11 Jy==db&&bn (oC<=GC))=((Tj).all λ d=>bn (((ve B 11 H!:Y):ad)=(d:ad)+1)):=by have f:=F.gU 11 r cD hr;have fm:oC<=10:=f.most;have fp:0<oC:=f.pos;have fs:=(oX _).mp f.first;dsimp only at fs;rw[zd,u6,u6];constructor;(.intro h d hd;rw[Jh hd];(have b_:∀i,i<10->kK B 11 Jy=db/\TW:=λ i hi=>by have:=h i (U0 hi);rw[Hj]);have hle:=(b_ 0 cD).2;(have e:H!=p! (pt+d):=by exact ab5 hle);rw[i5,e];rw[e8 ve U2];(have bJ:lm (pt+d):=by rw[oX];have hp:=(b_ d hd).1;refine wH (afg (B:=B) (k:=11) (c:=xL+d) xJ avP) λ q hq q1 q2 _=>?_;have g:=(oX _).mp (F.gU 11 q cD hq).bH;dsimp only at g;refine #[eN aw7 q2 g,yt hs];by_cases qH:oA<0xD800;(.have a1:=(b_ R0 (by exact afB hs hd)).1;have a2:=(b_ RY (by exact azp hs hd)).1;((have e1:xL+R0=0xD7FF:=by exact auC fp qH);have e2:xL+RY=0xD800:=by exact avY e1);rw[e1]at a1;rw[e2]at a2;have:=adS F (k:=11) (c:=0xD800) (d:=0xD7FF) cD bm auT a2 gr aCg gr azU;exact aHW e1 a1 al a2);.have a1:=SX b_ RZ ayU;have a2:=SX b_ RX anu;((have e1:xL+RZ=0xDFFF:=by exact asy hs);have e2:xL+RX=0xE000:=by exact au5 e1);rw[e1]at a1;rw[e2]at a2;have:=adS F (k:=11) (c:=0xDFFF) (d:=0xE000) cD bm anv a1 gr aCi gr ano;exact anT e1 a1 a2 al);rw[ao #[gr avw,bJ],(b_ d hd).1];exact auK);.intro h i hi;rw[Jh hi];(have b_:∀d:Y,d<10->p! (ve B 11 H!)=(d:ad)+1:=λ d hd=>by have:=h d (U0 hd);rw[Hj]);(have h0:=b_ 0 cD;have hle:TW:=by unfold ve at h0;split at h0;(.omega);.exact awR h0);have hd:=b_ i hi;(have e:(PH+1+(i:ad))=p! Jy:=by exact ab5 hle);rw[e]at hd;unfold ve at hd;rw[U2]at hd;split at hd;(.simp only[fa,lP,i5];exact #[bm asY hd,hle]);.exact pJ aHA hd
ahL{B:ai}(F:ij){k:Y}(hk:k<14)(qH:Ik low q c)(hr:k6[low]?=Z r)(hh:D! c)(h1:LR c):Lk:=apM hr qH h1 hh
aeu{B:ai}(F:ij){k:Y}(hk:k<14)(qH:Ik low q c)(h:∀r,k6[low]?=Z r->c<oA):sf=0:=by refine aBZ cr q hq;obtain⟨i,hi,rfl⟩:=List.getElem_of_mem hq;rintro⟨q1,q2⟩;by_cases h1:i<low;(.rw[m4 (qH i _ h1 ge hi) Dx q2]);.by_cases h2:i=low;(.subst h2;rw[m4 (h _ ge hi) Dx q1]);. (have hl:low<bp k6:=by exact aEd hi h1);have:=h _ ge hl;have p:=List.pairwise_iff_getElem.mp (F.Ov k hk) low i hl hi (by exact aHG h1 h2);have g:=(F.gU k _ hk (List.getElem_mem hl)).le;dsimp only at g;exact aje al g p q1
aif(h:s9 c)(hx:x∈T4):p4:=by rw[c0 lV,sD fa h,xH qU];rw[oX];dsimp only at hx;split at hx;(.simp only[NM,U5,or_false]at hx;exact aB4 h hx);.simp only[NM,U5,or_false]at hx;exact awC h hx
dj.FR{B:ai}(F:ij){k:Y}(hk:k<15)(h1:k≠10)(h2:k≠11)(hx:x∈DQ):p4:=by rw[iK (Fu (B:=B) (k:=k) (c:=c)) (λ e=>by rw[bO e hx hx]) λ r hr _ e=>?_];rw[e]at hx;have:=(F.row k r hk hr).de;unfold Fe at al;dsimp only at al;rw[aj h1,aj h2]at al;exact U6 al x hx
dj.Od{B:ai}(F:ij)(hx:x∈fq):p4:=by rw[xH u9];split at hx;(.exact aif Tk hx);.exact F.FR cD cD cD hx
dj.aDZ{B:ai}(F:ij)(hx:x∈iX):p4:=by rw[xH dO];split at hx;(.exact F.Od hx);.exact F.FR cD cD cD hx
dj.abE{B:ai}(F:ij):∀(j c x:Y),lm c->x∈ni->p4|0,c,x,hc,hx=>by rw[Qr qV hx]|j+1,c,x,hc,hx=>by rw[sm]at hx;split at hx;(.rw[Qx]);.refine ah (List.mem_flatMap.mp hx) ar y hy hxy;exact F.abE j y x (F.aDZ hy) hxy
dj.aGu{B:ai}(F:ij)(hc:lm c)(hx:x∈qt):p4:=by rw[xH eV];split at hx;(.exact F.abE 8 c x hc hx);.cases hx
YN(B:ai)(c:Y):nq qt:=by unfold eV;split;(.rw[qc,h.2]);.exact UD _
dj.ac9{B:ai}(F:ij):∀(n c x:Y),lm c->x∈Di->p4|0,c,x,hc,hx=>by rw[Qr ix hx]|n+1,c,x,hc,hx=>by rw[xH ix];split at hx;(.rw[Qx]);.rename_i y r e;rcases BL hx with h|h;(.exact F.ac9 n y x (F.Od (c:=c) (by rw[e];simp)) h);.exact F.Od (c:=c) (by rw[e];simp[h])
}
section
variable{B:ai}(j0:∀r∈Tl [],RR/\iM kL qS)(j1:∀r∈Tm [],RR/\iM kL qS)
include j0 j1
def z:={
zu(hj:px kL)(hs:Tv=false):dO B x=[]:=by(have m1:Gv 1 x=[]:=Fs λ r hr e=>by rw[wa (yK j1).2 e hj];cases al);(have m0:MO x=[]:=Fs λ r hr e=>by rw[wa (yK j0).2 e hj];cases al);rw[ld dO m1];unfold u9;rw[aj (by rw[hs];decide),m0]
ab3(hs:s9 c):iX=T4:=by(have m1:p?:=Fs λ r hr e=>by rw[wa (yK j1).1 e hs];cases al);rw[ld dO m1,ld u9 hs]
Nc(hj:px kL)(hs:Tv=false)(n:Y):K_=[x]:=by cases n with|cu=>rfl|cv n=>rw[sm,ao iW zu hj hs]
Jd{s:Y}(hs:s<11172):(kL (0x1100+s/588)=au/\AY (0x1100+s/588))/\(kL (0x1161+s%588/28)=au/\AY (0x1161+s%588/28))/\(s%28≠0->ap (kL (0x11A7+s%28))/\AY (0x11A7+s%28)):=by refine #[#[?_,?_],yB ?_,λ h=>yB ?_];(((.unfold kL;rw[gj aqA hs]);.unfold lV;rw[gj aBf hs]);(.rw[t8 kL,aA0]);.rw[t8 lV,aIp]);(.rw[t8 kL,ajI h]);.rw[t8 lV,aoc]
Yf(hs:s9 c)(xY:jS=0)(n:Y):Kt=[Lg vM,LC (vM%588)]:=by(have hl:S! c:=by rw[Jk hs hs RK]);refine bX (Jd j0 j1 hl) ks aS aU (bq aS λ a1 a2=>bq aU cr b1 b2);(have e:qU c=[Lg vM,LC (vM%588)]:=by rw[ld qU xY]);rw[sm,ab3 j0 j1 hs,e,CR,eQ,eQ,iW Nc a1 a2,iW Nc b1 b2];rfl
ap0(hs:s9 c):tJ Dm:=by((have hl:S! c:=by rw[Jk hs hs RK]);have fU:0xAC00<=c:=by rw[Jk hs hs aiJ]);refine bX (Jd j0 j1 hl) λ a9 bu t=>bq a9 λ a1 a2=>bq bu cr b1 b2;rw[Qh];refine ze ?_;by_cases xY:jS=0;(.have e:=iW Yf hs xY 7;(have hk:j? xG:=by rw[e];unfold gi;simp only[y?,Fy,Fz,iW zu a1 a2,iW zu b1 b2];rfl);unfold eV;rw[ao #[hk,by rw[e];exact(cD:2<=18)],e];rw[JA]);.obtain⟨t1,t2⟩:=t xY;((have e0:qU c=[c - jS,0x11A7+jS]:=by unfold qU;rw[aj xY]);have pV:s9 (c - jS):=by unfold lV;rw[Cg xy (0xAC00<=c - jS) aww xY,Cg xy (c - jS<0xAC00+11172) avI hl];rfl);((have aEg:I_%28=0:=by exact aow);have d4:c - jS - 0xAC00<11172:=by exact ajt hl);refine bX (Jd j0 j1 d4) ks bU cH (bq bU λ c1 c2=>bq cH cr d1 d2);((have e:GM c=[Lg I_,LC (I_%588),0x11A7+jS]:=by rw[sm,ab3 j0 j1 hs,e0,CR,eQ,eQ,iW Yf pV aEg,iW Nc t1 t2];rfl);have hk:j? xG:=by rw[e];unfold gi;simp only[y?,Fy,Fz,iW zu c1 c2,iW zu d1 d2,iW zu t1 t2];rfl);unfold eV;rw[ao #[hk,by rw[e];exact(cD:3<=18)],e];rw[JA]
aA4(h0:∀r∈Tl [],tJ (u? B vb qS))(h1:∀r∈Tm [],tJ (u? B vb qS))(c:Y):tJ Dm:=by by_cases e1:p?;(.by_cases e0:pI;(.show tJ (match(if p? then fq else Ed)with|[]=>Z dX|l=>_);rw[ao e1,e0];rfl);.by_cases hs:s9 c;(.exact ap0 j0 j1 hs);.have hm:MO c≠[]:=λ e=>e0 (by unfold u9;rw[aj hs,e]);rw[RJ hm r h0]);.rw[RJ e1 r h1]
}
section z
section _B
namespace Ch
open Mt MtLine
variable{n i a b c:Y}{us:c!}{u:gB}{l:iQ}{w:di}{cs:m6}{r:eo}{m:aL}
def z:={
ig.1(l:eo):Y:=Hf (λ s=>vf iz)
Gy(s:fP)(r:eo):ig E0=if w! then mR+1 else 0:=by rw[Rd ig,xx]
Mw:∀l:eo,ig l<=bP|[]=>gh|s::r=>by rw[Gy];have:=Mw r;rw[xx]<;>omega
xI.1(s:fP)(r:eo)(n:Y):Y:=(EU E0 n s).cls
auo(h:ap (lX FD)):zf u r=u::dI r:=by cases r with|bt=>rfl|aQ s r=>show(if w!/\Jp then _ else _)=_;rw[aj (by rw[h];simp)];rfl
aa6:∀(r:eo)(u:gB),Jp->zf u r=JR u (if mR=0 then u.joins else(r.getD PV #[0,false,false,false,false,false,false,false]).cls==47) (d8+mR)::dI (kI (ig r))|[],u,h=>rfl|s::r,u,h=>by show(if w!/\Jp then zf JR u (iz==47) (d8+1) r else u::zf (vg s) r)=_;rw[Gy];by_cases hm:w!;(.rw[ao #[hm,h],ao hm,aa6 r JR u (iz==47) (d8+1) h];rw[ou (UX _),U7,qX];by_cases hz:mR=0;(.rw[ao hz,hz];simp[U!]);.rw[Ql hz r hz];simp[U!,U? 1]);.rw[aj uF (hm q.1),aj hm];rfl
fN.1(s:fP)(r:eo):Y:=if JY then 1 else 1+mR
ib.1(s:fP)(r:eo):gB:={Mr with zg:=xI s r sj==47,qW:=rO}
Mo(s:fP):lX Dw s is.cls=lX iz:=by rw[pS vg];split;(.rw[qc,c0 vf];simp only[Fi,lP]at h;rcases h with h|h<;>rw[h]<;>rfl);.rfl
Dk(s:fP)(r:eo):dI E0=yu::SI:=by show zf (vg s) r=_;by_cases h:JY;(.rw[auo (by rw[dE Mo h])];unfold ib fN xI;rw[ao h];rfl);. (have h':iM lX iz:=by rw[jQ]);rw[aa6 r _ (by rw[dE Mo h'])];unfold ib fN xI;rw[aj h,Nat.add_sub_cancel_left];congr 1;by_cases hz:mR=0;(.rw[ao hz,hz];rfl);.rw[Ql hz r hz];(have hl:=Mw r;have a8:k<lJ:=by exact aFm hk hl);show({Mr with zg:=(r.getD (br - 1) _).cls==47,qW:=Dw s qW+br}:gB)={Mr with zg:=(EU E0 br s).cls==47,qW:=1+br};rw[U7,List.getD_cons_succ,kH,kH,ge a8];rfl
HU(s:fP)(r:eo):0<rO:=by unfold fN;split<;>omega
Ub(s:fP)(r:eo):rO<=LD:=by unfold fN;have:=Mw r;split<;>omega
num.1:Say->Y|kS=>0|ql=>1|EF=>2
kW.1(eR:aL):ac->c!->Y->BO->ac|acc,_,p,[]=>FF km 2|acc,aB,p,qp m=>Q_ FF AC aB (u::r.map gk z.1) Va (u::aB)
pQ(n:Y)(cs:m6):bp iT=n:=by rw[t8 qY]
HI(n:Y)(cs:m6)(h:i<n):iT[i]?=Z (match cs.find? c_ (bh==db)with|Z (_,au)=>2|Z (_,false)=>1|ak=>0):=by unfold qY;rw[Rh]
aag{q:Y}(h:nE cs (bh≠q)):cw cs.find? EG (bh==q):=NF λ x hx=>by simpa using sn h
M'{p:Y}{b:aL}(uc:nE cs (bh<p))(h1:1<=p)(h2:p<=n):qY n (cs++[(p,b)])=(iT).set km (if b=au then 2 else 1):=by rw[wL i];by_cases hi:i<n;(.rw[Em,Vc];by_cases e:p - 1=i;(.rw[e,Fn (by rw[dE pQ hi])];rw[aag (λ x hx=>by have:=sn uc;exact Xj e al)];(have e':ap (p==db):=by simp;exact avZ h1 e);rw[Option.none_or,UO (p:=λ x:ud=>bh==db) (a:=(p,b)) e'];cases b<;>rfl);.rw[Sc,Em];(have e':¬ap (p==db):=by rw[gj aLX e]);rw[UP (p:=λ x:ud=>bh==db) (a:=(p,b)) e',List.find?_nil,Option.or_none]);.rw[iu (by rw[Bl pQ hi]),iu (by rw[NB,pQ];exact gy hi)]
aku{p:Y}(uc:nE cs (bh<p))(h1:1<=p):(iT).set km 0=iT:=by rw[wL i];by_cases e:p - 1=i;(.by_cases hi:i<n;(.rw[e,Fn (by rw[dE pQ hi]),Em,aag (λ x hx=>by have:=sn uc;exact Xj e al)]);.rw[iu (by rw[NB,pQ];exact gy hi),iu (by rw[Bl pQ hi])]);.rw[NA e]
lY.1(l:BO):Y:=(zi gk Eh).sum
Gc(eR:aL)(n:Y):∀(i7:BO)(x:gB)(aB:c!)(p:Y)(cs:m6),(∀y∈cs,y.1<p)->1<=p->p+lY i7<=n->(∀z∈i7,0<Eh)->kW eR iT sk p i7=vN (cs++walk eR sk p i7)|[],x,aB,p,cs,h1,h2,h3,_=>by show(iT).set km 2=vN (cs++[(p,au)]);rw[M' h1 h2 (by simpa[lY]using h3)];rfl|qp m,x,aB,p,cs,h1,h2,h3,h4=>by rw[Sy h4 ht (lY r)];rw[ht]at h3;have qZ:∀z∈r,0<Eh:=λ z hz=>v5 h4 z hz;show Q_ (iT).set Hu Uw=vN (cs++((match Hu with|kS=>[]|ql=>[(p,false)]|EF=>[(p,au)])++walk eR Uw ww r));generalize Hu=y;cases y with|ak=>rw[BS ((iT).set km 0) _ _];rw[wQ aku,DF sk ww cs (λ y hy=>by rw[li yo NK]) Ic hu bm IL h3 qZ];rfl|chance=>rw[BS ((iT).set km 1) _ _];have e:=M' (n:=n) (b:=false) h1 h2 QT;rw[CR]at e;rw[<-e,DF sk ww _ (λ y hy=>by rcases BL hy with hy|hy;(.rw[li yo NK]);. (have:y=(p,false):=by rw[K4]);subst al;rw[QS (p<_) hu]) Ic hu bm IL h3 qZ];rw[I!]|must=>rw[BS ((iT).set km 2) _ _];have e:=M' (n:=n) (b:=au) h1 h2 QT;rw[t?]at e;rw[<-e,DF sk ww _ (λ y hy=>by rcases BL hy with hy|hy;(.rw[li yo NK]);. (have:y=(p,au):=by rw[K4]);subst al;rw[QS (p<_) hu]) Ic hu bm IL h3 qZ];rw[I!]
awm(n:Y):qY n []=JS n:=by rw[wL i];by_cases hi:i<n;(.rw[Em,NQ,ao hi];rfl);.rw[iu (by rw[Bl pQ hi]),iu (by rw[gj gy hi])]
aBL{eR:aL}{r:BO}(hn:n=lY Hs)(h:∀z∈qp m,0<Eh):kW eR JS n [u] d8 r=qY n (walk eR [] 0 Hs):=by rw[Sy h ht (lY r)];rw[<-awm,DF [] d8 [] aM hu eN asB hn ht BU h];show _=vN (walk eR [u] (0+d8) r);rw[Fm];rfl
we.1:td->cC Say|[]=>ak|x::r=>pT bh Z b8 (we r)
Vl(a b:td):lZ M!=(we a).ox (lZ b):=by induction a with|bt=>rfl|aQ x a ih=>show J' bh b8 (lZ M!)=uG J' bh Z b8 (we a) (lZ b);split;(.rfl);.exact ih
}
section
variable(aB bM:c!)(fS:Da)
def z:={
gX.1:e9:=bef.head?
rF.1:e9:=yA T_
gY.1:e9:=bM.head?
mM.1:e9:=yA (bM.drop 1)
Ax.1:e9:=yA (bM.drop 2)
rj.1:c!:=bef.dropWhile λ u=>FD==41
gZ.1:e9:=(rj aB).zn
yV.1:e9:=yA v1 (rj aB)
uR.1(o:e9):aL:=sM u u.is.initial
wA.1(o:e9):aL:=sM u u.is.final
z4.1(o:e9):aL:=sM u u.is.soft
vE.1(o:e9):aL:=sM u u.is.ring
zm.1(o:e9):aL:=sM u u.is.open_
zk.1(o:e9):aL:=sM u u.joins
Uc.1(o:e9):aL:=(o.map Unit_.sa).ox fT
seg.1:Y->td|1=>[(cN [9],EF),cO gd [15] [30],(cN [15,30,31],EF)]|2=>h? cp [9,15,30,31,41,46]|3=>[(kT gZ [46],ql)]|4=>h? mK zk|5=>h? (cN [45]||cp [45])|6=>[iE cN [19],cO (cp [19]&&isNot (gX aB) [41,7,23])]|7=>h? cp [12,14,18,42]|8=>h? kT gZ [34]|9=>h? (kT gZ [37]&&(uR (gZ aB)&&(lacks (yV aB)||kT yV [9,15,30,31,34,37,19,41,46])))|10=>h? (cp [37]&&(nJ wA&&(lacks (mM bM)||is (mM bM) [41,19,45,12,37,14,18,26,42,9,15,30,31,46])))|11=>[(cp [26]&&(cN [41]&&is (mM bM) [33]),ql),cO cp [26]]|12=>[iE (cp [32]&&kT gZ [12,14]),cO (cp [6]&&kT gZ [6])]|13=>[(cN [41],ql)]|14=>[iE (cp [37]&&!nJ uR),cO (cN [37]&&!mK wA)]|15=>[iE (cp [37]&&(!Kf||!zo (mM bM))),cO (cN [37]&&(!nJ zo||!zo (rF aB)))]|16=>[(cN [10]||cp [10],ql)]|17=>h? ((cN [23]||mK z4)&&((lacks (rF aB)||kT rF [9,15,30,31,41,46,10,19])&&cp [3]))|18=>[iE cp [7,23,32],cO cN [8],cO (kT rF [22]&&((cN [23]||(cN [7]&&!Kf))&&isNot (gY bM) [22])),cO gd [42] [22]]|19=>h? cp [25]|20=>[iE (gd [3,22] [33]||Bd [33]),cO (gd [36] [24,16,17]||gd [24,16,17] [35]),cO (Bd [36,35]||gd [3,22] [36,35])]|21=>[iE (cp [35,36]&&(digits aB||(cN [12,14]&&digits T_))),cO (cN [35,36]&&(cp [34]&&(is (mM bM) [33]||(is (mM bM) [26]&&is (Ax bM) [33])))),cO gd [35,36,23,26] [33],cO (cp [33]&&digits aB)]|22=>[iE gd [27] [27,29,20,21],cO gd [29,20] [29,28],cO gd [28,21] [28],cO gd [27,29,28,20,21] [35],cO gd [36] [27,29,28,20,21]]|23=>[(Bd [3,22],if mK Uc&&nJ Uc then(if fS=Z au then ql else kS)else kS)]|24=>[iE (cN [4]&&nJ vi),cO (mK vi&&cp [43,44]),cO (vi (rF aB)&&(cN [44]&&(cp [2]||nJ vE))),cO (mK vi&&(nJ vi&&is (mM bM) [43]))]|25=>h? Bd [26]|26=>[iE (cN [3,22,33]&&(cp [34]&&!nJ zo)),cO (cN [14]&&(!Kf&&cp [3,22,33]))]|27=>h? (cN [38]&&(cp [38]&&(dw bef.takeWhile (λ u=>FD==38))%2==1))|28=>h? ((cN [16]||mK zm)&&cp [17])|_=>[]
yM.1:Y->Y->td|0,_=>[]|n+1,i=>z8 i++yM n bD
}
set_option maxRecDepth 100000 in def VZ:says aB bM fS=lZ (yM aB bM fS 28 1):=rfl
section z
def z:={
cst.1(B:ai)(bb:er):tT:=(S8).oq ux
aEr(B:ai)(u:bj)(r:er):GL fL=mr fL::C5:=rfl
abS(B:ai):∀(bb:er)(j:Y),j<=kM->S8[j]?=Z mr (NR j)|[],0,_=>rfl|[],j+1,h=>gq|u::r,0,_=>rfl|u::r,j+1,h=>by rw[Q? aEr,abS B r j p0]
Rp{α:Type}(le:α->α->aL)(l:en)(b:α):ot le vT b=Z (match ot le l with|ak=>b|Z a=>if(ap (le b a))then b else a):=by cases l with|bt=>rfl|aQ x r=>show Z ((r++[b]).zp _ x)=_;rw[List.foldl_append];rfl
gS.1(B:ai)(bb:er):Y->cC (Y×Y)|0=>ak|k+1=>match CK br (row.take br).zq with|ak=>DI|Z c=>IH DI Z (c+J7,k) (if c+J7<=b.1 then Z (c+J7,k)else e6)
SK(B:ai)(u:bj)(r:er):∀k,k<=LD->ot (λ(a b:tT)=>kb a.1 b.1) ((Tw).filterMap λ i=>hM CK bD ((fL).d3 bD).zq λ c=>(c+(EU C5 i ux).1,bD::(EU C5 i ux).2))=hM (gS B fL k) λ b=>(b.1,yP::sg nV fL yP)|0,_=>rfl|k+1,h=>by have ih:=SK B u r k Is;rw[u1,Nv];(have hg:uG C5 k ux=mr nV fL br:=by rw[sx (abS B r k eA Nat.le_of_lt_succ)]);rw[H? gS Nw];cases hp:CK br ((fL).d3 br).zq with|ak=>dsimp only[Option.map_none];rw[oy,ih]|ca c=>rw[Iq];rw[Rp,ih,hg];cases hb:gS B fL k with|ak=>rfl|ca b=>rw[Iq];by_cases hle:c+(mr nV fL br).1<=b.1;(.rw[ao S0,ao hle];rfl);.rw[aj S0,aj hle];rfl
L7(B:ai)(bb:er):∀k,0<k->∃b,DI=Z b|0,h=>by exact pJ avJ h|k+1,_=>by unfold gS;cases k with|cu=>(have:∃c,CK (0+1) (row.take (0+1)).zq=Z c:=by unfold pieceCost;split;(.exact k3);.exact #[65536,rfl]);obtain⟨c,hc⟩:=al;rw[hc];exact k3|cv k=>obtain⟨b,hb⟩:=L7 B bb br gr E2;rw[hb];split;(.exact k3);.dsimp only;split;(.exact k3);.exact k3
E7{B:ai}{bb:er}:∀{k:Y}{b:uk},DI=Z b->b.2<k|0,b,h=>yg|k+1,b,h=>by rw[c0 gS];split at h;(.rw[li (E7 h) r9]);.split at h;(.rw[bo,R']);.rename_i a ha;split at h;(.rw[bo,R']);.rw[bo,li (E7 ha) r9]
aaz{B:ai}{bb:er}{b:uk}(h:gS B bb kM=Z b):mr bb=(b.1,yP::sg (NR yP)):=by cases bb with|bt=>rw[bo]|aQ u r=>show((ot _ _).ox ux)=_;rw[SK B u r (lJ+1) gh];rw[show bp fL=LD from rfl]at h;rw[h];rfl
R4(B:ai):mr []=ux:=rfl
J0(B:ai):∀(n:Y)(bb:er),kM=n->(KJ).sum=kM/\∀k∈KJ,0<k:=by intro n;induction n using NT with|_ n ih=>intro bb hn;cases bb with|bt=>exact #[rfl,fE R4]|aQ u r=>obtain⟨b,hb⟩:=L7 B fL bp fL aM;have a8:=E7 hb;rw[aaz hb];rw[BW h2 (ih dw vU fL yP (by rw[sR];simp at hn⊢;exact aKF hn) _ ag),<-#[?_,cr k hk]];(.rw[iw,h1,io];exact FG a8);.rcases eC hk with rfl|hk;(.rw[JA]);.exact h2 k hk
sQ.1(ns:ac):bA aL:=ns.flatMap λ n=>au::G9 Hc fT
g8.1:Y->ac->ac|_,[]=>[]|a,uO=>MK eW
aaB:∀ns:ac,xS->dw sQ ns=zs|[],_=>rfl|uO,h=>by rw[tt h1 (h n aM) (aaB r (λ k hk=>h k jP hk))];unfold sQ at h2⊢;rw[eQ,i6,h2,iw];rw[Q!]
Jc:(mU ns a (xS->∀e∈Et,a<=e))|[],a,_,e,h=>yg|uO,a,hp,e,h=>by have h1:=hp n aM;rcases JE with rfl|h;(.exact at8 h1);.rw[li (Jc r eW IN e h) Vd]
RE:∀(ns:ac)(a i:Y),xS->0<i->i<zs->((sQ ns)[i]?=Z au↔a+i - 1∈Et)|[],a,i,_,_,h=>gq|uO,a,i,hp,h0,h=>by have h1:=hp n aM;have nH:∀k∈r,0<k:=λ k hk=>hp k jP hk;((have hb:sQ f' n=Ij++sQ r:=by rw[e8 sQ eQ]);have hl:bp Ij=n:=by rw[Q!]);rw[hb];show _↔a+i - 1∈MK eW;by_cases hi:i<n;(.rw[FH (by rw[dE hl hi])];(have hf:Ij[i]?=Z fT:=by obtain⟨j,rfl⟩:∃j,i=j+1:=#[i - 1,by exact Ju h0];rw[Vh,NQ,ao bm Nat.lt_sub_of_add_lt hi]);rw[hf];constructor;(.intro q;cases q);.intro q;rcases eC q with q|q;(.exact fI (aGk q h0 hi));.have:=Jc r eW nH _ q;exact fI (apY al hi));.rw[NU (by rw[Bl hl hi]),hl];by_cases he:i=n;(.subst he;rw[Vj];constructor;(.intro _;simp);.intro _;cases r with|bt=>simp at h|aQ m r'=>rw[tx sQ eQ]);.have hs:n+zw=(f' n).sum:=(iw).symm;rw[RE r eW (i - n) nH eN aoT hi he (by exact aEt hs h hi)];(have e1:a+n+(i - n) - 1=a+i - 1:=by exact awc hi);rw[e1,NM];constructor;(.intro q;rw[nw q]);.rintro(q|q);(.exact fI (aL6 q h1 hi he));.exact q
lB.1(l:iQ):Y:=Hf gk z.1.sa
An(z:Ek)(l:iQ):lB (z::l)=if(ap z.1.sa)then lB l+1 else 0:=by rw[Rd lB,xx]
XD(B:ai):∀(l:iQ)(bb:er),JV=Gu (bb++hM (u3 (lB l)) ((·.2)))++(match gv (lB l)with|[]=>[]|_::r=>false::iJ r)|[],bb=>by simp[marksFrom,lB]|qp t,bb=>by rw[An];show A'=_;by_cases h:u.sa=au;(.rw[um,um,XD B r G2];simp);.rw[aj h,aj h];simp
Vr(B:ai)(bb:er):z5=sQ KJ:=rfl
A1(B:ai)(bb:er):bp z5=kM:=by rw[BW h2 (J0 B kM bb ag)];rw[Vr,aaB _ h2,h1]
Iz(B:ai):∀(l:iQ)(bb:er),bp JV=kM+bP|[],bb=>by show wZ=_;rw[A1];rfl|qp t,bb=>by show bp A'=_;split;(.rw[Iz B r];simp;exact yY);.rw[i6,A1,gA,Iz B r];simp
N2(B:ai):∀(l:iQ)(bb:er)(k:Y)(z:Ek),l[k]?=Z z->z.1.sa=false->(JV).kJ (kM+k+1)=iJ pe br|[],bb,k,z,h,_=>gq|qp t,bb,0,z,h,hz=>by(have e:(u,t)=z:=by rw[jQ]);subst e;show(A').kJ _=iJ r;rw[aj (by dsimp only at hz;rw[hz];simp)];rw[show kM+0+1=wZ+1 by rw[A1],Vk];rw[RC J9];simp|qp t,bb,k+1,z,h,hz=>by(have h':r[k]?=Z z:=by rw[jQ]);show(A').kJ _=iJ (kI br);split;(.have:=N2 B r G2 k z h' hz;rw[<-al];congr 1;simp;exact au0);.have:=N2 B r [] k z h' hz;rw[<-al];rw[show kM+br+1=wZ+yW by rw[dE A1 anP],Vk];rw[RC ayj,tR (wZ+yW - wZ=k+1+1) aIf,qX];simp
iD.1(l:iQ)(a:Y):Prop:=a=0\/∃z,l[M?]?=Z z/\z.1.sa=false
azC{B:ai}(h:iD l a)(h0:a<=bP):(xc).kJ a=iJ kd:=by by_cases ha:a=0;(.subst ha;rfl);.rcases h with h|⟨z,h1,h2⟩;(.rw[f8 h ha]);.have:=N2 B l [] M? z h1 h2;rw[show bp ([]:er)+M?+1=a by rw[gj Vm ha],show a - 1+1=a by exact Vm ha]at al;exact al
l0.1(l:iQ)(a b:Y):er:=(uJ kd Hd).bz (·.2)
am2{B:ai}(h:iD l a)(hb:b=a+Ls lB)(h1:a<=i)(h2:i<b)(h3:xC):xc[i]?=(Gu tY)[E9]?:=by(have e:xc[i]?=(iJ kd)[E9]?:=by rw[<-azC h (by exact ajD h1 h2 h3),oG];congr 1;exact acG h1);rw[e,XD,FH];(.unfold l0;rw[zc,show uT=Ls lB by exact akr hb]);.rw[A1,zc,qP,or,io];exact aD8 h2 h1 hb h3
m7.1(B:ai)(l:iQ)(i:Y):Prop:=∃z,ck l z/\ap z.1.sa/\((∀y,l[bD]?=Z y->y.1.sa=false)\/xc[bD]?=Z au)
Mq:∀(l:iQ)(j:Y),j<lB l->∃z,l[j]?=Z z/\ap z.1.sa|[],j,h=>Dn lB|z::l,j,h=>by rw[An]at h;split at h;(.rename_i hz;cases j with|cu=>exact aW z ag hz|cv j=>refine ah (Mq l j eA aiO) ar y h1 h2;exact aW y A0 h2);.exact pJ oz h
RO:∀(l:iQ)(y:Ek),l[lB l]?=Z y->y.1.sa=false|[],y,h=>gq|z::l,y,h=>by rw[An]at h;split at h;(.exact RO l y p0);.rename_i hz;rw[Ie (z=y)];simpa using hz
Vb:(mU ns a (xS->0<zs->a+zs - 1∈Et))|[],a,_,h=>gq|uO,a,hp,_=>by have h1:=hp n aM;show _∈MK eW;rw[iw];by_cases hr:0<zw;(.have:=Vb r eW IN hr;rw[tL (a+(n+zw) - 1=a+n+zw - 1) aDD];rw[wK al]);.rw[xy (zw=0) Nat.eq_zero_of_not_pos hr];exact r!
acn:(mU ns a (xS->∀e∈Et,e<a+zs))|[],a,_,e,h=>yg|uO,a,hp,e,h=>by have h1:=hp n aM;rw[iw];rcases JE with rfl|h;(.exact arY h1);.rw[li (acn r eW IN e h) aik]
L'(h:xC):bp tY=uT:=by unfold l0;rw[qP,or,io];exact aaD h
aK4{B:ai}(h:iD l a)(hb:b=a+Ls lB)(h3:xC)(h1:a<=i)(h2:i<b):m7 B l i↔i∈g8 a sg tY:=by obtain⟨hs,hp⟩:=J0 B _ tY ag;rw[L' h3]at hs;refine ah (Mq kd E9 (by exact aoB h2 h1 hb)) ar z ko fV;rw[oG,JO E9 i FG]at ko;by_cases hl:db=b;(.have e:m7 B l i:=(aZ z ko fV (eT λ y hy=>by apply RO (gv a) y;rw[oG,<-hb,<-hl];exact hy));have:=Vb sg tY a hp (by exact aE8 hl hs h1);rw[hs,show a+Hd - 1=i by exact akc hl h1]at al;exact #[λ _=>al,λ _=>e]);.refine ah (Mq kd ER (by exact aJh h2 h1 hb hl)) ar y S5 zE;rw[oG,show a+ER=db by exact acj h1]at S5;have qJ:=RE sg tY a ER hp tU azf (by exact aym h2 h1 hs hl);rw[Ks (a+ER - 1=i) ajx]at qJ;have hm:=am2 (B:=B) h hb Ks (a<=db) Nat.le_add_right_of_le eN y_ h2 hl h3;rw[Vr]at hm;rw[<-qJ,<-hm];constructor;(.rintro⟨z',e1,e2,e3|e3⟩;(.rw[e3 y S5]at zE;cases zE);.exact e3);.exact λ e=>(aZ z ko fV i0 e)
ak2{B:ai}{x y:Ek}(hx:ck l x)(hy:l[bD]?=Z y)(h1:ap (bh).sa)(h2:ap y.1.sa):m7 B l i↔xc[bD]?=Z au:=by constructor;(.rintro⟨z,e1,e2,e3|e3⟩;(.rw[e3 y hy]at h2;cases h2);.exact e3);.exact λ h=>(aZ x hx h1 i0 h)
Ap(us:c!):∀t:bj,bp nn=gu:=by induction us with|bt=>intro t;rfl|aQ u r ih=>intro t;show bp (FJ (q8 d8) r)+1=_;rw[ih];rfl
bT.1(us:c!)(i:Y):Y:=Sv (NV i)
PD(us:c!):bT us 0=0:=fE bT
yr(h:ck us u):bT us bD=vR i+d8:=by unfold bT;rw[zy,h,df];simp
WU(u:gB)(r:c!)(i:Y):bT fL bD=d8+bT r i:=by unfold bT;rw[List.take_succ_cons,dJ,iw]
Im:∀(us:c!)(t:bj)(i:Y)(u:gB),ck us u->nn[i]?=Z (u,Ci vR i d8)|[],t,i,u,h=>gq|v::r,t,0,u,h=>by rw[Ie (v=u)];show Z (v,t.take v.size)=_;rw[PD,FK]|v::r,t,db,u,h=>by show(FJ (q8 v.size) r)[i]?=_;rw[Im r (q8 v.size) i u p0,WU,i8]
aDR(us:c!)(t:bj):Li nn=us:=by rw[wL i];rw[qQ];cases h:us[i]? with|ak=>rw[iu (by rw[Ap];exact List.getElem?_eq_none_iff.mp h)];rfl|ca u=>rw[Im us t i u h];rfl
Ze(us:c!)(t:bj)(a:Y):∀n,a+n<=gu->(l0 nn a eW).zq=Ci wm K9|0,_=>fE l0|n+1,h=>by have ih:=Ze us t a n Is;rw[HE u (us[eW]?=Z u) us[eW]];((have e1:l0 nn a (a+j7)=l0 nn a eW++[(q8 wc).d3 d8]:=by unfold l0;rw[tL (a+j7 - a=n+1) aqr,show a+n - a=n by exact L_,zy,oG,Im us t eW u hu,df];rfl);have abr:wm<=wc:=by unfold bT;rw[Vo,df,List.sum_append];exact vo);rw[e1,List.flatten_append,ih,tR (a+j7=a+n+1) Jn,yr hu];rw[xy (wc+d8 - wm=K9+d8) NW abr,Vo,i8,show wm+K9=wc by exact FG abr];simp
aBS(w:di)(g:Y):Ml w 39 g=3\/Ml w 39 g=13\/Ml w 39 g=24:=by unfold FL plain;simp only[(S9 ((39:Y)=1)),show¬((39:Y)=40\/(39:Y)=0)by decide,if_false,if_true];by_cases hg:g=6\/g=7;(.simp only[ao hg];simp[in_]);.simp only[aj hg];simp only[(S9 ((3:Y)=32\/(3:Y)=25)),and_false,if_false];generalize w.all=b0;generalize w.keep=b1;revert b0 b1;decide
aoN{B:ai}(h:ap (Pn).sa):xo=3\/xo=13\/xo=24:=by unfold sort at h⊢;dsimp only at h⊢;(have:kK B 6 c=39:=by rw[jQ]);rw[al];exact aBS w _
azR{k g:Y}(h:w.all=au)(hk:To):Te≠3/\Te≠22:=by rw[pS FL];generalize(if w.how=2/\(Ln=32\/Ln=25)then 24 else Ln)=b;rw[h,hk];by_cases hb:ap (in_ b [3,22,33]);(.rw[ao #[rfl,hb]];decide);.rw[aj uF (hb q.2),aj aM];constructor;(.rintro rfl;exact hb ag);.rintro rfl;exact hb ag
auD{B:ai}(h:w.all=au)(hk:To):xo≠3/\xo≠22:=azR h hk
K6(s:fP):Dw s is.cls=if w! then 3 else iz:=by rw[pS vg];split<;>rfl
sU(s:fP)(r:eo):(yu).is=Dw s is:=rfl
TL(s:fP)(r:eo):(yu).qW=rO:=rfl
ae0:∀(r:eo)(s:fP),yA (kI (ig r))=Z s->iM vf iz|[],s,h=>Dn ig|x::r,s,h=>by rw[Gy]at h;split at h;(.exact ae0 r s p0);.rename_i hx;rw[Ie (x=s),Hn]
azT:IW n l (T7->(∀s∈l,iM vf iz->iz≠3/\iz≠22)->∀(i:Y)(x y:gB),yl[i]?=Z x->yl[bD]?=Z y->ap (in_ y.is.cls [3,22])->ap (lX x.is.cls)):=by intro n;induction n using NT with|_ n ih=>intro l hn hl i x y hx hy hc;cases l with|bt=>simp[dI]at hx|aQ s r=>rw[Dk]at hx hy;have fO:=HU s r;cases i with|cv i=>refine ih dw kI sj (by rw[sR];simp at hn;exact abN hn) _ ag (λ s' pV=>hl s' jD (Vp pV)) i x y Cu Cs hc|cu=>((have ex:yu=x:=by rw[Hn]);have yz:SI[0]?=Z y:=by rw[K4]);rw[<-ex,sU,Mo];cases hd:Ug with|bt=>rw[hd]at yz;simp[dI]at yz|aQ s' r'=>rw[hd,Dk]at yz;(have ey:ib s' r'=y:=by simpa using yz);rw[<-ey,sU,K6]at hc;have pV:s'∈s::r:=jD (Vp (by rw[hd];exact r!));by_cases hm:ap (vf s'.cls);(.by_cases ha:JY;(.exact ha);.exfalso;(have hu:rO - 1=mR:=by unfold fN;rw[aj ha];exact aEA);rw[hu]at hd;have:=ae0 r s' (by rw[hd];rfl);rw[bO hm al al]);.exfalso;rw[aj hm]at hc;obtain⟨h1,h2⟩:=hl s' pV dv hm;unfold in_ at hc;simp at hc;exact aCJ hc h2 h1
aHp{k:Y}(h:ap (lX k)):in_ k [3,22]=false:=by unfold lX in_ at*;simp at h⊢;exact aAp h
B1:IW n l (T7->(∀u∈yl,0<d8)/\D4 Sv yl):=by intro n;induction n using NT with|_ n ih=>intro l hn;cases l with|bt=>exact #[jP dI,rfl]|aQ s r=>rw[Dk];rw[tt h1 (HU s r) (Ub s r)];obtain⟨h3,h4⟩:=ih dw kI sj (by rw[sR];simp at hn;exact abN hn) _ ag;constructor;(.intro u hu;rcases eC hu with rfl|hu;(.exact h1);.exact h3 u hu);.rw[dJ,iw,h4,TL,io,gA];exact aw1 h1 h2
Pw(l:eo):D4 (bT (dI l) J! l):=by rw[e8 bT List.take_length,(B1 _ l ag).2]
Vg:(IW i l (i<=J! l->dI (gv (bT (dI l) i))=(dI l).kJ i))|0,l,_=>by rw[PD];rfl|db,l,h=>by cases l with|bt=>simp[dI]at h|aQ s r=>rw[Dk]at h⊢;have h1:=HU s r;rw[WU,qX,TL];have:=Vg i Ug p0;rw[<-al,i8];congr 1;obtain⟨k,hk⟩:∃k,fN s r=k+1:=#[sj,by exact Ju h1];rw[hk,tR (k+1 - 1=k) Xh,tR (k+1+bT (dI (kI k)) i=(k+bT (dI (kI k)) i)+1) Qg,qX]
QX{l:eo}{s:fP}(hi:i<=J! l)(h:gv (bT (dI l) i)=s::r):yl[i]?=Z yu:=by rw[wa (Vg i l hi) h Dk];rw[<-Vq,<-al];rfl
nh.1(us:c!)(z:ad):e9:=sd (0<=z) (us[NL]?)
cY.1(us:c!)(n:Y):c!:=(NV n).q9
oV(h:us[n]?=Z u):cY us j7=u::Eo:=by unfold cY;rw[zy,h];simp
U3(h:K?):(Eo).zn=nh us (jN n - 1):=by unfold nh;cases n with|cu=>rfl|cv n=>rw[HE u (us[n]?=Z u) us[n]];rw[oV hu,ao gr axY,show rW (((j7:Y):ad) - 1)=n by exact aud,hu];rfl
Xw(h:K?):(Eo).kJ 1=cY us Hc:=by cases n with|cu=>rfl|cv n=>rw[HE u (us[n]?=Z u) us[n]];rw[oV hu];rfl
TX(h:K?):(v1 Eo).zn=nh us (jN n - 2):=by rw[Xw h];cases n with|cu=>rfl|cv n=>rw[tL (n+1 - 1=n) Xh,U3 eA NS];congr 1;exact auu
aac(us:c!)(p k:Y):((NX p).kJ k).zn=nh us (jN p+k):=by unfold nh;rw[ao gr aJT,tR (rW (jN p+k)=p+k) aia,i8,Vq]
gV.1(l:td):ad:=match we l with|Z s=>(num s:Y)|ak=> -1
aAJ{l:td}:gV l= -1↔(cw we l):=by unfold gV;cases h:we l with|ak=>simp|ca s=>simp
Lh(aB bM:c!)(fS:Da):(lr n i ((∀k,k<n->gV z8 (i+k)= -1)->∀m,lZ DO yM Nl i=lZ DO yM m (i+n)))|0,i,_,m=>by rw[Fm,vj]|n+1,i,h,m=>by rw[tL (n+1+m=Nl+1) Qg];show lZ (z8 i++DO yM Nl bD)=_;have h0:=aAJ.mp (h 0 gr E2);rw[vj]at h0;rw[Vl,h0,Option.getD_none,Lh aB bM fS n bD (λ k hk=>by rw[tL (db+k=i+br) yY];exact h br bm Nn hk) m];rw[tL (db+n=i+j7) yY]
agt{aB bM:c!}{fS:Da}{k:Y}(hk:k<28)(h:∀j,j<k->gV sZ j= -1)(hs:gV sZ k≠ -1):p! (num (says aB bM fS))=gV sZ k:=by obtain⟨m,hm⟩:∃m,28=k+(m+1):=#[27 - k,by exact apa hk];rw[VZ,hm,Lh aB bM fS k 1 h (m+1)];show p! (num (lZ (sZ k++DO yM m (1+k+1))))=_;rw[Vl];unfold gV at hs⊢;cases e:we sZ k with|ak=>rw[e]at hs;rw[lg hs]|ca s=>rfl
aDi{aB bM:c!}{fS:Da}(h:∀j,j<28->gV sZ j= -1):num (says aB bM fS)=1:=by rw[VZ,Lh aB bM fS 28 1 h 0];rfl
aLN(eR:aL)(acc:ac)(us:c!)(ms:bA aL)(k:Y)(fO:LE gu)(hu:us[br]?=Z u)(hm:ms[br]?=Z m):kW eR acc DX Hq nV yp br=kW eR (FF Ti (num AC DX Td ak)) (cY us yW) vR yW nV yp yW:=by rw[QA hz (yp[br]?=Z (u,m)) #[hu,hm],wv hl e hz];rw[Rj,e];rw[BS (FF Ti (num AC DX (u::(vU yp (br+1)).bz gk z.1) ak)) (u::DX) (Hq+d8)];have p8:(us.zip ms).bz k8 z.1=us:=Vt bm Vu fO;(have e2:u::(vU yp (br+1)).bz k8 z.1=Td:=by rw[Vv,p8];rw[wv f_ e3 hu];rw[Ah f_,e3]);rw[e2,oV hu,yr hu]
aEI{B:ai}{t:bj}(h0:Dp):∃u,s8[0]?=Z u/\qY cP (chances B w t)=kW w.words JS cP (cY s8 1) (bT s8 1) v1 ((s8).zip iJ (FJ t s8)):=by obtain⟨hp,hs⟩:=B1 _ (t.map Pk) ag;rw[qP]at hs;rw[pS chances];generalize hU:s8=us at hp hs⊢;(have hl:bp iJ nn=gu:=by rw[Iz,Ap];simp);generalize iJ nn=ms at hl⊢;cases us with|bt=>simp at hs;exact fI (aCE h0 hs)|aQ u r=>cases ms with|bt=>simp at hl|aQ m q=>refine aW u ag ?_;have hz:(r.zip q).bz k8 z.1=r:=Vt (by simp at hl;exact aax hl);rw[FN,<-aBL (m:=m) (r:=r.zip q)];((.rfl);.unfold lY;rw[dJ,iw,<-hs,dJ,iw];congr 1;rw[<-hz,NY];rw[hz];rfl);.intro z FO;rcases eC FO with rfl|FO;(.exact hp u aM);.exact hp z.1 jD (by rw[<-hz];exact Vw aW z FO ag)
}
section Ch
namespace _W
open Mt MtLine
variable{a b q c x:Y}{m l:ac}{I:ia}
def z:={
DE.1(a b:Y):aL:=(a==9&&one [9,10,12,13] b)||(S2 (one [10,11] b)||(one [13,11] a&&b==11))
B0.1(l:ia):aL:=odd RL
jn.1(l:ia)(b:Info):aL:=let a:=(vk #[0,0,false]).cls;(a==1&&Uk)||(!(Tc||SL)&&((DE a oH||(sr [4,5,8]||a==7))||(T'||(Up||(Uq&&B0 l)))))
aLY(i:Y)(s:Says):Rules.none.on nF i s=s:=by unfold Rules.on Rules.off q_;simp
amo(a b:Y):Rules.none.row nF a b=.silent:=rfl
arb(c:aL)(l:LU):vl (zg c::l)=(!c&&Mc):=p6 c
alN(c:aL)(l:LU):vl (cuts c::l)=(c||Mc):=p6 c
av1(l:LU):vl (.silent::l)=Mc:=rfl
am6:ap (vl [.cut]):=rfl
aAB(l:ia)(b:Info):vl (Vx q_ l b)=!jn l b:=by unfold Vx;simp only[aLY,amo,arb,alN,av1,am6,Fz];unfold jn DE B0;(have h3:one [4,5,8] oH=(sr [4,5]||oH==8):=by unfold one;simp only[List.contains_cons,List.contains_nil,Bool.or_false,Vz]);simp only[h3];generalize(vk #[0,0,false]).cls=a;generalize(a==1&&Uk)=x1;generalize Tc=x2;generalize SL=x3;generalize(a==9&&sr [9,10,12,13])=x4;generalize S2 sr [10,11]=x5;generalize(one [13,11] a&&oH==11)=x6;generalize sr [4,5]=x7;generalize(oH==8)=x8;generalize(a==7)=x9;generalize T'=y1;generalize Up=y2;generalize(Uq&&odd RL)=y3;simp only[Bool.not_or,Bool.not_and,Bool.not_not,Vz,UW]
inf.1(B:ai):Y->Info:=info B q_ nF
Cc.1(B:ai)(t:bj)(p:Y):aL:=jn (((t.take p).q9).bz (inf B)) (((q8 p).bz (inf B)).oq #[0,0,false])
aC9{B:ai}{t:bj}{p:Y}(h0:0<p)(h1:T9):FS B q_ nF t p=!Cc B t p:=by unfold FS;rw[aj eN akQ h0 h1,Cg h1,Fx];rw[pS saysAt];rw[aAB];rfl
sC.1(B:ai)(t:bj):ac:=(Ea (KT Dq) λ p=>!Cc B t p)++T1
Yl{B:ai}{t:bj}(h:Dp):breaks B q_ nF t=0::EC:=by unfold breaks sC;(have e:kG LF=0::(KT Dq++T1):=by obtain⟨n,hn⟩:∃n,cP=n+1:=#[Dq,by exact Ju h];rw[hn,u1,NZ,FT];simp);rw[e,vn,oJ];(.congr 1;congr 1;(.rw[H8 p hp hp,aC9 xJ Vf xJ aGl]);.rw[vn,N0];rw[ld FS i0 ag,jQ]);.rw[ld FS pr,jQ]
C2.1(t:bj):Y->ac->er|_,[]=>[]|a,e::r=>Ci a me e::C2 t e r
ZE(t:bj):(mU l a ((((a::l).zip l).bz c_ Ci bh (x.2 - bh))=C2 t a l))|[],a=>rfl|e::r,a=>by rw[FN,dJ,ZE t r e];rfl
aim{B:ai}{t:bj}(h:Dp):parts B q_ nF t=C2 t 0 EC:=by rw[pS parts];rw[Yl h,qX,FK,ZE]
no.1:Info:=#[0,0,false]
back.1(I:ia)(a k:Y):ia:=((I.drop a).d3 AI).q9
Oe(I:ia)(a:Y):D9 a=[]:=fE back
YH{k:Y}{x:Info}(h:a<=k)(e:I[k]?=Z x):D9 br=x::D9 k:=by rw[Q9 back I.drop x]
jR.1(I:ia)(a p:Y):aL:=jn D9 p (I.getD p no)
U_(t:bj)(h:b<=a):e!=[]:=by unfold bb;rw[QO (uT=0),List.take_zero]
o3{t:bj}(h:Db):bp e!=uT:=by unfold bb;rw[or,io];exact aaD h
aCO{t:bj}{i:Y}(h:i<uT):e![i]?=t[a+i]?:=by unfold bb;rw[VB h,oG]
Zj{t:bj}{y:Y}(h:a+y<=b):bb e! x y=bb t Ng (a+y):=by unfold bb;rw[List.drop_take,List.take_take,i8,Fg eA aqH,tR (a+y - Ng=y - x) aqv]
Yo{t:bj}{k:Y}(h:a<=k)(e:t[k]?=Z c):nK br=nK k++dX:=by rw[Q9 bb q8 c]
azP{B:ai}{t:bj}{p:Y}(h1:a<p)(h2:p<b)(h3:Db):Cc B e! uS=jR pH a p:=by unfold Cc jR;((have e1:(e!).d3 uS=nK p:=by have:=Zj (t:=t) (a:=a) (b:=b) (x:=0) (y:=p - a) (by exact aG1 h1 h2);rw[Ks (a+uS=p) ae7,vj]at al;rw[<-al];simp[bb]);have e2:((nV e! uS).bz (inf B)).oq #[0,0,false]=uG pH p no:=by((have hp:T9:=by exact za h2 h3);have e:e![uS]?=Z t[p]:=by rw[aCO (by exact aBF h2 h1),JO uS p ae7,ge hp]);obtain⟨hl,e'⟩:=y6 e;rw[Rj,e',dJ,N1,kH,qQ,ge hp];rfl);rw[e1,e2];congr 1;unfold back bb;rw[List.map_reverse,List.map_take,Vv]
kN.1(I:ia)(a b:Y):ac:=(Ea p3 cL MX λ p=>!jR I a p)++CW (a<b) [b]
yn{B:ai}{t:bj}(h1:a<b)(h3:Db):I9=hM (sC B e!) ((a + ·)):=by unfold kN sC;rw[ao h1,o3 h3,df];congr 1;(.rw[show(tq cL MX ((KT MX).bz (a + ·)))by rw[VC],N3];congr 1;rw[H8 p hp hp];show(!jR pH a (a+p))=!Cc B e! p;rw[<-azP (b:=b) xJ aGy xJ aJc h3,show a+p - a=p by exact L_]);.rw[gj aHv h1]
aFB(I:ia)(h:b<=a):wb I=[]:=by unfold kN;rw[aj eA ah3,show uT - 1=0 by exact aBa h];rfl
AN{p:Y}(h:p∈wb I):a<p/\p<=b:=by rw[c0 kN];rcases NO h with h|h;(.have h':=Su.1;rw[k5 h',aE3 h']);.split at h;(.rw[N5]at h;exact alH Tk h);.rw[bo]
aee(I:ia)(a b:Y):SQ wb I:=by rw[e8 kN List.pairwise_append,<-#[RD,?_,?_]];(.rw[xx]);.intro x hx y hy;have h':=sK hx;rw[k5 h'];split at hy;(.rw[N5]at hy;exact axS h' hy);.cases hy
wf.1(B:ai)(w:di)(t:bj):Y->Y->ac->Y|col,_,[]=>col|col,a,e::r=>wf B w t (col+Bx nK e) e r
XG(B:ai)(w:di)(t:bj):∀(l:ac)(col a e:Y),C7 a vT e=C7 a l+N6 B w (C7 a l) (bb t (N8 a) e)|[],col,a,e=>rfl|uL,col,a,e=>by show wf B w t _ x vT e=_;rw[XG B w t l _ x e];(have h:N8 x=(x::l).VD a:=by cases l with|bt=>rfl|aQ y l=>rw[List.getLast?_cons_cons,List.getLast?_eq_some_getLast aM];rfl);rw[h];rfl
Ry{B:ai}{w:di}{t:bj}{a b:Y}:∀(L:ac)(x col:Y),(∀e∈L,a+e<=b)->(C2 e! x L).zp (λ col c=>col+Bx c) col=C7 Ng (L.map (a + ·))|[],x,col,_=>rfl|e::r,x,col,h=>by show(C2 e! e r).zp _ (col+Bx (bb e! x e))=_;rw[Ry r e _ (λ y hy=>v5 h y hy),Zj (h e aM)];rfl
axO{B:ai}{w:di}{t:bj}(h3:Db):xR e!=wf B w t 0 a I9:=by by_cases h:a<b;(.unfold width;rw[aim (by rw[o3 h3];rw[Ih]),yn h h3,Ry _ 0 0,vj];intro e he;(have:a+e∈I9:=by rw[yn h h3];exact Vw aW e he ag);exact(AN al).2);.rw[U_ t RS,aFB _ RS];rfl
aGw{B:ai}{w:di}{t:bj}(h:b<=a):B7 b=xR e!:=by unfold FV;rw[U_ t h];rfl
amR{B:ai}{w:di}{t:bj}{k:Y}(h:a<=k)(e:t[k]?=Z c)(hh:ap (hangs B w c)):B7 br=B7 k:=by unfold FV;rw[Yo h e,VF];show xR ((c::(nK k).q9).dropWhile (hangs B w)).q9=_;rw[List.dropWhile_cons_of_pos hh]
aLw{B:ai}{w:di}{t:bj}{k:Y}(h:a<=k)(e:t[k]?=Z c)(hh:hangs B w c=false):B7 br=xR nK br:=by unfold FV;rw[Yo h e,VF];show xR ((c::(nK k).q9).dropWhile (hangs B w)).q9=_;rw[List.dropWhile_cons_of_neg (by rw[hh];simp)];simp
afq{B:ai}(F:_B.dj B){k:Y}{c:ac}(hk:k<3)(h:N9 B k c=Z l):_B.BQ (k,#[c,l]):=by rw[c0 N9];cases hf:(JX).find? (λ s=>s.key==c)with|ak=>rw[hf]at h;rw[bo]|ca r=>rw[hf]at h;rw[tt h1 (F.seq k r hk (NG hf)) (NH hf)];((have h3:r.to=l:=by rw[jQ]);have h4:r.key=c:=by simpa using h2);rw[<-h3,<-h4];exact h1
azl{B:ai}(F:_B.dj B)(w:di)(col:Y)(c:bj):Bx c=if c=[9]/\T! then zA - col%zA else match T3 2 c with|Z l=>vk 0|ak=>if dw c.filter c_ (ownClass B nF x==6)=2 then 2 else c.foldl (λ m x=>n0 (scalarWidth B w x)) 0:=by unfold N6;cases h:T3 2 c with|ak=>dsimp only|ca l=>have hf:=afq F cD h;have h1:=hf.pos;have h2:=hf.LW;have h3:=hf.least;dsimp only at h1 h2 h3;(have h4:c≠[9]:=λ e=>by rw[e]at h3;rw[f8 h3 cD]);(have h5:bP=1:=by have:y9 2=1:=rfl;exact YD h1 h2 al);match l,h5 with|[x],_=>show x=if c=[9]/\T! then zA - col%zA else x;rw[aj uF (h4 q.1)]
N_(f:Mn):(mU l m (lU (λ m x=>n0 y4) m=n0 ((ym).zp max 0)))|[],m=>fA|uL,m=>by show lU _ n0 y4=_;rw[N_ f l,dJ];show _=n0 ((ym).zp max (qC (f x)));(have h:mU l m (lU max m=n0 (lU max 0)):=λ l=>by induction l with|bt=>intro m;simp|aQ y l ih=>intro m;rw[zb,zb,ih n0 y,ih (qC y)];exact XR);rw[h _ (qC (f x))];exact XR
aKO{f:Mn}{m:Y}(h1:m∈ym)(h2:∀y∈ym,y<=m):lU (λ m x=>n0 y4) 0=m:=by rw[N_];(have h:mU l k ((∀y∈l,y<=DD)/\k<=DD/\(DD∈l\/DD=k)):=λ l=>by induction l with|bt=>intro k;exact #[aM,gh,.inr ag]|aQ x l ih=>intro k;refine bX (ih (max k x)) ar a b c;rw[zb];refine #[pG y hy,by exact aom b,?_];(.rcases eC hy with rfl|hy;(.exact amf b);.exact a y hy);.rcases c with c|c;(.rw[k7 jD c]);.rw[c];by_cases hx:k<=x;(.rw[Nat.max_eq_right hx];rw[k7 aM]);.rw[Nat.max_eq_left bm Nat.le_of_not_ge hx];rw[nw ag]);refine bX (h ym 0) ar a b c;have:=a m h1;rcases c with c|c;(.have:=h2 _ c;omega);.exact aKb c al
nz.1(m:ac)(i:Y):aL:=ef i !=0
p9.1(m:ac)(i:Y):ud:=(bD,ef i==2)
af9(m:ac)(x:Y):q! (m++[x])=qb++CW (x !=0) [(cQ+1,x==2)]:=by unfold q!;rw[UM,oJ,df];congr 1;rw[Q4 VG N0 Fm];split<;>rfl
aph{p:kq ac}(h0:p [])(h1:∀l x,p l->p kn)(l:ac):p l:=by rw[<-l.reverse_reverse];induction l.reverse with|bt=>exact h0|aQ x r ih=>rw[Ny];exact eF h1 ih
aeJ:∀m:ac,q! m=(G4 (kG cQ) (nz m)).bz (p9 m):=by refine aph ag ar l x ih;rw[af9,ih,i6,List.length_singleton,u1,oJ,df];(have hg:∀i,i<bP->uG kn i 0=vL i:=λ i h=>by rw[kH,FH h,<-kH]);(have hl:uG kn bP 0=x:=by rw[kH,z! NU,Vj];rfl);congr 1;(.rw[VA (q:=nz kn) λ i hi=>by unfold nz;rw[R! hg hi]];rw[Ig i hi];unfold p9;rw[R! hg sK hi]);.rw[VG,N0];rw[e8 nz hl];split;(.simp[p9]);.simp
pY.1(m:ac)(a:Y):m6:=(G4 z9 Dy (nz m)).bz (p9 m)
atB(m:ac):q! m=pY m 0:=by rw[aeJ,pY,NZ];rfl
aCe(m:ac)(h:TQ):(q! m).oI EG CG=pY m a:=by rw[aeJ,pY,N3,List.filter_filter];(have e:kG cQ=Tp a++z9 Dy:=by rw[NZ,show(tq a Dy p3 (0+1*a) Dy)by simp,VH];congr 1;exact acG h);rw[e,oJ];(have e1:(Tp a).oI EH (((λ x:ud=>CG)∘p9 m) i&&nz m i)=[]:=by rw[List.filter_eq_nil_iff];intro i hi;rw[k5 hi];simp[p9];omega);rw[e1,zc];congr 1;rw[H8 i hi hi];(have:ap bn (a<db):=by rw[gj aA8 hi]);simp[p9,al]
}
structure lH(m:ac)(a q:Y):Prop where
 le:a<=q
 lt:q<cQ
 is:ef q=2
 no:∀i,a<=i->i<q->ef i≠2
def z:={
d6.1(m:ac)(a q:Y):ac:=(p3 cL ES).oI λ p=>ef km !=0
aCj{n:Y}(h1:a<=q)(h2:q<n):tq a me n (GR++q::p3 gc yO):=by rw[show tq gc yO p3 gc yO from rfl,<-FT];(have:q::p3 gc yO=p3 (a+1*v3) (n - q):=by rw[xy (n - q=yO+1) aG2 h2,FT,JO (1*v3) q aeT]);rw[FT,al,VH];congr 1;exact aw4 h1 h2
TM(h:lu):pY m a=hM Bb EH (bD,false)++(gc,au)::pY m gc:=by unfold pY;rw[aCj h.le h.lt,oJ,df];congr 1;(.rw[Ig i hi];have fg:=sK hi;rw[k5 fg];have:=h.no i fg.1 bm auW fg;simp only[p9,Prod.mk.injEq,true_and,N'];exact al);.rw[vn (by rw[tx nz h.is]),dJ];rw[tx p9 h.is]
Ce(h:lu):gT=hM Bb ((· + 1))++[gc]:=by unfold d6;(have e:tq cL ES hM z9 ES ((· + 1)):=by rw[show EG aG=c_ (1+x)by funext x;exact aDJ,VC,U?]);rw[e,N3];((have e2:tq a ES (GR++[q]):=by rw[show q+1 - a=v3+1 by have:=h.le;rw[ei NW],List.range'_concat,show a+1*v3=q by have:=h.le;rw[ei aeT]]);have e3:((EI (ef km !=0))∘c_ aG)=nz m:=by funext i;simp[nz]);rw[e2,e3,oJ,df,vn (by rw[tx nz h.is])];rfl
Hr{p:Y}(h:p∈gT):a<p/\p<=q+1:=by rw[c0 d6];have:=Su.1;rw[k5 al,ei awD]
ajf(m:ac)(a q:Y):SQ gT:=RD
P2(h:lu):gT≠[]:=by rw[Ce h];simp
aga{n:Y}(h:lu):(((Ea qb c_ CG).find? c_ b8).bz c_ bh).ox n=q+1/\((Ea qb c_ CG).bz c_ bh).oI (λ b=>bn (b<=q+1))=gT:=by rw[aCe m (by have:=h.le;have:=h.lt;omega),TM h];constructor;(.rw[Vc];(have:cw ((Bb).bz EH ((bD,false):ud)).find? EG b8:=by rw[List.find?_eq_none];intro x hx;(rw[dz (ah (FW hx) λ i _ aS=>?_) aS]);simp);rw[al];rfl);.rw[Ce h,df,oJ,NY];congr 1;(.rw[List.filter_eq_self.mpr];(.rfl);.intro x hx;(rw[Qj hx aU aU]);have fg:=sK hi;rw[k5 fg,gj ahM fg]);.rw[dJ,vn aM,List.filter_eq_nil_iff.mpr];intro x hx;(rw[dz (ah (FW hx) ar y hy a9) a9]);unfold pY at hy;(rw[Qj hy bu bu]);have fg:=sK hi;rw[k5 fg];simp[p9];exact apB fg
nj.1(B:ai)(w:di)(n:Y)(t:bj)(a:Y)(L:ac):g0:=(L.filter λ b=>bn (Ph b<=n)).getLast?
oj.1(B:ai)(w:di)(n:Y)(t:bj)(a:Y)(cs:ac):Y:=match ce nj a cs with|e6=>b|ak=>if w.split=false then LS else match ce nj a (kN pH a LS)with|Z p=>p|ak=>(kN pH a LS).oq 0
ach(h:l≠[])(x y:Y):vk x=vk y:=by cases l with|bt=>rw[lg h]|aQ z l=>rfl
Pu(h:l≠[])(x:Y):vk x∈l:=by cases l with|bt=>rw[lg h]|aQ z l=>simp
aqU{B:ai}{t:bj}(h:Dp):(EC).oI EI bn (0<p)=EC:=by rw[List.filter_eq_self];intro p hp;unfold sC at hp;rcases BL hp with hp|hp;(.have:=sK hp;rw[k5 al];simp;rw[ei Vf]);.rw[N5]at hp;simp;exact Fk h hp
Lu(I:ia)(h:a<b):wb I≠[]:=by rw[ld kN h];simp
Xa{B:ai}{w:di}{n:Y}{t:bj}(hm:T?)(h:lu):BA m a=wY:=by unfold lineEnd oj nj;rw[BW h2 (aga (n:=cP) h)];dsimp only;rw[h1,h2];have bf:=P2 h;have hh:=ach bf cP 0;have fu:=Hr (Pu bf 0);(have hb:(gT).oq 0<=cP:=by have:=h.lt;exact UZ fu al hm);split;(.rename_i b e;rw[e]);.rename_i e;rw[e,hh];dsimp only;split;(.rfl);. (have hi:((breaks B q_ nF nK (GE gT 0)).oI EI bn (0<p)).bz EI (a+p)=kN pH a (GE gT 0):=by rw[Yl (by rw[o3 hb];exact abM fu),VI aM,aqU (by rw[o3 hb];exact abM fu),yn fu.1 hb]);rw[hi];split;(.rename_i p e2;rw[e2]);.rename_i e2;rw[e2];dsimp only;exact ach (Lu _ fu.1) _ _
acR{B:ai}{w:di}{n:Y}{t:bj}{L:ac}(h:ce nj a L=Z b):b∈L:=(N4 (List.mem_of_getLast? h)).1
V9{B:ai}{w:di}{n:Y}{t:bj}(h:lu):a<wY/\wY<=q+1:=by have bf:=P2 h;have fu:=Hr (Pu bf 0);unfold oj;split;(.rename_i b e;exact Hr (acR e));.split;(.exact fu);.split;(.rename_i p e;rw[m4 (AN (acR e)) acP fu]);.rw[m4 (AN (Pu (Lu (t.map (inf B)) fu.1) 0)) acP fu]
acK(hl:m.getLast?=ca 2):lr k a (T8=k->Dz->∃q,lu):=by intro k;induction k with|cu=>intro a h1 h2;exact fI wQ ajb|cv k ih=>intro a h1 h2;by_cases e:gp=2;(.exact #[a,gh,h2,e,λ i h3 h4=>by exact aEs h4 h3]);.by_cases hz:a+1<cQ;(.obtain⟨q,hq⟩:=ih cL tU ZI hz;refine #[q,by have:=hq.le;rw[ei NS],hq.lt,hq.is,ar i h3 h4];by_cases hi:i=a;(.rw[dE hi e]);.exact hq.no i eN aps h3 hi h4);.exfalso;apply e;rw[List.getLast?_eq_getElem?]at hl;rw[kH,show a=cQ - 1 by exact ak6 h2 hz,hl];rfl
aj9{B:ai}{w:di}{n:Y}{t:bj}{cs:m6}(hg:∀a,LL->a<Px cs a):∀(f g a:Y),cP - a<=f->cP - a<=g->tp cs f a=tp cs g a:=by(have hz:lr f a (Dd->tp cs f a=[]):=λ f a h=>by cases f with|cu=>rfl|cv f=>exact lN h);intro f;induction f with|cu=>intro g a h1 h2;rw[eF hz tU F9,eF hz tU F9]|cv f ih=>intro g a h1 h2;by_cases ha:Dd;(.rw[eF hz ha,eF hz ha]);.cases g with|cu=>exact fI (akF h2 ha)|cv g=>have hb:=hg a bm Nat.lt_of_not_le ha;exact(ou ha).u5 yj (uV (List.cons _) (ih g _ eN adO h1 hb eN adO h2 hb)) (aj ha).symm
rM.1(B:ai)(w:di)(n:Y)(t:bj)(m:ac)(a:Y):z?:=tp qb cP a
aEo{B:ai}{w:di}{n:Y}{t:bj}(h:Dd):ce rM m a=[]:=by unfold rM;cases cP with|cu=>rfl|cv f=>exact lN h
avp{B:ai}{w:di}{n:Y}{t:bj}(hm:T?)(hl:m.getLast?=ca 2)(h:lu):ce rM m a=(a,wY)::ce rM m wY:=by(have hg:∀a,LL->a<BA m a:=λ a ha=>by obtain⟨q,hq⟩:=acK hl _ a ag eN AG ha hm;rw[Xa hm hq];exact(V9 hq).1);(have ha:LL:=by have:=h.le;have:=h.lt;omega);unfold rM;obtain⟨f,hf⟩:∃f,cP=f+1:=#[Dq,by exact aDT ha];rw[aj9 hg cP LF a gr auQ (by exact aze)];rw[xi (tp qb LF a=if Dd then[]else(a,BA m a)::tp qb cP BA m a)];rw[aj bm VN ha,Xa hm h]
}
section
variable(B:ai)(w:di)(n:Y)(t:bj)(e:Y)
def z:={
z0.1:w9:=(#[0,0,0],[])
lb.1(l:ac):w9:=(wV).oq z0
Oz.1(a x:Y)(z:w9):w9:=((Ag x (x==e)).plus z.1,(a,x)::z.2)
leB.1(x y:w9):aL:=(bh).le y.1
Yv(x:Y):ce lb e [x]=z0:=rfl
Rl:∀l:ac,bp wV=bP|[]=>rfl|[_]=>rfl|a::AX=>by show bp GF yQ+1=_;rw[Rl yQ];rfl
azd(a b:Y)(r:ac):ce leastBad e MH=ce lb e MH::GF yQ:=rfl
Tn:(mU l j (j<bP->wV[j]?=Z IR))|[],j,h=>gq|[x],0,_=>rfl|[x],j+1,h=>gq|a::AX,0,_=>rfl|a::AX,j+1,h=>by rw[Q? azd,Tn yQ j p0]
yc.1(a:Y)(l:ac):bA (Bad×z?):=(l.zip wV).bz gk nb Oz z.1 z.2
alB(a:Y)(l:ac):bp J4=bP:=by unfold yc;rw[qP,List.length_zip,Rl,Nat.min_self]
aj2(a:Y){j:Y}(h:l[j]?=Z x):J4[j]?=Z nb Oz x IR:=by unfold yc;obtain⟨hl,_⟩:=Q7;rw[QA e1 ((l.zip wV)[j]?=Z (x,IR)) #[h,ce Tn e l j hl]];rw[qQ,e1];rfl
aDw(a b:Y)(r:ac):ce lb e MH=(ot leB (ce yc e a yQ)).ox z0:=rfl
jt.1(a:Y)(l:ac):Y->cC (Bad×Y)|0=>ak|k+1=>IH (jt a l k) A6 pT (((Ag pu (pu==e)).plus (rP k).1).le b.1) A6 e6
aez(a:Y)(l:ac):∀k,k<=bP->ot leB ((J4).d3 k)=hM nb jt l k λ b=>(b.1,(a,vL b.2)::(rP b.2).2)|0,_=>rfl|k+1,h=>by have ih:=aez a l k Is;(have hk:l[k]?=Z pu:=by rw[sx ge v_]);rw[zy,ce aj2 e a hk];show ot leB (_++[_])=_;rw[Ch.Rp,ih];rw[xi (nb jt l br=IH nb jt l k A6 pT (((Ag pu (pu==e)).plus (rP k).1).le b.1) A6 e6)];cases hb:nb jt l k with|ak=>rfl|ca b=>rw[Iq];unfold leB Oz;dsimp only;split<;>rfl
awW(a:Y)(l:ac)(k:Y):∃b,nb jt l br=Z b/\b.2<k+1:=by induction k with|cu=>rw[pO SE]|cv k ih=>refine ah ih ar b hb a8;rw[jt,hb];dsimp only;split;(.rw[pO SE]);.rw[pO bm aKo a8]
asA{b:Bad×Y}(h:nb jt l bP=Z b):ce lb e (a::l)=(b.1,(a,vL b.2)::(rP b.2).2):=by cases l with|bt=>rw[bo]|aQ x r=>have h1:=ce aez e a f' x bp f' x gh;rw[h,List.take_of_length_le (by rw[alB];exact u! _)]at h1;rw[aDw,h1];rfl
U9:∀(l:m6)(acc:ac)(p:Y)(r:m6),D2 (b8=false)->zB (l++(p,au)::r) acc=(acc++zi (·.1)++[p])::zB r [p]|[],acc,p,r,_=>by show(acc++[p])::zB r [p]=_;simp|(y,au)::l,acc,p,r,h=>by have:=h (y,au) aM;cases al|(y,false)::l,acc,p,r,h=>by show zB (l++(p,au)::r) (acc++[y])=_;rw[U9 l _ p r (λ x hx=>h x jP hx)];simp
ki.1(m:ac)(a:Y):z?:=(zB (pY m a) [a]).flatMap λ l=>(ce lb (N8 0) l).2
aLx(m:ac):raggedBy B w n t qb=ki B w n t m 0:=by unfold raggedBy ki;rw[atB];rfl
aIE(h:TR):ce ki m a=[]:=by unfold ki pY;rw[QO (T8=0)];rfl
aJ3(h:lu):ce ki m a=(ce lb gc (a::gT)).2++ce ki m gc:=by unfold ki;rw[TM h,U9 _ _ _ _ (λ x hx=>by(rw[dz (ah (FW hx) λ i _ iH=>?_) iH]);rfl)];rw[eQ];((have e1:[a]++((Bb).bz EH ((bD,false):ud)).bz (·.1)++[gc]=a::gT:=by rw[Ce h,NY];rfl);have e2:(a::gT).VD 0=q+1:=by rw[Ce h,<-ND,List.getLast?_append];rfl);rw[e1,e2]
}
section z
section _W
namespace _B
open Mt
variable{a i:Y}{aB:g0}{m s n l z:ac}{hv:CJ}{ss:B!}{ms:B?}
def z:={
fz.1(i r:Y):tG:=Aa (r=0) Z #[r,i]
ku.1:xg->Y|[]=>0|uL=>pT bh (ku l) b8
GY(i:Y):∀l:xg,D2 MA->kE (zi c_ (ol bh b8 i))=fz i (ku l)|[],_=>rfl|uL,h=>by rw[dJ];unfold ol ku;split;(.exact GY i l λ y hy=>v5 h y hy);.show Z _=fz i b8;unfold fz;rw[aj La]
Io.1(p:ac)(t:Y):aL:=t !=0&&lp==fk (du - 4)
jB.1(p:ac)(t:Y):Y:=KU oo (4*t+4) (ku [(gf (lp<14) (t==0||kb fk (du - 4) lp),4),(eu tz&&(!Io p t||bn (fk (du - 2)<tz)),7),(eu CP&&kb tz CP,7),(gf (0<xr) kb xr (qK lp),8),(!(Io p t&&(im fk (du - 2)==tz&&fk (du - 1)==xr)),9)])
aAD{bH:wW}(h0:LH)(h:T2):mT mW=Z nT:=by rw[P4]
aKc{p:ac}{t:Y}(h:Lb):mW t Ex xU=fz t MM:=by unfold jB;by_cases hs:oo<4*t+4;(.rw[ao hs,aAD (by rw[sR,Ih]) (by rw[wj acA hs])];rfl);.rw[aj hs,r8 DH hs];rw[<-GY t _ aM];unfold mW;simp only[dJ,FX];cases t with|cu=>rfl|cv t=>((have e0:4*g5 - 4=4*t:=by exact aqd);have e2:4*g5 - 2=4*t+2:=by exact avA);(have e1:4*g5 - 1=4*t+3:=by exact aHN);unfold B_ Io Cq;rw[e0,e1,e2];dsimp only[u4,lM];by_cases hk:lp=fk yI;(.rw[ao hk];rw[HM ap (fk yI==lp) FZ]);.rw[aj hk];rw[HH ((fk yI==lp)=false) (λ e=>hk zC)]
jm.go{p:ac}{t:Y}(h:Ey)(hl:Lb):if MM=0 then jm p g5 else yb ak p=kY #[MM,t]:=by have e:=aKc hl;unfold fz at e;split;(.rename_i h0;rw[ao h0]at e;exact h.next hl e);.rename_i h0;rw[aj h0]at e;exact h.fault e
Kh.1(m:ac)(aB:g0):lf:=bef.map λ b=>(ef b,ef Nd)
lh.1(m:ac)(a:Y):B9|ak=>false|e6=>gp==ef b
pB.1(m:ac)(a:Y):B9|ak=>au|e6=>kb ef b gp
Aq.1(m:ac)(a:Y):B9|ak=>au|e6=>bn (ef Nd<tM)
si.1(m:ac)(a:Y):ac:=(vp yZ).d3 nr
jY.1(m:ac)(a:Y)(aB:g0):Y:=KU cQ (a+3) (ku [(gf (gp<15) (pB m a aB),4),(eu tM&&(!lh m a aB||Aq m a aB),10),(gf (0<nr) kb nr (Fd gp),11),(kb nr (cQ - yZ),6),(Fe gp MP,12),(!(gp !=10&&(gp !=11&&MP==[tM])),13)])
Lf(h:LI (a+3)):vp a=gp::tM::nr::vp yZ:=by(have g:∀i,i<cQ->ck m ef i:=λ i hi=>by rw[sx ge hi]);rw[xW (g a eA UA),xW Q1 cL,xW (g mo v_)]
aqb{bH:lf}(h0:LH)(h:bP<3):mT pP=Z nT:=by rw[HR a b c];((.rw[f8 h0 Hi]);.rfl);(.rfl);.rw[f8 h (Nq (UG 3 bP))]
Rb(h:Dz):pP i (Kh m aB) Ur=fz i xM:=by unfold jY;by_cases hs:cQ<a+3;(.rw[ao hs,aqb (by rw[sR,Ih]) (by rw[wj aLm hs])];rfl);.rw[aj hs,r8 Lf hs];rw[<-GY i _ aM];unfold pP;simp only[dJ,FX,io];cases aB with|ak=>rfl|ca b=>unfold Kh;rw[Ra];by_cases hk:ef b=gp;(.rw[ao hk];rw[HM ap (lh m a e6) FZ]);.rw[aj hk];rw[HH (lh m a e6=false) (λ e=>hk zC)]
}
structure jv(m:ac)(a i:Y)(aB:g0)(ms:B?):Prop where
 le:TQ
 num:ms.length=i
 hb:∀b,aB=e6->b+3<=a
 eq:∃f,cQ - a<=f/\Je gw m (jC ms (gw Ae i (Kh m aB) Ur))
def z:={
jv.zero(m:ac):jv m 0 0 ak []:=#[mG,rfl,λ b h=>by(cases h),cQ,by exact Dv,by rw[MY];rfl]
jv.fault(h:uf jv m ms)(hl:Dz)(hr:xM≠0):Je gw m kY #[xM,i]:=by rw[wn f hf e];have e2:=wu Rb aB aB hl;unfold fz at e2;rw[aj hr]at e2;rw[e,V6 e2];rfl
MU{l:xg}(h:ap (l.all λ e=>!Nat.beq e.2 0)):nE l MA:=λ x m e=>by have:=U6 h x m;rw[bO e al al]
Bt:∀{l:xg},D2 MA->ku l=0->nE l ap bh|[],_,_,x,hx=>by cases hx|y::l,h0,h,x,hx=>by rw[c0 ku];split at h;(.rename_i hy;rcases eC hx with rfl|hx;(.exact hy);.exact Bt BU h0 h x hx);.rw[f8 h (h0 y aM)]
Kx(h:xM=0):LI (a+3+nr)/\gp<15/\0<nr:=by rw[c0 jY];by_cases hl:cQ<a+3;(.rw[hY ao hl]);.rw[aj hl]at h;have h':=Bt (MU ag) h;rw[tt h1 (h' (_,6) jD Hy) (h' (_,4) r!)];have h3:=h' (_,11) Hy;rw[Q6 h1 h2 h3,#[Nat.add_le_of_le_sub' (gy hl) h1,h2.1,h3.1]]
jv.next(h:uf jv m ms)(hl:Dz)(hr:xM=0):jv m (yZ+nr) bD Z a (ms++[(gp,#[tM,MP])]):=by rw[QF hz Kx Rb,<-#[hz.1,fE h.num,λ b hb=>by cases hb;exact J1,E6,by exact aiq hf,?_]];rw[Lf bm KP hz]at e2;rw[e,Lf bm KP hz,Zp e2,O8];rw[show E6+1=f by exact Ye hf hl,i8];rfl
jv.done(h:uf jv m ms)(hl:TR):Je gw m (.ok ms):=by rw[wn f hf e];rw[e,Bo,aAP];simp[jC]
jK.1(s:ac)(a:Y):ac:=(i9 mo).d3 rT
L6.1(s:ac)(aB:g0):nu:=bef.map λ b=>(gI b,jK s b)
AR.1(s:ac)(a:Y):B9|ak=>au|e6=>ir (jK s b) MJ
dB.1(s:ac)(a:Y):Y:=a+2+rT
En.1(s:ac)(a:Y):ac:=(i9 Mm).d3 m?
wM.1(s:ac)(q k:Y):xg:=[(gf (0<gI q) kb gI q (y9 k),15),(bn (gI q<gD - q),6),(k==0||(uJ (i9 gc) gI q).all c_ bn (x<2^16),15)]
j6.1(s:ac)(a:Y)(aB:g0):Y:=KU gD (a+2) (ku ([(gf (qd<3) (pB s a aB),4),(gf (Nr qd<=rT) kb rT (Ff qd),14),(bn (rT<LT mo),6),((MJ).all eu&&(!lh s a aB||AR s a aB),14)]++wM s iI qd))
Pd(h:LI (a+2)):vp a=gp::tM::vp mo:=by(have g:∀i,i<cQ->ck m ef i:=λ i hi=>by rw[sx ge hi]);rw[xW (g a eA UB),xW (g cL v_)]
Rm(l:ac)(n:Y):Cn 0=vL n:=by rw[kH];by_cases h:n<bP;(.rw[FM h,No h];rfl);.rw[Rq u2,Rq iu];rfl
YE(h:LK):qT i (L6 s aB) Me=fz i xN:=by unfold j6;by_cases hs:gD<a+2;(.rw[ao hs];(have hl:dw i9 a=1:=by rw[sR,ank hs h]);match Me,hl with|[_],_=>rfl);.rw[aj hs,r8 Pd hs];rw[<-GY i _ jP wM];unfold qT wM;simp only[dJ,FX,ND,zc,io,i8,Rm];have e1:gI tw=m?:=rfl;have e2:LT tw=LT iI:=rfl;have e3:i9 (tw+1)=i9 Mm:=rfl;rw[e1,e2,e3];cases aB with|ak=>rfl|ca b=>unfold L6;rw[Ra];by_cases hk:gI b=qd;(.rw[ao hk];rw[HM ap (lh s a e6) FZ]);.rw[aj hk];rw[HH (lh s a e6=false) (λ e=>hk zC)]
}
structure jy(s:ac)(a i:Y)(aB:g0)(ss:B!):Prop where
 le:a<=gD
 num:ss.length=i
 hb:∀b,aB=e6->b+2+gI Nd<a
 eq:∃f,gD - a<=f/\Jf gx s (jC ss (gx Ae i (L6 s aB) Me))
def z:={
jy.zero(s:ac):jy s 0 0 ak []:=#[mG,rfl,λ b h=>by(cases h),gD,by exact Dv,by rw[MY];rfl]
jy.fault(h:uf jy s ss)(hl:LK)(hr:xN≠0):Jf gx s kY #[xN,i]:=by rw[wn f hf e];have e2:=wu YE aB aB hl;unfold fz at e2;rw[aj hr]at e2;rw[e,Zg e2];rfl
O9(h:xN=0):iI+1+m?<=gD/\qd<3/\iI<gD:=by rw[c0 j6];by_cases hl:gD<a+2;(.rw[hY ao hl]);.rw[aj hl]at h;rw[tt h' (Bt jP wM h) (h' (_,4) r!)];have h3:=h' (_,6) Hy;have h1:=h' (_,6) pL jD r!;rw[Q6 h1 h2 h3];unfold dB at h1⊢;exact #[by rw[Nat.add_right_comm];exact UH R? h1,h2.1,R? h3]
jy.next(h:uf jy s ss)(hl:LK)(hr:xN=0):jy s (iI+1+m?) bD Z a (ss++[(qd,#[MJ,En s a])]):=by rw[QF hz O9 YE];(have ht:a+2<=iI:=by unfold dB;exact RU);refine #[hz.1,fE h.num,λ b hb=>by cases hb;show iI<_;exact Cf,E6,by exact aE0 hf ht,?_];rw[CD Pd aaS ht]at e2;rw[e,CD Pd aaS ht,abH e2,O8];simp only[i8,Rm];have e1:gI tw=m?:=rfl;have e3:i9 (tw+1)=i9 Mm:=rfl;(have e4:i9 (tw+(1+m?))=i9 (iI+1+m?):=by congr 1;show iI+(1+m?)=_;exact aB6);rw[e1,e3,e4,show E6+1=f by exact Ye hf hl];rfl
jy.done(h:uf jy s ss)(hl:gD<=a):Jf gx s (.ok ss):=by rw[wn f hf e];rw[e,Bo,aEH];simp[jC]
n4.1(n:ac)(t:Y):ac:=(n.drop du).d3 4
mX.1:CJ:=[[90,122,122,122],[90,121,121,121],[90,105,110,104]]
d7.1(z:ac):Bytes:=z.map c_ (vq x)
oM.1(z:ac):aL:=NJ==4&&(gf (65<=z.headD 0) bn (z.headD 0<=90)&&(z.drop 1).all c_ (bn (97<=x)&&bn (x<=122)))
kr.1(z:ac)(t:Y)(hv:CJ):aL:=oM z&&(!Tf&&(bn (t<64)&&(bn (3<=t)||z==DB)))
oQ.1(z:ac):Prop:=nE z yE
OK:∀{a b:ac},oQ a->oQ b->d7 a=d7 b->a=b|[],[],_,_,_=>rfl|[],n?,_,_,h=>yg|n?,[],_,_,h=>yg|x::a,y::b,h1,h2,h=>by rw[c0 d7];rw[dJ,dJ,List.cons.injEq]at h;have hx:=h1 x aM;have hy:=h2 y aM;have e:=vX UInt8.toNat h.1;rw[N?,N?,Rv LG hx,Rv LG hy]at e;rw[e,OK BU h1 BU h2 h.2]
aKP(h1:kc hv (oQ y))(h2:oQ z):(hv.map d7).F1 (d7 z)=Tf:=by rw[zd,VQ,VQ,List.mem_map];constructor;(.rintro⟨y,hy,e⟩;rw[OK h2 yo zC];exact hy);.exact λ h=>aW z h ag
Fh{x:Y}(h:yE):(vq x).toNat=x:=by rw[N?,VP eA LG]
atq:firstNames=mX.map d7:=by decide+vi
agM:kc mX (oQ y):=by unfold oQ;decide
S7(h:ap (oM z)):NJ=4/\oQ z:=by rw[c0 oM];simp only[fa,lP,i5,u6]at h;refine #[h.1,D8];cases z with|bt=>cases hx|aQ y r=>rcases eC hx with rfl|hx;(.have:=h.2.1.2;rw[N1]at al;rw[ei av3]);.rw[li (h.2.2 x Cu).2 aIy]
afV{b c d t:Y}(hh:kc hv (oQ y)):Pz (r.all F2) (L!).F1 t=kr [a,b,c,d] t hv:=by by_cases hl:oQ [a,b,c,d];(. (have e1:ap GQ:=by rw[u6];exact λ x hx=>Cg sn hl);have ha:=hl a aM;have hb:=hl b aM;have hc:=hl c aM;have hd:=hl d aM;rw[e1,Fx,aKP hh hl];unfold kr oM;congr 1;(.show(Oa (vq a)&&[vq b,vq c,vq d].all F2)=_;unfold Oa F2;simp only[y?,Fy,Fh ha,Fh hb,Fh hc,Fh hd,N1,qX,FK,gA,u8];rfl);.congr 1;congr 1;rw[atq,qQ];by_cases h3:t<3;(. (have e2:mX[t]?=Z DB:=by rw[sx ge (show t<mX.length from h3)]);rw[e2,RF VN h3,VS];show(rG==d7 DB)=_;rw[zd,lP,lP];have hf:DB∈mX:=VT e2;exact #[λ h=>OK hl (agM _ hf) h,λ h=>by rw[h]]);.rw[iu (show mX.length<=t by show 3<=t;exact gy h3),r8 ze h3,Bool.true_or];rfl);. ((have e1:GQ=false:=by rw[VU];intro h;rw[u6]at h;exact hl λ x hx=>of_decide_eq_true sn h);have e2:iM oM [a,b,c,d]:=by rw[VU];exact λ h=>hl (S7 h).2);rw[e1,Of];unfold kr;rw[e2,Of]
}
structure rb(n:ac)(t:Y)(hv:CJ):Prop where
 le:4*t<=vt
 num:hv.length=t
 low:kc hv (oQ y)
 len:kc hv (oE=4)
 nd:hv.Nodup
 eq:Mb [] n=jC (VV d7) (l3 t L! MI du)
def z:={
rb.zero(n:ac):rb n 0 []:=#[mG,rfl,fA,fA,fA,fE MY]
an2{t:Y}:bp lx=min 4 (vt - 4*t):=by rw[t8 n4]
axT{hv:Dr}(h0:LH)(h:T2):l3 i hv l=CN i:=by rw[P4]
ab1(t:Y)(hv:Dr)(a b c d:Y)(l:ac):l3 t hv (a::b::c::d::l)=pT Ho (jC [rG] (l3 g5 J3 l)) CN t:=by(conv=>lhs;whnf);unfold ol;show(match Kn ap Ho Z (#[16,t]:qI)with|yy=>Uz e|ak=>match l3 g5 J3 l with|kY e=>kY e|.ok m=>.ok (rG::m))=_;generalize Ho=q;cases q with|au=>rw[ao ag,ao ag];dsimp only;cases l3 g5 J3 l<;>rfl|false=>rfl
rb.go{t:Y}(h:rb n t hv)(hl:4*t<vt):pT (kr lx t hv) (rb n g5 (lx::hv)) (Mb [] n=CN t):=by by_cases hs:vt<4*t+4;(. (have hf:kr lx t hv=false:=by unfold kr oM;(have:((lx).Fc==4)=false:=by rw[an2,N'];exact apK hs);rw[al];rfl);rw[aj (by rw[hf];simp),h.eq,axT (by rw[Qc hl]) (by rw[wj acA hs])];rfl);. (have hd:=r8 (DH (p:=n) (t:=t)) hs;have hn:n4 n t=[nG du,nG z_,nG AA,nG Aj]:=by rw[tx n4 hd]);have hc:=afV (a:=nG du) (b:=nG z_) (c:=nG AA) (d:=nG Aj) (t:=t) h.low;rw[<-hn]at hc;(have yS:l3 t L! MI du=pT (kr lx t hv) (jC [d7 lx] (l3 g5 ((lx::hv).bz d7) MI yI)) CN t:=by rw[hd,ab1,<-hc,hn];rfl);split;(. (rename_i aR;have Il:ap (oM lx):=by unfold kr at aR;simp only[fa]at aR;exact aR.1);obtain⟨Kz,qH⟩:=S7 Il;refine #[He hs,fE h.num,?_,?_,?_,?_];((.rw[P? y qH h.low]);.rw[P? y Kz h.len]);(.rw[List.nodup_cons];refine #[λ hm=>?_,h.nd];unfold kr at aR;simp only[fa,UY]at aR;have:=aR.2.1;rw[List.contains_iff_mem.mpr hm]at al;cases al);.rw[h.eq,yS,ao aR,O8,Ny,df];rfl);.rename_i aR;rw[h.eq,yS,aj aR];rfl
rb.done{t:Y}(h:rb n t hv)(hl:vt<=4*t):Mb [] n=.ok (VV d7)/\vt=4*t:=by refine #[?_,by have:=h.le;exact Nat.le_antisymm hl al];rw[h.eq,Bo];exact uV Except.ok (oy _)
wk.1(k v:Y):aL:=LO||(EJ&&v.testBit 12)
CQ.1(x:nv):Y:=if(ap (wk bh L2))then Ec+1 - L1 else 0
q?.1(ps:gQ):Y:=(ps.map CQ).sum
wg.1(l:bA kC)(k:Y):Y:=mJ (if k=0\/k=3\/k=9 then l else if k=13 then l.filter (λ(r:kC)=>w8)else[]) xt r (r.last+1 - oA)
alT(l:bA kC)(r:kC)(k:Y):wg vT r k=wg l k+CQ (k,r):=by unfold wg CQ wk;by_cases h:k=0\/k=3\/k=9;(.rw[um,um,df,lS];(have:ap (LO||(EJ&&w8)):=by rcases h with h|h|h<;>simp[h]);rw[ao al];simp);.rw[aj h,aj h];(have h1:LO=false:=by simp only[Bool.or_eq_false_iff,N'];exact ayp h);by_cases fY:k=13;(.rw[ao fY,ao fY,oJ,df,lS];(have h2:ap EJ:=by simp[fY]);rw[h1,h2,VS,Fx];by_cases hb:ap w8;(.rw[ao hb,vn (p:=xt r w8) hb];simp);.rw[aj hb,VI (p:=xt r w8) hb];simp);.rw[aj fY,aj fY];(have h2:EJ=false:=by simp[fY]);rw[h1,h2];simp
U'{α β:Type}(f:α->bA β)(g:β->Y):∀l:en,mJ TV g=(zi c_ mJ y4 g).sum|[]=>rfl|uL=>by rw[eQ,df,lS,U' f g l,dJ,iw]
akZ(ps:gQ)(ms:bA bA Row)(ss:bA bA Seq)(ns:Dr):walked #[u7 y7 ps,ms,ss,ns]=SY ps:=by rw[e8 walked U'];dsimp only;rw[Ca];rfl
aJt(f g:Mn)(j d:Y):∀n,j<n->(∀k,k<n->g k=f k+if k=j then d else 0)->mJ Tx g=mJ Tx f+d:=by intro n;induction n with|cu=>intro h;exact pJ oz h|cv n ih=>intro h hk;rw[u1,df,df,lS,lS];simp only[dJ,FX,iw,List.sum_nil,vj];by_cases hj:j=n;(.subst hj;rw[hk j (by exact zj),t?];(have:(kG j).bz g=JG j f:=by rw[Ig k cj,Jh cj];rw[hk k bm r9 cj,aj bm vu cj];simp);rw[dE al Qk]);.rw[ih eN oT h hj (λ k cj=>hk k bm r9 cj),hk n (by exact zj),aj bm We hj];exact ayl
alC:∀ps:gQ,v7 ps (bh<14)->SY ps=q? ps:=by refine Nx (λ _=>by decide) λ l x ih h=>?_;have h1:=ih λ y hy=>v5 h y hy;have hx:=La;unfold q?;rw[df,lS];show _=q? l+_;rw[<-h1];rw[aJt (λ k=>wg ke k) (λ k=>wg (lQ k kn) k) bh (CQ x) 14 hx];(.simp);.intro k hk;rw[Kk];by_cases e:gl;(.subst e;rw[t?,t?,alT]);.rw[aj e,aj uF (e q.symm),oy,vj]
aBU(l:gQ)(x:nv):q? kn=q? l+CQ x:=by unfold q?;rw[df,lS];simp
}
section _B
namespace _R
variable{a b:Y}{l x:cK}{α:Type}{c xs:CL}
def z:={
aKR(c:CL):VW c=c:=by(rcases c with _|⟨h,t⟩;.rfl);(rcases h with _|⟨p,h⟩;.rfl);rcases p with n|n;(.rcases n with _|_|_|_|_|_|_|n;((.rfl);.rcases h with _|⟨x,h⟩;(.rcases t with _|⟨a,_|⟨b,_|⟨c,_|⟨d,_|⟨e,t⟩⟩⟩⟩⟩<;>rfl);.rfl);(iterate 2 rw[QM y t b]);(iterate 2 rcases h with _|⟨x,_|⟨y,_|⟨z,h⟩⟩⟩;((.rfl);.rfl);(.rcases t with _|⟨a,_|⟨b,_|⟨c,t⟩⟩⟩<;>rfl);.rfl);(.rw[QM y t b]);.rfl);.rfl
aKy(l:cK):VX l=F3 ra bP l:=by unfold VX;split;(.rw[qc];rw[h]);.rename_i cs h;rw[h];congr 1;rw[show VW=id by funext c;exact aKR c,List.map_id]
}
structure iD(l:cK)(a:Y)(x:cK)(b:Y):Prop where
 lt:DA
 at_:l[a]?=Z (Og:ad)
 le:xC
 eq:b=a+1+Og
 is:x=(gv cL).d3 Og
def z:={
Sk{t:cK}(h:Oh kd=Z (x,t)):∃b,iD l a x b/\t=qh:=by by_cases ha:DA;(.rw[Bi]at h;change GB (0<=l[a]/\t!<=JT cL) ((qa).d3 t!,(gv cL).kJ t!) ak=Z (x,t)at h;split at h;(.rename_i hc;rw[io]at hc;rw[bo];(have hl:dw uJ qa t!=t!:=by rw[or,io];exact atL hc);refine aW (cL+t!) #[ha,?_,by exact aAy hc ha,by rw[hl],by rw[hl]] (by rw[i8]);rw[ge ha,hl,Int.toNat_of_nonneg hc.1]);.rw[bo]);.rw[hY HG ha]
adM(k:Y)(r:cK):vv br r=(Oh r).bind λ p=>hM BY λ q=>(p.1::q.1,q.2):=by(conv=>lhs;whnf);cases Oh r with|ak=>rfl|ca p=>show(match BY with|ak=>ak|Z (xs,t)=>Z (p.1::xs,t))=(BY).bz _;cases BY<;>rfl
M8{t:cK}(h:Ts kd=Z (xs,t)):∃x b,xs=[x]/\iD l a x b/\t=qh:=by rw[adM]at h;rw[HL p hx,bo,<-ah (Sk hx) ar b h1 h2,(aE _ b ag h1 h2)]
GA{k:Y}{t:cK}(h:vv br kd=Z (xs,t)):∃x ys b,xs=x::ys/\iD l a x b/\vv k qh=Z (ys,t):=by rw[adM]at h;rw[HL p hx];obtain⟨q,h2,h⟩:=VY h;obtain⟨x,s⟩:=p;(rw[dz (ah (Sk hx) ar b h1 aS) aS]);rw[bo,wQ (lO x q.1 b ag)]
}
inductive oY(l:cK)(a:Y):CL->Y->Prop
 |book{r0 r1 r2 r3:cK}{b0 b1 b2 b3:Y}:l[a]?=ca 1->iD l cL r0 b0->iD l b0 r1 b1->iD l b1 r2 b2->iD l b2 r3 b3->oY l a [[1],r0,r1,r2,r3] b3
 |rc{p w:ad}{r:cK}{b:Y}:l[a]?=Z p->p=2\/p=3\/p=6->l[cL]?=Z w->iD l mo r b->oY l a [[p,w],r] b
 |vw{p w n:ad}{r m:cK}{b c:Y}:l[a]?=Z p->p=4\/p=5->l[cL]?=Z w->l[mo]?=Z n->iD l yZ r b->iD l b m c->oY l a [[p,w,n],r,m] c
def z:={
take1{l:en}(h:1<=bP):∃x,l[0]?=Z x/\u3 1=[x]:=by cases l with|bt=>simp at h|aQ x l=>exact aW x ag ag
take2{l:en}(h:2<=bP):∃x y,l[0]?=Z x/\l[1]?=Z y/\u3 2=[x,y]:=by rw[Ib x y l];((.rw[f8 h (V0 _)]);.exact qO (Nat.le_of_succ_le_succ h) (V0 _));.exact(aE x y ag ag ag)
aFa{t:cK}(h:Oi ra kd=Z (c,t)):∃b,oY l a c b/\t=qh:=by by_cases ha:DA;(.rw[Bi]at h;have hp:l[a]?=Z l[a]:=No ha;generalize l[a]=p at h hp;have g:∀i,qa[i]?=l[cL+i]?:=λ i=>oG;rw[c0 Oi,c0 ra,xu];((have rc:(p=2\/p=3\/p=6)->Kn (JT cL<1) Rt (Ts v1 qa) ak (p::(gv cL).d3 1)=Z (c,t)->∃b,oY l a c b/\t=qh:=λ hq h=>by split at h;(.rw[bo]);.rename_i fO;refine ah (take1 (l:=qa) Rr) ar w B' DT;rw[i8]at h;split at h;(.rw[bo]);.rename_i xs t' hr;rw[bo];(rw[dz (aO (M8 hr) λ x b aU h1 h2=>?_) aU]);refine aW b ?_ h2;rw[DT];rw[g]at B';exact .rc hp hq B' h1);have vw:(p=4\/p=5)->Kn (JT cL<2) Rt (vv 2 (vU qa 2)) ak (p::(gv cL).d3 2)=Z (c,t)->∃b,oY l a c b/\t=qh:=λ hq h=>by split at h;(.rw[bo]);.rename_i fO;refine aO (take2 (l:=qa) Rr) λ w n B' DT hw3=>?_;rw[i8]at h;split at h;(.rw[bo]);.rename_i xs t' hr;rw[bo];(rw[dz (gN (GA hr) λ x ys b a9 h1 h2=>?_) a9]);(rw[dz (aO (M8 h2) λ y e bu h3 h4=>?_) bu]);refine aW e ?_ h4;rw[hw3];rw[g]at B' DT;exact .vw hp hq B' DT h1 h3);by_cases h1:p=1;(.rw[ao h1]at h;rw[xu];rw[aj gr aMg,FK]at h;split at h;(.rw[bo]);.rename_i xs t' hr;rw[bo];(rw[dz (gN (GA hr) λ x0 y0 b0 bU q0 r0=>?_) bU]);(rw[dz (gN (GA r0) λ x1 y1 b1 cH q1 r1=>?_) cH]);(rw[dz (gN (GA r1) λ x2 y2 b2 dA q2 r2=>?_) dA]);(rw[dz (aO (M8 r2) λ x3 b3 ee q3 r3=>?_) ee]);subst h1;exact aW b3 (.book hp q0 q1 q2 q3) r3);.rw[aj h1]at h;by_cases h2:p=2;(.rw[ao h2]at h;exact rc (.inl h2) h);.rw[aj h2]at h;by_cases h3:p=3;(.rw[ao h3]at h;exact rc (.inr eT h3) h);.rw[aj h3]at h;by_cases h4:p=4;(.rw[ao h4]at h;exact vw (.inl h4) h);.rw[aj h4]at h;by_cases h5:p=5;(.rw[ao h5]at h;exact vw (.inr h5) h);.rw[aj h5]at h;by_cases h6:p=6;(.rw[ao h6]at h;exact rc (.inr i0 h6) h);.rw[hY aj h6]);.rw[hY HG ha]
aqE(f:Y)(p:ad)(r:cK):F3 ra Ae f' p=(Sr p).bind λ c=>hM Bc ((c.1 :: ·)):=by(conv=>lhs;whnf);generalize Sr p=x;cases x with|ak=>rfl|ca c=>show(match Bc with|ak=>ak|Z cs=>Z (c.1::cs))=(Bc).bz _;cases Bc<;>rfl
X9{f:Y}{cs:bA CL}(h:Pr kd=Z cs):(bP<=a/\cs=[])\/∃c b g ds,cs=c::ds/\oY l a c b/\F3 ra g qh=Z ds:=by by_cases ha:DA;(.right;rw[Bi]at h;cases f with|cu=>rw[bo]|cv f=>rw[aqE]at h;rw[HL p hc];obtain⟨ds,hd,h⟩:=VY h;obtain⟨c,t⟩:=p;rw[<-Bi]at hc;(rw[dz (ah (aFa hc) ar b h1 fJ) fJ]);rw[bo,(qA c b f ds ag h1 hd)]);.left;rw[HG ha]at h;(have h:Z []=Z cs:=by cases f<;>exact h);rw[bo,#[He ha,rfl]]
iD.ab(h:iD l a x b):a<b:=by rw[h.eq];exact Gs zr a (Nat.le_add_right _ _)
oY.lt(h:oY l a c b):a<b/\xC:=by cases h with|book h0 h1 h2 h3 h4=>exact #[JJ zr a CC h1.ab CC h2.ab CC h3.ab h4.ab,h4.le]|rc h0 hp h1 h2=>exact #[JJ NP (Fq 1) h2.ab,h2.le]|vw h0 hp h1 h2 h3 h4=>exact #[JJ NP (Fq 2) CC h3.ab h4.ab,h4.le]
}
section _R
namespace _E
open PySem PySem.Spec V1
def z:={
re.1:cK->cK->aL|[],_=>au|n?,[]=>false|x::xs,y::ys=>Sm xs x y
MD(x y:ad)(xs ys:cK):re MV (y::ys)=Sm xs x y:=rfl
aca(A:c6)(s:ay)(a:ad)(t:Tok)(c:ad)(u:Tok):SeqAt.EqAt A s MC Mi (a==c):=SeqAt.EqAt.int_int a t c u
V5(A:c6)(s:ay)(a:ad)(t:Tok)(c:ad)(u:Tok)(dk:dL)(w:dM)(E:bW)(Q:bW)(h:eZ rf bn (a<=c) s):g4 mI (richCompare .LtE MC Mi) Q:=(PyProof.Rows.le_int h:g4 mI (vx .LtE MC Mi) Q)
}
section
open PySem.SeqAt
open PySem.AutoSeq1(V2)
open PySem.MeetsSeq PySem.MeetsSeq2 PySem.MeetsSeq3
def z:={
aq9(l b:aI)(xa xb:Do)(n n2:Y)(dd kZ:C?)(sl lD:Du)(ns ms:cK)(ha:Js)(hb:JH ms):P3 Builtin.«tuple.__le__» {cls:=Ty,oN:=dd,fW:=v? xa n,kO:=sl} {cls:=Ty,oN:=kZ,fW:=Eg,kO:=lD}:=.of_wp λ dk w A R s h=>by rw[A9 tk h h];have q2:=AutoSeq1.sub_tuple_tuple;((have z1:i?=Oj:=by rw[<-ha.length];simp);have z2:LE oO:=by rw[<-hb.length];simp);wp_walk using Gr h1,pM,wpAny_forIn_list _ (λ todo b s'=>dP b.1/\s'=wt g d tk/\∃(vs ws:cq)(as bs:cK),todo=vs.zip ws/\zD vs as/\zD ws bs/\as.length+oO=bs.length+i?/\R (.ok (.ret (.rf (re as bs)))) wt g d tk) _;(case turn=>rintro⟨y,x⟩todo b s'⟨e0,rfl,vs,ws,as,bs,e1,e2,e3,e4,e5⟩;cases e2 with|bt=>rw[bO List.zip_nil_left e1 e1]|aQ a t ow=>cases e3 with|bt=>rw[bO List.zip_nil_right e1 e1]|aQ c u Mg=>rw[FN]at e1;injection e1 with f1 f2;injection f1 with f3 f4;subst f3 f4;rw[MD]at e5;rw[Ri e4,JL eF (aca A.in1 wt g d tk a t c u dk w) ?_];by_cases jI:a=c;(.rw[ao jI]at e5;rw[So];wp_walk;exact #[rfl,rfl,_,_,_,_,f2,ow,Mg,by exact av0 e4,e5]);.rw[aj jI]at e5;rw[QG c u w];wp_walk using Ob;rw[pO dv e5]);(case fin=>rintro⟨b1,b2⟩s'⟨e0,rfl,vs,ws,as,bs,e1,e2,e3,e4,e5⟩;simp only at e0;subst e0;(have hv:re as bs=SH:=by cases e2 with|bt=>simp only[u8]at e4;show au=_;exact(ze bm aqh e4).symm|aQ a t hv=>cases e3 with|bt=>simp only[u8,gA]at e4;show false=_;exact(RF akt e4).symm|aQ c u hw=>rw[bO FN e1 e1]);rw[hv]at e5;wp_walk;rw[pO (by simpa[Builtin.Tuple.tupleCompareSizes]using e5)]);case h=>exact #[rfl,rfl,xa.toList,xb.toList,ns,ms,rfl,ha,hb,by exact aJr z2 z1,h]
acd{vs:cq}{ns:cK}(h:zD vs ns):∀{i:Y}{v:a!},ck vs v->∃n t,ck ns n/\v=pz n t:=by induction h with|bt=>intro i v e;simp at e|aQ a t r ih=>intro i v e;cases i with|cu=>cases e;exact(cE a t ag ag)|cv i=>refine dc (wu ih v v dv e) λ n t' h1 h2=>?_;exact(cE n t' A0 h2)
aoO(l b:aI)(xa xb:Do)(n n2:Y)(dd kZ:C?)(sl lD:Du)(ns ms:cK)(ha:Js)(hb:JH ms)(k:Y):∀i:Y,i? - i=k->i<=i?->i<=oO->P0 [ed l,.cS b,zG i,zG 1] {cls:=tP,oN:=dd,fW:=v? xa n,kO:=sl} {cls:=tP,oN:=kZ,fW:=Eg,kO:=lD}:=by((have z1:i?=Oj:=by rw[<-ha.length];simp);have z2:LE oO:=by rw[<-hb.length];simp);(have ri:∀i:Y,i<=i?->i<=oO->(i=i?\/L?)->P0 [ed l,.cS b,zG i,zG 1] {cls:=tP,oN:=dd,fW:=v? xa n,kO:=sl} {cls:=tP,oN:=kZ,fW:=Eg,kO:=lD}:=by intro i uY yX Zq dk w A R s h;rw[A9 tk h h,sB pM];(have e:PQ=SH:=by by_cases hz:i=i?;(.rw[CD u2 X7 z1];exact(CD ze AB yX).symm);. (have fV:L?:=by exact ao8 Zq hz);rw[u2 (as:=ms) (by exact X7 fV z2),FM (l:=ns) (by exact aLb uY z1 hz)];exact(VR (by exact aBo fV uY hz)).symm);rw[e]at h;(have bf:dP (xa[xA]?)\/(∃v,xa[xA]?=Z v)/\dP (xb[xA]?):=by by_cases hz:i=i?;(.left;rw[gj aax hz]);.right;exact #[#[xa[i],fA],by simp;exact aKu Zq hz]);rcases bf with e1|⟨⟨v,e1⟩,e2⟩;(.rw[e1];rw[sB pM,h]);.rw[e1,e2];rw[sB pM,h]);induction k with|cu=>intro i hk uY yX;exact ri i uY yX eT eN ayc hk uY|cv k ih=>intro i hk uY yX;by_cases hz:L?;(.exact ri i uY yX i0 hz);intro dk w A R s h;rw[A9 tk h h,sB pM];((have l1:i<i?:=by exact Nat.lt_of_sub_eq_succ hk);have l2:i<oO:=by exact y_ yX hz);((have g1:xa[xA]?=Z xa[i]:=by simp[l1]);have g2:xb[xA]?=Z xb[i]:=by simp[l2]);refine dc (acd ha (i:=i) (v:=xa[i]) jP l1) λ a t na va=>?_;refine dc (acd hb (i:=i) (v:=xb[i]) jP l2) λ c u nc vc=>?_;(have hc:(jN i+1)=p! bD:=by push_cast;rfl);rw[wv la ea na,wv lc ec nc];rw[Ah la,Ah lc,ea,ec,MD]at h;rw[g1,g2,va,vc];rw[JL eF (aca A.in1 wt g d tk a t c u dk w) ?_];by_cases jI:a=c;(.rw[ao jI]at h;rw[So];wp_walk;rw[hc];refine #[Hh V3,V4 V7 ?_];rw[QH];exact ih bD bm ZI hk Iy l1 Iy l2 dk w A R _ #[h1,h2,h]);.rw[aj jI]at h;rw[QG c u w,sB pM];rw[g1,g2,va,vc];wp_walk using Ob;exact h
apo(l b:aI)(xa xb:Do)(n n2:Y)(dd kZ:C?)(sl lD:Du)(ns ms:cK)(ha:Js)(hb:JH ms):P3 Builtin.«list.__le__» {cls:=tP,oN:=dd,fW:=v? xa n,kO:=sl} {cls:=tP,oN:=kZ,fW:=Eg,kO:=lD}:=by intro dk w A R s h;rw[A9 tk h h];have q3:=AutoSeq1.sub_list_list;rw[sB pM,<-#[Hh V3,V4 V7 ?_]];rw[QH];exact aoO l b xa xb n n2 dd kZ sl lD ns ms ha hb _ 0 ag mG mG dk w A R _ #[h1,h2,h]
}
section z
section _E
namespace _L
open PySem PySem.Spec V1
variable{us:cq}{Q:bW}{op lR:CmpOp}{i t' n j:Y}{g:TG}{eS:dN}{M:Model}{mg:g7}{rk:xZ}{N:e_}{kw:AZ}{vs:cl}{ch fp:nC}{g':Array GenState}{oR:vy}{α κ:Type}{lo:ad}{y:V}{l:bC}{d9:uj}{d':Drawn}{it:aI}{rl:aN}{r':R2}
def z:={
akX(i:ad)(t:Tok):ap (rH (.inl i) AS):=by simp[rH,Value.isInt]
aBO(x:aN)(t:Tok):ap (rH (.inr x) (.str x t)):=by simp[rH,Value.isStrOf]
aGL(dk:dL)(w:dM)(i:ad)(t:Tok):ap ((gb dk w).is (.inl i) AS):=akX i t
afU(dk:dL)(w:dM)(x:aN)(t:Tok):ap ((gb dk w).is (.inr x) (.str x t)):=aBO x t
bN.length{xs:cl}{us:cq}(r:sh):fe=gu:=V8 r
bN.get:∀{xs:cl}{us:cq}{i:Y}{x:V},sh->sq->∃u,ck us u/\nI|_,_,_,_,dW,e=>by simp at e|_,_,0,_,eP r _,e=>by simp at e;subst e;rw[pO r]|_,_,db,x,eP _ t,e=>by refine ah (wu bN.get x x t dv e) ar u h1 h2;exact aW u A0 h2
bN.set{x:V}{u:a!}(r:nI):(IP us i (bN (xs.set i x) (us.set i u)))|_,_,_,dW=>dW|_,_,0,eP _ t=>eP r t|_,_,db,eP q t=>eP q (bN.set r i t)
bN.append{xs ys:cl}{ws:cq}(h:sh)(s:bN ys ws):bN (xs++ys) (us++ws):=by induction h with|bt=>exact s|aQ r t ih=>exact eP r ih
bN.take:(IP us n (bN (xs.take n) (NV n)))|_,_,0,_=>dW|_,_,_+1,dW=>dW|_,_,n+1,eP r t=>eP r (bN.take n t)
bN.drop:(IP us n (bN (xs.drop n) (NX n)))|_,_,0,r=>r|_,_,_+1,dW=>dW|_,_,n+1,eP _ t=>bN.drop n t
upd.1(H:Hp)(a:aI)(o:HO):Hp:=λ b=>if b=a then Z o else H b
aY{H:Hp}{a:aI}{o:HO}:upd H a o a=Z o:=by rw[ld upd ag]
aV{H:Hp}{a b:aI}{o:HO}(h:b≠a):upd H a o b=H b:=by unfold upd;rw[aj h]
wI{H:Hp}{a b:aI}{o u:HO}(h:H a=Z o)(h':mm H)(d:o≠u):a≠b:=by intro e;subst e;rw[h]at h';exact d (y8 h')
c8{H:Hp}{a b:aI}{o:HO}(h:H a=Z o)(h':kh):a≠b:=by intro e;subst e;rw[bO h h' h']
}
section
variable{P:dL}{w:dM}{H H':Hp}{h h':dN}{a:aI}{o:HO}
def z:={
fC.lt(x:fC P w H h a o):S?:=by cases o with|lst xs=>rw[<-zl x λ _ _ _ _ e=>?_,hO e]|tup xs=>refine iS x λ _ _ _ p=>?_;exact p.lt|dK aq=>rw[<-Hv x λ _ _ _ _ o _ _ e _=>?_,hO e]|dT aq=>rw[<-Hv x λ _ _ _ _ o _ _ e _=>?_,hO e]|set S n=>rw[<-Ft x λ o _ _ _ e _=>?_,hO e]|ins C dx fs=>rw[<-gE x λ _ _ _ e _=>?_,hO e]|own y=>obtain⟨_,e⟩:=x;rw[hO e]|xd fs=>rw[<-ah x λ _ aS _=>mh aS λ _ _ _ e _=>?_,hO e]|gU lo hi=>obtain⟨_,_,_,e⟩:=x;rw[hO e]|iU ob u=>obtain⟨e,_⟩:=x;rw[hO e]|wz ps=>rw[hO (show Cw _ from x)]|met f y=>rw[hO (show Cw _ from x)]|ext φ=>rw[<-bX x λ _ aU _=>cG aU λ _ e=>?_,hO e]
Paired.FE{β:Type}{F G:ci α β}{l₁:en}{l₂:bA β}(h:Paired F l₁ l₂)(f:∀a b,F a b->G a b):Paired G l₁ l₂:=by induction h with|bt=>exact dW|aQ r t ih=>exact eP eF f r ih
fC.u_(x:fC P w H h a o)(k:HN (b=a\/cF H Ez))(ho:∀b,cF H Ez->cF H' Ez)(ht:iN xs cF H nQ cF H' nQ):fC P w H' h' a o:=by induction o with|lst xs=>refine zl x λ z aF n r e=>?_;exact(o_ z aF n r iR)|tup xs=>obtain⟨z,aF,r,ob,e,c⟩:=x;exact #[z,aF,r,ob,iR,c]|dK aq=>refine Hv x λ z y vs r ob es ep e c=>?_;exact #[z,y,vs,r,ob,es,ep,iR,c]|dT aq=>refine Hv x λ z y xs r ob es ep e c=>?_;exact #[z,y,xs,Paired.FE r λ p q z=>#[z.1,eF ht z.2.1,z.2.2],ob,es,ep,iR,c]|set S n=>refine Ft x λ ob es ep t e c=>?_;exact #[ob,es,ep,t,iR,c]|ins C dx fs=>obtain⟨d,z,ne,e,mA,⟨od,es,ep,e2,c⟩,r⟩:=x;exact #[ho _ d,z,ne,iR,mA,(tX od es ep (k _ _ i0 d e2) c),r]|own y=>obtain⟨ob,e⟩:=x;exact #[ob,iR]|xd fs=>refine ah x λ mA bu r=>mh bu Eb od e c;exact aW mA (tX od es ep iR c) r|gU lo hi=>obtain⟨t,u,v,e⟩:=x;exact #[t,u,v,iR]|iU ob u ih=>obtain⟨e,q⟩:=x;exact #[iR,ih q]|wz ps=>have e:Cw {cls:=kS,fW:=.zI ps}:=x;show rm a=Z {cls:=kS,fW:=.zI ps};exact k a _ pr e|met f y=>have e:Cw RB ed y:=x;show rm a=Z RB ed y;exact k a _ pr e|ext φ=>refine bX x λ p bU st=>cG bU cr o e;exact #[st _ _ p λ o q=>k _ _ pr q,#[o,iR],st]
dR.lt(x:t9)(e:H a=Z o):S?:=(x a o e).lt
dR.fresh(x:t9)(e:Ky):cw H a:=by cases q:H a with|ak=>rfl|ca u=>rw[wJ Gs x.lt q e]
dR.kept(x:t9)(k:A8):dR P w H h':=λ a o e=>(x a o e).u_ (λ b u _ q=>k b u q) MQ λ _ _ q=>q
dR.laid(x:t9)(k:A8)(hp:Ky)(new:fC P w x? h' a o):dR P w x? h':=eH u e (by have hn:=x.fresh hp;by_cases hb:b=a;(.subst hb;rw[bO aY e e,new]);.rw[aV hb]at e;exact(x b u e).u_ (λ c v _ q=>k c v q) (λ c q=>by rw[aV yL];exact q) λ c xs q=>by rw[aV yL];exact q)
}
section z
def z:={
Co.1:(kq cC HO)|Z (.lst _)=>oW|Z (.dK _)=>oW|Z (.dT _)=>oW|Z (.set _ _)=>oW|Z eF .ins _=>oW|Z (.ext _)=>oW|_=>kB
}
section
variable{P:dL}{w:dM}{H:Hp}{h h':dN}{x e:aI}{o':HO}
def z:={
dR.write(ok:t9)(mu:Co (H x))(he:e=x\/H e=Z uD)(k:HN (b≠e))(yh:∃u,CF e u)(new:fC P w (upd H x o') h' x o'):dR P w (upd H x o') h':=eH u q (by((have YW:∀c y,H c=Z z6 y->c≠x:=λ c y r z=>by subst z;rw[r]at mu;exact mu);have aLB:∀c xs,H c=Z nQ->c≠x:=λ c xs r z=>by subst z;rw[r]at mu;exact mu);by_cases hb:b=x;(.subst hb;rw[bO aY q q,new]);.rw[aV hb]at q;by_cases eG:b=e;(. (have q':cF H uD:=by rcases he with z|z;(.exact qO (eG.trans z) hb);.rw[dE eG z]);rw[bO q q' q'];obtain⟨v,hv⟩:=yh;exact #[v,by rw[dE eG hv]]);. (refine(ok b u q).u_ (λ c v hc r=>k c v ?_ r) (λ c r=>by rw[aV (YW c b r)];exact r) λ c xs r=>by rw[aV (aLB c xs r)];exact r);rcases hc with rfl|hc;(.exact eG);.rintro rfl;rcases he with z|z;(.exact YW c b hc z);.rw[bO hc z z,hb ag])
}
section z
section
variable{fs gC ex ex':nC}{H H1 H2:Hp}{h h1 h2 h':dN}{a x e:aI}{o:HO}
def z:={
Un.any(u:xQ fs H1 h1){b:aI}{ob:Obj}(q:cF kP ob)(n:kh)(hx:b∉ex):∃sl,cF h1.get? {ob with kO:=sl}:=by by_cases hb:b∈fs;(.exact u.slot b ob q n hb hx);.exact #[ob.slots,u.keep b ob q n hb hx]
F4(k:A8):xQ fs H h':=#[λ b ob q _ _ _=>k b ob q,λ b ob q _ _ _=>#[ob.slots,k b ob q],λ _ _ _ n _=>n,λ b ob q _=>#[ob,k b ob q],λ _ _ q=>q,λ _ _ _ q=>q,λ _ ps q=>#[th,by rw[q];simp]]
Un.refl:xQ fs H h:=F4 λ _ _ q=>q
}
def Un.laid(k:A8)(hp:Ky)(hn:cw H a):xQ fs x? h' where l4:=λ b u q _ _ _=>k b u q;slot:=λ b u q _ _ _=>#[u.slots,k b u q];ja:=(λ b u q n _=>by rw[aV (vu rN q hp)];exact n);there:=λ b u q _=>#[u,k b u q];pk:=eH xs q (by rw[aV yL];exact q);nU:=(λ b u xs q=>by rw[aV yL];exact q);oS:=eH ps q #[th,by rw[aV yL,q];simp]
def z:={
Un.write(mu:Co (H x))(he:e=x\/H e=Z uD)(k:HN (b≠e))(yh:∃u,CF e u):xQ fs L8 h':=by have hx:∀b,kh->b≠x:=eH n z (by subst z;rw[n]at mu;exact mu);have hb:∀b,kh->b≠e:=eH n z (by subst z;rcases he with r|r;(.exact hx b n r);.rw[bO n r r]);(have hm:∀b u,mm H->¬Co EA->b≠x:=λ b u q nm z=>by subst z;rw[q]at mu;exact nm mu);refine #[λ b u q n _ _=>k b u (hb b n) q,λ b u q n _ _=>#[u.slots,k b u (hb b n) q],λ b u q n _=>by rw[aV (hx b n)];exact n,λ b u q _=>?_,eH xs q (by rw[aV LQ];exact q),λ b u xs q=>by rw[aV LQ];exact q,eH ps q #[th,by rw[aV LQ,q];simp]];by_cases eG:b=e;(.subst eG;exact yh);.exact #[u,k b u eG q]
}
section z
structure Cx where
 dk:dL
 w:dM
 K:cb
 mg:g7
 eS:dN
 A:c6
 N:e_
 ip:ay
 Av:Hp
 env:Env
 d9:uj
 stack:uj
 ex:nC
 fn:aN->aL
 calm:aL
 pn:a?
 xe:bW
def z:={
Cx.fs.2(X:Cx):nC:=oK vz
ny.1(sc:vy)(x:aN):Prop:=Id\/Bj\/Po ja
Loc.1(sc:vy)(x:aN):Prop:=Id\/Bj
Look.1(env:Env)(h:dN)(m:g7)(x:aN)(u:a!):Prop:=(On x=Z .local/\m x=Z u)\/((On x=Z EQ\/Hl On)/\∃c,env.cells.lookup x=Z c/\h.IsCell c EA)
}
structure Cx.Ok(X:Cx):Prop where
 mod:Mod bQ oZ jb
 kind:Wa=Ua
 glob:Wb=mainGlobals
 blt:X.env.builtins=builtinsNs
 above:v4 fX
 inj:∀x y c,jE->Wg y=Z c->bG
 has:∀x,(Op x=Z EQ\/Hl Op)->∃c,jE
 A3:∀x c,px X.fn->jE->v4 c
 hd:wp->X.A.handled=ak
 frames:X.A.frames=Z kQ
 Gx:kQ=vz\/(kQ=dl::vz/\X.env.frame=Z fX)
 Iu:j2 rn (m8/\∀x c,jE->c≠b)
 bs:iN o wT (IQ/\cw X.Av b)
 pq:X.base.objs.size<=Wd
 BD:iN o wT (b∉rn)
 xO:j2 rn Ee
 mj:Wh jb vz
 r_:j2 jc cw X.Av b
structure Inv(X:Cx)(ae:a?)(σ:bA cC V)(H:Hp)(s:ay):Prop where
 ok:X.Ok
 os:s.os=X.ip.os
 bare:D? s.gens
 eS:Un jc rn X.Av H X.ip.heap dm
 loc:∃m,R1/\∀(i:Y)(x:aN)(v:V),pX->ck σ mP->Ab ny->∃u,ie/\Look dl dm m x u
 cell:∀x c,jE->∃v,ST
 ja:cw H fX
 ly:∀x c,jE->cw H c
 pin:ub p RI p.2 v p.2.fW
 aR:dR o0 X.w H dm
 len:Oq=X.N.length
section
variable{X:Cx}{ae:a?}{σ:bA cC V}{H H':Hp}{s:ay}{h':dN}
def z:={
Cx.Ok.aKp(ok:X.Ok){b:aI}{o:Obj}(e:wT):Ee:=λ hb=>by have:=(ok.mj.mem hb).1;rw[bO e al al]
Inv.bs(I:av):iN o wT (mZ/\kh):=eH o e #[Wi b o SS Tg.2 (I.ok.aKp e) Ta,F5 b o SS Tg.2 Ta]
Inv.bk(I:av):iN o wT mZ:=eH o e A4 I.bs
Inv.mod(I:av):Mod bQ oZ jb:=I.ok.mod
Inv.jH(I:av):X.K.In dm:=I.ok.mod.zV.keeps I.bk
Inv.fr(I:av):∃m,Fr jb fX dm m:=let#[m,hn,_]:=ff;#[m,hn,I.bk,Q2]
Inv.lt(I:av):fX<d!:=let#[_,hn,_]:=ff;hn.lt
Inv.sz(I:av):v4 d!:=oF vA (Fl I.lt)
Inv.aGh(I:av){a:aI}(h:Sz):a∉jc:=λ hb=>by rw[<-iS (Wj hb) λ _ o ho _=>?_,wJ rN ho (oF I.sz h)]
Inv.vh(I:av):∀x c,jE->c≠fX:=λ x c e z=>by refine dc C0 λ v o ho hd=>?_;refine ah ff ks m cH (gN cH λ o' es ep i' jM _=>?_);rw[z,i']at ho;cases ho;rw[bO jM hd hd]
Inv.mj(I:av):R3 vz:=by(have all:∀(l:uj),(∀b∈oK l,b∈jc)->Wh jb l->Wk jb l:=by intro l;induction l with|bt=>intro _ _;trivial|aQ env r ih=>intro hs hl;refine bX hl λ hk dA hr=>fR dA λ L o hf hn ho hd=>?_;have hL:L∈jc:=hs L (by rw[H? oK hf,FI]);rw[tf sl (Wl L o ho (I.ok.r_ L hL) hL gk (I.ok.xO L z hL)),#[hk,(ji L _ hf hn e hd),ih (λ b hb=>hs b (by rw[H? oK hf,wK hb])) hr]]);exact all vz (λ _ hb=>hb) I.ok.mj
Inv.stack(I:av):R3 kQ:=by rcases I.ok.Gx with e|⟨e,hf⟩;(.rw[dE e I.mj]);.rw[e];refine ah ff ks m hn ?_;refine eP (by rw[jd];decide) hf hn ?_ I.mj;exact Heap.get?_none_of_le Q2
Inv.IJ(I:av):∀b∈DM,b∈fX::jc:=λ b hb=>by rcases I.ok.Gx with e|⟨e,hf⟩;(.rw[e]at hb;rw[wK hb]);.rw[e]at hb;unfold oK at hb;rw[y!,hf]at hb;exact hb
Inv.ZT(I:av):∀b∈DM,kh:=λ b hb=>by rcases eC jW I.IJ with e|hb;(.rw[dE e je]);.refine iS (Wj hb) λ _ o ho _=>?_;exact F5 b o ho jW I.ok.r_ gk (I.ok.xO b z hb)
Inv.step(I:av)(o1:j2 ch (Bu/\m8/\A!/\ub p sF b))(l4:∀b o,m8->Ee->yv->mZ->kh->JW)(slot:∀b o,m8->b∈jc->yv->mZ->kh->∃sl,cF rm {o with kO:=sl})(ja:∀b o,yv->mZ->kh->AO)(there:∀b o,yv->mZ->∃o',cF rm o')(pk:iN xs cF H nQ cF H' nQ)(nU:∀b o u,cF H (.iU o u)->cF H' (.iU o u))(oS:iN ps cF H (.wz ps) (∃more,cF H' (.wz (ps++more))))(ns:∀m,R1->h'.Ns fX m)(aR:k0 dR H' h')(hg:D? g'):f6 H' {s with l5:=h',gens:=g',drawn:=d',o4:=t'}:=by have neL:iN o IQ m8:=eH o e (vu rN e vA);((have F':∀b o,IQ->b∉rn->yv:=λ b o e hx hb=>by rcases(jW o1).1 with z|z;(.exact hx z);.rw[wJ rN e z]);have cellK:∀x c,jE->∀v,ST->h'.IsCell c v:=λ x c e v bx=>ah bx λ o ho hd=>by have BH:c∉ch:=gk ((o1 c z).2.2.1 x c e ag);by_cases hc:c∈jc;(.obtain⟨sl,q⟩:=slot c o (I.vh x c e) hc BH ho LM;exact py q hd);.exact aW o (l4 c o (I.vh x c e) hc BH ho LM) hd);(refine #[I.ok,ro,hg,#[λ b o e n hb hx=>?_,λ b o e n hb hx=>?_,λ b o e n hx=>?_,λ b o e hx=>?_,eH xs e (pk b xs (I.base.pk b xs e)),λ b o xs e=>nU b o xs (I.base.nU b o xs e),ar b ps e],?_,ar x c e,?_,ar x c e,cr p hp,aR,o6];(.exact l4 b o Uf hb Dg ID Jo);.rw[k? sl IC];obtain⟨sl',e2⟩:=slot b _ Uf hb Dg e1 Jo;exact #[sl',e2]);(((.rw[k? o' Bv,ja b o' Dg e1 Jo]);.rw[k? o' Bv,there b o' Dg e1]);(.rw[k? m1 (I.base.oS b ps e)];obtain⟨m2,e2⟩:=oS b _ e1;exact #[m1++m2,by rw[e2,Array.append_assoc]]);.rw[sW ff m hn,<-aW m (ns m hn) Mh i x v,<-ah (hl i x v e1 e2 e3) ar u r l,<-aW u r ?_];rcases l with l|⟨k,c,e,z⟩;(.rw[k7 l]);.rw[nw (eM k c e (cellK x c e _ z))]);((.obtain⟨v,z⟩:=C0;exact #[v,cellK x c e v z]);.refine ah ff ks m ee (mh ee λ o _ _ ho _=>?_);exact ja _ o k8 ((o1 _ z).2.1 ag) ho je);(.refine dc C0 λ v o ho hd=>?_;exact ja c o k8 ((o1 c z).2.2.1 x c e ag) ho LM);.refine gE DG λ e n ne nf d=>?_;have BH:p.1∉ch:=gk ((o1 p.1 z).2.2.2 p hp ag);exact(j3 (l4 p.1 p.2 ne nf BH e n) (ja p.1 p.2 BH e n) ne nf d)
Inv.un(I:av)(u:Un jc [] H H' dm h')(aR:k0 dR H' h'):f6 H' wR:=by refine ah (id ff) ks m fJ (mh fJ Eb o ho r);obtain⟨sl,hL⟩:=u.any ho je aM;exact I.step (g':=s.gens) (d':=s.drawn) (ch:=[]) n1 z (nomatch z) (λ b o _ hb _ e n=>kX u.keep n hb aM) (λ b o _ hb _ e n=>kX u.slot n hb aM) (λ b o _ e n=>u.free b o e n aM) (λ b o _ e=>kX u.there aM) u.pk u.nU u.oS (λ m' hm=>by rw[<-mh hm λ o' PY Pc i' r'=>?_,bO ho i' i',(tX _ PY Pc hL r')]) aR l6
Inv.call(I:av)(u:Un DM ch H H' dm h')(aR:k0 dR H' h')(hg:D? g')(o1:j2 ch (Bu/\m8/\A!/\ub p sF b)):f6 H' {s with l5:=h',gens:=g',drawn:=d',o4:=t'}:=by refine ah (id ff) ks m iH (mh iH Eb o ho r);obtain⟨sl,hL⟩:=u.any ho je gk ((o1 _ z).2.1 ag);exact I.step (ch:=ch) o1 (λ b o hL hb hc e n=>kX u.keep n k8 (pJ Nt (I.IJ b z) hL hb) hc) (λ b o _ _ hc e n=>u.any e n hc) (λ b o hc e n=>u.free b o e n hc) (λ b o hc e=>kX u.there hc) u.pk u.nU u.oS (λ m' hm=>by rw[<-mh hm λ o' PY Pc i' r'=>?_,bO ho i' i',(tX _ PY Pc hL r')]) aR hg
Inv.turned(I:av)(k:∀b o,b≠it->mZ->JW)(hn:cw H it)(hL:it≠fX)(h1:it∈rn\/v4 it)(h2:∀x c,jE->c≠it)(h3:ub p sF it):iA wR:=by(have Ul:iN u mm H (b≠it):=λ b u e z=>by rw[z,hn]at e;cases e);(refine I.step (g':=s.gens) (d':=s.drawn) (ch:=[it]) Ef (λ b o _ _ hc e _=>KZ k hc z) (λ b o _ _ hc e _=>#[o.slots,KZ k hc z]) (λ _ _ _ _ n=>n) (λ b o hc e=>#[o,KZ k hc z]) (λ _ _ e=>e) (λ _ _ _ e=>e) (λ b ps e=>#[th,by rw[e];simp]) pG m hm hX b u e l6;(.rw[wd b it,(fQ h1 hL h2 h3)]);.refine mh hm Eb o ho r;exact(tX o es ep (k _ o (F6 hL) ho) r));.refine(fZ b u e).u_ (λ c v hc q=>k c v ?_ q) MQ λ _ _ q=>q;rcases hc with z|z;(.rw[z];exact Ul b u e);.exact Ul c _ z
Inv.tok(I:av)(t:Y):iA {s with o4:=t}:=I.un (h':=dm) (t':=t) Un.refl fZ
Inv.kept{t':Y}(I:av)(k:Qd):iA wR:=I.un (F4 k) (I.aR.kept k)
Inv.laid{a:aI}{o:HO}{t':Y}(I:av)(k:Qd)(hp:Sz)(new:k0 fC x? h' a o):f6 x? wR:=I.un (Un.laid k hp (Os hp)) (I.aR.laid k hp new)
Inv.write{x e:aI}{o:HO}{t':Y}(I:av)(mu:Co (H x))(he:e=x\/H e=Z uD)(k:∀b u,b≠e->mm rg->z7)(yh:∃u,CF e u)(new:k0 fC L8 h' x o):f6 L8 wR:=I.un (Un.write mu he k yh) (I.aR.write mu he k yh new)
Inv.weak{bI:bA cC V}(I:av)(hl:σ'.length=Oq)(w:∀(i:Y)v,ck bI mP->ck σ mP):l? bI H s:=#[I.ok,ro,l6,F7,let#[m,hn,d4]:=ff;(aW m hn λ i x v e1 e2 e3=>d4 i x v e1 (w i v e2) e3),o2,je,o5,zJ,fZ,hl.trans o6]
Inv.Xb{Sq:a?}(I:av)(h:∀p∈Sq,RI p.2 v p.2.fW):Inv X Sq σ H s:=#[I.ok,ro,l6,F7,ff,o2,je,o5,λ p hp=>RG hp k8 GW IO z (h p),fZ,o6]
OH(hN:N.Nodup){x:aN}(a:ck N x)(b:N[j]?=Z x):i=j:=by rw[k? h1 (y6 a),wv h2 e2 b,(List.getElem_inj hN).mp (e1.trans e2.symm)]
VJ{A:c6}{E:bW}{x:aN}{v:V}{u:a!}{Q:w5}(I:av)(hN:zK)(hi:pX)(hx:w_)(r:ie)(h:∀s',l? Kl H s'->(∃a,Ot a dm F8/\(a=fX\/Pf a))->Q () s')(hf:wB):g4 M (Ou dl x u) Q:=by refine ah (id ff) ar m hn hl;((have aub:(SD .class||(SD .module&&fX !=Wb))=false:=by rw[jd];rfl);have hiσ:i<Oq:=by rw[o6];exact(y6 hi).1);have vh:=I.vh;(have Ox:∀{a:aI}{h':dN},(∃o,rg a=Z o/\cw H a)->Ot a dm h'->dR o0 X.w H h':=λ{a h'}ha hs b ob e=>by refine ah ha λ _ _ zW=>?_;refine(fZ b ob e).u_ (λ c w' hc q=>nP (hs.2 c ?_) q) MQ λ _ _ q=>q;rintro rfl;rcases hc with rfl|hc;(.rw[bO zW e e]);.rw[bO zW hc hc]);rcases hx with hk|hk;(.refine wpAny_storeName_local hk hn hX h' u0 hs aub;refine mh (id hn) λ oL _ _ hoL _=>?_;(refine h _ #[I.ok,ro,l6,R_,py u0 Mh j y v',ar y c e,je,o5,cr p hp,Ox aW oL hoL je hs,by simpa using o6] py hs pr;(.exact(sv vA).u5 ID);.rw[k? sl IC,#[sl,nP sv vA e1]]);((.rw[k? o' Bv,#[o',nP sv vA e1]]);.by_cases hj:j=i;(.subst hj;rw[bO hi e1 e1];rw[R6 hiσ]at e2;cases e2;exact aW u r eT #[hk,fA]);.rw[Qm (hl j y v' e1) u' q];rcases q with⟨k,e⟩|⟨k,c,e,z⟩;(.refine .inl #[k,?_];have:y≠x:=λ e=>hj (OH hN e1 (e▸hi));simp[al,e]);.rw[nw (eM k c e (z.sameBut hs (vh y c e)))]);(.obtain⟨w',z⟩:=o2 y c e;exact #[w',z.sameBut hs (vh y c e)]);.refine gE DG λ e n ne nf d=>?_;exact(j3 yj (hs.2 p.1 ne) e n ne nf d));. (have NC:px X.fn:=by rcases hf with z|z;(.exact z);.rw[bO z hk hk]);obtain⟨c,hc⟩:=I.ok.has x eT hk;obtain⟨w',z⟩:=o2 x c hc;refine wpAny_storeName_cell jd hk hc z hX h' sN hs;refine ah (id z) ar oc Y_ ajW;(refine h tF #[I.ok,ro,l6,R_,aW m (hn.sameBut hs (F6 (vh x c hc))) Mh j y v',ar y c' e,je,o5,cr p hp,Ox aW oc Y_ (o5 x c hc) hs,by simpa using o6] aW c hs i0 hc;(.exact(sv KN).u5 ID);.rw[k? sl IC,#[sl,nP sv KN e1]]);((.rw[k? o' Bv,#[o',nP sv KN e1]]);.by_cases hj:j=i;(.subst hj;rw[bO hi e1 e1];rw[R6 hiσ]at e2;cases e2;exact aW u r i0 (eM eT hk c hc sN));.rw[Qm (hl j y v' e1) u' q];rcases q with q|⟨k,c',e,z'⟩;(.rw[k7 q]);.refine .inr (eM k c' e (z'.sameBut hs ?_));rintro rfl;exact hj (OH hN e1 (I.ok.inj _ _ _ e hc▸hi)));(.by_cases qF:c'=c;(.subst qF;exact #[_,sN]);.obtain⟨w2,z2⟩:=o2 y c' e;exact #[w2,z2.sameBut hs qF]);.refine gE DG λ e n ne nf d=>?_;refine(j3 yj (hs.2 p.1 ?_) e n ne nf d);intro q;rw[q,Y_]at e;have q':oc=p.2:=y8 e;exact d w' (by rw[<-q'];exact ajW)
JQ{A:c6}{E:bW}{x:aN}{v:V}{u:a!}{Q:w5}(I:av)(hN:zK)(hi:pX)(hx:w_)(r:ie)(h:∀s',l? Kl H s'->Q () s')(hf:wB):g4 M (Ou dl x u) Q:=VJ I hN hi hx r (λ s' I' _=>h s' I') hf
Inv.ary{s':ay}(I:av)(ho:s'.os=s.os)(u:Un DM ch H H' dm F8)(aR:k0 dR H' F8)(hg:D? s'.gens)(o1:j2 ch (Bu/\m8/\A!/\ub p sF b)):wX:=by obtain⟨h',g',d',t',o'⟩:=s';have e:o'=s.os:=ho;subst e;exact I.call (g':=g') (t':=t') (d':=d') u aR hg o1
}
section z
def z:={
St.2:=bA cC V
TE.2:=St->v6
TT.2:=St->Hp->kq (aL->lv)
TA.2:=St->Hp->kq (cl->lv)
}
structure l7 where
 nx:k1
 rt:VK
 bk:k1:=λ _ _=>kB
 ct:k1:=λ _ _=>kB
def z:={
TS.2:=l7->k1
EP.1(X:Cx)(ae:a?)(σ:St)(Q:VK)(u:a!)(s':ay):Prop:=∃v H',wX/\ie/\Q v H'
TP.1(X:Cx)(ae:a?)(σ:St)(Q:Cv)(b:aL)(s':ay):Prop:=∃H',wX/\Q b H'
AP.1(X:Cx)(ae:a?)(σ:St)(Q:cl->lv)(us:cq)(s':ay):Prop:=∃vs H',wX/\yd/\Q vs H'
SP.1(X:Cx)(ae:a?)(D:l7)(f:Flow)(s':ay):Prop:=match f with|.im=>sI H' v9 rp|.brk=>sI H' v9 D.bk|.l8=>sI H' v9 D.ct|.ret u=>∃v bI H',l? bI H' s'/\ie/\D.rt v H'
PE.1(X:Cx)(e:bC)(t:TE):Prop:=∀(ae:a?)(s:ay)(σ:St)(H:Hp)(Q:VK),av->gH t Q->mQ mx
PT.1(X:Cx)(e:bC)(t:TT):Prop:=∀(ae:a?)(s:ay)(σ:St)(H:Hp)(Q:Cv),av->gH t Q->f? (F! e dl mx) rE TP
PW.1(X:Cx)(e:bC)(t:TT):Prop:=∀(rq:Af)(ae:a?)(s:ay)(σ:St)(H:Hp)(Q:Cv),av->gH t Q->f? (F! e dl rq) rE TP
PA.1(X:Cx)(es:ls)(t:TA):Prop:=∀(aX:cT)(ae:a?)(s:ay)(σ:St)(H:Hp)(Q:cl->lv),av->gH t Q->f? (spliced GD) rE AP
PS.1(X:Cx)(st:Stmt)(t:TS):Prop:=∀(ae:a?)(s:ay)(σ:St)(H:Hp)(D:l7),av->t D σ H->f? ma exec st (SP X ae D)
il.1(X:Cx)(st:xZ)(t:TS):Prop:=∀(ae:a?)(s:ay)(σ:St)(H:Hp)(D:l7),av->t D σ H->f? ma execs st (SP X ae D)
be{t:Sem α}{Q Q':zS α}{A:c6}{E:bW}{s:ay}(h:g4 M t Q)(hQ:∀a s,Q a s->Q' a s):g4 M t Q':=Oy h hQ λ _ _ x=>x
}
section
variable{X:Cx}
def z:={
sG.1(i:Y):TE:=λ σ H Q=>∃v,ck σ mP/\Q v H
tC.1(v:V):TE:=λ _ H Q=>Q v H
Df{x:aN}{aX:cT}(hN:pX)(hv:Ab ny)(hd:jT)(gW:Pg (x==("__classdict__":aN))):bd xD (sG i):=by rw[ft];obtain⟨v,e,h⟩:=h;rw[sW ff m hn,<-ah (hl i x v hN e hv) ar u r l];have fin:Cy u s:=x' v I r;rcases l with⟨hk,hm⟩|⟨hk,c,hc,FU⟩;(.rw[Jz (Wn jd hk hn hm fin)]);.rcases hk with hk|hk;(.rw[Jz (Wo jd hk hc FU fin)]);.rw[Jz (wpAny_loadName_free jd hk hc FU fin gW)]
kf{i j aX}:bd iF Constant uB j (tC uB):=λ _ _ _ H _ I h=>wpAny_Constant_int x' uB my k3
C_{b j aX}:bd iF Constant (.rf b) j (tC so b):=λ _ _ _ H _ I h=>Constant_bool x' so b I ag
Gl.1(X:Cx)(x:aN):Prop:=Op x=Z .globalImplicit
C1{E:bW}{ae:a?}{s:ay}{σ:St}{H:Hp}{x:aN}{u:a!}{aX:cT}(I:av)(hg:lC)(hm:tH u)(h:Q u s)(hd:jT):pi ez xD Q E:=Wp jd hg (Calls.loadGlobal_global (by rw[I.ok.glob];exact Wq I.bk) hm h) hd
yJ{E:bW}{ae:a?}{s:ay}{σ:St}{H:Hp}{x:aN}{u:a!}{aX:cT}(I:av)(hg:lC)(hm:Lm)(hv:Ji u)(h:Q u s)(hn:II x)(hd:jT):pi ez xD Q E:=by refine ah I.mod.blt ar mb h1 h2;exact Wp jd hg (Calls.loadGlobal_builtin (by rw[I.ok.glob];exact Wq I.bk) hm (by rw[I.ok.blt];exact h1.keeps I.bk) yj (h2 x hn) hv h) hd
QW{x:aN}{v:V}{u:a!}{aX:cT}(hg:lC)(hm:tH u)(r:ie)(hd:jT):bd xD (tC v):=λ _ _ _ H _ I h=>sy C1 x' v I r hd
}
variable{a b:bC}{ta tb:TE}{aX:cT}
def z:={
PC.1(X:Cx)(op:CmpOp)(a b:bC)(t:TE):Prop:=∀(ae:a?)(s:ay)(σ:St)(H:Hp)(Q:VK),av->gH t Q->P6 u (vx op v u) Cy
QR(b:bC)(h:op≠.In)(h2:op≠.NotIn):IM:=by((have e1:ui op CmpOp.In:=by cases op<;>first|rfl|rw[lg h]);have e2:ui op CmpOp.NotIn:=by cases op<;>first|rfl|rw[lg h2]);cases b<;>simp[Wr,e1,e2]
gz(h:oW:=by first|exact QR _ cD cD|rfl):oW:=h
tB.1(t:TE):TT:=ju t x (∃c,x=.bl c/\Q c H1)
agx{t:TE}(h:PC X op a b t)(h1:QB):bd BM t:=λ ae s σ H Q I hw=>Ws (fi h Q I hw) h1
YC{t:TE}(h:PC X op a b t)(h1:QB):PT X BM (tB t):=by rw[jk H Q hw,<-Wt (be (fi h _ I hw) λ v s1 h1=>be h1 λ u s2 h2=>be h2 λ c s3 lT=>aO lT pC) h1];(rw[dz (ah q1 ar d jG q) jG]);cases r1;rw[wF H1 I1 q]
Ru{e:bC}{t:TE}(h:bd e t)(he:Ja (∀rq,F! e dl rq=SR v e.pos v)):PT X e (tB t):=by rw[jk H Q hw,<-Wu (be (fi h _ I hw) λ v s1 oB=>aO oB pC) (he _)];(rw[dz (ah q1 ar d l9 q) l9]);cases r1;rw[wF H1 I1 q]
}
variable{tA DZ:TT}{i7:ls}
def z:={
arh.1(t u:TT):TT:=ju t c pU c fG u Q (Q fT H1)
tOr.1(t u:TT):TT:=ju t c pU c (Q au H1) fG u Q
asw.1(t:TT):TT:=ju t c (Q (!c) H1)
aHL(ha:PT X a tA):sY And [a] tA:=by intro wh ae s σ H Q I h;refine isTrue_and (be (fi ha Q I h) ar c s1 e);cases c with|au=>exact isTrue_and_nil e|false=>exact e
aFr(ha:PT X a tA):sY Or [a] tA:=by intro wh ae s σ H Q I h;refine isTrue_or (be (fi ha Q I h) ar c s1 e);cases c with|false=>exact isTrue_or_nil e|au=>exact e
ajh(ha:PT X a tA)(hb:sY And Er DZ):sY And Eu (arh tA DZ):=by intro wh ae s σ H Q I h;refine isTrue_and (fo ha λ c s1 xh=>ah xh ar H1 I1 q1);cases c with|au=>exact hb wh ae s1 σ H1 Q I1 q1|false=>exact aW H1 I1 q1
aGO(ha:PT X a tA)(hb:sY Or Er DZ):sY Or Eu (tOr tA DZ):=by intro wh ae s σ H Q I h;refine isTrue_or (fo ha λ c s1 BP=>ah BP ar H1 I1 q1);cases c with|au=>exact aW H1 I1 q1|false=>exact hb wh ae s1 σ H1 Q I1 q1
UI(ha:PT X a tA):PT X SZ (asw tA):=by rw[ft,isTrue_not (fi ha (λ c H1=>Q (!c) H1) I h)]
ata.1(ta tb:TE):TE:=k! x (∃c,x=.bl c/\pU c fG tb Q eZ bl fT H1)
alc.1(ta tb:TE):TE:=k! x (∃c,x=.bl c/\pU c eZ bl au H1 fG tb Q)
ain.1(ta:TE):TE:=k! x (∃c,x=.bl c/\eZ bl (!c) H1)
ao3{op}{t:TE}(h:bd a t):bd rR op [a] t:=λ ae s σ H Q I hw=>BoolOp_one (fi h Q I hw)
atJ(ha:ic)(hb:bd rR .And Er tb):bd rR .And Eu (ata ta tb):=by rw[Hz BoolOp_and CA CA,Bm];cases c with|au=>exact r? Q I1 q1|false=>exact KB fT H1 q1
ah8(ha:ic)(hb:bd rR .Or Er tb):bd rR .Or Eu (alc ta tb):=by rw[Hz BoolOp_or aiK aiK,Bm];cases c with|false=>exact r? Q I1 q1|au=>exact KB au H1 q1
aMo(ha:ic):bd SZ (ain ta):=by rw[Hz UnaryOp_ ayX ayX,not_of (OA KB (!c) H1 q1)]
tIf.1(t:TT)(ta tb:TE):TE:=ju t c pU c fG ta Q fG tb Q
aFw{c:bC}(hc:PT X c tA)(ha:ic)(hb:qe):bd (.IfExp c a b aX) (tIf tA ta tb):=by rw[ft,<-wpAny_IfExp (fo hc λ d s1 aCz=>ah aCz ar H1 I1 q1)];cases d with|au=>exact mn ha Q I1 q1|false=>exact r? Q I1 q1
}
section z
def z:={
aoX.1:a!->cC V|kS=>Z .cB|.rf b=>Z (.bl b)|pz i _=>Z uB|.str x _=>Z (.str x)|.bytes b _=>Z (.iY b)|.float b _=>Z (.qG b)|.cS a=>Z v0|.type n=>Z (.ty n)|_=>ak
RelV.abs{x:V}{u:a!}(r:nI):aoX u=Z x:=by cases x with|cB=>cases r;rfl|bl _=>cases r;rfl|cR _=>rw[jp r];rfl|str _=>rw[jp r];rfl|iY _=>rw[jp r];rfl|qG _=>rw[jp r];rfl|cS _=>cases r;rfl|ty _=>cases r;rfl
RelV.inj{x y:V}{u:a!}(r:nI)(q:rD y):bG:=y8 (r.abs.symm.trans q.abs)
bN.inj{xs:cl}{us:cq}(h:sh):∀{ys:cl},bN ys us->xs=ys:=by induction h with|bt=>intro ys h;rw[bo];rfl|aQ r t ih=>intro ys h;cases h with|aQ r' t'=>rw[r.inj r',ih t']
}
section
variable{X:Cx}{ae:a?}{σ:St}{H:Hp}{s:ay}{a:aI}{xs ys:cl}
def z:={
aJ.of{K:cb}(h:H a=Z nQ):tQ:=.inl eT h
Inv.list(I:av)(h:Dc aC):∃aF:cq,bN xs aF/\PlainL dm a OD/\Hg:=by rcases h with h|⟨o,aF,n,hk,hc,hd,hs,hz,r⟩;(.refine zl (h.ok fZ) λ z aF n r e=>?_;exact(aZ aF r (ji _ n e ag ag ag) z));.refine(aZ aF.toList r (ji o n (l_ a o hk) hc hd dv hs) ?_);have e:=lJ;rw[QY e,y' e hz]
Inv.tuple(I:av)(h:Dc aJ):∃aF:cq,bN xs aF/\IsTup dm a OD/\Hg:=by rcases h with h|⟨o,aF,n,hk,hc,hs,hz,r⟩;(.refine iS (h.ok fZ) λ z aF r p=>?_;exact(aZ aF r p z));.refine(aZ aF.toList r (FP o (l_ a o hk) hc n dv hs) ?_);have e:=lJ;rw[QY e,y' e hz]
Inv.axl(I:av)(h:Dc aC)(h':aC bQ H a ys):xs=ys:=by rw[iK zM h λ aF r kg _=>fR kg λ o n e _ _ d=>?_];rw[iK zM h' λ its' r' jF _=>fR jF λ o' n' e' _ _ d'=>?_];rw[bO e e' e'];rw[d]at d';rw[QZ _ (aF=its') r']
Inv.aHc(I:av)(h:Dc aJ)(h':aJ bQ H a ys):xs=ys:=by rw[iK vC h λ aF r kD _=>yk kD λ o e _ n d=>?_];rw[iK vC h' λ its' r' ka _=>yk ka λ o' e' _ n' d'=>?_];rw[bO e e' e'];rw[d]at d';rw[QZ _ (aF=its') r']
}
section z
def z:={
Cx.pK.2(X:Cx)(E:bW):Cx:={X with xe:=E}
Cx.jh.2(X:Cx):Cx:=X.pK λ _ _=>kB
Cx.Ok.pK{X:Cx}(ok:X.Ok)(E:bW):(X.pK E).Ok:=#[ok.mod,ok.kind,ok.glob,ok.blt,ok.above,ok.inj,ok.has,ok.A3,ok.hd,ok.frames,ok.Gx,ok.Iu,ok.bs,ok.pq,ok.BD,ok.xO,ok.mj,ok.r_]
Cx.Ok.uw{X:Cx}{E:bW}(ok:(X.pK E).Ok):X.Ok:=#[ok.mod,ok.kind,ok.glob,ok.blt,ok.above,ok.inj,ok.has,ok.A3,ok.hd,ok.frames,ok.Gx,ok.Iu,ok.bs,ok.pq,ok.BD,ok.xO,ok.mj,ok.r_]
}
section
variable{X:Cx}{ae:a?}{σ:St}{H:Hp}{s:ay}{E:bW}
def z:={
Inv.pK(I:av)(E:bW):Inv MS ae σ H s:=#[I.ok.pK E,ro,l6,F7,ff,o2,je,o5,zJ,fZ,o6]
Inv.uw(I:Inv MS ae σ H s):av:=#[I.ok.uw,ro,l6,F7,ff,o2,je,o5,zJ,fZ,o6]
SP.uw{D:l7}{f:Flow}{s':ay}(h:SP MS ae D f s'):SP X ae D f s':=by cases f with|im=>rw[HY h I q]|brk=>rw[HY h I q]|l8=>rw[HY h I q]|ret u=>refine gN h λ v bI H' I r q=>?_;exact(lO v bI H' I.uw r q)
il.jh{st:xZ}{t:TS}(h:il X.jh st t):il X st t:=λ ae s σ H D I hw=>Oy (fi h D (I.pK _) hw) (λ _ _ q=>q.uw) λ _ _ z=>False.elim z
}
section z
section
variable{X:Cx}{st:Stmt}{i7:xZ}{t u:TS}{e:bC}{te:TE}{aX:cT}
def z:={
afu.1:TS:=λ D σ H=>rp σ H
pW.1(t u:TS):TS:=λ D σ H=>t {D with nx:=u D} σ H
dh:il X [] afu:=λ _ _ σ H _ I h=>Wv (cE σ H I h)
aP(h1:PS X st t)(h2:il X i7 u):il X (st::i7) (pW t u):=by rw[hW,<-Ww (be (fi h1 {D with nx:=u D} I h) ar f s1 q)];cases f with|im=>obtain⟨bI,H',I',q⟩:=q;exact h2 ae s1 bI H' D I' q|ret v=>exact q|brk=>exact q|l8=>exact q
cJ(h1:PS X st t):il X [st] t:=by rw[hW,<-Ww (be (fi h1 D I h) ar f s1 q)];cases f with|im=>rw[I? q]|ret v=>exact q|brk=>exact q|l8=>exact q
Inv.quiet{ae:a?}{σ:St}{H:Hp}{s:ay}(I:av):iM Wx dl:=by simp[Wx,jd]
aJF.1(te:TE):TS:=λ D σ H=>gH te λ _ H1=>vY H1
lG(he:qf)(hs:H0 OE e ak):PS X (.bC e aX) (aJF te):=by rw[hW,wpAny_Expr_any A_ avG avG p7 (cE σ H1 I1 q1) I.quiet hs]
anX.1(te:TE):TS:=λ D σ H=>gH te D.rt
dD(he:qf):PS X (.Return yy aX) (anX te):=by rw[hW,wpAny_Return_some A_ al1 al1 p7 (lO x σ H1 I1 r1 q1)]
aMi.1(c:TT)(t u:TS):TS:=w6 c b pU b (t D σ H1) (u D σ H1)
iy{c:bC}{a b:xZ}{tc:TT}(hc:PT X c tc)(ha:il X a t)(hb:il X b u):PS X (.If c a b aX) (aMi tc t u):=by rw[hW,<-wpAny_If (fo hc λ d s1 am7=>ah am7 ar H1 I1 q1)];cases d with|au=>exact mn ha D I1 q1|false=>exact r? D I1 q1
}
section z
def z:={
TG.2:=V->St->Hp->kq (St->lv)
v8.2:=cl->St->Hp->kq (St->lv)
PG.1(X:Cx)(target:bC)(t:TG):Prop:=∀(ae:a?)(s:ay)(σ:St)(H:Hp)(v:V)(u:a!)(Q:k1),av->ie->t v σ H Q->f? (Ga target dl u) n1 s' sI H' (Q bI H')
E_.1(X:Cx)(ts:ls)(t:v8):Prop:=∀(ae:a?)(s:ay)(σ:St)(H:Hp)(vs:cl)(us:cq)(Q:k1),av->yd->t vs σ H Q->f? (assignInOrder ((AD ts).bz (·.2)) us) n1 s' sI H' (Q bI H')
Ka.2:=V->V->V->Hp->kq (Hp->Prop)
Rk.1(X:Cx)(t:Ka):Prop:=∀(ae:a?)(s:ay)(σ:St)(H:Hp)(o i v:V)(ov iv u:a!)(Q:lv),av->RelV o ov->RelV i iv->ie->t o i v H Q->f? (setItem ov iv u) n1 s' (∃H',wX/\Q H')
FA.2:=V->V->ci Hp VK
Gp.1(X:Cx)(op:zN)(t:FA):Prop:=∀(ae:a?)(s:ay)(σ:St)(H:Hp)(x y:V)(v u:a!)(Q:VK),av->rK v->rD y->t x y H Q->mQ (OG op v u)
}
section
variable{X:Cx}{aX:cT}
def z:={
dC.1(i:Y):TG:=k9 v σ (Q Kl H)
cz{x:aN}(hN:zK)(hi:pX)(hx:w_)(hf:wB):PG X xD (dC i):=by intro ae s σ H v u Q I r h;exact wpAny_assign_Name (JQ I hN hi hx r (λ s' I'=>(cE _ H I' h)) hf)
afW.1:v8:=k9 vs σ (vs=[]/\Q σ H)
aw6.1(t:TG)(u:v8):v8:=k9 vs σ (∃v r,vs=v::r/\t v σ H λ bI H'=>u r bI H' Q)
azb:E_ X [] afW:=by intro ae s σ H vs us Q I r h;rw[w? e h];subst e;cases r;exact assignInOrder_nil (cE σ H I h)
G3{e:bC}{es:ls}{t:TG}{u:v8}(h1:PG X e t)(h2:E_ X es u)(hs:jx ((AD gM).bz (·.2)) (ma Ga e::hM Jw ((·.2)))):E_ X gM (aw6 t u):=by intro ae s σ H vs us Q I r h;obtain⟨v,vr,e1,h⟩:=h;subst e1;cases r with|aQ r rr=>rw[hs];refine assignInOrder_cons (be (fi h1 _ _ _ I r h) λ _ s1 aHt=>dc aHt λ σ1 H1 I1 q1=>?_);exact h2 ae s1 σ1 H1 _ _ Q I1 rr q1
ajC.1(K:cb)(n:Y)(t:v8):TG:=k9 v σ (∃a xs,v=.cS a/\tQ/\fe=n/\t xs σ H Q)
aGo{es:ls}{k:Y}{t:v8}(hc:wp)(h:E_ X es t)(hn:zU ((Jw).Fc=n))(bw:zU ((Jw).findIdx? (·.1)=ak)):PG X iF Tuple es k (ajC bQ n t):=by intro ae s σ H v u Q I r hw;obtain⟨a,xs,e1,hq,hl,hw⟩:=hw;subst e1;cases r;obtain⟨aF,rv,ht,hz⟩:=vC hq;refine assign_Tuple_tuple xX ht (by simp[hn,<-hl,OI]) bw cr h' hx;have I1:iA tF:=Ad I.kept eH o e (hx b o (vu (Ol e)) e);exact gF h _ H xs _ Q I1 dv rv hw
aIU.1(to ti:TE)(t:Ka):TG:=k9 v σ md to o fG ti λ i H2=>t o i v H2 λ H3=>Q σ H3
afn{o i:bC}{to ti:TE}{t:Ka}(ho:bd o to)(hi:bd i ti)(hs:Rk X t)(ha:Ja (∀v,Ga iF Subscript o i dl v=(do let ov<-zL [v] KW;let iv<-zL [v,ov] ez i;OB aX;zL [v,ov,iv] (setItem ov iv v);release [v,ov,iv] []))):PG X iF Subscript o i (aIU to ti t):=by intro ae s σ H v u Q I r h;rw[ha];refine tj OJ (fo ho λ ov s1 avQ=>aO avQ pC);refine tj OJ (be (mn hi _ I1 q1) Ui iv aH5 aH5);refine tj wpAny_standAt tj OJ (be (gF hs s2 H2 x y v ov iv u _ I2 r1 r2 r q2) λ _ s3 aLS=>ah aLS ar H3 I3 q3);exact wpAny_release (cE σ H3 I3 q3)
Md.1(te:TE)(g:TG):TS:=w6 te x (g x σ H1 rp)
VM{tg e:bC}{te:TE}(he:qf)(hg:PG X tg g)(hs:H0 swapsWithSole [tg] e)(hw:jx (swappedStores [tg] e dl) (pure ak))(h1:jx ((AD [tg]).bz (·.2)) [ma Ga tg]):PS X iF Assign [tg] e (Md te g):=by rw[hW,<-wpAny_Assign_stores A_ aJi aJi pC hs hw];rw[h1];exact be Jv hg v _ λ _ s2 q=>q
bY{x:aN}{e:bC}{te:TE}{pos':cT}(hN:zK)(hi:pX)(hx:w_)(he:qf)(hs:H0 OE e Z KY)(hf:wB):PS X iF Assign [KY] e (Md te (dC i)):=by rw[hW,<-wpAny_Assign_Name A_ at0 at0 vP y hs,JQ I1 hN hi hx r1 (λ s2 I2=>(cE _ H1 I2 q1)) hf]
aoJ.1(i:Y)(te:TE)(ti:FA):TS:=λ D σ H=>∃x,ck σ Z x/\md te y (ti x y H1 λ z H2=>rp (σ.set i Z z) H2)
Fw{x:aN}{e:bC}{te:TE}{op:zN}{ti:FA}{pos':cT}(hN:zK)(hi:pX)(hx:w_)(he:qf)(ho:Gp X op ti)(hf:wB):RT KY e (aoJ i te ti):=by rw[hW];obtain⟨v,e1,h⟩:=h;rw[sW ff m hn];(have vis:Ab ny:=by rcases hx with k|k;rw[k7 k,nw eT k]);refine ah (hl i x v hi e1 vis) ar u r l;refine wpAny_AugAssign_Name ?_;(have go:f? mx (λ w s₂=>pE (OG op u w) (λ r s₃=>pE (Ou dl x r) (λ _=>SP X ae D .im) s₃) s₂):=by refine be (fi he _ I h) λ w s1 agj=>aO agj vP y;refine be (mn ho v y u w _ I1 r r1 q1) λ z s2 ao5=>aO ao5 λ zv H2 I2 r2 q2=>?_;exact JQ I2 hN hi hx r2 (λ s3 I3=>(cE _ H2 I3 q2)) hf);rcases l with⟨hk,hm⟩|⟨hk,c,hc,FU⟩;(.exact Wn jd hk hn hm go);.rcases hk with hk|hk;(.exact Wo jd hk hc FU go);.rcases hx with k|k;(.have:QE:=hk;rw[bO k al al]);.have:QE:=hk;rw[bO k al al]
O7.1(f:KM):FA:=J2 i j eZ cR (f i j) H
o9:Gp X .Add (O7 mt (i+j)):=by intro ae s σ H x y v u Q I r1 r2 h;refine aO h El e1 e2 q;subst e1;subst e2;rw[jp r1,zX r2,iadd_int s0 _]
vO:Gp X .Sub (O7 mt (i - j)):=by intro ae s σ H x y v u Q I r1 r2 h;refine aO h El e1 e2 q;subst e1;subst e2;rw[jp r1,zX r2,isub_int s0 _]
}
section z
section
variable{X:Cx}{aX:cT}
def z:={
amt.1(c:TT)(tb:TS):TS:=λ D σ H=>∃W:BV,(∃m,W m σ H)/\∀m σ H,W m σ H->md c b pU b (∃N:k1,(∀bI H',v9 N->∃m',m'<m/\W m' bI H')/\tb Pq D N N σ H1) vY H1
oa{c:bC}{tc:TT}{tb:TS}(hp:PassesOwn pf X.A dl o7)(hc:PT X c tc)(hb:il X rk tb):PS X (.While c rk [] aX) (amt tc tb):=by rw[hW,<-ah h λ W lL turn=>cG lL cr m0 w0,<-wpAny_While (codeAny_whileLoop (λ n s'=>sI H' (W n bI H')) ?_ m0 (cE σ H I w0))];rintro n s1⟨σ1,H1,I1,w1⟩;rw[wS hp (be (hc ae s1 σ1 H1 _ I1 (turn n σ1 H1 w1)) λ b s2 awk=>ah awk ar H2 I2 q2)];cases b with|au=>(obtain⟨N,hN,q2⟩:=q2;rw[ao ag];rw[wS hp (be (hb ae s2 σ1 H2 _ I2 q2) ar f s3 q3)];cases f with|im=>refine dc q3 λ σ3 H3 I3 n3=>?_;refine ah (hN σ3 H3 n3) ar m' hm w3;exact #[m',hm,σ3,H3,I3,w3]|l8=>refine dc q3 λ σ3 H3 I3 n3=>?_;refine ah (hN σ3 H3 n3) ar m' hm w3;exact #[m',hm,σ3,H3,I3,w3]|brk=>exact q3|ret v=>exact q3)|false=>rw[aj OM];rw[I? (cE σ1 H2 I2 q2)]
}
section z
structure It where
 go:ml Y
 oU:Y->Hp->ci V Hp
 ri:ml Y
def z:={
pA.1(X:Cx)(ae:a?)(H:Hp)(b:aI):Prop:=kh/\m8/\Ee/\Bu/\A!/\ub p sF b
Inv.B3{X:Cx}{ae:a?}{σ:St}{H H':Hp}{s:ay}{b:aI}(I:av)(hb:d!<=b)(hn:AO):pA X ae H' b:=by refine(Hw hn (Nat.ne_of_gt (za I.lt hb)) (I.aGh hb) i0 (oF I.sz hb) (λ x c e z=>?_) hX p hp z);(.obtain⟨v,q⟩:=C0;rw[wJ (za q.lt (by rw[dE z hb]))]);.rw[wJ rN DG.1 (by rw[dE z hb])]
}
structure Turn(P:dL)(w:dM)(K:cb)(tg:bC)(J:It)(fp:nC)(it:aI)(tn:ci Y dN):Prop where
 mem:it∈fp
 obj:∀i h,tn i h->Sw o Kd v
 l4:∀i h h',tn i h->As (∀o,Kd->JW)->tn i h'
 item:SA X P (∀(i:Y)(ae:a?)(s:ay)(σ:St)(H:Hp)(E:bW),QJ (J.go i H) X.A (λ r s1=>∃u,r=Z u/\i! A2 X.A (ON tg A5 u) n1 s2 (∃x H',f6 H' s2/\nI/\J.oU i H x H'/\tn bD s2.heap/\j2 fp AO) E s1))
 done:SA X P (∀(i:Y)(ae:a?)(s:ay)(σ:St)(H:Hp)(E:bW),QJ (J.stop i H) X.A (λ r s1=>r=ak/\iA s1))
 self:∀(A:c6)(i:Y)(s:ay)(Q:bW)(E:bW),tn i dm->eZ cS it s->g4 A2 (pyIter A5) Q
def z:={
TI.2:=St->Hp->kq (It->lv)
JK.1(X:Cx)(ae:a?)(σ:St)(tg:bC)(R:ml It)(KI:a!)(s2:ay):Prop:=∃(it:aI)(fp:nC)(tn:ci Y dN)(J:It)(H':Hp),KI=.cS it/\f6 H' s2/\k0 Turn bQ tg J fp it tn/\tn 0 s2.heap/\As (pA X ae H' b)/\R J H'
PI.1(X:Cx)(tg iter:bC)(wi:TI):Prop:=∀(ae:a?)(s:ay)(σ:St)(H:Hp)(R:ml It),av->gH wi R->f? ez iter (λ v s1=>pE (pyIter v) (JK X ae σ tg R) s1)
FY{A:c6}{E:bW}{s:ay}{tg:bC}{u:a!}{o:Obj}{n:String}{vs:Do}{Q:w5}(ho:GI it o)(hc:o.cls=.type n)(hd:o.data=.zI vs)(hn:["enumerate","zip","dict_itemiterator","dict_reverseitemiterator","odict_iterator","itertools.zip_longest","itertools.pairwise"].F1 n=false)(hQ:Q () s):g4 M (ON tg A5 u) Q:=by unfold ON;cases tg<;>first|rw[B2 hQ]|(cases u<;>first|rw[B2 hQ]|(refine rh (wpAny_load ho ?_);rw[hc,hd];show g4 M J' (["enumerate","zip","dict_itemiterator","dict_reverseitemiterator","odict_iterator","itertools.zip_longest","itertools.pairwise"].F1 n&&vs[0]?==Z (zG _)) _ _ Q;rw[aj (by intro h;rw[hn,Of]at h;rw[bo])];rw[B2 hQ]))
tV.1(K:cb)(a:aI):It:=Sf (∃xs x,De/\sq) De De
uM.1(K:cb)(a:aI):It:=Sf (∃xs x,tQ/\sq) tQ tQ
oP.1(lo:ad)(n:Y):It:=#[λ i _=>i<n,λ i H x H'=>H'=H/\x=eU Nf,λ i _=>n<=i]
}
def asZ{P:dL}{w:dM}{K:cb}{tg:bC}(a it:aI):KS yx h (h.IsListIter it a i)where mem:=fA;obj:=(λ i h st b hb=>by rw[wd b it,<-bL st λ o e c d=>?_,(aW o e λ v z=>by rw[bO d z z])]);l4:=λ i h h' st k=>st.at λ o e=>k it aM o e;item:=(by intro X hP hw hK hc i ae s σ H E I hf st hg;subst hP hw hK;rw[<-dc hg λ xs x hq hx=>?_,P' zM wpAny_pyNext_list_item OO];have I1:iA tF:=G5 nP jW sb.2 e;rw[iK id jz λ o e c d=>?_];exact aW u ag (FY (s:=tF) e c d cD JB x ru #[rfl,λ ys hy=>by rw[I.axl hy hq];exact hx]));done:=(by intro X hP hw hK hc i ae s σ H E I hf st hg;subst hP hw hK;rw[<-ah hg ar xs hq hx,wl zM rv p,wo f1 f4 f5];have hl:=OI;exact wpAny_pyNext_list_end xX st OO (by simp;exact AB hl hx) λ h' eb=>HB (eb b o hb e));self:=λ _ _ _ _ _ st h=>wpAny_pyIter_listiter st h
def arI{P:dL}{w:dM}{K:cb}{tg:bC}(a it:aI):KS yw h (h.IsTupleIter it a i)where mem:=fA;obj:=(λ i h st b hb=>by rw[wd b it,<-bL st λ o e c d=>?_,(aW o e λ v z=>by rw[bO d z z])]);l4:=λ i h h' st k=>st.at λ o e=>k it aM o e;item:=(by intro X hP hw hK hc i ae s σ H E I hf st hg;subst hP hw hK;rw[<-dc hg λ xs x hq hx=>?_,P' vC wpAny_pyNext_tuple_item QI];have I1:iA tF:=G5 nP jW sb.2 e;rw[iK id jz λ o e c d=>?_];exact aW u ag (FY (s:=tF) e c d cD JB x ru #[rfl,λ ys hy=>by rw[I.aHc hy hq];exact hx]));done:=(by intro X hP hw hK hc i ae s σ H E I hf st hg;subst hP hw hK;rw[<-ah hg ar xs hq hx,wl vC rv p,wo f1 f4 f5];have hl:=OI;exact wpAny_pyNext_tuple_end xX st QI (by simp;exact AB hl hx) λ h' eb=>HB (eb b o hb e));self:=λ _ _ _ _ _ st h=>wpAny_pyIter_tupleiter st h
def aFx{P:dL}{w:dM}{K:cb}{tg:bC}(it:aI)(lo:ad)(n:Y):KS ED h (Wy h it (lo+(i:Y)*1) (jN n - (i:Y)) 1)where mem:=fA;obj:=(λ i h st b hb=>by rw[wd b it,(py st λ v z=>by have z':Data.fields _=Data.cell v:=z;cases z')]);l4:=λ i h h' st k=>k it aM _ st;item:=(by intro X hP hw hK hc i ae s σ H E I hf st hg;subst hP hw hK;rw[wo f1 f4 f5];have W:=Walks.range (dk:=o0) (w:=X.w) xX it lo 1 n;rw[<-W.item i s _ _ hg st λ v h' tk hv jz kk=>?_,jp hv];have I1:iA GK s h' tk:=Pl I.turned (kk b o dv hb e) f4;refine py ag (FY (s:=GK s h' tk) (n:="range_iterator") jz ag ag cD JB (.cR Nf) #[t,?_] #[rfl,rfl]);rw[Int.mul_one]);done:=(by intro X hP hw hK hc i ae s σ H E I hf st hg;subst hP hw hK;rw[wo f1 f4 f5,wpAny_pyNext_range_end xX st (by have:n<=i:=hg;rw[ei T6]) λ h' eb=>HB (eb b o hb e)]);self:=λ _ _ _ _ _ st h=>wpAny_pyIter_rangeiter st h
section
variable{X:Cx}{tg:bC}
def z:={
BJ.1(K:cb)(tl:TE):TI:=By tl x (∃a,sw/\(∃xs,aC K H1 a xs)/\R yx H1)
XA.1(K:cb)(tl:TE):TI:=By tl x (∃a,sw/\(∃xs,aJ K H1 a xs)/\R yw H1)
mD{tl:TE}(hl:bd l tl):PI X tg l (BJ bQ tl):=by rw[jk H R h,HA hl aEZ aEZ,<-bL q1 λ a e nR q=>cG nR cr xs hq];subst e;cases r1;rw[wl I1.list rv p,<-wpAny_pyIter_list OO ?_,<-(lq l! ([l!]) _ _ H1 ag (Hk OP A?) (asZ a _) (aZ _ Bq ag ag) Ef q),P9]
BR{tl:TE}(hl:bd l tl):PI X tg l (XA bQ tl):=by rw[jk H R h,HA hl aJK aJK,<-bL q1 λ a e nM q=>cG nM cr xs hq];subst e;cases r1;rw[wl I1.tuple rv p,<-wpAny_pyIter_tuple (show PP s1.heap.IsTuple from p) ?_,<-(lq l! ([l!]) _ _ H1 ag (Hk OP A?) (arI a _) (aZ _ Bq ag ag) Ef q),P9]
X3{ae:a?}{σ:St}{H:Hp}{s:ay}{R:ml It}{E:bW}{hi:ad}{t u v:Tok}{tk:Y}(I:av)(h1:EK<=lo)(h2:lo<2^62)(h3:EK<=hi)(h4:hi<2^62)(q:R (oP lo rW E8) H):i! pf X.A (pyIter ed d!) (JK X ae σ tg R) E {s with l5:=G!,o4:=tk}:=by refine wpAny_pyIter_range (IsRange.new ..) (small_one h1 h2 h3 h4) ?_;have I1:iA {s with l5:=G!,o4:=tk}:=I.kept A?;refine(lq P8 ([P8]) _ _ H ag (OP (t':=tk) A?) (aFx _ lo rW E8) ?_ Ef q);(. ((have e1:lo+DC*1=lo:=by simp);have e2:p! GO E8 - DC=Builtin.Range.rangeSize lo hi 1:=by rw[rangeSize_one];split<;>omega);show Wy _ _ (lo+DC*1) (((GO E8:Y):ad) - DC) 1;rw[e1,e2];exact Gf _ ag);. (have e:b=(vF {cls:=zY "range",fW:=.zI (Om [kU lo t,pz hi u,pz 1 v])}).objs.size:=by simpa using hb);subst e;exact I1.B3 (u! _) AV
Ow.1(ta:TA):TI:=By ta vs (∃j:ad,vs=[.cR j]/\EK<=j/\j<2^62/\R (oP 0 j.toNat) H1)
L0.1(ta:TA):TI:=By ta vs (∃i j:ad,vs=[uB,AT]/\(-(2^62)<=i/\i<2^62/\EK<=j/\j<2^62)/\R (oP i rW (j - i)) H1)
CT{a:bC}{ta:TA}{p aX:cT}(hg:Gl X "range")(hm:Tu oZ)(ha:PA X [a] ta)(hs:jx pj [a] [(false,ez a)]):PI X tg fy (Gq "range" p) [a] (Ow ta):=by rw[jk H R h,<-Call_ sy yJ boot_range (OQ Aw apl apl vP vs hs ag)];obtain⟨j,e,q1,q2,q⟩:=q1;subst e;cases r1 with|aQ r rr=>cases rr;rw[jp r,call_range_1 (X3 I1 gr aLU gr awN q1 q2 dv q)]
CV{a b:bC}{ta:TA}{p aX:cT}(hg:Gl X "range")(hm:Tu oZ)(ha:PA X [a,b] ta)(hs:jx pj [a,b] [(false,ez a),(false,ez b)])(dY:jx pj [b] [(false,ez b)]):PI X tg fy (Gq "range" p) [a,b] (L0 ta):=by rw[jk H R h,<-Call_ sy yJ boot_range (OQ Aw aDk aDk vP vs (by rw[hs,dY]) (by rw[dY];rfl))];obtain⟨i,j,e,⟨q1,q2,q3,q4⟩,q⟩:=q1;subst e;cases r1 with|aQ r rr=>cases rr with|aQ r' rr=>cases rr;rw[jp r,zX r',call_range_2 (X3 I1 q1 q2 q3 q4 q)]
aEB.1(wi:TI)(g:TG)(tb:TS):TS:=w6 wi J (∃W:Y->Y->ci St Hp,(∃m,W 0 m σ H1)/\∀i m σ H,W i m σ H->(J.stop i H/\At)\/(J.go i H/\Py W H' J.oU))
Dh.1(fp:nC)(h:dN):a?:=fp.filterMap λ b=>(kP b).bz λ o=>(b,o)
Mp{h:dN}{b:aI}{o:Obj}(hb:b∈fp)(e:Kd):(b,o)∈Dh fp h:=List.mem_filterMap.mpr aW b hb (by rw[e];rfl)
aIo{h:dN}{p:aI×Obj}(hp:p∈Dh fp h):p.1∈fp/\kP p.1=Z p.2:=by refine ah (List.mem_filterMap.mp hp) ar b hb e;cases q:kP b with|ak=>rw[bO q e e]|ca o=>rw[q]at e;have e':(b,o)=p:=y8 e;subst e';exact #[hb,q]
Inv.pinned{ae:a?}{σ:St}{H:Hp}{s:ay}(I:av)(hf:j2 fp (pA X ae H b))(ho:Sw o mZ v):Inv X (ae++Dh fp dm) σ H s:=I.Xb λ p hp=>RG hp k8 GW pL z gk (by obtain⟨hb,e⟩:=aIo z;rw[<-dq (hf p.1 hb) λ f0 f1 f2 _=>?_,<-ah (ho p.1 hb) ar o e' d,bO e e' e',(j3 e f0 f1 f2 d)])
Inv.Es{ae pl:a?}{σ:St}{H:Hp}{s:ay}(I:Inv X (ae++pl) σ H s):av:=I.Xb λ p hp=>zJ p pL IO hp
iC{iter:bC}{wi:TI}{tb:TS}{aX:cT}(hp:PassesOwn pf X.A dl o7)(hc:wp)(hi:PI X tg iter wi)(hg:PG X tg g)(hb:il X rk tb)(hs:Ja (∀x,foldedSetIterable iter dl x=pure x)):PS X (.For tg iter rk [] aX) (aEB wi g tb):=by rw[hW,<-wpAny_For (fo hi λ v s1 h1=>be h1 ar KI s2 h2) hs];obtain⟨it,fp,tn,J,H2,e,I2,T,uC,f2,W,⟨m0,w0⟩,turn⟩:=h2;subst e;have xf:∀{H':Hp},Jx->j2 fp (pA X ae H' b):=λ hn b hb=>#[jW hn,(jW f2).2];refine codeAny_forLoop_any (λ n s'=>∃i bI H',l? bI H' s'/\tn i F8/\Jx/\W i n bI H') ?_ m0 (b9 0 σ H2 I2 uC (λ b hb=>(jW f2).1) w0);rintro n s3⟨i,σ3,H3,I3,yR,Zu,w3⟩;rcases turn i n σ3 H3 w3 with⟨ri,qn⟩|⟨go,N,hN,step⟩;(.refine OL hp (be (T.done X ag ag ag hc i ae s3 σ3 H3 o7 I3 (xf Zu) yR ri) λ r s4 anN=>bq anN cr hr I4);subst hr;rw[I? (cE σ3 H3 I4 qn)]);.refine OL hp (be (T.item X ag ag ag hc i ae s3 σ3 H3 o7 I3 (xf Zu) yR go) λ r s4 avC=>ah avC ar u hr h4);subst hr;rw[wS hp (be h4 λ _ s5 aKN=>xn aKN λ x H5 I5 r5 y5 uK fr5=>?_)];have I5':=I5.pinned (xf fr5) eF T.obj uK;rw[wS hp (be (hg _ s5 σ3 H5 x u _ I5' r5 (step x H5 y5)) λ _ s6 auF=>dc auF λ σ6 H6 I6 q6=>?_),wS hp (be (hb _ s6 σ6 H6 _ I6 q6) ar f s7 q7)];(have again:∀{σ7:St}{H7:Hp},Inv X (ae++Dh fp s5.heap) σ7 H7 s7->N σ7 H7->∃m,m<n/\∃i bI H',l? bI H' s7/\tn i s7.heap/\Jx/\W i m bI H':=λ{σ7 H7}I7 n7=>by refine ah (hN σ7 H7 n7) ar m' hm w7;refine #[m',hm,db,σ7,H7,I7.Es,T.keep _ _ _ uK λ b hb o e=>(I7.pin (b,o) pL pL (Mp hb e)).1,cr b hb,w7];refine ah (T.obj _ _ uK b hb) ar o e d;exact(I7.pin (b,o) pL pL (Mp hb e)).2.1);cases f with|im=>refine dc q7 λ σ7 H7 I7 n7=>?_;exact again I7 n7|l8=>refine dc q7 λ σ7 H7 I7 n7=>?_;exact again I7 n7|brk=>obtain⟨σ7,H7,I7,q7⟩:=q7;exact(cE σ7 H7 I7.Es q7)|ret v=>obtain⟨x7,σ7,H7,I7,r7,q7⟩:=q7;exact(lO x7 σ7 H7 I7.Es r7 q7)
}
section z
def z:={
t_{K:cb}{a:aI}{xs:cl}{tb:TS}{D:l7}{σ:St}{H:Hp}(Pv:BV)(h0:Pv 0 σ H)(hl:JI H C4 De)(hs:∀i x σ H,sq->Ai->g x σ H Ak σ2 tb I8 D nx bk)(hd:QL):Hm yx yx yx:=by rw[Jb fe C4 fe,Jt i m H];have q:=hl i σ H hi p;by_cases a8:i<fe;(.rw[P1 q x p]);.rw[Ip fe aW xs q gh p]
KL{K:cb}{a:aI}{xs:cl}{tb:TS}{D:l7}{σ:St}{H:Hp}(Pv:BV)(h0:Pv 0 σ H)(hl:JI H C4 tQ)(hs:∀i x σ H,sq->Ai->g x σ H Ak σ2 tb I8 D nx bk)(hd:QL):Hm yw yw yw:=by rw[Jb fe C4 fe,Jt i m H];have q:=hl i σ H hi p;by_cases a8:i<fe;(.rw[P1 q x p]);.rw[Ip fe aW xs q gh p]
E'{tb:TS}{D:l7}{σ:St}{H:Hp}(Pv:BV)(h0:Pv 0 σ H)(hs:JI H (i<n) (g (.cR Nf) σ H Ak σ2 tb I8 D nx bk))(hd:∀σ H,Pv n σ H->At):Hm ED ED ED:=by rw[Jb n (i<=n) n,Jt i m H];by_cases a8:i<n;(.refine .inr (eM a8 Ac (λ bI H' p'=>(fB (n - bD) bm pw a8 ag a8 p')) hX x H' y);obtain⟨e,y⟩:=y;subst e y;exact hs i σ _ a8 p);.rw[Ip n gh p]
R2.2:=V->V->ci Hp VK
dg.1(X:Cx)(f:xq)(r:R2):Prop:=∀(ae:a?)(s:ay)(σ:St)(H:Hp)(x y:V)(v u:a!)(Q:VK),av->rK v->rD y->r x y H Q->mQ M4
Lr.1(X:Cx)(f:a!->Af)(r:Cm):Prop:=∀(ae:a?)(s:ay)(σ:St)(H:Hp)(x:V)(v:a!)(Q:VK),av->rK v->r x H Q->mQ (f v)
kF.1(X:Cx)(f:a!)(r:cl->v6):Prop:=∀(ae:a?)(s:ay)(σ:St)(H:Hp)(xs:cl)(us:cq)(Q:VK),av->sh->r xs H Q->mQ (call f us)
aFh.1(X:Cx)(r:V->Hp->kq (aL->lv)):Prop:=∀(ae:a?)(s:ay)(σ:St)(H:Hp)(x:V)(v:a!)(Q:Cv),av->rK v->r x H Q->f? (truthy v) rE TP
DR.1(r:R2)(ta tb:TE):TE:=k! x fG tb mw y (r x y H2 Q)
tUn.1(r:Cm)(ta:TE):TE:=k! x (r x H1 Q)
rI.1(C:ci ad ad)(g:ad->ad->V):R2:=k9 x y (∃i j,x=eU i/\y=AT/\C i j/\Q i4 H)
jq.1(g:ad->ad->V):R2:=J2 i j (Q i4 H)
rU.1(g:ad->V):Cm:=λ x H Q=>∃i,x=eU i/\Q (g i) H
}
section
variable{X:Cx}{a b c:bC}{ta tb tc:TE}{aX:cT}
def z:={
Np(ha:ic)(hb:qe){ae:a?}{s:ay}{σ:St}{H:Hp}{R:V->ml V}(I:av)(h:md ta x fG tb mw y (R x y H2)){f:xq}(hf:∀v u s2 x y H2,f6 H2 s2->rK v->rD y->R x y H2->pE M4 Q s2):P6 u M4 Q:=by rw[HA ha aiL aiL,<-be (r? _ I1 q1) Ui u auA auA,hf v u s2 x y H2 I2 r1 r2 q2]
B5{op:zN}{r:R2}(ho:jr (OR op) r)(ha:ic)(hb:qe):bd (.BinOp a op b aX) MN:=by rw[ft,wpAny_BinOp (Np ha hb I h λ v u s2 x y H2 I2 rx ry q=>gF ho s2 H2 x y v u Q I2 rx ry q)]
axI{op:UnaryOp}{r:Cm}(ho:Lr X (unaryOp op) r)(ha:ic):bd (PU op a aX) (tUn r ta):=by rw[ft,UnaryOp_ r6 aMa aMa p7 Jv ho v Q]
Ew{f:xq}{C:ci ad ad}{g:KM}(o8:∀(i j:ad)(t u:Tok)(s:ay)(Q:bW)(E:bW),C i j->Q (kU i4 vD) p_->pi LN Q E):jr f (rI C mt eU i4):=by intro ae s σ H x y v u Q I rx ry h;(refine fR h λ i j oh uW hc q=>?_;subst oh uW);rw[g6,js,o8 i j t t' s _ _ hc s0 i4]
D'{f:xq}{g:KM}(o8:∀(i j:ad)(t u:Tok)(s:ay)(Q:bW)(E:bW),Q (kU i4 vD) p_->pi LN Q E):jr f (jq mt eU i4):=by intro ae s σ H x y v u Q I rx ry h;(refine aO h El vV vd q;subst vV vd);rw[g6,js,o8 i j t t' s _ _ s0 i4]
D3{f:xq}{g:ad->ad->aL}(o8:∀(i j:ad)(t u:Tok)(s:ay)(Q:bW)(E:bW),eZ rf i4 s->pi LN Q E):jr f (jq mt (.bl i4)):=by intro ae s σ H x y v u Q I rx ry h;(refine aO h El Dt OF q;subst Dt OF);rw[g6,js,o8 i j t t' s _ _ (aE so i4 H I ag q)]
akx.1(i j:ad):Prop:=0<j/\Tt
PJ.1(i j:ad):Prop:=(-(2^64)<i/\i<2^64)\/(-(2^64)<j/\j<2^64)
PJ.ok{i j:ad}(h:PJ i j):IntMulOk i j:=by rcases h with⟨h1,h2⟩|⟨h1,h2⟩;(.exact .of_left SB);.exact .of_right SB
aJn(k:Y):Mz<=2^k:=by rw[two_pow_cast];exact Int.natCast_nonneg _
bV:Bf Add eU Nk:=D' λ _ _ _ _ _ _ _ q=>add_int q
cX:Bf Sub eU (i - j):=D' λ _ _ _ _ _ _ _ q=>sub_int q
aj4:Bs Mult PJ (i*j):=Ew λ _ _ _ _ _ _ _ hc q=>mul_int q hc.ok
uh:Bs FloorDiv akx (i/j):=Ew λ i j _ _ _ _ _ hc q=>by have h1:Mz<j:=hc.1;have h2:Tt:=hc.2;exact floordiv_int tU Zx (by rw[Qy tU Wz]) eT (PyProof.noPylong_small (by omega))
vS:Bs Mod n1 j (0<j) (i%j):=Ew λ i j _ _ _ _ _ hc q=>by have h1:Mz<j:=hc;exact mod_int' bm Zx hc (by rw[Int.fmod_eq_emod_of_nonneg i bm Wz hc];exact q)
Ej:Bs RShift n1 j (0<=j) (i/2^j.toNat):=Ew λ i j _ _ _ _ _ hc q=>rshift_int hc (by rw[Qy (aJn _)])
tm:Bf BitAnd eU (Builtin.bitAnd i j):=D' λ _ _ _ _ _ _ _ q=>and_int q
aIJ:Bf BitOr eU (Builtin.bitOr i j):=D' λ _ _ _ _ _ _ _ q=>or_int q
unI{f:a!->Af}{g:ad->ad}(o8:∀(i:ad)(t:Tok)(s:ay)(Q:bW)(E:bW),Q (kU (g i) vD) p_->pi (f AS) Q E):Lr X f (rU λ i=>pz (g i)):=by intro ae s σ H x v Q I rx h;(rw[dz (ah h ar i Ni q) Ni]);rw[g6,o8 i t s _ _ s0 (g i)]
aI6:Lr X (unaryOp .USub) (rU λ i=>eU (-i)):=unI λ _ _ _ _ _ q=>neg_int q
}
section z
def z:={
OC.1:V->V->aL|.cB,.cB=>au|.cB,uz=>au|uz,.cB=>au|.cB,uH=>au|uH,.cB=>au|.cB,nZ=>au|nZ,.cB=>au|uz,uz=>au|uH,uH=>au|nZ,nZ=>au|.iY _,.iY _=>au|uz,nZ=>au|nZ,uz=>au|uH,nZ=>au|nZ,uH=>au|_,_=>false
rEq.1:R2:=k9 x y (ap (OC x y)/\eZ bl bn kz H)
rNe.1:R2:=k9 x y (ap (OC x y)/\eZ bl (!bn kz) H)
Yw{i j:ad}:bn (V.int i=V.int j)=(i==j):=by rw[IS]
adR{i j:aL}:bn (V.bl i=V.bl j)=(i==j):=by rw[IS]
WX{i j:aN}:bn (V.str i=V.str j)=(i==j):=by rw[IS]
ZD{i j:Array UInt8}:bn (V.iY i=V.iY j)=(i.toList==j.toList):=by rw[zd];cases i;cases j;simp
}
section
variable{X:Cx}{a b c:bC}{ta tb tc:TE}{aX:cT}
def z:={
e7{ae:a?}{σ:St}{H:Hp}{s:ay}{Q:VK}{k k':aL}(I:av)(q:eZ bl k H)(e:k=k'):Cy (.rf k') s:=by subst e;exact(aE so k H I ag q)
adL:jr (vx .Eq) rEq:=by intro ae s σ H x y v u Q I rx ry h;rw[w? hs q];cases x with|cB=>(cases rx;cases y with|cB=>rw[g_ PySem.EqNone.eq_none_none]|bl j=>rw[g_ PySem.EqNone.eq_none_bool]|cR j=>rw[jU PySem.EqNone.eq_none_int]|str j=>rw[jU PySem.EqNone.eq_none_str]|_=>rw[g9])|bl i=>(cases rx;cases y with|cB=>rw[g_ PySem.EqNone.eq_bool_none]|bl j=>cases ry;rw[jo eq_bool I adR]|str j=>rw[jU PySem.EqMixed.eq_bool_str]|_=>rw[g9])|cR i=>(rw[g6];cases y with|cB=>rw[g_ PySem.EqNone.eq_int_none]|cR j=>rw[js,jo eq_int I Yw]|str j=>rw[jU PySem.EqMixed.eq_int_str]|_=>rw[g9])|str i=>(rw[g6];cases y with|cB=>rw[g_ PySem.EqNone.eq_str_none]|bl j=>rw[g_ PySem.EqMixed.eq_str_bool]|cR j=>rw[jU PySem.EqMixed.eq_str_int]|str j=>rw[js,jo eq_str I WX]|_=>rw[g9])|iY i=>(rw[g6];cases y with|iY j=>rw[js,jo PySem.W.eq_bytes I ZD]|_=>rw[g9])|_=>cases y<;>rw[g9]
Ue:jr (vx .NotEq) rNe:=by intro ae s σ H x y v u Q I rx ry h;rw[w? hs q];cases x with|cB=>(cases rx;cases y with|cB=>rw[g_ PySem.EqNone.ne_none_none]|bl j=>rw[g_ PySem.EqNone.ne_none_bool]|cR j=>rw[jU PySem.EqNone.ne_none_int]|str j=>rw[jU PySem.EqNone.ne_none_str]|_=>rw[g9])|bl i=>(cases rx;cases y with|cB=>rw[g_ PySem.EqNone.ne_bool_none]|bl j=>cases ry;rw[jo ne_bool I CO adR]|str j=>rw[jU PySem.EqMixed.ne_bool_str]|_=>rw[g9])|cR i=>(rw[g6];cases y with|cB=>rw[g_ PySem.EqNone.ne_int_none]|cR j=>rw[js,jo ne_int I CO Yw]|str j=>rw[jU PySem.EqMixed.ne_int_str]|_=>rw[g9])|str i=>(rw[g6];cases y with|cB=>rw[g_ PySem.EqNone.ne_str_none]|bl j=>rw[g_ PySem.EqMixed.ne_str_bool]|cR j=>rw[jU PySem.EqMixed.ne_str_int]|str j=>rw[js,jo ne_str I CO WX]|_=>rw[g9])|iY i=>(rw[g6];cases y with|iY j=>rw[js,jo PySem.W.ne_bytes I CO ZD]|_=>rw[g9])|_=>cases y<;>rw[g9]
cM:Be Lt bl (i<j):=D3 λ _ _ _ _ _ _ _ q=>lt_int q
eg:Be LtE bl (i<=j):=D3 λ _ _ _ _ _ _ _ q=>le_int q
gJ:Be Gt bl (j<i):=D3 λ _ _ _ _ _ _ _ q=>gt_int q
eO:Be GtE bl (j<=i):=D3 λ _ _ _ _ _ _ _ q=>ge_int q
uq{r:R2}(ho:sX op r)(ha:ic)(hb:qe)(hm:IM):bd BM MN:=by rw[ft,Ws (Np ha hb I h λ v u s2 x y H2 I2 rx ry q=>gF ho s2 H2 x y v u Q I2 rx ry q) hm]
Xq.1(t:TE):TT:=λ σ H Q=>gH t λ x H'=>∃k,x=.bl k/\Q k H'
tZ{r:R2}(ho:sX op r)(ha:ic)(hb:qe)(hm:IM):PT X BM (Xq MN):=by rw[ft,<-Wt (r6 amN amN p7 HS agK agK λ c s3 aDO=>i_ aDO λ z H3 I3 r3 k e q3=>?_) hm];subst e;cases r3;rw[wF H3 I3 q3]
Z7.1(r r':R2)(ta tb tc:TE):TE:=k! x fG tb mw y (r x y H2 λ z H3=>∃k,z=.bl k/\(if k=au then tc σ H3 λ w' H4=>r' y w' H4 Q else eZ bl fT H3))
aiE{r:R2}(ho:sX op r)(i':sX lR r')(ha:ic)(hb:qe)(hc:bd c tc)(hm:Re (lastMarks EL EY)):bd GS EL EY (Z7 r r' ta tb tc):=by rw[ft,<-Compare_chain r6 aLq aLq p7 (chain_link (HS ayP ayP λ d s3 al7=>i_ al7 λ z H3 I3 r3 k e q3=>?_)) hm];subst e;cases r3;rw[Bm];cases k with|false=>exact ite_ff (aE so fT H3 I3 ag q3)|au=>exact ite_tt (chain_last Uu afY afY (gF i' s4 H4 y z' u w' Q I4 r2 r4 q4))
asD{r:R2}(ho:sX op r)(i':sX lR r')(ha:ic)(hb:qe)(hc:bd c tc)(hm:Re (lastMarks EL EY)):PT X GS EL EY (Xq (Z7 r r' ta tb tc)):=by rw[ft,<-isTrue_chain r6 aAt aAt p7 (test_link (HS aJ7 aJ7 λ d s3 aBA=>i_ aBA λ z H3 I3 r3 k e q3=>?_)) hm];subst e;cases r3;rw[Bm];cases k with|false=>refine ah q3 ar k' e' q';cases e';exact ite_ff aW H3 I3 q'|au=>refine ite_tt (test_last Uu aLE aLE (be (gF i' s4 H4 y z' u w' _ I4 r2 r4 q4) λ d' s5 aJD=>i_ aJD λ z2 H5 I5 r5 k2 e2 q5=>?_));subst e2;cases r5;rw[wF H5 I5 q5]
vJ.1(K:cb)(x:V)(H:Hp)(k:aL):Prop:=match x with|.cB=>k=false|.bl b=>k=b|eU i=>k=(i !=0)|.str y=>rY oE/\k=(jN oE !=0)|.iY y=>rY Gg/\k=(jN Gg !=0)|.cS p=>QP K K p|_=>kB
aLs{aq:jg κ V}{vs:jg κ a!}(r:KV aq vs):(!vs.isEmpty)=PR:=p6 r
Yj{xs:cl}{aF:cq}(r:bN xs aF):(!aF.toArray.isEmpty)=G_:=by cases r<;>simp
Bh:(F?:Y)<2^63:=by rw[OS];decide
acZ:aFh X (λ x H Q=>∃k,vJ bQ x H k/\Q k H):=by intro ae s σ H x v Q I rx h;refine ah h ar k e q;have hl:=Bh;have hs:F?=16777216:=OS;cases x with|cB=>cases rx;have e':k=false:=e;subst e';exact truthy_none aW H I q|bl b=>cases rx;have e':k=b:=e;subst e';rw[wF H I q]|cR i=>rw[g6];have e':k=(i !=0):=e;subst e';exact PySem.P.truthy_int aW H I q|str y=>rw[Qi oE oE e,PySem.P.truthy_str eN ats hy hs aW H my q]|iY y=>rw[Qi Gg Gg e,PySem.W.truthy_bytes eN aBV hy hs aW H my q]|cS p=>(cases rx;have e':QP bQ bQ p:=e;rcases e' with⟨xs,hx,e'⟩|⟨xs,hx,e'⟩|⟨aq,hx,e'⟩;((.rw[QC zM r pl,wpAny_truthy_list pl.isList (by rw[Rs]) aW H my (by rw[Yj r];exact q)]);.rw[QC vC r pl,truthy_tuple pl (by rw[Rs]) aW H my (by rw[Yj r];exact q)]);.subst e';obtain⟨hz,hS,vs,r,m⟩:rY aq.length/\ui p sysModules/\∃vs,KV aq vs/\s.heap.DictOf (gb o0 X.w) p vs:=fZ p _ hx;have fO:aq.length=zO:=V8 r;exact wpAny_truthy_dict hS m (by exact L4 hs fO hz) aW H my (by rw[aLs r];exact q))|_=>exact fI (show kB from e)
aDS(ha:ic)(he:∀rq,F! a dl rq=SR v a.pos v):PT X a (λ σ H Q=>gH ta λ x H'=>∃k,vJ bQ x H' k/\Q k H'):=by rw[ft,Wu r6 aES aES p7 Jv acZ v Q (he _)]
vals1{x:V}(r:bN [x] us):∃u,us=[u]/\nI:=by cases r with|aQ r1 r2=>cases r2;rw[pO r1]
vals2{x:V}(r:bN [x,y] us):∃u w',us=[u,w']/\nI/\RelV y w':=by cases r with|aQ r1 r2=>cases r2 with|aQ r3 r4=>cases r4;exact(aE _ _ ag r1 r3)
ayO(hc:wp):kF X (GN "max") (λ xs H Q=>∃i j,xs=[uB,AT]/\eZ cR (if j>i then j else i) H):=by intro ae s σ H xs us Q I r h;(rw[dz (dc h λ i j MZ q=>?_) MZ]);(refine aO (vals2 r) λ u w' IU KC O6=>cG KC λ t Ld=>cG O6 cr t' OY;subst IU Ld OY);refine max_two_ints (I.ok.hd hc) λ h' tk k=>(aE _ H (I.kept k) ?_ q);by_cases hj:j>i;(.rw[ao hj,ao hj];exact k3);.rw[aj hj,aj hj];exact k3
}
section z
structure wC(h:dN)(x dx C:aI)(mA:g7):Prop where
 obj:kP x=Z GJ C dx
 ns:h.Ns1 dx mA
 ne:dx≠x
def z:={
aln{h:dN}{dx:aI}{mA:g7}(n:h.Ns1 dx mA):Sd (kP dx=Z od) od mA:=by refine Ko n λ o es ep ho hd hk _ hm=>?_;refine(aW o ho λ dn=>?_);have e:=hm dn;unfold nsFind findBy at e;rw[<-Array.find?_toList]at e;rw[e8 OV hd];dsimp only;split;(.rename_i y q;rw[q]at e;exact uV ca e);.rename_i q;rw[q]at e;((have a:iM WA ((·.refKey)):=by rw[List.any_eq_false];intro y hy;refine gG (hk y (Array.mem_toList_iff.mp hy)) ar z t aBj;simp[DictEntry.refKey,aBj]);have a':¬ap (WA (·.refKey)):=by rw[dE a OM]);rw[aj a'];exact uV ca e
wC.look{h:dN}{x dx C:aI}{mA:g7}(I:wC h x dx C mA):Sd (PySem.W.InstAt h x GJ C dx C Z od) od mA:=let#[od,ho,hl]:=aln I.ns;aW od #[I.obj,rfl,rfl,ho] hl
}
section
variable{dk:dL}{w:dM}{A:c6}{E:bW}{s:ay}{K:cb}{x dx C f:aI}{mA:g7}{dn:aN}{v:a!}
def z:={
get_map{expr:aL}(X:tS)(I:JC)(hg:ap RV)(hh:RM)(ha:IT K dn ak)(hv:mA dn=Z v)(ph:Sa v)(h:Q v p_):HP OX dn expr:=by rw[sW I.look od J,PySem.W.get_value X J RW hg (PySem.W.findObj_own hh ha ag (by rw[hl,hv])) ph h]
ax1{pl:ye}{Q:a!×cq->ay->Prop}(X:tS)(I:JC)(hg:ap RV)(hf:IT K dn Z lw)(ht:ap (PySem.W.isFn K lw))(hv:cw mA dn)(h:Q (lw,[ed x]) s):HP O0 dn pl:=by rw[sW I.look od J,PySem.W.method_fn X J RW hg (WC hg).2 hf S3 ht (by show(OV dn od).bz (·.isSome)=Z fT;rw[hl,hv];rfl) h]
aoC{ns:e_}{Q:w5}(X:tS)(I:JC)(hs:OW K mz "__setattr__"=Z Z (GN "object.__setattr__"))(hp:ap (PySem.W.plainOver K C))(ht:O1 K C dn=Z ak)(hh:RM)(hw:WD mA ns)(hsz:rY Oj)(h:∀h',wC h' x dx C (λ y=>if y=dn then mP else mA y)->Ot dx dm h'->Q () {s with l5:=h',o4:=vD+2}):HP setAttr dn v:=by rw[sW I.look od J,<-PySem.W.set_plain X J hs (PySem.W.osa_open (s:=p_) (r:=ak) X J hp ht yt b),<-ah (PySem.W.any_some hh) ar cd hc jM];have hx:rg x=Z #[mz,Z dx,.plain,th]:=I.obj;refine tj Gd tj rh (wpAny_loadPart hx (rh (PySem.W.Looks.here (s:=p_) (PySem.W.looks_clsIn X hc) ?_)));rw[jM];rw[<-Gd (a:=Z dx) (rh (Gd (rh ?_))),<-wpAny_nsSet1 (s:=p_) I.ns ar h' SJ dY,<-gN (SJ.count (PySem.Within.cons dn v hw)) λ oD esD epD hoD hdD hcD=>?_,JL (wpAny_lookBehind hoD (by rw[hdD];exact pastItsLine_dict (oF hcD (by rw[gA];exact Uo hsz))) ?_),B2 (h _ #[yj (dY.2 _ (F6 I.ne)) I.obj,SJ,I.ne] dY)]
age{R:zS Result}{vs:cq}(X:tS)(hm:ap (PySem.W.makesIn K C))(hi:OW K mz "__init__"=Z Z lw)(hf:PySem.W.typeIn K lw=Z (.type "function"))(h:codeAny mI (A.under (Pp #[mz::vs,kw])) (.call (.cS f) #[ed jA::vs,kw]) (PySem.W.InitBack jA R) {s with l5:=Qq push}):codeAny mI A (.call (.cS C) #[vs,kw]) R s:=by obtain⟨hh,g,d,t,os⟩:=s;exact PySem.W.make_core (PySem.W.makes_of X hm) (PySem.W.looks_findIn X hi) (λ self=>PySem.W.bind_fn X self hf) pr h
}
section z
def z:={
bK.1(f:aN)(v:V):p5->p5|[]=>[(f,v)]|(g,x)::r=>if g=f then(g,v)::r else(g,x)::mF r
cW(f g:aN)(v:V):∀fs:p5,(DU).Gh g=if g=f then mP else Gi g|[]=>by show Gk g [(f,v)]=_;by_cases h:g=f;(.rw[HF ap (g==f) um]);.rw[P! ui g f aj h]|uu x=>by have ih:=cW f g v r;rw[xi (mF ((k,x)::r)=(if k=f then uu v else uI::mF r))];by_cases hk:k=f;(.rw[ao hk];by_cases h:g=k;(.rw[HF ap (g==k) (lN (h.trans hk))]);.rw[P! ui g k (aj λ e:g=f=>h (e.trans FZ))]);.rw[aj hk];by_cases h:g=k;(.rw[HF ap (g==k) (aj λ e:g=f=>hk (h.symm.trans e))]);.have hb:ui g k:=F0 h;simp only[Gk,hb];exact ih
MF(f:aN)(v:V):∀fs:p5,f∈Li DU/\∀g,g∈fs.map (·.1)->g∈Li DU|[]=>#[FI,λ g h=>by rw[bo]]|uu x=>by obtain⟨i1,i2⟩:=MF f v r;rw[xi (mF ((k,x)::r)=(if k=f then uu v else uI::mF r))];by_cases hk:k=f;(.rw[ao hk];subst hk;exact #[aM,λ g h=>by rw[jQ]]);.rw[aj hk];refine #[?_,cr g h];(.rw[dJ];rw[wK i1]);.rw[dJ]at h⊢;rcases JE with e|e;(.exact List.mem_cons.mpr eT e);.rw[wK (i2 g e)]
Ge(f:aN)(v:V):∀fs:p5,bp DU<=O2+1|[]=>gh|uu x=>by have ih:=Ge f v r;rw[xi (mF ((k,x)::r)=(if k=f then uu v else uI::mF r))];by_cases hk:k=f;(.rw[ao hk,gA,gA];exact aEj);.rw[aj hk,gA,gA];exact aDU ih
jl.some_of{v:V}{o:cC a!}(r:jl mP o):∃u,o=Z u/\ie:=by cases o with|ak=>exact fI (show kB from r)|ca u=>exact aW u ag r
jl.none_of{o:cC a!}(r:jl ak o):o=ak:=by cases o with|ak=>rfl|ca u=>exact fI (show kB from r)
auj{v:V}{u:a!}(r:ie):Sa u:=by cases v with|cB=>cases nB (u=Value.none);rfl|bl b=>cases nB (u=Value.bool b);rfl|cR i=>rw[tf t nB (∃t,u=Tb)];cases e;rfl|str x=>rw[tf t nB (∃t,u=Value.str x t)];cases e;rfl|iY b=>rw[tf t nB (∃t,u=Value.bytes b t)];cases e;rfl|qG b=>rw[tf t nB (∃t,u=Value.float b t)];cases e;rfl|cS a=>cases nB (u=Am);rfl|ty n=>cases nB (u=Value.type n);rfl
}
section
variable{P:dL}{w:dM}{H H':Hp}{h h':dN}{a C dx:aI}{fs gC:p5}
def z:={
Ku(aR:t9)(e:mO H):∃mA,wC h a dx C mA/\(∀f,jl (Gi f) (mA f))/\WD mA (fs.map (·.1))/\O2<=1000/\H dx=Z Ez:=by obtain⟨d,z,ne,ob,mA,n,r,q⟩:=(show fC P w H h a vQ fs from aR a _ e);exact(rL mA #[ob,n,ne] r q z d)
}
section z
def z:={
dS.get{K:cb}{C:aI}(c:dS K C)(f:aN):ap (WB K C f):=c.pg
cf.aij{K:cb}{C:aI}{f:aN}(n:wy K):O1 K C f=Z ak:=by unfold O1;rw[show IT K f ak from n];rfl
}
section
variable{X:Cx}{ae:a?}{σ:St}{H:Hp}{s:ay}{a C dx:aI}{fs:p5}{f:aN}{v:V}{A:c6}{E:bW}
def z:={
adx{b:aL}(I:av)(e:mO H)(c:up)(n:wy bQ)(l:PN f)(h:∀u s',iA s'->ie->Q u s'):H_ (OX v0 f b) Q E:=by refine BI (Ku fZ e) λ mA O r _ _ _=>?_;refine ah (jl.some_of (v:=v) (o:=mA f) (by rw[<-l];exact r f)) ar u hu ru;exact get_map l_ O (c.get f) c.hd n hu (auj ru) (h u _ my ru)
Ke{m:aN}{g:aI}{pl:ye}{Q:a!×cq->ay->Prop}(I:av)(e:mO H)(c:up)(k:mL bQ C m g)(l:J8)(h:Q (ed g,uo) s):H_ (O0 v0 m pl) Q E:=by refine BI (Ku fZ e) λ mA O r _ _ _=>?_;have hn:cw mA m:=jl.none_of (by rw[<-l];exact r m);exact ax1 l_ O (c.get m) k.at_ k.fn hn h
Qs{u:a!}{Q:w5}(I:av)(e:mO H)(c:up)(n:wy bQ)(hl:S4)(ry:rD y)(h:∀s',f6 (upd H a vQ Mf) s'->Q () s'):H_ (setAttr v0 f u) Q E:=by refine BI (Ku fZ e) λ mA O r wi _ ho=>?_;(have hz:dw fs.map ((·.1))<=F?:=by rw[qP,OS];exact aLi hl);refine aoC l_ O c.sa c.po n.aij c.hd wi hz λ h' O' sb=>h _ ?_;(have hd:∃o,CF dx o:=by obtain⟨o,_,_,e',_⟩:=O'.ns;exact #[o,e']);refine I.write (x:=a) (e:=dx) (by rw[dE e True.intro]) i0 ho (λ b q hb z=>nP jW sb.2 z) hd ?_;(refine #[by rw[aV O.ne];exact ho,?_,O.ne,O'.obj,_,O'.ns,yt g,cr g hg];(.rw[m4 (Ge f y fs) oF hl]);.show jl ((Mf).Gh g) (if g=f then EA else mA g);rw[cW];by_cases q:g=f;(.rw[ao q,ao q];exact ry);.rw[aj q,aj q];exact r g);.by_cases q:g=f;(.rw[q];exact(MF f y fs).1);.refine(MF f y fs).2 g (wi g gk (hg ?_));show dP (if g=f then EA else mA g);rw[aj q];exact z
Inv.made(I:av):f6 (upd (upd H d! z6 jA) jA (.ins C d! [])) {s with l5:=Qq push}:=by have e1:QU get? d!=Z vG:=Gf dm ag;(have e2:((Rf).push AU).get? jA=Z AU:=by have:=Gf (vF vG) (o:=AU) ag;rwa[WE]at al);have e3:QU Ns d! (λ _=>ak):=(b9 vG (th) _ e1 ag (λ e he=>B4 he) (λ _=>rfl));have I1:=Ad (I.laid (a:=d!) (o:=.own jA) (h':=Rf)) (λ b u q=>vZ q) gh #[_,e1];refine Ad (I1.laid (a:=JD) (o:=.ins C d! [])) (λ b u q=>vZ q) (Vu (WE _ _)) ?_;have ne:d!≠JD:=Sl;refine #[by rw[aV ne,aY],mG,ne,e2,L5,(Heap.Ns1.of_empty e3).at λ o q=>vZ q,λ _=>True.intro,λ y hy=>qO ag hy]
ahw{dk:dL}{w:dM}{env:Env}{e:bC}{f:aN}{aX:cT}{s:ay}(hb:WF e f env MB=MB)(h:g4 mI MB (λ o s₁=>i! mI A (OX o f au) Q E s₁)):g4 mI (eval iF O3 e f env) Q:=Attribute_any_ h (by rw[arm_eval_Attribute,hb])
}
section z
def z:={
asc.1(K:cb)(ta:TE)(f:aN):TE:=k! x P_ v (dS K C) (Q v H1)
GV.1(K:cb)(ta tv:TE)(f:aN):TS:=w6 tv y fG ta mw x (∃a C dx fs,sw/\mO H2/\dS K C/\wy K/\S4/\vY (upd H2 a vQ Mf))
SW.1(X:Cx)(op:zN)(rd:V->V->ci Hp VK):Prop:=∀(ae:a?)(s:ay)(σ:St)(H:Hp)(x y:V)(u v:a!)(Q:VK),av->nI->RelV y v->rd x y H Q->mQ (OG op u v)
aEw.1(K:cb)(ta tv:TE)(rd:V->V->ci Hp VK)(f:aN):TS:=w6 ta x P_ v (dS K C) fG tv mw y (rd v y H2 λ z H3=>∃fc gC,H3 a=Z (.ins C fc gC)/\gC.length<1000/\vY (upd H3 a (.ins C fc (bK f z gC))))
}
section
variable{X:Cx}{o e qN:bC}{f:aN}{aX pos' ZP:cT}{ta tv:TE}
def z:={
V'(he:bd e ta)(hb:WF e f dl mx=mx):bd iF O3 e f (asc bQ ta f):=by rw[ft,Hb ahw hb (fo he λ u s1 azM=>KQ azM λ x H1 I1 rx a C dx fs v ex ea c n l q=>?_),adx I1 ea c n l λ u' s2 I2 ru=>(aE v H1 I2 ru q)]
ik(ha:bd o ta)(hv:bd qN tv)(hs:OE qN Z rZ o f pos' pos.line dl=pure fT):PS X iF Assign [rZ o f pos'] qN (GV bQ ta tv f):=by rw[hW,<-plainObj_wpAny_Assign_Attribute (fo hv λ u s1 aI5=>aO aI5 λ y H1 I1 ry q=>be (mn ha _ I1 q) λ ov s2 alR=>av7 alR λ x H2 I2 rx a C dx fs ex ea c n l q2=>?_) hs];subst ex;obtain rfl:ov=Am:=rx;exact Qs I2 ea c n l ry λ s3 I3=>(cE σ _ I3 q2)
Zr{op:zN}{rd:V->V->ci Hp VK}(ha:bd o ta)(hv:bd qN tv)(OZ:SW X op rd):RT rZ o f ZP qN (aEw bQ ta tv rd f):=by rw[hW,<-wpAny_AugAssign_AttributeAny (fo ha λ ov s1 au8=>KQ au8 λ x H1 I1 rx a C dx fs v ex ea c n l q=>?_)];subst ex;obtain rfl:ov=Am:=rx;refine adx I1 ea c n l λ u s2 I2 ru=>be (gF hv s2 H1 _ I2 q) λ w3 s3 aJY=>aO aJY λ y H2 I3 ry q3=>be (gF OZ s3 H2 v y u w3 _ I3 ru ry q3) λ w4 s4 an3=>pN an3 λ z H3 I4 rz fc gC ea' l' q4=>?_;exact Qs I4 ea' c n l' rz λ s5 I5=>(cE σ _ I5 q4)
ahz.1:V->V->Hp->VK->Prop:=J2 i j eZ cR Nk H
ZY:SW X .Add ahz:=by rintro ae s σ H x y u v Q I rx ry⟨i,j,rfl,rfl,q⟩;obtain⟨t,rfl⟩:=(show∃t,u=Tb from rx);obtain⟨t',rfl⟩:=(show∃t',v=Value.int j t' from ry);exact PyProof.Rows.iadd_int s0 Nk
aMJ{pl:ye}{m:aN}{apos:cT}{kR:ls}{ae:a?}{s:ay}{σ:St}{H:Hp}{te:TE}(he:qf)(I:av)(h:md te x (∃a C dx fs g,sw/\mO H1/\up/\mL bQ C m g/\J8/\∀s1,f6 H1 s1->pE PF ed g uo kR Q s1))(ht:ez fy rZ e m apos kR=Ht mx m kR):i! pf X.A ez fy rZ e m apos kR Q o7 s:=by rw[Hb PL pl pl (fo he λ u s1 aJW=>KQ aJW λ x H1 I1 rx a C dx fs g ex ea c k l q=>?_) ht,Ke I1 ea c k l (q s1 I1)]
}
section z
def z:={
b7.mono{k:Y}{A:c6}(r:b7 k A)(h:j<=k):b7 j A:=#[r.hd,by have:=r.dp;exact aLf al h,by have:=r.un;exact aIq al h]
b7.deeper{k:Y}{A:c6}(r:b7 br A)(env:Env):b7 k DN env:=#[r.hd,by have:=r.dp;show O4+1+3*k+5<_;rw[ei Sn],by have:=r.un;show O5+3+16*k+200<_;rw[ei aop]]
auO{A:c6}{C:aI}:(A7).depth=O4+1:=by first|rfl|simp[O_,Code.weight,Code.isCreation,Code.isGuard,Code.isCaller,WG,O!,guardIds]
aDz{A:c6}{C:aI}:(A7).dI=O5+1:=by first|rfl|simp[O_,Code.cUnits,WG,O!]
b7.make{k:Y}{A:c6}(r:b7 br A)(C:aI)(us:cq)(kw:AZ):b7 k A7:=#[r.hd,by have:=r.dp;rw[auO];rw[ei Sn],by have:=r.un;rw[aDz];rw[ei aIw]]
b7.depth{k:Y}{A:c6}(r:b7 k A):O4<recursionLimit:=by have:=r.dp;rw[ei aFM]
b7.units{k:Y}{A:c6}(r:b7 k A):O5+64<cLine:=by have:=r.un;rw[ei aAA]
uX.1:TA:=λ _ H Q=>Q [] H
alD.1(ta:TE)(tr:TA):TA:=k! x fG tr mw xs (Q MV H2)
}
section
variable{X:Cx}{e:bC}{es:ls}{te:TE}{t:TA}{aX:cT}
def z:={
fH:PA X [] uX:=λ _ _ _ _ H Q I h=>Calls.spliced_nil x' [] I dW
iG(ha:qf)(hr:PA X es t)(hs:su):PA X gM (alD te t):=by intro aX ae s σ H Q I h;rw[hs];show i! _ _ (spliced ((false,mx)::GD)) _ _ s;refine Calls.spliced_cons (fo ha λ u s1 aKd=>aO aKd pC);exact be (hr aX ae s1 σ H1 _ I1 q1) λ us s2 auw=>aO auw G? xs r2 (aE MV H2 I2 (.aQ r1 r2) q2)
ale.1(t:TA):TE:=Rg p p nQ
EW.1(t:TA):TE:=Rg p p Ut
TB{x1}(h:PA X es t):bd (.Tuple es x1 aX) (ale t):=by rw[jk H Q hq,<-wpAny_Tuple_spliced (Gz h hq λ us s1 aum=>fR aum λ xs H1 I1 r z q=>yB (by rw[<-lJ];exact z))];have hf:cw H1 l!:=AV;refine Qa nQ e q;exact(eM z us r (FP _ Bq ag _ ag))
mV(h:PA X es t):bd (.List es aX) (EW t):=by rw[jk H Q hq,<-wpAny_List_spliced (Gz h hq λ us s1 aCS=>fR aCS λ xs H1 I1 r z q=>yB (by rw[<-lJ];exact z))];have hf:cw H1 l!:=AV;refine Qa Ut e q;exact(o_ z us 0 r Bq)
}
section z
def z:={
ej.mono{P:dL}{w:dM}{K:cb}{mg:g7}{eS:dN}{CX:mY}{j k:Y}{f:aI}{fd:zP}{ps:e_}{sp:Sp}(F:z3 xE eS j)(h:j<=k):z3 xE eS k:=#[F.len,λ A d9 s H kR us vs Q E hr=>F.run A d9 s H kR us vs Q E (hr.mono h)]
ej.imp{P:dL}{w:dM}{K:cb}{CX:mY}{k:Y}{f:aI}{fd:zP}{ps:e_}{sp VL:Sp}(F:z3 xE eS k)(h:∀vs H Q E,VL vs H Q E->sp vs H Q E):xE eS CX k f fd ps VL:=#[λ vs H Q E q=>F.len vs H Q E (h _ _ _ _ q),λ A d9 s H kR us vs Q E hr he hb hv hs=>F.run A d9 s H kR us vs Q E hr he hb hv (h _ _ _ _ hs)]
vH.make{P:dL}{w:dM}{K:cb}{A:c6}{s:ay}{H:Hp}(e:J_ vH eS A)(C:aI)(us:cq)(kw:AZ):J_ vH eS A7:=#[by first|exact e.frames|(simpa[O_,Code.envs,O!,pushEnvs]using e.frames),e.mod,e.bs,e.pq,e.mj,e.r_,e.aR,e.bare]
}
section
variable{X:Cx}{ae:a?}{σ:St}{H:Hp}{s s':ay}
def z:={
Inv.QD(I:av):k0 vH bQ oZ jb X.A kQ s H:=#[I.ok.frames,I.ok.mod,I.bs,oF I.ok.pq I.sz,I.stack,I.ZT,fZ,l6]
Inv.after{Q:VK}{u:a!}(I:av)(h:CE kQ o0 X.w H s Q u s'):Cy u s':=by obtain⟨v,H',os,bare,un,aR,r,q⟩:=h;obtain⟨hh,g,d,t,os'⟩:=s';obtain rfl:os'=s.os:=os;exact(aE v H' (I.call (h':=hh) (g':=g) (d':=d) (t':=t) (ch:=[]) un aR bare (λ b z=>B4 z)) r q)
}
section z
def z:={
Uy.1(sp:Sp)(f7:cl)(E:XK)(t:TA):TE:=ju t vs (sp pR H1 Q E)
Wf.1(C:aI)(m:aN)(sp:Sp)(f7:cl)(E:XK)(ta:TE)(t:TA):TE:=k! x (∃a dx fs,sw/\mO H1/\J8/\fG t mw vs (sp (x::pR) H2 Q E))
Sx.1(C:aI)(sp:Sp)(f7:cl)(E:XK)(t:TA):TE:=ju t vs (∀x dx,dP (H1 x)->cw H1 dx->dx≠x->SN (upd H1 dx uD) v x)
Binds.1(K:cb)(fd:zP)(ps:e_)(ds:cq):Prop:=∀(s:ay)(us:cq),tS->bp qu=vI->BindsTo s fd #[us,[]] Ep qu
Binds.all{K:cb}{fd:zP}{ps:e_}(h:∀us:cq,gu=vI->bindArgs fd #[us,[]]=pure (ps.zip us)):Binds K fd ps []:=λ s us _ hl=>by rw[oy]at hl⊢;exact .of_eq (h us hl)
rS.1(CX:mY)(X:Cx)(E:XK):Prop:=∀(ae:a?)(σ:St)(H:Hp)(s:ay)(e:a!)(s':ay),av->CX kQ H s E e s'->o7 e s'
}
section
variable{X:Cx}{CX:mY}{k:Y}{f C:aI}{fd:zP}{ps:e_}{sp:Sp}{f7:cl}{ds:cq}{E:XK}{x m:aN}{p aX apos:cT}{e o:bC}{es:ls}{ta:TE}{t:TA}
def z:={
BF{ae:a?}{σ:St}{H:Hp}{s:ay}{Q:VK}(F:mS)(hr:yf)(hb:nl)(hd:nY)(hx:n5)(I:av)(r:yd)(h:sp pR H Q E):mQ (call (.cS f) us):=by have r2:bN pR qu:=r.append hd;(have hl:bp qu=vI:=by rw[<-r2.length];exact F.len _ _ _ _ h);refine wpAny_call SF (F.run X.A kQ s H #[us,[]] qu pR Q E hr I.QD (hb s us l_ hl)) h hq;cases r with|lI e=>exact hx ae σ H s e s' I hq|ok fl=>cases fl with|ret u=>exact I.after hq|im=>rw[m5 hq]|brk=>rw[m5 hq]|l8=>rw[m5 hq]
afj(F:mS)(hr:yf)(hg:lC)(hm:tH lw)(hk:Sj bQ lw)(hb:nl)(hd:nY)(hx:n5)(ha:xz)(d_:jT)(he:su)(a_:wD):bd fy mv p gM (Uy sp f7 E t):=by rw[P5 hk ay2 ay2,BF F hr hb hd hx I1 r q]
aLu(F:mS)(hr:yf)(hg:lC)(hm:tH lw)(hk:Sj bQ lw)(hb:nl)(hd:nY)(hx:n5)(d_:jT):bd fy mv p [] (Uy sp f7 E uX):=by rw[Au sy C1 ?_ d_,O? l_ hk (BF (us:=[]) F hr hb hd hx I dW h)]
OT{pl:ye}(he:bd o ta)(c:up)(hm:mL bQ C m f)(F:mS)(hr:yf)(hb:nl)(hd:nY)(hx:n5)(ha:xz)(bw:su)(a_:wD)(ht:jx ez fy BT gM Ht KW m gM):bd fy BT gM (Wf C m sp f7 E ta t):=by rw[PX afA afA (λ x H1 I1 rx a dx fs ex ea l q=>?_),<-WH (first:=uo) (h₀:=jb) WI hm.kp (be (ha aX ae s1 σ H1 _ I1 q) λ us s2 apU=>aO apU G? vs r #[I2.jH,?_]) bw a_,BF (us:=.cS a::us) (vs:=.cS a::vs) F hr hb hd hx I2 (.aQ ag r) q2]
Xl{pl:ye}(he:bd o ta)(c:up)(hm:mL bQ C m f)(F:mS)(hr:yf)(hb:nl)(hd:nY)(hx:n5)(ht:jx ez fy BT [] Ht KW m []):bd fy BT [] (Wf C m sp f7 E ta uX):=by rw[PX ahX ahX (λ x H1 I1 rx a dx fs ex ea l q=>?_),O? (first:=uo) I1.jH hm.kp (BF (us:=uo) (vs:=uo) F hr hb hd hx I1 (.aQ ag dW) q)]
aeU{ae:a?}{σ:St}{H:Hp}{s:ay}{Q:VK}(M:Mk bQ C f)(F:mS)(hr:K')(hb:nl)(hd:nY)(hx:n5)(I:av)(r:yd)(h:∀x dx,dP (H x)->cw H dx->dx≠x->SN (upd H dx uD) v x):mQ (call (.cS C) us):=by have hq:=h jA d! (Os (Nat.le_succ _)) z! Os Sl;have I2:=Inv.made (C:=C) I;have r2:bN (RH::pR) (G8::qu):=eP ag (r.append hd);(have hl:bp (HZ++ds)=vI:=by have e:=r2.length;rw[F.len _ _ _ _ hq]at e;exact zC);refine wpAny_call (age (f:=f) l_ M.makes M.init S3 M.fn SF (F.run _ kQ _ _ #[HZ,[]] (G8::qu) _ _ E (hr.make C us []) (I2.QD.make C us []) (hb _ HZ I2.jH hl)) hq fD);cases r with|lI e=>exact hx ae σ _ _ e s' I2 fD|ok fl=>cases fl with|ret u=>refine fR (I2.after fD) λ v H' I3 rv ev q3=>?_;subst ev;exact #[rv,(aE RH H' I3 ag q3)]|im=>rw[m5 fD]|brk=>rw[m5 fD]|l8=>rw[m5 fD]
Z2(M:Mk bQ C f)(F:mS)(hr:K')(hg:lC)(hm:tH mz)(hb:nl)(hd:nY)(hx:n5)(ha:xz)(d_:jT)(he:su)(a_:wD):bd fy mv p gM (Sx C sp f7 E t):=by rw[P5 M.kp api api,aeU M F hr hb hd hx I1 r q]
aG0(M:Mk bQ C f)(F:mS)(hr:K')(hg:lC)(hm:tH mz)(hb:nl)(hd:nY)(hx:n5)(d_:jT):bd fy mv p [] (Sx C sp f7 E uX):=by rw[Au sy C1 ?_ d_,O? l_ M.kp (aeU (us:=[]) M F hr hb hd hx I dW h)]
}
section z
structure aD(N P:e_)(sc:vy):Prop where
 kind:sc.kind=Ua
 co:sc.isCoroutine=false
 gen:sc.isGenerator=false
 nd:N.Nodup
 pre:N.take P.length=P
 par:nE P (Id\/Bj)
 aFk:kc Pa (y.2≠.ja)
def z:={
Q5{o!:Bz}{x:aN}:(Rx x nt o? binds x m)|[],_,_=>rfl|(n,v)::r,m,h=>by unfold o?;rw[Q5 λ w hw=>h w jD hw];split;(. (have:x≠n:=by rintro rfl;rw[RP v]);simp[al]);.rfl
Qe{o!:Bz}{x:aN}:(Rx x nt pa binds x m)|[],_,_=>rfl|(n,v)::r,m,h=>by unfold pa;rw[Qe λ w hw=>h w jD hw];split;(.rfl);. (have:x≠n:=by rintro rfl;rw[RP v]);simp[al]
aaO{o!:Bz}{x:aN}{v:a!}:∀{P:e_}{vs:cq}{i:Y}{m:g7},P.Nodup->ck P x->ck vs v->Gw o!->nt o? G6 x=Z v|[],_,_,_,_,h,_,_=>gq|n?,[],_,_,_,_,h,_=>gq|p::P,w::vs,0,m,nd,h1,h2,hk=>by simp at h1 h2;subst h1;subst h2;show nt o? DJ p=_;unfold o?;rw[Q5 λ v hv=>R5 nd Jj hv,ao hk];simp|p::P,w::vs,db,m,nd,h1,h2,hk=>by rw[R7 nt o? DJ x o? aaO]
Rc{o!:Bz}{x:aN}{v:a!}:∀{P:e_}{vs:cq}{i:Y}{m:g7},P.Nodup->ck P x->ck vs v->o! x≠Z .local->nt pa G6 x=Z v|[],_,_,_,_,h,_,_=>gq|n?,[],_,_,_,_,h,_=>gq|p::P,w::vs,0,m,nd,h1,h2,hk=>by simp at h1 h2;subst h1;subst h2;show nt pa DJ p=_;unfold pa;rw[Qe λ v hv=>R5 nd Jj hv,aj hk];simp|p::P,w::vs,db,m,nd,h1,h2,hk=>by rw[R7 nt pa DJ x pa Rc]
zR.1(N:e_)(vs:cl):St:=vs.map ca++G9 (Pb - zO) ak
}
meta def iq(CX:mY)(P:dL)(w:dM)(K:cb)(mg:g7)(eS:dN)(N:e_)(rl:aN)(oR:vy)(f:aI)(cd:a!)(A:c6)(d9:uj)(s:ay)(H:Hp)(E:XK):Cx where dk:=P;w:=w;K:=K;mg:=mg;eS:=eS;A:=DN se;N:=N;ip:=s;Av:=H;env:=se;d9:=d9;stack:=se::d9;ex:=[];calm:=au;fn:=λ _=>au;pn:=[];xe:=λ e s'=>i! A2 DN se (leaving se e) n1 JZ (CX d9 H s E e JZ) (λ e' JZ=>CX d9 H s E e' JZ) s'
def z:={
WO{sc:vy}{x:aN}(h:Bj):∃c,(cellsFrom n Pa []).Gh x=Z c:=by have q:=WK Pa n [] eT h;exact Option.isSome_iff_exists.mp q
avr{CX:mY}{P:dL}{w:dM}{K:cb}{ps:e_}{f:aI}{cd:a!}{A:c6}{s s1:ay}{H:Hp}{E:XK}(S:aD N ps oR)(hd:A.handled=ak)(e0:J_ vH eS A)(hl:SC)(r:yd)(x:InCallC s d! (o? Qp Ep us L5) R8 (pa Qp Ep us L5) s1):Inv G' P w cd [] D7 H s1:=by(have a_:vI<=Pb:=by have:=vX List.length S.pre;rw[or]at al;rw[ei axP]);(rw[dz (dc x.done λ h1 tk ap4 hk=>?_) ap4]);have yC:∀b:aI,b∉(G' P w cd).ex:=λ b z=>B4 (show b∈([]:nC)from z);(refine #[#[e0.mod,S.kind,rfl,rfl,gh,λ y z c h1 h2=>?_,cr y hy,λ y c _ h=>?_,λ _=>hd,Around.frames_deeper e0.frames,.inr #[rfl,rfl],λ b z=>qO z (yC b),e0.bs,e0.pq,λ b _ _=>yC b,λ b z=>qO z (yC b),e0.mj,e0.r_],rfl,e0.bare,F4 hk,(py x.toInCall.ns λ i y v h1 h2 h3=>?_),λ y c h=>#[_,x.cell y c h],z! WL,ar y c h,λ p hp=>B4 (show p∈([]:a?)from hp),e0.aR.kept hk,?_];(.exact name_of_addr x.apart Jl h1 Jl h2);.have hy:Ix y EQ\/Ix y .ja:=hy;rcases hy with hy|hy;(.exact WO hy);.rw[lg (S.aFk _ Jl hy)]);((.exact Fl (x.above y c Sh));. ((have hi:i<zO:=by unfold zR at h2;by_cases hi:i<zO;(.exact hi);.rw[NU (by simpa using hi)]at h2;rw[NQ]at h2;split at h2<;>cases h2);have ha:ck vs v:=by unfold zR at h2;rw[FH (by simpa using hi),qQ]at h2;cases e:vs[i]? with|ak=>rw[bO e h2 h2]|ca a=>rw[bO e h2 h2];rfl);refine ah (r.get ha) ar u hu rv;(have hp:ck ps y:=by rw[<-S.pre,VB (by exact Nu hi hl)];exact h1);(have ndP:ps.Nodup:=by rw[<-S.pre];exact S.nd.sublist (List.take_sublist _ _));refine aW u rv ?_;rcases S.par y (VT hp)with k|k;(.rw[k7 #[k,aaO ndP hp hu k]]);.rw[tf c (WO (n:=JD) k),<-.inr (eM eT k c e ?_)];have q:=x.cell y c e;rw[Rc ndP hp hu (by show Pe y≠_;rw[k];decide)]at q;exact q);(.exact WL (Fl (x.above y c Sh)));.unfold zR;show _=Pb;rw[i6,qP,List.length_replicate];exact aqF hl a_
aGJ{CX:mY}{P:dL}{w:dM}{K:cb}{k:Y}{f:aI}{dn:aN}{params:Arguments}{dV kV doc pm aK ct oc:a!}{an od:C?}{rC:Du}{ps:e_}{sp:Sp}(lk:K.lookup f=Z #[oc,od,.func (SU dV kV doc pm an aK ct),rC])(gW:ap (PySem.W.codeIn K aK rl))(S:aD N ps oR)(len:∀vs H Q E,sp vs H Q E->SC)(CY:∀(A:c6)(d9:uj)(s:ay)(H:Hp)(vs:cl)(Q:VK)(E:XK),b7 k DN Pi rl oR aK->sp vs H Q E->∃t,il HD rk t/\t {nx:=λ _ H'=>Q .cB H',rt:=Q} D7 H):xE eS CX br f (SU dV kV doc pm an aK ct) ps sp:=by refine #[len,λ A d9 s H kR us vs Q E hr e0 hb r jJ=>?_];have hl:=len _ _ _ _ jJ;have KX:tS:=e0.mod.zV.keeps eH o e A4 e0.bs;have lim:s.heap.NoLimit:=e0.mod.nolimit.keeps eH o e A4 e0.bs;(have LZ:∀y∈Ep us,Ix y.1 .local\/(Pe y.1=Z EQ/\ap ((R8).Gh y.1).isSome):=λ#[n,v]hy=>by rcases S.par n Jj hy with q|q;(.rw[k7 q]);.rw[nw #[q,WK _ _ _ eT q]]);refine codeAny_call_function hr.depth eF KX lk ag S.co S.gen ag (PySem.W.codeRec_of KX gW) (hb _ _ _ _ ?_);refine wpAny_newFunctionEnv_cells S.kind LZ λ env he s1 x=>?_;subst he;refine #[lim.keeps x.toInCall.keep,codeAny_func ?_];refine ah (CY A d9 s H vs Q E (hr.deeper _) jJ) ar t ht hq;have I:Inv HD [] D7 H s1:=avr S hr.hd e0 hl r x;refine Oy (ht [] s1 D7 H _ I hq) hX fl s' hs λ e s' hs=>hs;have fin:∀{bI:St}{H':Hp}{v:V}{u:a!},Inv HD [] bI H' s'->ie->Q v H'->CE d9 P w H s Q u s':=λ{bI H' v u}J rv q=>(Ba v H' J.os J.bare J.base J.aR rv q);cases fl with|ret u=>refine gN hs λ v bI H' J rv q=>?_;exact fin J rv q|im=>refine dc hs λ bI H' J q=>?_;exact fin (v:=V.cB) (u:=Value.none) J ag q|brk=>rw[<-dc hs λ _ _ _ q=>?_,m5 q]|l8=>rw[<-dc hs λ _ _ _ q=>?_,m5 q]
}
section
variable{X:Cx}{x:aN}{p aX:cT}{e:bC}{es:ls}{t:TA}{id T:String}{r:cl->v6}
def z:={
UU.1(r:cl->v6)(t:TA):TE:=ju t vs (r vs H1 Q)
Qt(hc:kF X (.OU id) r)(hg:lC)(hm:Lm)(hv:Ji (.OU id))(ha:xz)(hn:II x)(d_:jT)(he:su)(a_:wD):bd fy mv p gM (UU r t):=by rw[Us PyProof.Rows.callWith_builtin1 aBt aBt]
aAW(hc:kF X (.type T) r)(hg:lC)(hm:Lm)(hv:Ji (.type T))(ha:xz)(hn:II x)(d_:jT)(he:su)(a_:wD):bd fy mv p gM (UU r t):=by rw[Us OQ aAM aAM]
}
end
mutual section
def z:={
lP:=PySem
lQ:=PyProof.Rows
eG:=prog
cr:=Program
cs:=World
dy:=Around
a7:=Value
ax:=Shared
a3:=Int
ab:=Addr
vA:=IsTup
gv:=s.heap
M6:=vs.toArray
M7:=ws.toArray
b6:=s.heap.objs.size
rp:=heap
lW:=s.heap.push
rq:=data
cv:=hsz
zr:=vs.length
rB:=sizeLine
fj:=wpAny
Z:=rfl
U3:=PySem.F.slot_tuple_add
U4:=PySem.F.entry_tuple_add
jL:=List.size_toArray
Y:=Nat
a!:=none
dJ:=some
kE:=if_neg
vC:=Int.toNat_natCast
hC:=if_pos
U7:=Nat.min_le_right
U8:=Builtin.Slice.sliceAdjust
M8:=if_false
U9:=Builtin.Slice.slicePlaces
o!:=if_true
o?:=IsPart
U_:=slicePart_none
U':=Builtin.Slice.sliceApplied
kG:=pure
e?:=wpAny_bind
fa:=wpAny_pure
bC:=true
M9:=List.range
cc:=this
fK:=items
hE:=items.size
rD:=getItem
Fu:=List.length_take
M':=List.length_drop
M!:=Array.length_toList
kI:=Nat.le_refl
zu:=s.TypeIs
zv:=wpAny_holding
Fy:=ht.typeIs
U!:=Str.ofString
U?:=PyProof.Rows.slot_tuple_getitem
Fz:=wpAny_typeOf
jN:=Bool.and_eq_true
FA:=wpAny_newObj_type
pc:=PySem.Spec
da:=scope
eX:=Scope
a4:=Str
fc:=iter
a6:=Expr
bT:=PySem.W.Frag
jO:=cells
d0:=Heap
aN:=pins
l0:=X.prog
gA:=X.env
l1:=X.xe
M?:=intsAre_of
iO:=V.int
cd:=nil
Nc:=List.map_nil
bn:=cons
jP:=List.map_cons
al:=pos
bi:=Pos
Vb:=evalPart_none
eI:=RelV
zw:=builtin
Nd:=Subscript
Nh:=Subscript_
Ve:=s3.heap.push
vD:=List.toArray
Vf:=Heap.get?_push_of_some
l2:=s3.heap.objs.size
Ni:=subscriptTail
gE:=_H.cA
b4:=xs.length
dL:=tup
a?:=X.K
hG:=I.tuple
bH:=hlen
zA:=aF.toArray.size
zC:=I.laid
zD:=s.toks
Nj:=I.aR.fresh
vE:=Nat.le_trans
FB:=ys.length
zF:=List.length_append
FD:=i.toNat
Nm:=Option.some.inj
Nn:=seqIndex_of
No:=seqIndex_neg
Nq:=List.getElem?_eq_some_iff.mp
FF:=subscripted
iQ:=false
Nt:=operate
iU:=value
l3:=slice
kM:=String
fN:=I.list
zG:=r.length
eY:=fin
rE:=pl.isList
Vg:=pl.isList.typeIs
Vh:=slot_list_getitem.lookup
FH:=Obj.mapSeq
gH:=aF.toArray
Nu:=s.heap.get?
rF:=I.aR
Vi:=its'.toArray
Vl:=s.heap.update
Vo:=Heap.get?_update_self
Vp:=Heap.get?_update_other
zH:=Ne.symm
pi:=trans
Vq:=List.length_set
FI:=sliceBounds
zI:=aF.length
Vr:=Heap.get?_push_size
bM:=Bool
Nv:=Bool.false_ne_true
FJ:=List.all_cons
rG:=List.any_cons
FL:=List.mem_cons.mp
Nw:=compareOp
np:=NotIn
vF:=vals1
zJ:=I.tok
zL:=h'.get?
Vs:=call_list_seq
zM:=I.kept
Vu:=h'.objs.size
nq:=False
gK:=apos
Vv:=attributeBase
FM:=backToKw
l4:=Call
zN:=Attribute
Vx:=Calls.callWith_builtin
Vy:=Calls.evalArgs_plain
Ny:=Builtin.List.listTooLong
FN:=decide_eq_false
NC:=call_meets
FQ:=r.append
VA:=km.toArray.size
FR:=Bool.and_false
ND:=km.toArray
VF:=Nat.le_add_right_of_le
nr:=V.bl
FS:=Value.bool
zO:=bN.IA
FU:=Value.ref
VG:=s.heap.IsList
vG:=intItems
NE:=nums_intItems
VI:=List.take_of_length_le
zP:=ns.length
zQ:=xs.size
VL:=intItems_at
NF:=numAt_eq
VM:=PySem.getD_mem
hJ:=List.length_map
VO:=Nat.lt_of_le_pred
zR:=I.ok.hd
FV:=hl.isList
NK:=rv.ints
iV:=s₂
pj:=Heap.lt_size
VS:=wpAny_pyIter_list
nu:=Nat.ne_of_lt
rM:=List.getElem?_map
VU:=Option.map_eq_some_iff.mp
VW:=List.getD_eq_getElem?_getD
VX:=wpAny_truthy_bool
NL:=any_range
l5:=List.length_cons
VY:=List.range_succ_eq_map
VZ:=List.any_map
NN:=all_range
V2:=Nat.lt_irrefl
FW:=PyData
F1:=Dp.reads
V3:=Dp.readsAll
F5:=SeqAt.shaped
NQ:=PyData.eqv
F7:=X.A.units
vH:=cLine
dP:=names
zU:=sc.names.lookup
NR:=NameKind
bd:=acc
NS:=cells.lookup
NU:=env.cells.lookup
F8:=env.cells
V5:=List.forIn_nil
V6:=NameKind.free
F9:=List.mem_cons_self
nv:=scope.names
NV:=mem_lookup
z0:=List.lookup_cons
pk:=cellsFrom
z1:=h.objs.size
NW:=pushCells
rN:=Heap.size_push
V7:=pushCells_keeps
F_:=Nat.le_of_succ_le
NX:=Nat.lt_succ_of_lt
NY:=globals
F':=closure
fS:=qual
V9:=newFunctionEnv
V_:=Option.isSome_some
V!:=NameKind.cell
rO:=beq_iff_eq
vO:=scope.names.lookup
vQ:=own.map
rU:=wipe
V?:=List.getElem?_eq_none
br:=outer
F!:=X.env.scope
e7:=X.N.Nodup
Wa:=X.env.cells
NZ:=X.env.cells.lookup
F?:=ok.free
z4:=eT.locals
Wc:=eT.cells.lookup
z5:=PySem.mem_of_lookup
N0:=ok.uniq
N2:=eT.kindOf
Wd:=Nat.lt_of_lt_of_le
We:=List.mem_map.mp
Wf:=List.mem_of_getElem?
N3:=X.env.scope.names.lookup
z6:=isTrue
Ga:=target
l6:=s₁
rX:=s₃
N4:=codeAny
N6:=ListComp
d6:=σ2
hM:=pos'
Wj:=foldedSetIterable
Gb:=s2.heap.objs.size
N7:=Nat.le_of_eq
Gc:=Nat.zero_le
N8:=ce.locals
a2:=σ'
N9:=Bool.false_eq_true
po:=Assign
l7:=D.nx
Wm:=List.all_eq_true
jQ:=decide_eq_true_eq
z7:=Bool.or_eq_true
Wo:=DecidableEq
gL:=putK
rZ:=aq.map
z8:=decide_eq_true
N_:=Option.map_some
pp:=aq.length
Gd:=List.length_nil
z9:=o.isSome
N':=valueAt
Wr:=h1.symm.trans
Ge:=h1.trans
Gg:=stored
Wt:=Paired.snoc
N!:=Paired.length
N?:=Option.isSome_map
Gh:=sysModules
z_:=tupleKind
r3:=Nat.lt_trans
Ob:=rel.val
Oc:=dd.mapOf
Od:=tupleKind_room_in1
Oe:=h'.DictOf
z!:=dd.typeIs
Gi:=pos.line
Og:=beq_eq_false_iff_ne.mpr
Wu:=Heap.DictOf.new
z?:=values
kN:=more
Gk:=merged
Wx:=keys.length
b!:=base
Wy:=PySem.F.slot_dict_get
WA:=Calls.spliced_cons
WB:=getattributeRaised
db:=rest
Oi:=rest.length
WC:=codeAny_builtin
Oj:=Around.under_plainId
pr:=A.in1
px:=holding
WD:=wpAny_tryCatch
WE:=wpAny_seqItems
WF:=Nat.le_of_add_right_le
WH:=plainId_quiet
Gm:=dY.extBut
Om:=prs.length
WI:=Builtin.Dict.updateFrom
WJ:=h1.objs.size
On:=Value.none
WL:=Nat.ne_of_gt
Go:=Nat.zero_add
WM:=IsRangeIter
WO:=Builtin.Range.rangeSize
gQ:=X.mg
WP:=Builtin.bitAnd
pB:=Stmt
Gr:=FuncData
WU:=PySem.W.fnOf
Gs:=Nat.lt_of_le_of_lt
pF:=aj.refl
WV:=Option.none
l8:=best
Aa:=argBest
Oo:=toString
iW:=kept
Op:=updateSeq
Gu:=wpAny_updateSeq
Oq:=wpAny_letGo
Ac:=s.trans
dB:=_L.St
iY:=s1.trans
r4:=s2.trans
eN:=Ev.of
l_:=aL.p
Gw:=of_decide_eq_true
Os:=Constant
nw:=X.env.kindOf
Ot:=Operator
r5:=ha.later
Gx:=hb.later
r9:=s3.trans
pG:=Bool.true_and
WW:=Bool.false_and
Ad:=h.later
l!:=later
Ae:=whole
vR:=Te.of
Af:=Tw.of
f8:=e.now
WX:=PySem.W.keepIn
vT:=X.base
Ag:=List.append_nil
Gy:=getMethod
r_:=ho.later
nz:=hv.now
i0:=aJ.of
vU:=hi.later
Gz:=σ.set
GA:=he.later
pH:=bootBuiltins
vX:=h.now
GC:=hu.later
eO:=body
GE:=hi.toNat
GF:=hu.now
Ou:=xs.take
Ow:=List.take_add_one
GG:=filter
GJ:=List.range_succ
nB:=List.map_append
Oz:=List.filter_append
OB:=List.filter_cons
OD:=List.length_range
hO:=args
d7:=pre
fU:=post
Ai:=e1.now
WY:=Builtin.List.listExtendWith
OE:=_E.lexLe
WZ:=wpAny_Call_Name_kw
Ak:=Got.imp
vY:=l.map
OF:=List.append_assoc
vZ:=l.length
r!:=Mt.Range
l?:=Mt.Row
GK:=Mt.Seq
Am:=Mt.Book
r?:=d.ps
OG:=Mt.MAPS
ma:=d.book
OK:=_B.valAt
An:=Mt.scalar
OL:=z.toNat
W0:=Bool.not_eq_true'
W2:=Bool.and_eq_false_iff
Ao:=decide_eq_false_iff_not
gR:=c.Book
v0:=hR.ex
GL:=q.last
mb:=aC.of
Ap:=vK.nd
ON:=A.bj.cl
v1:=A.g.cg
GM:=PassesOwn.never
Aq:=List.getElem?_eq_getElem
v4:=Mt.isSyllable
GN:=Bool.eq_iff_iff
OO:=Mt.syllable
mc:=congrArg
sa:=rows
v6:=Sum.inl
d!:=r.scalar
sf:=r.to
v8:=Mt.flag
GO:=d.ns.length
W4:=d.book.maps
W6:=List.find?_cons_of_pos
W8:=List.find?_cons_of_neg
Ar:=Mt.map
GQ:=Mt.prop
sg:=hR.cu
GT:=hR.later
As:=Mt.canon
sh:=_B.dO
OP:=Mt.apart
OQ:=Mt.sorted
GX:=List.map_map
OR:=eq_comm
W9:=Bool.eq_false_iff
si:=aQ.cu
GY:=Mt.ends
OU:=Bool.not_not
OW:=Mt.isJamo
W!:=List.length_eq_one_iff.mp
OY:=PyData.int
G0:=PyData.depthAll
OZ:=PyData.depth
G1:=PyData.canLayAll0
O1:=PyData.canLay0
G2:=PyData.eqvAll
W?:=Int.ofNat_inj
O2:=namesOk
Xa:=of_decide_eq_false
v_:=r.value
v!:=r.value.testBit
G3:=A.g.uG
O3:=Bool.not_eq_false'
G4:=Mt.weight1
Xb:=PySem.W.kbt_mask
O4:=Mt.weight2
G6:=Mt.weight3
ad a:=dJ a
cP a:=List a
fl a b c:=a X σ H b c
hV a b:=autoParam a b
v?:=by decide+kernel
fe a:=a (by rw[v?])
O:=fe aH
a5 a b c:=aD a b (aw c)
sk a b:=a b gA
d? a:=a->Prop
bD a:=.ref a
i3 a b:=cP (a×b)
At a:=hV a aA._auto_1
bF a b:=a _ _ b
pI a:=sk starEach a
au a b c:=λ a b c=>?_
dk a:=.int a
fW a b:=fl aB a b
f9 a b:=At (a=b)
cx a:=.ref a
bm a b c:=af a b c
kP a:=a->d? Hp
ef:=a.2
pJ a:=i3 a4 a
fo a b:=fl Ev a b
eZ:=.Name
cJ a:=(a:a3)
hW a:=aj H H1->a
bb a:=a=bC
b5 a b:=by refine a;subst b
nE a:=sk eval a
nF a:=Option a
bv:=aa 0
bQ:=cP V
dQ a b:=by refine a b ?_
f' a:=λ H1 s1 Q q=>a
md a b:=model a b
e9 a b:=af _ a b
bh:=pJ ab
dV a b c:=H a=ad (.b c)
d1 a:=λ H1 s1=>a
fq a b:=Inv X aN σ a b
ca a:=a=a!
bE:=kP V
bG a:=decide a
wa a:=hV a bS._auto_1
f? a:=.kG a
kQ a:=a (iY s2)
sm a b c:=X.cD a b da c fp
eh a b:=fW a dk b
wb:=rU σ (vQ (·.2))
gS a:=a (by kernel_rfl)
mi:=.type
ga b:=b=cx a
bA:=cP ab
gV a:=bF s1 a
sn a b:=compEnvC da a b gA
bB:=Fs K mg c
wc a b c:=a b H3 (r4 s3) c
so a b:={cls:=a,rq:=b}
cS:=by decide
pK a b:=a ma b
i4 a:=.bl a
sq a b c:=f' (a (b s1) c)
ci a:=by refine e? a
fX:=e::es
wd a:=(false,nE a)
el:=aa 1
mj:=a.1.2
dl:=iY (r4 s3)
c9:=cJ n
gc a b c:=.a b c al
dH a b c:=a[b]?=ad c
mk a:=backTo al pI a
dI:=ef.1
ml a:=λ a=>?_
cW a:=(a).length
eq a b c:=by rw[b5 (ah a b) c]
nG a:=At (a=false)
c_:=ef.2
ge:=GQ ma
b? a b:=PE X a b
su a b c:=upd a b (.lst c)
kR a b c:=f9 pI a (wd b::pI c)
jR a:=e9 a Z
gX a:=a b=ad o
jS a b:=f9 a ad b
i6 a b c:=Bd X a b c N P
mm a b c:=∀a H1,hW (bc b H1->c)
fr a b c:=a aN b σ c
gf a:=λ v _ _ e=>a
hX a b:=a5 a ["book","record"] b
ck:=cP a7
cC:=fq H s
mn:=eZ y hM
nH a b:=a5 a ["at"] b
kS:=aM P w K mg b!
ft a b:=a (v:=vN b)
cY:=aa 2
sv a:=a->d? ax
nJ a b:=.l4 a b [] al
G7 a:=(wb).set i ad a
i7 a:=(a).imp
nK a:=nG ((mk a).any (·.1))
gY a:=.inl a
fz a:=Q a H2
nN a:=λ H2 s2=>a
mq a:=wa (a=ad .globalImplicit)
we:=mj.1
ff a:=∀H1,hW a
wf:=f? Z
pL a:=(a:a3)
cZ:=X.calm=bC
hY a b:=ae (ag a) b
pM a:=ae a ao
gg a:=fo a P
Aw a:=(a).book
mt a:=.ins C dx a
c!:=cP a6
hZ a b c:=by refine bL (a b) c
kT a b c:=by show fj _ a b _ _ c
kW:=Aw we
c?:=cP Y
Ax a b:=sq aL.v a nN b
h_ a b:=fl Te a b
eR:=.a!
gh a:=(a).toNat
kX a:=(a:a3)
jT a:=λ H3 s3=>a
dp:=cP a4
dt:=ml hx
AC:=G7 x
sw a:=a=bC
fY:=.free
kY a b c:=aj a H2->bc b H2->c
dW a b:=fW a i4 b
i9:=by rw[dQ hU _];dsimp only
d2:=sv a7
h!:=d? Hp
G9 a b:=r4 (a b)
er a:=nH ["at"] a
O5 a:=G9 r9 a
e_ a b:=bm a Z b
AD a:=dk (lo+a)
AI a:=.N6 elt [a] da al
pO a b:=(a).map b
mw:=sm s H0 sn cl C
dX:=by cases rx
du:=k+1
e4 a:=ag a
sx a:=Vf _ a
gl:=nF a3
jV a:=bF a e
ev a b:=by rw[a];exact b
gZ:=O5 s4
ez:=i3 ab Obj
gm a b:=by exact a b
jW a b c:=λ a H2 s2 b=>c
eS:=bD a
AJ a:=a<rB
eB:=cP pB
pP a:=wc q _ a
k1:=.zw
eU a:=λ _=>a
e5 a:=.int a
eV a:=pL (a:Y)
e6 a:=by obtain⟨t,rfl⟩:=a
g0 a:=a b hb
fh a b:=eN a b
AK:=bz gR H b d kk
pQ:=AD k
AL a:=d1 jR a
g3 a b c:=cK ON (a A) b c
pS a:=aj a H'
k3 a:=by refine bg (i7 a gf ?_)
fE a:=kG a
nO:=so (mi "dict") (.dict (vD []))
k4 a:=Ax r5 a
jX:=i+1
pT a b:=a a? H1 b xs
eC:=.cd
mx a b c:=a b H2 (iY s2) c
sy a b c:=a b=ad (.lst c)
sA:=nF a7
fG a:=kE a
gp b c:=λ a:b=>c
k8:=hO a
AM a:=wa (a=false)
pX a b:=aL.v kQ a jT b
fi:=fo o Po
i! a b:=by exact absurd a b
i? a b:=by rw[kT pr a b]
e! a:=hC a
wg a b c:=λ a b s4 h=>c
my:=mt fs
O6 a:=hV a gs._auto_1
pY:=kv.1
h? a b c:=by rw[a]at b;cases c
sB:=mi "list"
ib a:=λ H4 s4=>a
ig:=bD b
g4 b:=λ a H=>b
mz:=rU σ vs
nP:=bD a.1.1
nT:=[ea,eb]
mA a b c:=λ a b _=>c
jc a:=.inr a
AN a b c:=O6 (∀a,Wj b gA c=kG x)
p4 b:=∃a,ga v/\b
k_ a:=At sw a
ii:=cP Key
G' a:=λ _ a=>trivial
fI:=i3 κ V
g5:=kR fX e es
p7:=r5 s1
wk:=GQ kW
f6:=eh a i
G! a:=AL (i0 gV a)
mB a b:=jS (X.N[a]?) b
G? a b c:=aT (a A) hr b pM c G' _
Hb:=("__debug__":a4)
sC a b c:=aE _ _ a b c
sE:=cw st
jY a:=mm u (Po u) a
im a b:=behindInMarks a b
AO a:=pK Mt.ccc a
g6:=AM (x==Hb)
io a:=a _ _
nU a:=a=cx q
iz a:=by simpa using a
jZ a b c:=λ a b c=>?_
jd:=by simp
j0 a b:=by refine e? (a b)
p9 a:=a<=rB
sH a b c:=a l0 X.w b c
g7 a b c:=c7 a b gS b1 (λ _=>rfl) c
iB a:=a∈ns
sI a b c:=by intro aN s σ H a b c
je a:=i6 σ H (a::db)
wl a b c:={a with rp:=b,toks:=c}
sK a b c:=by refine iP (a b e) c
iD:=by have aQ:AK:=hR
gq:=i3 Key V
wn a:=(a:Y)
mG a c:=λ b o a=>c
Hc a:=a (by decide)
j1 a:=a<=rB
nV a:=ft bW a
AQ a:=λ _ _=>a
f7:=.cell
nW a b:=G? a b bv
AR a b c:=.Compare a [b] c al
nZ a b:=by exact a b
k!:=.seq
k?:=kP dB
AS a b c:=sq l_ a jW b hu c
g8:=a4->sA
AT a:=i3 a a7
sL a:=a hO d7 fU
wo a:=a ma
jj:=∀x,rU AC (vQ (·.2))=wb
iE:=kI _
wp a b c:=a mw b H elt c
j2 a b:={a with rp:=b}
Hd:=eZ "range"
mH a:=h_ a x
j3:=nE o
iI:=(b,d,kk)
j6 a b c:=λ u a b e=>c
gr a b:=λ a b=>?_
sM a:=so sB a
iK:=df X.N F! da own
g9:=aa 3
g! a b c:=a σ H λ b H1=>c
iL a b:=l_ kQ a b
sN:=bQ->Hp->d? VK
p_ a b c:=a X aN b c
AV a:=sk keywordEach a
p!:=jV s4
la a b c:=a _ _ _ b c
mI b c:=dM b a y c
jk a b c:=Bd.of a λ H1 s1 b n p=>c
gt:=V->V
jm a b c:=bp a b gS b2 (λ _=>rfl) c
jn a b:=fs.lookup a=ad b
wq a b c:=fj md l0 X.w X.A a b c s
jp a:=a _ _ _ _
j7:=nK es
jr:=pP wf
j_ c d e:=by obtain⟨⟨b,c,kk⟩,v,num,r⟩:=a;refine d hp e
sO:=j5 X da elt
mJ:=ns.map iO
AW a b c:=λ a H3 s3 h=>wc b c h
iM a b c:=upd H a (.b c)
n0:=gh (hi - lo)
jt:=gX Nu
j':=mq (nw x)
jv a b c:=by have a:b:=by simpa using c
g?:=.int
jx:=gY Z
iN a:=λ σ H Q=>a
AX a:=pK As a
wt:=e8 P w K mg b!
p?:=n - 44032
Hf a b:=a (kI b)
jy a b:=gc BoolOp .a b
wu a b:=a (fa b)
n1 a:=hV (a=false) _L.gz._auto_1
sP a:=λ s H0 C cl fp=>a
n3:=fz v
n4 a:=(a).l!
j! a b c:=by refine ah (a b) c
qa a b c:=dH xs a b->c
wv a b c:=ae (a b ai c) ao
mK b:=p4 dV a lst b
jB a:=by rw[hC a]
j?:=sx e
kb a b c:=fj md eG w A a b c s
Hg a:=a=ps.length
n6 a:=Nw a
lb:=kv.1
ww a:=a H2 s2
qb a b c:=kY a (b v) c
wz a:=sH a a? gQ
mM:=cP a3
mN a b:=a K H b xs
Hh a:=(false,nE a)
kc b c:=AR a .b c
sQ a b c:=swapsWith a b c gA
ke a b:=Nu a=ad b
qc:=Hc hr.mono
ki:=kS 1
kl:=kS 2
mO a:=dV a lst xs
lc a:=hX ["book","record"] a
sR a b:=a λ kv=>b
jC a:=a=ad v
AZ a:=-(2^62)<=a
kn:=by rw[sI Q I h]
Hi a b c:=a _ b (pF _) c
n8 a:=AS r_ u a
sT:=fU a
jD:=ad v
jE:=bD l
qd a b:=su H a b
wA b c d:=∀b H1,hW (Po c H1->∃a,ga u/\d)
A1 a b c:=.zN a b c
ko b:=mA a v (v=.bl b)
kr:=a5 N ps st
kt a:=fW a v
Hk:=mc nr ?_
qe a b:=a br s H0 b
qf a:=λ x=>a
jK a b:=(a).map b
ku a b:=fl Tw a b
sU:=aQ.later s1
sV a:=hY a ao
mP:=kR [o] o []
wC a b c:=by rw[sK a rF λ z hd b rel c=>?_]
sW:=Hf Nj _
wD a b:=λ a=>iO b
A3:=gu Wa nv []
qg:=[eb]
n9 a:=k4 pX Gx a
kw a b c:=Paired a b c
mR a:=a P w K mg
mW:=AN x fc x
sZ a b c:=fj md eG w a b c
mX:=d.book.props.getD k []
A4:=bD b6
n! a:=(a).toArray
kx a b:=a b aI aI hm
ky:=eI y u
ld a:=a5 ["number"] ["number"] a
lf:=pJ NR
lg:=eh b j
mY a:=by rw[k3 a];rw[e];rw[dQ mc nr]
kz:=cP α
m1 a b:=upd a z b
lh:=AJ b4
m2:=PG sm s H sn cl C mn (dC i)
lm:=fo fc Po
ln:=F7+1<vH
lp a b c:=a b H4 (r9 s4) c
m3 a b c:=a sm s H sn cl C b c
A5 a b:=gc Nd a b
lr a b c:=fo a λ b H=>c
m4:=bQ->h!
n?:=sL RQ
s0 a:=pO a f
Hl a b c:=if a=bC then b else c
qi a:=bb (An a)
ls:=α->bE
s_:=cA hE 0 lo
og:=d8 gR a.1 H
lv a b c:=a (b λ n=>.bl (c n))
kA a b:=λ x a H Q=>b
kB a b c:=λ _ a b=>c
Hm:=lo+hi
lw:=g i j
oi a:=show a by decide
lx:=kP α
qj:=by refine aG cN f? Hk
Hn:=N3 y=ad .local
lz a b c:=by refine a;subst b c
lA:=nF ab
lB a:=by rw[kE a]
m7 a b c:=a σ H1 λ b H2=>c
Ho:=wp aB AC (f x)
A6:=nJ (eZ x p) fX
oj:=by subst hv;rw[i9]
lG:=α->bQ
wE:=Hi q H1 wf
wF a b c:=af _ a (b c)
wG a b c:=fZ K a fS b c fd
s? a:=a d!
wH a b c:=by rw[hZ a b λ aF c pl hz=>?_]
m8:=Wc y=ad c
Hq a b:=pk a nv b
kC:=aa 4
om:=nK []
lH:=kX n
lI:=pS H
lJ a:=by exact a
lM:=b8 aq k
Hr:=Hg us.length
O8 a:=wv nV d! a G! bo
wJ a b:=λ a H2=>b
tc:=bD f
wK:=bD z
tf:=dk i
Hs:=by simp
on a b:=wq a p_ b σ Q l1
tj a:=∃q,nU u/\a
qk:=(n,k)
Ht:=kG (ps.zip us)
m9:=pJ V
Hu:=cW k8
m? a b c:=wpAny_mono a b c
na b c:=aE a b Z h1 c
oo a:=a (t':=zD)
wM:=eZ "self"
ql:=GT s1
oq a b:=by refine a;exact b
nb:=Array a7
Hv a:=AI #[mn,fc,a,0]
Hx a:=a=ps.length
A8:=ad .cell
nc a:=aj H1 H2->a
Hy:=lo+wn k
wP:=.function
Hz:=gV hb
wQ:=pM el
A9 a b c:=iq eK P w K mg b! N fS (aw st) a b c
ne:=cP Env
nf a:=ad (vN a)
ng:=vY vN
A_ a:=A.deeper (envOfC fS (aw st) b6 a aK)
or a b:=e9 p7 λ a H2 s2 e=>b
tp a b:=be (fr a s1 H1 _ I1 q1) b
ot:=V->sN
nh:=V->bM
tr a:=x=cx a
qm:=ww q
ts a b c:=λ a H1 _ b=>c
ni:=Hm/2
ox:=Vr _ Z
oy a b e:=a (js gR b (λ d r=>e))
oA a b:=a5 a ["numbers"] b
oC a b c:=by exact sC a wg d6 H4 b wg v H4 c
oD a:=by exact mc iO a
qn:=bD p
oG:=bD D
A! a b:=λ a b=>?_
wR:=O8 el
HA a b c:=a md l0 X.w X.A b c
qo:=sm s3 H3 ce
oJ a:=a<b6
A?:=cA hE hE hi
tw a b c:=∀Q:VK,(∀a H2,b)->c
nj:=p.1=k
oK a b:=by have:=a;exact b cc
wS a:=.l4 (Hd p1) a [] p2
HB a b:=a b (r4 s3)
HC a b c:=#[a "default",b,c]
oL:=iJ cJ v_
oM:=gg e
wT:=k1 "max"
oN a:=pT aJ a
tz b:=[nP,b]
tA a b c:=bm a b λ H2 s2=>c
Bb a b:=a F! b
wU:=.Tuple es x1 hM
qp:=kv.2
nk:=ja _
HD:=λ _ _=>Hs
tB:=AI #[tg,fc,ifs,0]
wV:=md eG w
tC a b:=a b dP bd
Be a b:=by cases x with|bC=>exact iZ a|false=>exact j8 b
qr:=hV (sw (X.fn y)\/Hn) sX._auto_1
oO a:=by exact .inr a
oQ:=AQ True
oR a:=nZ bg a
nl:=j+1
wW a b:=so a (.fields (vD b))
qt:=mB i y
wX a b c:=iw a b gS b3 (λ _=>rfl) c
qu:=cP bM
tD a b:=aE A4 _ a Z b
oS:=nF V
oV a:=mG hb a
wY a b:=a b d6 H2
oY:=b7 k X.A
Bf a:=λ H2 s2=>a
qv:=∀a,Hx Hu
qw:=by obtain⟨hR,hk⟩:=hp;dsimp only at hR hk
qy a:=mm vs (PL vs) a
qz a b c:=by rw[b5 (ah (ua hv) au u a b) c]
oZ:=x=false
o0:=cJ k
o1 a b:=a Pr w b mg
qA a b:=Pv a H->b
o2 a b:=vR a b
tE a:=bF s2 a
o3 b:=λ a v H=>b
tG:=qa k x Ho
qB a b:=wz a vT k x b
w1 a:=pO a wD k Hy
qC b c d:=by rw[eq b au a c h1 d]
qD:=wl s h' tk
qE a:=wu fa a
qF a b c:=∀p,ca (H a)->Q bD b c
qG:=Hr->bindArgs (WU x fS (jA st) sE (aw st) eR kV doc pm an aK ct) #[us,[]]=Ht
Bg:=su H4 D (bd++[y])
Bj a:=List.mem_cons_of_mem _ a
qH a b:=by unfold a;rw[ci b]
Bk a c d:=λ d6 H2=>rU d6 vs=mz/\tt d6 H2 λ a H3=>Hl b (te d6 H3 λ y H4=>∃bd,sy H4 D bd/\AJ acc.length/\c) d
o4 a b c:=a (λ vs H1 s1 hv Q b=>c) hg cS cS he a_
qJ a b c:=λ H H' v a s b=>c
o5:=KV aq vs
tI a:=wc q v a
qL a b c:=be (fr a s H _ b h) c
qM a:=nJ (a p) [o]
HE b c d:=Rn b (start c (hO d)) H sE sT
qN a:=a z=ad my
Bl:=.type
Bm a:=λ z=>a
O9 a:=a F.plain_max_loop _
w3:=su H2 D []
w4:=su H1 D []
qO:=fl fF fX PL
qP:=AT Key
Bn:=AX x
qR a:=A5 o a
tM a:=FL a
HF a:=a H2 (iY s2)
tN:=gX h2.get?
o7:=(b,d)
o8 a:=a H4 s4
w6 a:=a==V6
w7 a b:=by rintro H'⟨a,b⟩
qS:=pJ Y
qT:=fl eF es vs
O_ a b c:=a (vs:=vQ (·.2)) (σ:=b) (Qd:=λ c=>Q bD D H')
w9 a b c:=a (vQ (·.2)) σ b c
Bo a b c:=b9 _ dx a Hz ON b c
qU a b:=∀H2,aj a H2->b
w_:=kP Y
qW:=kX v_
qY a:=fW o a
qZ:=ca (gQ "range")
q4:=he s H0 C cl
HG:=FM al AV [HC dJ d kp]
O' a:=NW (a nO) nv
tO:=wA u u pT aC a
q5:=.zN o
q6:=FU a
w! a b c:=EP X aN σ a b c
w?:=xi X da c
q7:=ad ig
xa a b c:=a b c ?_ ?_ ?_
tP a:=IntsAre a ns
q_:=gL aq k v
q! a b:=a b! eK b f
tR:=mq (nw "range")
tS:=Hv []
q?:=false=bC
tU:=gg A6
xb a:=a el ai G! bo
t0:=f9 pI qg [Hh eb]
ra a:=(a).GG t
rb a b c:=nX X σ z a dx ns H b c
t3:=sM (k! gH n)
t4 a b:=by rw[i! (show a from b) Nv]
xd a:=λ k H'=>pS H2/\sy H' D s0 a
Bp:=vN dI
rc a:=ca (H1 a)
Bq a:=atKey a k
t5:=jc Z
Bs:=d7 a H1
HH a b c:=d1 wF (mb gV a) b c
Bt a b c:=by exact a b H' (r4 s3) ib e_ c p!
re:=(1:a3)
rf a:=bb (a x)
xg:=zJ _
rg a:=bm o e a
t6:=bF s h
rh:=dS a? C
xj a:=bF s5 a
rj:=cq ho ao he
t7:=#[cT hD,aY]
rl:=fT A hr
t8 a:=p v a gZ h
t9 a b:=aT (mC A) hr a (ae cY sV b) HD
t! a:=a5 ["scalar"] ["scalar"] a
t? a:=λ D hD=>a
xk a b:=λ H1 a=>b
Bv:=bD I
xl:=ad x
rm a:=λ _ r=>a
ub:=sR aq.any bG (pY=k)
ud a:=∃f fd,a/\wG x st f
HI a b:=a5 a ["book","scalar"] b
ue:=wk 2 dI
Bw a:=kQ n4 (a Z)
uf a b c:=by rw[hZ a b λ aF rv c _=>?_]
Bx:=i4 _
ui a b:=by simp[a,List.find?_cons,b]
uj a b:=by rw[h? Nc a b]
uk:=hV (zr<=rB) k6._auto_1
ul a b:=nJ (a gK) b
un:=(a==Gh)=false
O! a b c:=notedBy md eG w a env λ b s'=>R (.error c) s'
xm:=i6 a2 H1 db
xq a:=∀y∈nv,a
uo:=q _ H2 s2 wf
ur:=lF e
ut:=lX e
rn:=dN l
uu:=HB q H3
xr:=HE (qe A9 f aK A E).jh N a
uv a b:=by have a:=f8;subst b
uw a b c:=fo a λ b H=>c
xt:=V2 _
ux:=ca (fs.lookup m)
uy:=AO y
uz:=A.units+1<vH
uA:=f pQ
uB:=t pQ
uE:=pJ Fv
HK:=wo v8
uL:=k<n0
uO b c d:=ah b λ a e c=>bm a e d
uP:=A.handled=a!
uQ:=pK sh n
O? a:=vD a
uR:=wo Ar
uS:=mH a
xw a b c:=sZ A a b O! A e e c
Pc:=Hq (l2+1) A3
Pd:=cP Keyword
By:=M9 k
uU a b c:=aO a λ ar b hv c ty=>?_
HL a:=(Ob k).a
xx a:=sC a AW a2 n a2 AW v p v
xy b:=b7 k A_ f->d7 a H->b
uV:=cP FW
uX:=nF a6
uY:=AQ nq
xz a:=M9 a
HM:=AZ hi
u1:=r4 s3
Pf:=FU b
u2:=cP (ii×ab×a7)
HN a b:=show a=b by simp
u3 b:=_R H a (.b aq)
BA a b:=vY λ a=>b
u4:=dR P w H h
BB b c:=aZ a Z b c
BE:=OE ns ms
HP a b c:=zS a fS st b w c mg b! e
xB a b c:=by refine ah (hx _ H3 dl (hu a s3)) au a' b c;cases e;exact h
u5 a b:=∀a∈fp,b
xC a:=hX ["book","record","scalar"] a
BG a:=(lW nO).a
xD:=G7 pQ
u6 a b c:=tJ a eg b bv e4 c
u7:=kE e
u8:=ml cn
HS:=Y×Y
u9 a:=(_:a3)==a
u_ a b:=rF a _ b
u!:=KT H aq xs
u?:=xs.map f
xE a c d:=by cases(show u=Pf from a);rw[wC c d dd]
xF b c d:=by rw[eq mx hx u GF au a b c d]
BH a:=(a).isSome
HT:=hi<2^62
xG a b:=a _ Z b
va:=a::b::db
vb:=c_.2
xH:=f' wE
vc a b c:=λ a H2 I2 b q2=>c
ve a:=∀H2,a
xI:=λ _ _ _ _ _=>pD
vf a:=Tw.te a
xJ a:=.bool a
vg:=ad i
vh:=ab×bR
BL a:=i0 a
vo a b:=call a b
xK a:=λ H3 s3=>a
vp:=nQ [] aq
vq a:=∀b o,a
HU:=FM al AV []
xL:=k_ (vs.all ic)
xM:=HA PassesOwn gA l1
HV a:=by rw[j0 WD a]
xN a b c:=fj md l0 X.w A a b c s
vr:=.bn
vt a:=Q a s'
vv a:=Pv jX a
vx:=ek::[e]
HW a b c:=Vp a b (zH c)
BM:=A? - s_
BO:=by simp only[jL]<;>omega
HX a b:=a5 a ["self","scalar"] b
Pg a b:=a5 a ["units","place"] b
xP a b c:=dg X n6 a (jq λ i b=>.bl c)
BQ a c e:=by obtain⟨⟨b,d,kk⟩,a,c⟩:=e
BT a:=Q bD b6 a
xQ:=gm Int.lt_of_not_ge h0
xR:=hV Bb Loc y ye._auto_1
BV a b:=by exact Gs a b
vy:=[b,c]
vz:=x::r
xS a:=by rw[jL,<-a]
xT:=wl s h2 tk
xU:=s? (ge 9)
xV a:=zU x=ad a
xW:=by rw[GN];simp
BW a:=mx a vs hv
xX:=i5 gR H a.1.1 mj
xY:=("__classdict__":a4)
x0:=ge 2 m==ge 2 n
HY a:=by rw[hJ,a]
x2:=Y->k?
Ph a:=j1 (b4+a)
BX a:=hY a wQ
x4 a b c:=by refine l_ (r_ a) λ u b c hu=>?_
x5:=p9 pp
HZ a b c:=AI #[mn,a (Hd p1) b [] p2,c,0]
H_:=HF ze
x6 a b:=by subst ex;obtain rfl:a:=b
x7:=by rw[GN]
x8:=dV b dL (k.map kV)
BY:=by have bH:=r'.length
x9 a b:=a5 a ["self"] b
x_:=bF s4 bF s3 hb
x!:=fq H1 s
H! a:=a&&sc.kind==wP&&zU n==A8
x?:=wt 1 gR
ya:=dV a dT aq
yb:=dV a dK aq
yc a b c:=if a then(pY,b)else c
Pi a c d:=∃Nx:h!,(∀H',Nx H'->∃m',m'<m/\W jX m' H')/\∀a H',c i H d H'->g x mz H' Bk b (Nx Bg) (Nx H3)
yd:=v! 7
yf:=v! 8
yh:=V->gl->gl->Hp->d? VK
yi:=AT κ
yj:=mg x=ad tc
yl a b c:={a with rp:=b,toks:=c}
ym:=by exact True.intro
yo a b c:=by rintro a b H' hk⟨s3,c⟩
H? a b:=gc UnaryOp .a b
Ia:=AO n
Pj:=v6 c9
yq a:=qd p a
yr:=O? []
yy a b c:=h.1 a (pF H) b c
yz a b c:=a (gb eG w) b c
yA:=fo e Py
yC a b:=by exact a b hz hn
yE:=#[(d1 (h.1 H1 (Ac s1)))]
yF:=fs.map (·.1)
yK a b c:=eN (a aI b) c
Ib a:=show a by decide
BZ:=mi "tuple"
yM a b:=.Slice a b a! p2
yN a:=((a:Y):a3)
Id a b c:=∃W:Y->a,(∃m,b)/\c
yO:=i<=b4
Ii:=GC s3
yP:=iW b o q1 e
yQ a b c:=vM (a hc) hm b c
yS:=bG (i=j)
B0:=bs.map nr
Ik a:=a ma k n
yT:=d!==n
B1:=AN x wS nT x
Il:=bs.getD i iQ
yU a:=N' a k
yV:=Binds K fd ps []
yW:=ia tf vs
yX a b:=Bm (a (b z))
B2 a:=λ k a2 H'=>a
yZ a:=rR lo a t f
B6:=O' lW
y0 a b c:=show a=b from c
y1 a:=a<rB
Im a:=by simp[dN,a]
y2 a b c:=show a=b from c
Io:=pF _
B7 a:=pK a l
B9 a b c:=ah a λ b h q=>c
y3:=r9 s4
y4:=b? o td
B_:=y.2=fY
B':=f9 pI nT [Hh ea,wd eb]
y5:=#[_,rfl]
y6:=hC e
y8:=v+c9
B! a b c:=λ vs a b hv=>c
B? a:=j6 H1 s1 a
y9:=cA n 0 lo
Ca:=jY tj (aC a? H1 q mJ)
Cc:=V.ref a
Ce:=k==fY
y!:=gT xs lo hi
y? a:=bF s3 a
za a b:=aW bV a b
Cf a:=f9 sQ a ad (eZ z pz) jg.line fE bC
Iq a b c:=O_ (a (b:=kO) (c:=sO)) σ H'
Ch a b c:=eM (hw _) a sP ((b fp k hk).l! dl) c
Pk b c d:=∀u y H1,hW (bc (Po u) H1->bc (Py y) H1->∃a b,ga u/\mI H1 c/\d)
Ci b c d:=b (RQ gp (BK×HS) [nP,Bp,vN c_] g4 c d)
zc a:=λ fs=>a
zf:=ad e
zg a:=eval a env
Ir:=wL rF eb
zj:=vN ef
zk:=b∉wr
zm a b:=λ a hb=>b
Ck:=n1 im .Eq b
Cl:=mq (nw "max")
zn a:=λ _=>a
zo a:=i4 (!a)
Cm a:=HI ["book","scalar"] a
Cp a:=Pg ["units","place"] a
Cq a b:=by rw[Be a b]
Cr:=jS (pH "max") wT
Ct a:=by refine fa #[O9 WH,a]
Cw:=by rw[jL,jL]
Cz:=nJ A1 o m gK fX
CB a e f:=by obtain⟨⟨a,e,kk⟩,n⟩:=f;have hR:AK:=hp;rw[dQ hU _]
CC:=dC i
CE a:=Ax r_ a
CF a b c:=bc (a k a2) H1->Bd X (σ'.set i ad b) H1 eO wJ d6 wY J c P
Is a b:=a5 a ["signs","begin","place"] b
CG:=jS (N3 z) .local
CJ a b c:=by refine bg (i7 a ts v h ?_);show cU H1 v b;unfold c
Iv:=λ _ _ q=>sx q
CL:=q _ sW
CM a b:=by simp only[z0,a]at b
Pl a b:=a5 a ["self","w","text"] b
CN:=qb H1 P n3
CO:=HP N P K
CP a b c:=by rw[eq nz au p a b c]
zq:=sG 0
CQ a:=je (.For mn a eO [] al)
Pm a b c:=f9 nE a (do let ov<-j3;standAt apos.atName;let(f,first)<-b;c)
CR:=wk 3 c_
CS:=wk 3 dI
CW a b c:=∃P',a b H1 P'/\∀v H2,aj H1 H2->P' c H2->P v H2
CX a b c:=by(have e:i=a:=by exact uN hi a8);subst e;exact .inl #[b,c]
Iw a b:=a5 a ["numbers","at"] b
CZ:=e? (m:=Builtin.Tuple.tupleExact _)
Ix a b c:=by refine .inr (eM a (Pv jX) b jZ c H' y);obtain⟨e,y⟩:=y
C1:=Bj h1
C2:=bG (pY=Pj)
C5 a:=by rw[Ag];exact a
C6:=H1 b=ad my
C7 a b c:=by refine zx (I.zy hH) λ z aF a b hl c=>?_
C8 a:=.po [eZ z pz] a jg
C' a b c:=N4 wV A a b c
C!:=fl eF nT [dk lo,e5 hi]
Pn a:=kG (ForInStep.yield a)
C?:=qi d!
Da:=fT A qc
Db:=ff Bs
Dc:=by exact Nm h1
Iz a b:=by rw[hJ,a]at b
Dd a b c:=by rw[a,b,c,nB]
IC:=kQ h0.later
De a b c:=be (fr a b H2 _ I2 q2) c
Dg a b c:=ff (∀a:kP bM,b->c)
Di a b c:=Vv a b gA c
ID a b c:=∃(a:ab)(b:mM),c
Dj a:=hV a zb._auto_1
Dk:=ge 3 m==ge 3 n
Dl a:=z5 a
Dn:=Bn=[]
Do a:=by simp only[a,M8]
Dq a b c:=by obtain⟨aF,a,pl,b⟩:=c
Dr:=p9 FB
Dt:=[wU]
Du:=by rw[hJ]
Dv a:=by rw[jP]at a
Pp:=gE b4 b4 hi
Dw a:=backTo kh pI a
Dx:=fq H' s'
Dz a b:=a b (v6 c9)
Pq:=gE b4 0 lo
IF a b c:=a b c (vD [u,q.2])
DA a:=a5 ["kind"] ["kind"] a
DB:=fq H s'
DC:=FL h
DD:=AJ pp
DE:=wt 3 gR
DG a b:=by exact(show a from b).elim
DH b c d:=∃a b,ga v/\c/\d
DJ:=AZ lo/\lo<2^62/\HM/\HT
IG:=(sU).parts
DK:=gX zL
Ps a:=VG l a
DL a b c:=eN (a b aI aI) c
DM b c:=.Compare a b c al
DO a:=by exact fa a
DP:=HK 12
DT a:=by exact e? a
DU a b:=n! ((a).take b)
DV:=bb (An n)
IH a c d:=Id w_ (W 0 m w4) (∀i m H,W i m H->((a).stop i H/\Qd H)\/((c).go i H/\Pi x d x))
DW a b c:=by rintro a H' hk⟨b,c⟩
DX:=AO x
DY:=fl fF es PL
DZ b c d:=∀b:d? α,(∀c,d->U a)->U a
II a b c:=fB a gm pw b Z a8 c
D0:=by unfold OK
D1 a:=a F! x
IL a b:=a (e? b)
IN:=HL Br
D2 a b c:=cz (i:=i) hN a b c
Pt:=Oo "max"
IO:=GO=0
D3:=#[r9 s4,h]
D4 a b:=if v<0 then a else b
D5:=cJ GL
D7:=f' ?_
D8:=FS _
D9 a b c:=Bd X σ a b c P
D_ a b c:=aO a λ a0 Ml b c wj=>?_
D':=by simpa using hx
D!:=0<zP
D?:=r.to.headD 0
Ea a b:=Mt.byKind a b
Ec a b:=a fO.extBut b
Ed:=i3 TE TE
Ee:=eZ x al
Ef:=ad wK
Eg:=mN aJ a
Ei:=(g0 r8).1
Ek a b c:=aE a H2 b c q2
El:=a3->a3->bM
IP:=l7 a2 H2
Em a:=As B a
En a:=bc (a 0 σ) H
Er:=(g0 f3).1
Eu:=ca (gQ "max")
Ew:=eZ y py
Ex:=pL (0:Y)
Ey:=p?%28
Ez:=p?%28
EA:=fC P w H h
EB:=Bq xs
EC:=r H1 s1 Q q
ED a b c:=a h b hb bH c
EE:=zR hc
EF a:=(a:ax)
EG:=fG hk
IQ:=Ou k
EH a:=_B.kj a hk
EI:=.zw id
EJ a:=binaryOp a
EK a b:=(a==b)=false
EM a b c:=λ a b I1 c q1=>?_
EN a b c:=λ o a b c hd=>?_
IR:=λ _=>rfl
EQ:=λ f0 f1 f2 f3 f4 f5=>?_
ES:=qk::r
EU:=A! p hp
EW:=Sem bM
EX a:=nr (!(a==[]))
EZ a:=jZ j a e
E2:=lo+(wn i)*c
E3 a b c:=a (λ b o hb e=>c) f0 f1 f3 f4 f5
E4 a b c:=by rw[wH a hq r,<-b (kH x) c (λ w hw=>E1 rx fx r fs w iz hw) (aE Bx H I Z ?_)];rw[HN (aF.toArray.any (kH x)) (aF.any (kH x)),Ig r fs];exact q
E5:=Al lo c n
E7:=hp H1 s1
E8:=(0:Y)
E9:=(2:a3)
E_ a:=.tuple a
E!:=bD sl
E?:=dk (0+k)
Fa a:=g0 a.2
Fb:=yw (g:=dC i)
Fc:=xs++[v]
IS a b c:=by rw[i9,aG (a:=vk) (cO (b (cQ bv d1 Bo fs A.bj.vw rQ) el AL (mb gV v9)) cY HH qI cb kU) xk s1 (gk c _ _ _ _ s1 hL)]
Fd:=b::db
Fe a:=λ l hl=>a
Ff:=gY e
Fg a:=(a).pi
Fh:=rT y x
IT:=dk m
Fi:=Key×V
IU a b c:=by rw[dQ WC F.entry_max_loop];rw[O9 Oj];rw[i? (seqItems? bD S>>=_) s,ci (WE a Z ?_),i? (tryCatch (pyNext Bv) b>>=_) c]
Fk:=q.1=k
Fn:=kV lb
Fo:=b8 aq j
IV:=HZ .l4 nT [c]
IW a b c:=fh (EY a aI (yL aI) b) n8 pX hl.later #[i,rfl,c]
IX a b:=a b w3 l2 Pc fp
Pu a b c:=g3 a hr b bv fe si c Z d1 sU
IY:=Hq (b6+1) A3
IZ b c:=Pk b c (r.isSome=z)
Fp:=q::qs
I0:=H! w6 k₀
I! a:=sQ a ad A1 (wM p1) f p2 p3.line=fE iQ
I? a b c:=j2 a (Ve wW (b "slice") c)
Jb:=by rw[w7 s3 e];rw[List.take_length]at e;rw[Bt q _ D]
Jc a b d:=O_ (a (b:=w?) (d:=sO)) σ H'
Jd a:=hX ["book","record","scalar","part"] a
Jf a:=Pl ["self","w","text","refused"] a
Jg a b:=by rw[qj];revert a;cases b<;>simp
Jh a b c:=a (b gJ nW Mh n ai) eU c
Fq:=8 - k
Ji a b c:=by refine bm (λ i m H=>m=a - i/\b/\Pv i H) (aZ c jd (Gc _) h0) ?_
Jn b d e:=b (RQ gp (BK×Y) tz d g4 og e)
Jp b c d:=∀b H1,hW (sy H1 c d->i6 (Gz j ad eS) H1 db)
Jq:=f' tA x p7 qm
Jr a:=by simp only[jN,jQ]at a
Jt a b c:=by rw[HV a];have b:=iW c _ offS sJ
Ju a b c:=iq eK P w K mg b! ["self","row","classes","place","scalar"] "Book.in_order" (aw ou) a b c
Jv:=nW Of n
Jw:=.po [A1 (wM p1) f p2] e p3::r
Jx a:=HX ["self","scalar"] a
Jy a b:=wX A.bj.KD a b
JB a b c:=Pm a b (callWith al f first mk c HU)
JG b c d:=by rw[b5 (aO (hx u y H3 dl hu (hy.later s3)) λ a b c h1 h2=>?_) d]
JH:=w1 By
JI a b c:=λ a H1 I1 b q1=>tp ho c
JL a b c:=by refine iZ (bm a sP (b (iY gZ)) λ H5 c=>xa fB _ xj p!)
JN:=HW _ _ q2
JQ a b c:=iw a b gS b2 (λ _=>rfl) c
JR:=m1 (upd H1 dx (.own z)) mt []
Pw a b:=a5 a ["self","kind","scalar"] b
Px a b:=a5 a ["book","ways","scalar"] b
JS a:=a∈tC pk z1
PB a b c:=zC (a:=b6) (o:=.b c)
JT a b c:=mR a b! b C c n?
JV a b c:=tr l/\a/\mO l/\b/\Ph zs.length/\c
JX a:=by obtain⟨a,e⟩:=hi.allInts.items
PD:=vO y=ad fY
JY:=pO BA n Ia vN
JZ:=λ b ob q=>sx q
J0:=hx u H3 dl Ii
J1:=Pp - Pq
J2 a b:=by rw[zF];exact a b
J4 a b c:=by rw[jL];exact a b c
J5:=Bw hb
J6 a b:=U9 a b 1
J7 a b c:=a (cO g9 b Bf (af rs H_ (cb mF))) ai Bf jR BL tE gV c
J_ a b c:=jk (aP (yt (i:=j) hc hN hz oE lS (a aI) ok hg b pR hs) fL) D c
J' a b c:=List.length_filter_le a (b c)
J! b c d:=∃a b,ga x/\mI H2 c/\d
J? b c d:=by rw[b5 (aO h λ a b c hs q=>?_) d]
Ka:=Ps gH
Kb:=items.toList.drop (cA hE 0 lo)
Kc c d e:=by obtain⟨⟨b,c⟩,d,e⟩:=a
Ke a b:=a5 a ["self","row"] b
Kg:=AX d!
Kh:=mx hx u hu
Kj a:=a (z5 e)
Kk a b c:=(a).all qf (!x.1)&&(b).all qf BH x.1&&bG ((c).length+cW ([]:Pd)+(if([]:Pd).isEmpty then 0 else 1)<30)
Kl:=Im G2
Kn a:=la V7 _ a
Kp a b c:=zC (a:=zD) (o:=.b c)
Kq a b c:=by refine a (Od hu) Ir b c ?_
Kr a b c:=FA (a b) c
Ks a b c:=s.heap.IsSliceOf sl a b c
Kt:=(NS n).getD 0
PF a:=(Pt++Oo ".loop":a)="max.loop"
PH a:=a (gE b4 0 lo)
Ku a:=hV a nL._auto_1
Kv b c d:=ff tw v kY H1 (λ H=>mK b) n3 w9 (mo (c a? (aL X fc)) (dC i) d sO) H1 Q
Kw:=d.book.maps.getD k []
Kx a b c:=Walks eG w pr a fp wr b c St
Kz a b c:=q _ a (r4 (r9 (cT b))) c
KB a:=by obtain⟨t',rfl⟩:=a
KC a:=by rw[rN]at a
KE a:=by simpa[vG]using a
KF a b c:=WE a b (fa c)
KH:=mi "list_iterator"
KJ:=sv Result
KK a:=by rw[<-a];exact hi.numsOf
KM:=vN (ge 0 (eQ x))
KP:=Gw h
KQ:=p9 b4
KR a:=Nu b=ad a
KS a:=CmpOf eG w pr a
KX:=Ik OP
KY:=λ i=>Il
KZ:=H? Not a
K0 a b c:=V3 I ds _ a b c
K1 a:=by simp only[a,o!]
K4 a:=by rw[jP,a]
K6 a b:=Vl a (FH b)
K7 a:=bb (F5 a)
K9:=OY c9
K! a b c:=∃a,zL b=ad c
K? a c d:=λ b o q1 q2 e=>a b o c q2 d
Ld:=WH pE _
Le a c d:=P (Aa bt (n - 1)) a->(∀b o,c)->d
Lf:=Value.type "tuple"
Lg:=Nm h
Lh:=Hc kE
Lk:=nu (pj e)
Ll a b c:=aE a b f8 gY c bH
Ln a b c:=by refine(aE .cB _ (I.LX (its':=a) hH b jd c ?_) Z q)
Lo a:=by exact False.elim a
Lp a:=Gz i ad a
Lr a b:=la Wk.frame a b
Lt:=pK Mt.full d!
Lu:=wJ x (zp X db D (Gz j xl) H2)
Lv:=FI lo hi a! n
Lw a b c:=a b (e? c)
Lx a b c:=I.write (a:=b) (e:=c)
Ly a b c:=if(bb a)then b else c
Lz:=sP (IM (MQ s H0 C cl fp))
LA a b c:=a (b:=l0) (w:=c)
LC:=O4 n !=0
LE:=CV rK hm dU rJ dY
LF a:=Walks.list (A:=a)
LG a:=apos.endLine==a
LH:=vQ (·.1)
LI a b:=vE a b
LJ:=#[cS,by decide]
LL a b:=wpAny_field a b
LM:=Gc _
LQ:=md l0 X.w
LR:=k1 "sum"
LS a b c:=bm a b λ H3 s3=>c
LT:=io IsTup.new
LV a:=nu a
LW a:=PI X tg fc a
LZ:=min v.toNat n
L1 a b:={a with rp:=b}
L2 a b c:=if a then[b]else c
L3 a b c:=λ(kv:a)(r:b)=>c/\cU H qp sf
L4:=d? ax
L6 a:=bb (xs.all a)
L7 a:=#[a,rfl,fa h]
L9:=vY (·.1)
L_ a b:=λ _ a=>nomatch b
L':=hc.later s1
L!:=Y×l?
L?:=i<b4
Ma:=Bl "list"
Me a:=b4=a
Mf a:=a (y:=false)
Mg a b c:=e9 a λ b H2 _ h=>c
Mi:=Ad s1
Mj:=Aa bt j
Mm a:=aZ _ a Z Z
Mo:=mQ (cw ou)
Mq a b c:=gk (gk a) b _ _ _ s c
Mr:=Y->bM
Ms:=ks.map kV
Mu:=kX i+(cJ m)*1
Mw:=bs.all id
Mx:=bs.any id
Mz a b c:=λ v2 a b c C0=>?_
MA:=start N (wK::k8)
MC:=bF s h1
MD:=A! H4 s4
ME a:=cb (a:=0)
MF b:=fU a b
MI:=eQ (vN n)
ML:=aL X e
MN:=xs++ys
MO:=xs++zs
MR:=.type T
MS:=bD t
MT:=oP lo n
MU:=gb P w
MV:=v::vs
MX:=O0 hv
MY:=l==[]
MZ:=h2 l
M1:=kV k
M3:=dN m
PJ b c d:=BB #[xs,fk] t? (Iq (b (xs:=xs) (g:=CC)) tt te xd IQ t7 (λ k H' _ c=>bq d λ s3 _=>d4 H' s3) ?_ ?_)
M4:=aa 6
PM a:=Pu a (iI,d!) wR
PP a b c:=g3 y_ hr a bv fe si hY b wR Z d1 #[IG,c]
PR a b c:=g3 a qc b bv fe sg BX A.g.Mc Z d1 #[ql,oi c]
PU a b c:=by rw[k3 (aW tm (iu Ej bv ai jd) ai)];rw[e];rw[dQ mc iO];have h:=a;rw[Ib b]at h;rw[h];unfold c;norm_cast
PX a b c:=by rw[Ix (cE xs (xs[a]) q (by simp[a8])) (λ H' p'=>II (b4 - jX) a8 p') x];subst e;exact hs i x _ (b xs c) p
PY c e f:=by rw[j_ d bX λ hR c _=>ah e au ar hv bo];dsimp only at hv bo;rw[oj,dQ ft (bI 2 f) v_ xb bW]
P0 a b c:=a (v:=cx ak) (cQ bv d1 Bo fs A.bj.OA b) el HH c cb kU
P2:=sn Pc l2
P3:=nG ((HG).any (·.1.isNone))
P6 a:=k_ ((HG).a (·.1.isSome))
P7 b c:=wpAny_Dict_empty tD (oo PB a b [] Iv iE (c gv I.CI)) (h _ sW)
P! a b c:=n9 xG (vB i j Z Z) (by cases a:lw with|bC=>exact iZ (aL.v (hc.later dl) ib b)|false=>exact j8 c)
P?:=O' Ve
Qc a:=f9 ((HG).filterMap (·.1)) [("default":a)]
Qe a b c:=by rw[dQ WC a];rw[b];rw[i? (pyNext Bv>>=_) s,ci c]
Qg a b c:=by rw[wH a hq r',BY,b c BO (aE dk FB H xg #[zD+1,by rw[jL,bH]] q)]
Qh:=BG objs.size
Qk a:=BT j2 s (lW so BZ (.seq a))
Qn a:=Is ["signs","begin","place","back"] a
Qo a:=Px ["book","ways","scalar","found"] a
Qp a b c:=by have offS:a∉wr:=λ q=>b (Wk.sub _ c);have nm:PF kM:=by decide
Qq a:=a5 ["self","w","columns","text","marks","refused","lines"] ["self","w","columns","text","marks"] a
Qs:=xq (B_->∃c,NZ y.1=ad c)
Qu:=mm a2 (J b4 a2) xm
Qv a c d:=∃a H',Inv qo [] wb H' s'/\tn i s'.heap/\(∀b∈fp,ca (H' b))/\W c d H'
Qw a c e:=g3 xo hr (iI,x) bv fe a c Z xK e
Qz a b c:=by rcases tM fu with e1|a;(.rw[i! (e1▸pj b) xt]);.cases c
QB a:=Pw ["self","kind","scalar"] a
QC a b c:=by subst ey;rw[wC xc vs dd,<-a (uD ry) b Oc ?_];rw[<-IN,<-c];exact h _ xg
QD a:=fC P w H (h.push nO) z1 a
QI a b c:=fh (a hc hg hm hv b hn d_ he a_) f' bm PL p7 B! H2 s2 (BW hr c λ v H3 s3 hp=>tI hp)
QJ a:=hX ["book","record","flags"] a
QP:=NC F.slot_list_extend jR e F.entry_list_extend io F.args_list_extend_2
QR a b c:=comprehension tB da gA a (newList b) iQ nE fc c
QS a:=HA compPost l1 use a oG l2
QT a b:=a5 a ["book","text","units","first","behind"] b
QU a b c:=if Ce then gu a r ((b,c)::bd)else gu jO r bd
QX:=BM==hE
QY a b:=by obtain⟨a,rfl⟩:=Nq b
Q1:=by rw[HY Fu,BV io U7 hl]
Q3 a b c:=by simp only at hc hd tq hd2;subst hc hd tq hd2;have i1:tP aF.toArray.toList:=M? r1;have i2:IntsAre km.toArray.toList ms:=M? r2;rw[oq a (show b≠Value.notImplemented/\w! Q xJ BE s from(GH qf (nomatch c) i4 BE H I Z q))]
Q5:=AI #[Ga,fc,ifs,0]
Q!:=concat_meets jR ho jR pU noFill_tuple_add seq_tuple_add
Q? e f g:=by rw[BQ e n a,<-bX hp au f hm hn,iD];dsimp only at g hn;rw[i9]
Ra:=nW abw n
Rb a b c:=by rw[j! r.get h2 au a ew c4];have hl:=zG;have hn:=Bh;have eY:w! Q b s:=(aE z H I c4 c)
Rc a c d:=∀(a:Y)(q:Key×a7),dH prs j q->∃(b:ab)(u:a7),dH c j d/\IF vA gv b/\bb (rH q.1 u)
Rd a:=s2.heap.push sM (.seq a)
Re:=λ _ _ _ _ _=>cz yg.nd Z jx t5
Rh a b c:=O6 (∀Ae,z6 a gA Ae=(do let b<-Ae;standAt e.pos;px [c] (truthy v)))
Rj a:=Iw ["numbers","at"] a
Rl a b c:=by rw[Iz M! hj];rw[<-NF];exact a b gm Nat.le_sub_one_of_lt c
Rm a b c:=a Z yg.nd ed el B? (af av e (b gV gn)) IR cv c
Ro:=by rw[HY M!]
Rp a b c:=m7 td y ID l ns (tr l/\aC a? H2 l mJ/\(ns=[]->fz y)/\(0<zP->∀m,iB a->(∀b,iB k->c<=m)->fz IT))
Rq a b c:=∀(i:Y)(a:r!),b->mX[i]?=ad q->c
Rr b c d:=qJ x b (aO c λ a aq e d p=>(aE a aq e t6 (gj (λ _ _ q=>#[q.1,jp gD s q.2]) p)))
Rs a b c:=forIn ifs bC λ a b=>Hl r (do let ok<-c;Pn ok) Pn r
Rv a b c:=jY (∃a xs,nU u/\pT aC q/\∀p,bc (P qn) su H1 b c)
Rw a:=pP f? (by rw[a])
Rx a:=pP f? (by rw[a])
Ry a b c:=ff (∀D:Ends,(∀a2 H2,kY H1 (a a2) IP)->(∀b H2,qb H1 P (D.rt v H2))->c)
RC a b c:=by by_cases e:p.1=j;(.rw[a,ur,N_,b]);.rw[c,ut,ih]
RD a b:=a5 a ["numbers","at","before"] b
RE a b:=a5 a ["desk","call","reader"] b
RG a b c:=by obtain⟨t,rfl⟩:=VL a;obtain⟨b,c⟩:=argBest_gt (numAt xs) (zQ - 1)
RH a b:=a5 a ["sheet","begin","end"] b
RK:=Builtin.Builtins.bindParams "max" ["key","default"]
RL:=PD/\(N2 y=A8\/N2 y=ad fY)
RO a b c:=V? (by exact a b c)
RR a b:=a5 a ["book","ways","text"] b
RU:=k_ (Nat.ble (zP+1) 1000)
RW a b c:=fh (a hc hN (b aI) ok hg xI pR hs) (c i ho hx hw hl he)
RX a b c:=∀a,iB b->(∀y,iB y->y<=k)->c
RZ a:=jn ("name_count":a) (vN GO)
R0 a b c:=ff (∀a:m4,(∀vs H2,kY H1 (PL b) fz vs)->c)
R1 a:=sM (k! Vi a)
R3 a b c:=by simp only[FI,a,Option.getD_none,oi b,c]
R4 a:=nH ["at","x","y"] a
R7 a:=hV (a=false) Gj._auto_1
R8:=Ph FB
R9:=by rw[ev zF hz]
R_ a b c:=by rcases a with b|c;(.exact I.ok.has _ gY k);.exact I.ok.has _ jc k
R! a:=a->gX s2.heap.get?->tN
R?:=call_meetsIn Wy z! PySem.F.entry_dict_get bF PySem.F.args_dict_get_3 _
Sb a b c:=a (b hd) (Nat.le_of_ble_eq_true c)
Sc a:=a5 ["first","second"] ["first","second"] a
Sd:=io PySem.F.args_tuple_add_2
Se:=sR vs.any bG (pY=k)
Sg a:=Vo _ a Z
Sh a b:=U8 a b 1
Si b c d:=∃(b:ab)(c:qu),vs=[Cc]/\aC K H a B0/\Q i4 d H
Sj:=PH r.drop
Sk a b:=a5 a ["marks","begin"] b
Sn a:=bF Vp a
Sq a:=by exact Vr _ a
Sr:=NZ y=ad c
Ss a b c:=e9 kQ r.later λ a b s3 e=>c
Sv a:=subscriptTail_builtinR (x:=a)
Sx a:=IL wpAny_standAt a
Sy:=wu Oq ?_
Sz a b:=richCompare_meets_room (a:=b)
SA:=(NU n).getD 0
SB a b c:=by show(bb (a||b))↔_;rw[Bool.or_false,z7,c,rO]
SC a b c:=by obtain⟨t,e⟩:=(show∃t,u=a from r);subst e;exact b P w c t
SD:=Ar kW dI c_
SE a:=Ny a
SF a b c:=by rw[hJ,a,OD];exact r3 b c
SG a b c:=kF X a (λ xs H Q=>∃b ys,xs=[qn]/\(aC a? H p ys\/aJ a? H p ys)/\c)
SH:=∀H,qA b4 (Qd H)
SI a:=zU y.1=ad a
SJ:=by apply List.map_congr_left
SK a:=hV (a≠"__name__") Ay._auto_1
SL a:=List.mem_append_right _ a
SM a:=Og a
SN a:=typeLookup a "__getitem__"
SO b c d:=BB #[xs,hl] (b (xs:=xs) B2 (pS H2/\bc (J k a2) H') #[Io,IC] (λ k a2 H' _ c=>bq d λ s3 _=>d4 H' s3) ?_ ?_)
ST a b:=a b6=ad b
SV a b c:=bindArgs (WU "__init__" fS (jA st) (cw st) (aw st) eR kV doc pm a b c) #[us,[]]
SW:=bD l2
SY:=kQ GT
SZ a:=a▸F9
S0:=U! "default"
S1:=cJ zA
S3:=k1 "list.append"
S5:=by rw[FR]at h
S7:=by rw[jL]
S9 a:=scope.names.all λ y=>a
S_ a:=rN h so (mi "cell") a
S' a b c:=∃(aF:ck)(a:Y),bN xs aF/\b/\c
S!:=xz bs.length
S? a b c:=B9 a v ((b s H0 C cl fp).1 H' Io Q c aN s' I)
Tb:=Hg zr
Tc a b c:=d1 (fQ (aQ.later s1) Ib (a<15) (jp j4 s1 b) c)
Tg:=b<Gb
Th:=b6+1
Tk a:=a (Wr e)
Tl:=GY ma Mt.STEPS n
Tm:=F7+64<vH
Tn:=v! 16
To:=zU x
Tr:=(n,V!)
Ts a b c:=a fS b c ad around builtins
Tu a:=WX K a
Tx:=bs.map FS
Ty c d e:=c a b d e n n2 dd kZ sl lD ns ms
TC a:=Xb a
TD a b c:=_B.aeu hR.de hk (a:=OL) (b:=c)
TF a b c:=a FV λ iV b c bf=>?_
TJ:=h1.IsList l fK
TK a b c:=∃f fd,Mk K C f/\a "__init__" fS b f c
TL:=KO X "list.extend"
TM:=v! 0
TN:=v! 1
TR:=v! 2
TU a b c:=e? (wpAny_mono a b c)
TV a:=Vl p a
TW a:=hC (by exact a)
TX:=.IfExp c a b al
TY a b c:=g3 a hr b ho fe sg (ae h1 (ae h2 ao fO) bw) Z d1 #[(ql).parts,c] bw a_ ht
TZ:=max 3 GO
T0:=Wr e
T2:=IO\/3<=GO
T4 a b c:=a b c M6 M7 n n2 dd kZ
T5 a b c:=Wk.done a _ _ b au c tk iW
T_ a:=WP a
T!:=v4 n
T?:=G4 n !=0
Ua b c d:=eO a #[f,aK,b,br,c,H0,E] d hr hp _ λ _ h=>h
Ub a:=bT->a
Uc:=fs.length<1000
Ud a:=(a).all An
Uf:=B7 _B.K3
Ui:=cJ d!
Uj:=mZ b4 i
Ul:=r.to.length=1
Um a b c:=Cn A hr 12 a aQ b bv (ag A.g.yG) c
Uo:=k1 "any"
Ur:=k1 "all"
Ut:=Y×r!
Uu:=Gh<z1
Uv:=M9 n
Uw:=ms.map iO
Ux:=ob.dict=a!
Uy:=Bl "tuple"
UA b c d:=b a c dx fs v Z h1 h2 h3 h4 d
UB:=ps.map V.ref
UF a b c:=λ hx=>a Ap b (c6 λ c _=>?_)
UH:=n.testBit 31
UJ:=Bl "dict"
UK:=xs.filter t
UL:=rD o i
UM:=j<b4
UN:=[d!]
UO:=ns.count k
UR:=gE b4
UU:=F.binds hb
UV:=k<GE
UX:=GA s
UY:=zM hk
UZ:=e4 A.g.sD
U0:=vQ (·.2)
}
section z
section _L
namespace _H
open lP lQ
section
variable{eG:cr}{w:cs}{A:dy}{E:d2}{s:ax}
variable{vu vl:a7}{Q:d2}{lo hi:gl}{sl:ab}
def z:={
aIP{t b:ab}{vs ws:ck}(ht:vA gv t M6)(hb:vA gv b M7)(hv:vs≠[])(h1:ws=[]->Q bD t s)(h2:ws≠[]->Qk n! (vs++ws))(cv:j1 (zr+ws.length)):kb (binaryOp .Add MS ig) Q E:=by obtain⟨⟨cls,dd,rq,sl⟩,ho,hc,n,hd⟩:=id ht;obtain⟨⟨Ta,kZ,data2,lD⟩,pU,tq,n2,hd2⟩:=id hb;simp only at hc hd tq hd2;subst hc hd tq hd2;(have e:M6++M7=n! (vs++ws):=by simp);by_cases hw:ws=[];(.exact Q! U3 U4 Sd (T4 tuple_addW1 t b sl lD iz hv (by simp[hw])) #[ho,pU,h1 hw]);.refine Q! U3 U4 Sd (T4 tuple_addW2 t b sl lD iz hv iz hw (by rw[Cw,cv])) #[ho,pU,?_];rw[e];exact h2 hw
cA.1(n d:Y):gl->Y|a!=>d|jD=>if v<0 then gh y8 else LZ
ar8(n d:Y):cA n d a!=d:=rfl
vI(n d k:Y):cA n d ad o0=min k n:=by show(if o0<0 then gh (kX k+c9)else min gh o0 n)=min k n;rw[kE (by exact aaa),vC]
aEJ(n d:Y)(hd:d<=n)(o:gl):cA n d o<=n:=by cases o with|a!=>exact hd|dJ v=>show D4 gh y8 LZ<=n;by_cases hv:v<0;(.rw[jB hv,aGB hv]);.rw[lB hv,U7 _ _]
UD(v:a3)(n d:Y):D4 (max y8 0) (min v c9)=eV (cA n d jD):=by show D4 (max y8 0) (min v c9)=eV D4 gh y8 LZ;by_cases hv:v<0;(.simp only[e! hv];exact aFS);.simp only[fG hv];exact aKs hv
aKk(lo hi:gl)(n:Y):Sh lo hi c9=(yN y9,eV (cA n n hi)):=by(have h1:¬((1:a3)<0):=by exact aiu);unfold U8;rw[Do h1,dQ Prod.ext ?_];(.cases lo with|a!=>rfl|dJ v=>exact UD v n 0);.cases hi with|a!=>rfl|dJ v=>exact UD v n n
aoj(i j:Y):J6 cJ i cJ j=j - i:=by unfold U9;(have h1:re>0:=by exact Int.one_pos);simp only[h1,o!,Int.ediv_one];split<;>omega
Z_{v:a7}{o:gl}{Q:gl->L4}(p:o? v o)(h:Q o s):fj wV A (Builtin.Slice.slicePartIndex v) Q E s:=by cases p with|a!=>exact U_ h|int i t=>exact slicePart_int h
aiQ{n:Y}{Q:a3×a3×Y->L4}(hs:Ks vl vu eR)(pl:o? vl lo)(pu:o? vu hi)(h:Q (yN y9,1,cA n n hi - y9) s):kb (U' E! (kG c9)) Q E:=by rw[hZ id hs λ os BU uc Gq=>?_];unfold U' Builtin.Slice.sliceFields;rw[j0 e? Lw (LL BU Gq (x:=vl)) Z Lw (LL BU Gq (x:=vu)) Z (LL BU Gq (x:=eR) Z (fa ?_)),j0 U_ ?_,kT _ Ly ((1:a3)==0) _ _ s];rw[Lh];rw[ci Lw Z_ pl (Z_ pu wu e? ?_),kT _ (match Sh lo hi c9 with|(lo,hi)=>fE (lo,re,J6 lo hi)) s];rw[aKk lo hi n];show fj _ _ (kG (yN y9,re,J6 eV y9 eV (cA n n hi))) _ _ s;rw[aoj];exact fa h
aIk(xs:nb)(i k:Y):n! ((By).filterMap λ(m:Y)=>xs[(Mu).toNat]?)=DU (xs.toList.drop i) k:=by(have e:(λ(m:Y)=>xs[(Mu).toNat]?)=λ m=>xs[i+m]?:=by funext m;(have:gh Mu=i+m:=by exact aEG);rw[cc]);rw[e];have:=pick_run xs i k;rw[List.filterMap_map]at cc;have e2:((qf (xs[x]?))∘λ x=>i+x)=λ m=>xs[i+m]?:=rfl;rw[e2]at cc;rw[cc]
afT{t:ab}{fK:nb}(ht:vA gv t fK)(hs:Ks vl vu eR)(pl:o? vl lo)(pu:o? vu hi)(hw:¬(s_=0/\A?=hE))(h:Qk DU Kb BM)(cv:p9 hE):kb (rD MS E!) Q E:=by(have G_:sizeOk (.seq DU Kb BM):=by show j1 ((Kb).take BM).toArray.size;rw[jL,Fu,M',M!];exact ajn cv);have hj:A?<=hE:=aEJ _ _ (kI _) hi;rw[hZ id hs λ os BU uc Gq=>?_];have hTs:zu E! "slice":=bm os BU uc;unfold rD;(try with_reducible refine zv ?_);(first|rw[j0 fa ?_]|skip);rw[ci (wpAny_sequenceKey Fy cS ?_),ci (wpAny_callSpecial?_slot (name:=U! "__getitem__") Fy U? (wpAny_call_entry U? Fy entry_tuple_getitem ?_ io args_tuple_getitem)),kT _ (Builtin.Tuple.tupleItemsOf MS>>=_) s,ci (tupleItemsOf_ ht ?_),ci (Fz hTs ?_)];rw[Hc hC];rw[ci (aiQ hs pl pu ?_)];(have gB:¬(sw (yN s_==0&&re==1&&QX)):=by intro q;rw[jN,jN]at q;have q1:eV s_=0:=eq_of_beq q.1.1;have q2:A? - s_=hE:=eq_of_beq q.2;exact hw #[gm VE q1,by exact arZ q1 q2]);rw[kT _ Ly (yN s_==0&&re==1&&QX) _ _ s];rw[fG gB,aIk];first|exact CZ Kr fa wF Z fa h G_|exact CZ Kr e? qE L7 _ G_|exact e? (CZ (FA qE L7 _ G_))|exact e? (CZ Kr fa L7 _ G_)
}
section z
section _H
namespace _L
open lP pc lQ
variable{da:eX}{aq:cP (ii×V)}{α:Type}{n t' j:Y}{g:TG}{tt:TT}{x:V}{own:qS}{us its':ck}{elt fc c:a6}{ifs:c!}{H1 H':Hp}{K:bT}{Qd:h!}{env:Env}{wi:TI}{jO:bh}{h':d0}{M:Model}{tL:Ed}{fK:nb}
def z:={
TO.2:=St->Hp->(gl->h!)->Prop
PO.1(X:Cx)(e:uX)(t:TO):Prop:=∀(aN:ez)(s:ax)(σ:St)(H:Hp)(Q:gl->h!),cC->t σ H Q->wq sk evalPart e (λ u s'=>∃o H',Dx/\o? u o/\Q o H') l1
aqG.1:TO:=λ _ H Q=>Q a! H
apd.1(t:TE):TO:=iN g! t x (∃i,x=e5 i/\Q vg H1)
M?{ns:mM}:∀{us:ck},bN mJ us->tP us:=by induction ns with|cd=>intro us r;rw[uj r r,eC]|bn n ns ih=>intro us r;rw[Dv r];cases r with|bn r1 r2=>obtain⟨t,e⟩:=r1;subst e;exact vr n t (ih r2)
}
section
variable{X:Cx}{e:a6}{te:TE}{lo hi:uX}{tl th:TO}{al p2:bi}
def z:={
W_:PO X a! aqG:=by rw[kn];rw[Vb];exact fa (aE a! H I eR h)
yL(h:b? e te):PO X zf (apd te):=by rw[sI Q I hw];rw[evalPart_some];refine be (fr h s H _ I hw) λ u s1 agV=>aO agV EM x H1 r1;(rw[eq q1 au i aAK q aAK]);rw[e6 r1,(aE vg H1 I1 (.int i t) q)]
NT.1(X:Cx)(r:yh):Prop:=∀(aN:ez)(s:ax)(σ:St)(H:Hp)(x:V)(v vl vu:a7)(lo hi:gl)(sl:ab)(Q:VK),cC->eI x v->Ks vl vu eR->o? vl lo->o? vu hi->r x lo hi H Q->∃T id,SN MR=fE ad EI/\zu v T/\on (rD v E!) EP
tSl.1(r:yh)(te:TE)(tl th:TO):TE:=iN g! te x m7 tl l (th σ H2 λ u H3=>r x l u H3 Q)
EY{r:yh}(hr:NT X r)(he:b? e te)(hl:PO X lo tl)(hu:PO X hi th):b? A5 e yM lo hi (tSl r te tl th):=by rw[kn,<-Nh (qL he I λ v s1 agO=>aO agO EM x H1 r1),<-wpAny_Slice (tp hl λ vl s2 aya=>aO aya (vc l pl De hu s2 λ vu s3 awO=>aO awO λ u H3 I3 pu q3=>?_))];rw[Vb];refine fa ?_;have I4:fq H3 I? s3 mi [vl,vu,eR]:=I3.kept (t':=s3.toks) λ b ob q=>sx q;refine aO (fr hr I? s3 mi [vl,vu,eR] H3 x v vl vu l u l2 Q I4 r1 (Heap.IsSliceOf.new ..) pl pu q3) λ T id hT ht hg=>?_;show fj md l0 X.w X.A (Ni e yM lo hi v SW) p_ EP σ Q l1 I? s3 mi [vl,vu,eR];exact tail_any (ops:=[SW,v]) ht hT hg (by with_unfolding_all rfl)
gT.1(xs:bQ)(lo hi:gl):bQ:=(PH xs.drop).take J1
aeV(xs:bQ)(lo hi:gl):cW y!<=b4:=by unfold gT;rw[Fu,M'];exact aJZ
ahO.1(K:bT):yh:=λ x lo hi H Q=>∃a xs,ga x/\Eg/\¬(Pq=0/\Pp=b4)/\qF p p iM p dL y!
aH9:NT X (ahO a?):=by intro aN s σ H x v vl vu lo hi sl Q I rx hs pl pu h;(rw[b5 (fR h λ a xs afz hx hw q=>?_) afz]);rw[dX,hZ hG hx λ aF r ht hz=>?_];(have bH:zA=b4:=by rw[ev jL r.length.symm]);refine(aE ("tuple") _ PyProof.Rows.slot_tuple_getitem.lookup Fy ?_);refine _H.afT ht hs pl pu (by rw[ev bH hw]) ?_ (by rw[ev bH hz]);rw[bH];rw[oq tD (Kp t' dL y! JZ iE ?_) CL (eM (vE (aeV xs lo hi) hz) _ ((Sj).take J1) LT)]
awU.1(K:bT):R2:=kA y (∃a b xs ys,ga x/\y=cx b/\Eg/\aJ K H b ys/\xs≠[]/\R8/\(ys=[]->Q bD a H)/\(ys≠[]->qF p p iM p dL MN))
bN.L5{xs:bQ}(r:bN xs us):us=[]↔xs=[]:=by cases r with|cd=>simp|bn _ _=>simp
alM:dg X EJ .Add (awU a?):=by intro aN s σ H x y v u Q I rx ry h;obtain⟨a,b,xs,ys,rfl,rfl,ha,hb,hx,hz,q1,q2⟩:=h;rw[dX];cases ry;rw[hZ hG ha λ aF r1 p1 _=>?_];rw[hZ hG hb λ km r2 p2 _=>?_];rw[<-_H.aIP p1 p2 yX hx r1.L5.mp Bm (aE eS H I Z (q1 (r2.L5.mp z))) ml z (by rw[<-r1.length,<-r2.length];exact hz),oq tD (Kp t' dL MN JZ iE ?_) (q2 (λ w=>z (r2.L5.mpr w)) _ sW) (eM (by rw[R9]) _ (r1.append r2) LT)]
}
section z
def z:={
mZ.1(n:Y)(i:a3):nF Y:=if 0<=i then(if i<n then ad FD else a!)else if -lH<=i then ad gh (i+n)else a!
kL.1(xs:kz)(i:a3):nF α:=(Uj).bind λ j=>xs[j]?
V1{i:a3}(h:mZ n i=ad j):seqIndex? i n=ad j/\j<n/\ -lH<=i/\i<n:=by unfold mZ at h;by_cases h0:0<=i;(.rw[e! h0]at h;by_cases h1:i<n;(.rw[e! h1]at h;have e:FD=j:=Lg;exact(fQ (by rw[Nn h0 h1,e]) (by exact axs h0 e h1) gm aBP h0 h1));.rw[fG h1]at h;cases h);.rw[fG h0]at h;by_cases h1: -lH<=i;(.rw[e! h1]at h;have e:gh (i+n)=j:=Lg;exact(fQ (by rw[No xQ h1,e]) (by exact akp h1 e h0) h1 gm ahP h0));.rw[fG h1]at h;cases h
Sl{xs:kz}{i:a3}{v:α}(h:jC (kL xs i)):∃j,seqIndex? i b4=ad j/\dH xs j v/\UM/\ -(kX b4)<=i/\L?:=by unfold kL at h;cases e:Uj with|a!=>rw[h? e h h]|dJ j=>rw[e]at h;refine dq (V1 e) λ h1 h2 h3 h4=>?_;exact(rL j h1 h h2 h3 h4)
cb{xs:kz}{v:α}(h:dH xs j v):jC (kL xs cJ j):=by have hj:UM:=(Nq h).1;(have e:mZ b4 cJ j=ad j:=by unfold mZ;rw[TW tu,hC (by exact BN hj)];simp);unfold kL;rw[e];exact h
aaZ(xs:kz)(v:α):jC (kL Fc (-1)):=by((have hl:cW Fc=b4+1:=by simp);have e:mZ cW Fc (-1)=ad b4:=by unfold mZ;rw[hl,Lh,TW ay4];congr 1;exact ag6);unfold kL;rw[e];show jC (Fc[b4]?);simp
oW.1(b:a6):Prop:=∀o i,FF b iQ o i=Nt [o,i] UL
KW.1(X:Cx)(r:R2):Prop:=∀(iU l3:a6)(aN:ez)(s:ax)(σ:St)(H:Hp)(x y:V)(v u:a7)(Q:VK),cC->eI x v->eI y u->r x y H Q->FF l3 iQ v u=Nt [v,u] (rD v u)->on (Ni iU l3 v u) EP
MtR.1(X:Cx)(id:kM)(r:ot):Prop:=∀(aN:ez)(s:ax)(σ:St)(H:Hp)(x:V)(xs:bQ)(v:a7)(us:ck)(Q:VK),cC->eI x v->bN xs us->r x xs H Q->on (call (.zw id) (v::us)) EP
}
section
variable{X:Cx}{a b:a6}{ta tb:TE}{al:bi}
def z:={
afh{r:R2}(hr:KW X r)(ha:b? a ta)(hb:b? b tb)(hs:oW b):b? A5 a b (DR r ta tb):=by rw[kn,Nh (Np ha hb I h λ v u s2 x y H2 I2 rx ry q=>hr a b aN s2 σ H2 x y v u Q I2 rx ry q io hs)]
apj.1(K:bT):R2:=kA y (∃p xs i v,tr p/\y=e5 i/\mN aC p/\jC (kL xs i)/\Q v H)
ams.1(K:bT):R2:=kA y (∃p xs i v,tr p/\y=e5 i/\mN aJ p/\jC (kL xs i)/\Q v H)
anS:KW X (apj a?):=by intro iU l3 aN s σ H x y v u Q I rx ry h hs;(rw[lz (zt h λ p xs i z ari ajN hq he q=>?_) ari ajN]);rw[dX,e6 ry,wH fN hq r,<-BI (Sl he) λ j h1 h2 h3 h4 h5=>?_,Rb w w q];by_cases h0:0<=i;(. (have hj:FD=j:=by rw[Nn h0 h5]at h1;rw[Dc]);exact item_listR rE h0 yC K5 h5 (by rw[hj];simpa using ew) eY hs);. (have hj:gh (i+S1)=j:=by rw[No xQ h4]at h1;rw[xS hl,Dc]);exact Sv w Vg Vh (wpAny_getItem_list_neg (Q:=λ r s'=>r=w/\w! Q r s') rE xQ (by rw[S7]<;>omega) (by exact Nz h4 hz hn) (by rw[hj];simpa using ew) #[rfl,eY]) hs
aBv:KW X (ams a?):=by intro iU l3 aN s σ H x y v u Q I rx ry h hs;(rw[lz (zt h λ p xs i z aKZ azD hq he q=>?_) aKZ azD]);rw[dX,e6 ry,wH hG hq r,<-BI (Sl he) λ j h1 h2 h3 h4 h5=>?_,Rb w w q,Sv w pl.typeIs slot_tuple_getitem.lookup (getItem_tuple (j:=j) (Q:=λ r s'=>r=w/\w! Q r s') pl yC Nz h4 yC K5 h5 (by rw[xS hl,h1]) iz ew #[rfl,eY]) hs]
awv(aF:ck)(n j:Y)(u:a7):FH (·.setIfInBounds j u) t3=sM (k! n! (aF.set j u) n):=by simp[FH]
Inv.lst{aN:ez}{σ:St}{H:Hp}{s:ax}{p:ab}{xs:bQ}(I:cC)(h:mO p):S' n ke p t3 KQ:=by refine zl u_ p h λ z aF n r e=>?_;exact(aE aF n r e z)
Inv.apq{aN:ez}{σ:St}{H:Hp}{s:ax}{p:ab}{xs ys:bQ}{aF:ck}{n':Y}{f:Obj->Obj}(I:cC)(h:mO p)(ho:ke p t3)(hf:f t3=R1 n')(r:bN ys its')(hz:Dr)(t:Y):fq yq ys yl s TV f t:=by(have e:(TV f).get? p=ad R1 n':=by rw[Vo f ho (by rw[hf]<;>rfl),hf]);rw[oq (Lx x p p (by rw[h];trivial) jx (λ b u hb q=>(HW _ _ hb).pi q) #[_,e] ?_) (o_ hz its' n' r e)]
aDK.1:V->V->V->Hp->(Hp->Prop)->Prop:=λ o i v H Q=>∃p xs k j,o=cx p/\i=e5 k/\mO p/\mZ b4 k=ad j/\Q yq (xs.set j v)
set_list:Rk X aDK:=by intro aN s σ H o i v ov iv u Q I ro ri rv h;(rw[lz (zt h λ p xs k j afy akS hp hj q=>?_) afy akS]);cases ro;rw[e6 ri,<-aO (I.lst hp) λ aF n r ho hz=>?_,<-dq (V1 hj) λ h1 h2 h3 h4=>?_];have hl:=zG;have hn:=Bh;have I':fq yq (xs.set j v) j2 s K6 p ((·.setIfInBounds j u)):=I.apq hp ho (awv aF n j u) (r.set rv j) (by rw[ev Vq hz]) zD;by_cases h0:0<=k;(. (have hk:k.toNat=j:=by rw[Nn h0 h4]at h1;rw[Dc]);exact PySem.W.ki_setAt ho h0 yC K5 h4 (by rw[xS hl,h4]) (by rw[hk];exact e9 I' q));. (have hk:gh (k+S1)=j:=by rw[No xQ h3]at h1;rw[xS hl,Dc]);exact PySem.W.ki_setBack ho xQ (by rw[xS hl,h3]) yC Nz h3 (by rw[hk];exact e9 I' q)
au1(lo hi:gl)(n:Y):Lv.1=eV (gE n 0 lo)/\Lv.2.1=eV (gE n n hi)/\Lv.2.2=1:=by refine #[?_,?_,rfl];(.cases lo with|a!=>simp[FI,gE]|dJ i=>rw[R3 gE (re>0) o!];by_cases h:i<0;(.rw[K1 h,aen h]);.rw[Do h,aa4 h]);.cases hi with|a!=>simp[FI,gE]|dJ i=>rw[R3 gE (re>0) o!];by_cases h:i<0;(.rw[K1 h,aen h]);.rw[Do h,aa4 h]
ayy(aF:ck)(lo hi:gl):slicePick gH lo hi a!=DU (aF.drop (gE zI 0 lo)) (gE zI zI hi - gE zI 0 lo):=by refine bX (au1 lo hi zA) au h1 h2 h3;unfold slicePick;rw[h1,h2,h3];simp only[sliceRange_one,pick_run,jL]<;>rfl
aIx.1(K:bT):yh:=λ x lo hi H Q=>∃a xs,ga x/\mN aC a/\qF p p yq y!
MH:NT X (aIx a?):=by intro aN s σ H x v vl vu lo hi sl Q I rx hs pl pu h;(rw[b5 (aO h λ a xs avT hx q=>?_) avT]);rw[dX,hZ fN hx λ aF r ht hz=>?_];have bH:=zG;refine(aE ("list") _ Vh ht.isList.typeIs ?_);refine wpAny_getItem_list_slice ht.isList hs pl pu eR jd ?_ (by rw[S7]<;>omega);rw[ayy,<-bH];rw[oq tD (Kp t' lst y! JZ iE ?_) CL (o_ (vE (aeV xs lo hi) hz) _ 0 ((Sj).take J1) ox)]
ic.1:nh|.cB=>bC|.bl _=>bC|e5 _=>bC|.str _=>bC|_=>false
rT.1:V->nh|.cB,.cB=>bC|.bl a,.bl b=>a==b|.bl a,e5 b=>(if a then 1 else 0)==b|e5 a,.bl b=>a==(if b then 1 else 0)|e5 a,e5 b=>a==b|.str a,.str b=>a==b|_,_=>false
aIC{A:dy}{s:ax}{y:V}{u v:a7}(ry:ky)(rx:eI x v)(fy:bb (ic y))(fx:rf ic):SeqAt.EqAt A s u v Fh:=by cases y with|cB=>(cases ry;cases x with|cB=>rw[dX,SeqAt.EqAt.same _]|bl b=>rw[dX,SeqAt.EqAt.none_bool b]|int b=>rw[e6 rx,SeqAt.EqAt.none_int b t]|str b=>rw[e6 rx,SeqAt.EqAt.none_str b t]|_=>rw[t4 q? fx])|bl a=>(cases ry;cases x with|cB=>rw[dX,SeqAt.EqAt.bool_none a]|bl b=>rw[dX,SeqAt.EqAt.bool_bool a b]|int b=>rw[e6 rx,SeqAt.EqAt.bool_int a b t]|str b=>rw[e6 rx,SeqAt.EqAt.bool_str a b t]|_=>rw[t4 q? fx])|int a=>(rw[KB ry];cases x with|cB=>rw[dX,SeqAt.EqAt.int_none a t']|bl b=>rw[dX,SeqAt.EqAt.int_bool a t' b]|int b=>rw[e6 rx,SeqAt.EqAt.int_int a t' b t]|str b=>rw[e6 rx,SeqAt.EqAt.int_str a t' b t]|_=>rw[t4 q? fx])|str a=>(rw[KB ry];cases x with|cB=>rw[dX,SeqAt.EqAt.str_none a t']|bl b=>rw[dX,SeqAt.EqAt.str_bool a t' b]|int b=>rw[e6 rx,SeqAt.EqAt.str_int a t' b t]|str b=>rw[e6 rx,SeqAt.EqAt.str_str a t' b t]|_=>rw[t4 q? fx])|_=>rw[t4 q? fy]
kH.1(x:V)(u:a7):bM:=match u with|eR=>rT .cB x|.bool b=>rT i4 b x|g? i _=>rT tf x|.str z _=>rT (.str z) x|_=>false
Xm{y:V}{u:a7}(r:ky)(f:bb (ic y)):kH x u=Fh:=by cases y with|cB=>cases r;rfl|bl b=>cases r;rfl|int i=>rw[e6 r];rfl|str z=>rw[e6 r];rfl|_=>rw[t4 q? f]
Ig{xs:bQ}(h:bN xs us):L6 ic->us.any (kH x)=xs.any λ y=>Fh:=by induction h with|cd=>exact λ _=>rfl|bn r t ih=>intro f;rw[FJ,jN]at f;rw[rG,rG,Xm r f.1,ih f.2]
E1{A:dy}{s:ax}{v:a7}(rx:eI x v)(fx:rf ic){xs:bQ}(h:bN xs us):L6 ic->∀u∈us,SeqAt.EqAt A s u v (kH x u):=by induction h with|cd=>exact λ _ u hu=>by cases hu|bn r t ih=>intro f u' hu;rw[FJ,jN]at f;rcases tM hu with rfl|hu;(.rw[Xm r f.1];exact aIC r rx f.1 fx);.exact ih f.2 u' hu
ia.1(x:V)(xs:bQ):bM:=xs.any λ y=>Fh
Za.1(K:bT)(neg:bM):R2:=kA y (∃p xs,y=cx p/\(mN aC p\/mN aJ p)/\rf ic/\L6 ic/\Q i4 (if neg then !ia x xs else ia x xs) H)
OJ:dg X n6 .In (Za a? iQ):=by intro aN s σ H x y v u Q I rx ry h;(rw[b5 (xn h λ p xs aFJ hq fx fs q=>?_) aFJ]);cases ry;rcases hq with hq|hq;(.rw[E4 fN SeqAt.in_listAt rE]);.rw[E4 hG SeqAt.in_tupleAt pl]
Zz:dg X n6 .np (Za a? bC):=by intro aN s σ H x y v u Q I rx ry h;(rw[b5 (xn h λ p xs arE hq fx fs q=>?_) arE]);cases ry;rcases hq with hq|hq;(.rw[E4 fN SeqAt.notIn_listAt rE]);.rw[E4 hG SeqAt.notIn_tupleAt pl]
R6:SG (k1 "len") p (Q dk FB H):=by intro aN s σ H xs us Q I r h;(rw[b5 (aO h λ p ys ag5 hq q=>?_) ag5]);(rw[b5 (ah (vF r) au u anf rx) anf]);rw[dX];have hn:=Bh;rcases hq with hq|hq;(.rw[Qg fN Calls.call_len_list rE]);.rw[Qg hG len_tuple pl]
aol:SG Ma p (∀l,ca (H l)->Q bD l qd l ys):=by intro aN s σ H xs us Q I r h;(rw[b5 (aO h λ p ys awZ hq q=>?_) awZ]);(rw[b5 (ah (vF r) au u aDC rx) aDC]);rw[dX];have eY:∀(aF:ck),bN ys aF->Dr->∀(h':d0)(c':Y),(∀b o',KR o'->zL b=ad o')->ST zL {cls:=sB,dict:=a!,rq:=k! gH c',slots:=yr}->w! Q A4 L1 s h':=λ aF r' hz h' c' kp e=>tD (oo zC kp iE (show sH fC _ h' _ (.lst ys)from(o_ hz aF c' r' e))) CL;rcases hq with hq|hq;(.rw[wH fN hq r',BY];obtain⟨o,ho,hc,n,hd⟩:=rE;exact Vs p jx ho hc hd (λ h' c' kp e=>eY aF r' hz h' c' kp e) BO);.rw[Dq r' hz (hG hq),BY];obtain⟨o,ho,hc,n,hd⟩:=pl;exact Vs p t5 ho hc hd (λ h' c' kp e=>eY aF r' hz h' c' kp e) BO
aCq:kF X Uy (λ xs H Q=>∃p ys,xs=[qn]/\((aC a? H p ys/\∀l,ca (H l)->Q bD l iM l dL ys)\/(aJ a? H p ys/\Q bD p H))):=by intro aN s σ H xs us Q I r h;obtain⟨p,ys,rfl,h⟩:=h;obtain⟨u,rfl,rx⟩:=vF r;rw[dX];rcases h with⟨hq,q⟩|⟨hq,q⟩;(.rw[Dq r' hz (fN hq),BY,<-call_tuple_list rE A! h' kp BO];have I1:fq H L1 s h':=oo zM kp;have I2:fq iM Vu dL ys j2 s (h'.push so BZ (.seq gH)):=oo I1.laid (λ b o e=>j?) iE (show sH fC _ _ _ (.dL ys)from#[hz,aF,r',LT]);exact #[bD Vu,_,I2,rfl,q _ Hf I1.aR.fresh _]);.rw[Dq r' hz (hG hq),call_tuple_same pl #[qn,H,I,rfl,q]]
tyV.1(K:bT)(T:kM)(x:V)(H:Hp):Prop:=match x with|.str _=>T="str"|e5 _=>T="int"|cx p=>(T="list"/\∃xs,mN aC p)\/(T="tuple"/\∃o,K.lookup p=ad o/\o.cls=BZ/\o.dict=a!)\/(T="dict"/\((∃aq,dV p dK aq)\/∃aq,dV p dT aq))\/(T="set"/\∃S n,H p=ad (.set S n))|_=>nq
aj7{aN:ez}{σ:St}{H:Hp}{s:ax}{T:kM}{v:a7}(I:cC)(r:eI x v)(ty:tyV a? T x H):zu v T/\∀a,ga v->∃ob,ke a ob/\Ux:=by cases x with|str z=>rw[e6 r];cases(show T="str"from ty);exact #[typeIs_str s z t,L_ e e]|int i=>rw[e6 r];cases(show T="int"from ty);exact #[typeIs_int s i t,L_ e e]|ref p=>(cases r;rcases ty with⟨rfl,xs,hq⟩|⟨rfl,o,hk,hc,hd⟩|⟨rfl,hk⟩|⟨rfl,S,n,hk⟩;((.rw[hZ fN hq λ aF _ pl _=>?_];refine #[Vg,gr a e];cases e;refine fR pl λ o n e c hd _=>?_;exact rg hd);.refine #[bm o (I.jH p o hk) hc,gr a e];cases e;exact bm o (I.jH _ o hk) hd);(. (have z:∃o,ke p o/\o.ExactDict:=by rcases hk with⟨aq,hk⟩|⟨aq,hk⟩;(.refine RN u_ p hk λ _ _ _ _ o _ _ e ex _=>?_;exact rg ex);.refine RN u_ p hk λ _ _ _ _ o _ _ e ex _=>?_;exact rg ex);refine ah z au o e ex;refine #[rg ex.1,gr a e2];cases e2;exact rg ex.2.1);.refine DS u_ p hk λ o _ _ _ e ex _=>?_;refine #[rg ex.1,gr a e2];cases e2;exact rg ex.2.1)|_=>rw[Lo ty]
tBM.1(K:bT)(T:kM)(r:ot)(to:TE)(t:TA):TE:=iN g! to x (tyV K T x H1/\m7 t xs (r x xs H2 Q))
}
variable{o e:a6}{es:c!}{to:TE}{t:TA}{name:a4}{gK kh:bi}{T id:kM}{r:ot}
def z:={
lu(pa:PlainAttrs T)(slot:Slot T name id)(hty:typeOf EI=fE (Bl "method_descriptor"))(hm:MtR X id r)(ho:b? o to)(ha:PA X fX t)(JO:f9 Di o name j3 j3)(OM:k_ Kk Dw fX (FM kh AV []) fX)(MG:k_ LG kh.line)(hs:g5)(A7:nG ((Dw es).any (·.1))):b? (.l4 A1 o name gK fX [] kh) (tBM a? T r to t):=by rw[kn,<-wpAny_Call_method_late JO OM MG Z (qL ho I λ v s1 as6=>fR as6 λ x H1 I1 r1 ty q1=>?_)];obtain⟨h1,h2⟩:=aj7 I1 r1 ty;refine(Ba T id pa slot hty h1 h2 ?_);have hA:=ha kh aN s1 σ H1 _ I1 q1;rw[hs]at hA⊢;refine Vx (by show(false||(Dw es).any (·.1))=false;rw[A7]<;>rfl) (Vy ?_);exact be hA λ us s2 aHX=>aO aHX vc vs r2 (fr hm s2 H2 x vs v us Q I2 r1 r2 q2)
}
section z
def z:={
KO.1(X:Cx)(id:kM)(r:ot):Prop:=∀(aN:ez)(s:ax)(σ:St)(H:Hp)(x:V)(xs:bQ)(v:a7)(us:ck)(Q:VK),cC->eI x v->bN xs us->r x xs H Q->on (call (.zw id) (v::us)) EP
bN.one(h:bN [x] us):∃u,us=[u]/\eI x u:=by cases h with|bn r t=>cases t;exact e9 Z r
}
section
variable{X:Cx}{aN:ez}{σ:St}{H:Hp}{s:ax}{l b:ab}{xs ys zs:bQ}
def z:={
Inv.LX{aF:ck}{f:nb->nb}(I:cC)(hH:mO l)(e:ke l t3)(hf:f gH=Vi)(hv:bN ys its')(hz:Dr):fq qd l ys yl s K6 l f t':=by have q:=PySem.IsL.update e f;rw[hf]at q;rw[oq (Lx x l l (by rw[hH];exact trivial) jx (λ b' u hb hu=>(HW gv (FH f) hb).pi hu) #[_,q] ?_) (o_ hz its' _ hv q)]
Inv.ak3{aF:ck}(I:cC)(hv:bN ys aF)(hz:Dr):fq qd b6 ys yl s (lW sM (.seq gH)) t':=zC Iv iE (o_ hz aF 0 hv ox)
Inv.fresh(I:cC):ca (H b6):=sW
Inv.zy(I:cC)(hH:mO l):KQ/\S' n Me zI ke l t3:=by refine zl u_ l hH λ z aF n r e=>?_;exact(GH z aF n r zG e)
abD(h:p9 n):Ny n=false:=by unfold Ny;exact FN (by exact aHn h)
}
section z
section
variable{X:Cx}
def z:={
aJ4.1:ot:=kA vs (∃l xs y,tr l/\vs=[y]/\mO l/\lh/\Q .cB qd l (xs++[y]))
ug:KO X "list.append" aJ4:=by intro aN s σ H x vs v us Q I rx rv h;(rw[lz (Ko h λ l xs y ali aiy hH hz q=>?_) ali aiy]);rw[dX];(rw[eq rv.one au u av8 ru av8]);rw[C7 n r e,<-NC F.slot_list_append jR e F.entry_list_append io F.args_list_append_2 (PySem.list_append l gH n u (by rw[J4 ab9 hz hl])) #[e,?_],Ln (aF++[u]) e (FQ (.bn ru eC))];rw[zF,List.length_singleton];exact Nat.succ_le_of_lt hz
ang.1:ot:=kA vs (∃l b xs zs,JV (vs=[ig]) dV b lst zs (Q .cB qd l MO))
E6:TL ang:=by intro aN s σ H x vs v us Q I rx rv h;obtain⟨l,b,xs,zs,rfl,rfl,hH,hB,hz,q⟩:=h;rw[dX];(rw[eq rv.one au u aFg ru aFg]);cases ru;rw[C7 n r e,<-zx (I.zy hB) λ z2 km n2 r2 f_ e2=>?_];((have cv:j1 (zA+VA):=by rw[Cw,PZ hz hl f_]);have arc:¬(bb (!aF.toArray.isEmpty&&SE (zA+VA))):=by rw[abD cv,FR];exact Nv);rw[<-QP (AutoSeq1.list_extend_list_list_0 l gH n b ND n2 arc (by rw[J4 AB hl z]) gm VF cv) #[e,e2,?_],Ln (aF++km) e (FQ r2),J2 Lj hz]
aH6.1:R2:=kA y (∃l b xs zs,JV (y=cx b) dV b lst zs qF p p yq MO)
T7:dg X EJ .Add aH6:=by intro aN s σ H x y v u Q I rx ry h;obtain⟨l,b,xs,zs,rfl,rfl,hH,hB,hz,q⟩:=h;rw[dX];cases ry;rw[C7 n r e,<-zx (I.zy hB) λ z2 km n2 r2 f_ e2=>?_];(refine PySem.P.add_list e e2 ?_ (by rw[Cw,PZ hz hl f_]);have ea:gH++ND=n! (aF++km):=by simp);rw[ea];exact(aE bD _ _ (oo I.ak3 (FQ r2) (by rw[J2 Lj hz])) Z (q _ I.fresh))
}
section z
def z:={
bN.ints:∀{ns:mM}{us:ck},bN mJ us->tP us|[],us,h=>by rw[uj h h,IntsAre.nil]|n::ns,us,h=>by rw[jP]at h;cases h with|bn r t=>obtain⟨k,rfl⟩:=r;exact IntsAre.cons n k (bN.ints t)
bN.MJ:∀{bs:qu}{us:ck},bN B0 us->us=Tx|[],us,h=>by rw[uj h h];rfl|b::bs,us,h=>by rw[jP]at h;cases h with|bn r t=>cases r;rw[bN.MJ t,jP]
zO{a:ab}(r:bN [Cc] us):us=[q6]:=by cases r with|bn r t=>cases t;cases r;rfl
}
section
variable{eG:cr}{w:cs}{A:dy}{E:d2}{s:ax}{l:ab}{aF:ck}{ns:mM}{Q:d2}
def z:={
aD0(hh:uP)(hl:Ka)(hi:tP aF)(h:∀h' tk t',(∀b o,jt->DK)->Q (.int ns.sum t') qD):kb vo LR [jE] Q E:=by(rw[JX xs];have hn:numsOf (vG xs).toList=ns:=by rw[KK e]);rw[NE]at hn;rw[e]at hl;refine PySem.sum_intListG hh hl λ h' tk t' hk=>?_;have:=h h' tk t' hk;rw[preSum_eq,VI (by simp),hn];exact cc
aBW(hh:uP)(hl:Ka)(hi:tP aF)(bf:D!)(h:∀h' tk M t',(∀b o,jt->DK)->iB M->(∀a,iB a->a<=M)->Q (.int M t') qD):kb vo wT [jE] Q E:=by(rw[JX xs];have hn:numsOf (vG xs).toList=ns:=by rw[KK e]);rw[NE]at hn;subst hn;rw[e]at hl;rw[jv cv (0<zQ) bf,<-PySem.max_intList hh hl cv λ v h' tk hv hk=>?_,RG hv h1 h2,<-h h' tk _ t hk ?_ λ a ha=>?_];(.rw[NF];exact VM (by rw[Ro,VO cv h1]));. (rw[b5 (ah (mem_getD ha) au j hj aMp) aMp]);rw[Rl h2 j hj]
}
section z
section
variable{X:Cx}
def z:={
aE4.1(K:bT):sN:=λ vs H Q=>ID a ns (vs=[Cc]/\aC K H a mJ/\Q dk ns.sum H)
aMd.1(K:bT):sN:=λ vs H Q=>ID a ns (vs=[Cc]/\aC K H a mJ/\D!/\∀m,iB m->(∀y,iB y->y<=m)->Q IT H)
ag1(hc:cZ):kF X LR (aE4 a?):=by intro aN s σ H vs us Q I r h;(rw[J? ns agR agR]);rw[uf fN hs hl];rw[zO r];exact aD0 (zR hc) FV NK λ h' tk t' hk=>(aE dk _ H UY y5 q)
atF(hc:cZ):kF X wT (aMd a?):=by intro aN s σ H vs us Q I r h;(rw[b5 (fR h λ a ns amz hs bf q=>?_) amz]);rw[uf fN hs hl];rw[zO r];exact aBW EE FV NK bf λ h' tk m t' hk h1 h2=>(aE dk _ H UY y5 (q m h1 h2))
}
section z
def z:={
Yg{eG:cr}{w:cs}{A:dy}{E:d2}{s:ax}{l:ab}{Q:d2}(hl:Ps fK)(h:∀iV:ax,iV=j2 s (lW wW KH [jE,g? 0 0])->(s₂.heap.IsListIter b6 l 0/\s₂.heap.IsList l fK)->l≠b6->BT iV):fj wV A (pyIter jE) Q E s:=by(have a8:oJ l:=by refine ah hl λ _ e _=>?_;exact pj e);exact VS hl (h _ Z #[Mm ox,hl.push _] LV a8)
QQ{eG:cr}{w:cs}{A:dy}{bs:qu}{aF:ck}(e:aF=Tx):TruthOf eG w A (λ i v=>dH gH i v) KY:=λ i v s Q E hv hq=>by rw[jv ph dH aF i v hv];rw[e,rM]at ph;(rw[b5 (ah (VU ph) au b hb alG) alG]);(have hg:Il=b:=by rw[VW,hb]<;>rfl);have fD:Q Il s:=hq;rw[hg]at fD;exact VX fD
NL:∀bs:qu,(S!).any KY=Mx|[]=>rfl|b::bs=>by rw[l5,VY,rG,VZ,rG,<-NL bs];all_goals rfl
NN:∀bs:qu,(S!).all KY=Mw|[]=>rfl|b::bs=>by rw[l5,VY,FJ,List.all_map,FJ,<-NN bs];all_goals rfl
}
section
variable{X:Cx}
def z:={
af4.1(K:bT):sN:=λ vs H Q=>Si a bs Mx
ayf.1(K:bT):sN:=λ vs H Q=>Si a bs Mw
aI1(hc:cZ):kF X Uo (af4 a?):=by intro aN s σ H vs us Q I r h;(rw[J? bs af0 af0]);rw[uf fN hs hl];rw[zO r];have hb:=rv.MJ;refine call_any_walk TF Yg e2 st;subst e2;refine #[_,_,_,_,_,_,_,rfl,LF X.A.in1 EE _ a bf gH,st,QQ hb,au h' tk hk];refine(aE Bx H (zM mG eo (hk b o ml fu sx eo)) ?_ q);(.rw[Qz fu eo fu]);.show D8=D8;rw[<-NL,hb,jL,hJ]
awb(hc:cZ):kF X Ur (ayf a?):=by intro aN s σ H vs us Q I r h;(rw[J? bs awB awB]);rw[uf fN hs hl];rw[zO r];have hb:=rv.MJ;refine call_all_walk TF Yg e2 st;subst e2;refine #[_,_,_,_,_,_,_,rfl,LF X.A.in1 EE _ a bf gH,st,QQ hb,au h' tk hk];refine(aE Bx H (zM mG eo (hk b o ml fu sx eo)) ?_ q);(.rw[Qz fu eo fu]);.show D8=D8;rw[<-NN,hb,jL,hJ]
}
section z
mutual inductive Dp(K:bT)(H:Hp):V->d? FW
 |cB:Dp K H .cB eR
 |bl(b:bM):Dp K H i4 b xJ b
 |int(i:a3):Dp K H tf tf
 |str(x:a4):Dp K H (.str x) (.str x)
 |lst{a:ab}{xs:bQ}{ds:uV}:mN aC a->xu K H xs ds->Dp K H eS (.list ds)
 |dL{a:ab}{xs:bQ}{ds:uV}:Eg->xu K H xs ds->Dp K H eS E_ ds inductive xu(K:bT)(H:Hp):bQ->uV->Prop
 |cd:xu K H [] []
 |bn{v:V}{vs:bQ}{d:FW}{ds:uV}:Dp K H v d->xu K H vs ds->xu K H MV (d::ds)end
section
variable{X:Cx}{aN:ez}{σ:St}{H:Hp}{s:ax}
mutual theorem F1(I:cC):∀(d:FW)(v:V)(u:a7),Dp a? H v d->eI v u->∃as,Reads gv u d as|eR,_,_,h,r=>by cases h;cases r;exact #[_,Reads.none]|.bool b,_,_,h,r=>by cases h;cases r;exact #[_,Reads.bool b]|e5 i,_,_,h,r=>by cases h;rw[e6 r,#[_,Reads.int i t]]|.str x,_,_,h,r=>by cases h;rw[e6 r,#[_,Reads.str x t]]|.list ds,_,_,h,r=>(by cases h with|lst hs ha=>cases r;rw[hZ fN hs λ aF rv aJa _=>fR aJa λ o n ho hc _ hd=>?_];obtain⟨as,hr⟩:=K0 aF ha rv;exact #[_,Reads.list ho hc hd hr])|.tuple ds,_,_,h,r=>(by cases h with|dL hs ha=>cases r;rw[hZ hG hs λ aF rv ayB _=>yk ayB EN ho hc n];obtain⟨as,hr⟩:=K0 aF ha rv;exact #[_,Reads.tuple ho hc hd hr])|.dict _,_,_,h,_=>by cases h theorem V3(I:cC):∀(ds:uV)(vs:bQ)(us:ck),xu a? H vs ds->bN vs us->∃as,ReadsAll gv us ds as|[],_,_,h,r=>by cases h;cases r;exact #[_,ReadsAll.nil]|d::ds,_,_,h,r=>by cases h with|bn h1 h2=>cases r with|bn r1 r2=>obtain⟨as,q1⟩:=F1 I d _ _ h1 r1;obtain⟨bs,q2⟩:=K0 _ h2 r2;exact #[_,ReadsAll.cons q1 q2]end
section z
section
variable{X:Cx}
def z:={
aFH.1(K:bT):R2:=kA y (∃d e,Dp K H x d/\Dp K H y e/\K7 d/\bb (F5 e)/\Q i4 (NQ d e) H)
OV(hu:Tm):dg X n6 .Eq (aFH a?):=by intro aN s σ H x y v u Q I rx ry h;refine xn h λ d e hd he sd se q=>?_;obtain⟨as,r1⟩:=F1 I d x v hd rx;obtain⟨bs,r2⟩:=F1 I e y u he ry;exact SeqAt.compareEq_shaped r1 r2 sd se hu (aE Bx H I Z q)
}
section z
def z:={
Wq.2(h:d0)(c:ab)(v:sA):Prop:=h.IsCell c v
akR.1(da sc:eX):eX:={da with dP:=scope.names.map λ qk=>if(H! (k==fY))then(n,f7)else qk}
gu.1(jO:bh):lf->bh->bh|[],bd=>bd|ES,bd=>if Ce then gu jO r ((n,Kt)::bd)else gu jO r bd
Xn(env:Env)(f:a4×NR->bh->Sem (ForInStep bh))(hf:∀n k c,f qk c=if Ce then(do let a<-cellOf env n;fE (.yield ((n,a)::c)))else fE (.yield c)):∀(dP:lf)(bd:bh),(∀y∈dP,B_->∃c,NU y.1=ad c)->forIn dP bd f=kG (gu F8 dP bd)|[],bd,_=>by rw[V5];rfl|ES,bd,h=>by rw[List.forIn_cons,hf];have ih:=λ bd=>Xn env f hf r bd λ y hy=>h y Bj hy;show _=fE (if Ce then gu F8 r ((n,SA)::bd)else gu F8 r bd);by_cases hk:(bb w6 k);(.rw[e! hk,e! hk];obtain⟨c,hc⟩:=h qk F9 iz hk;(have e:cellOf env n=fE c:=by unfold cellOf;rw[hc]);rw[e];(have e2:SA=c:=by rw[hc];rfl);rw[e2];exact ih _);.rw[EG,EG];exact ih _
anK(h:xq (B_->∃c,NU y.1=ad c)):closureFor da env=kG (gu F8 nv []):=by simp only[closureFor];rw[Xn env _ (λ n k c=>rfl) nv [] h];rfl
NV{l:pJ α}{n:a4}{c:α}(h:(n,c)∈l):∃c',l.lookup n=ad c':=by induction l with|cd=>cases h|bn q r ih=>obtain⟨k,v⟩:=q;rw[z0];cases hb:n==k with|bC=>exact y5|false=>rcases DC with e|h;(.cases e;simp at hb);.exact ih h
acX:∀{dP:lf}{bd:bh}{n:a4}{c:ab},(n,c)∈tC gu jO->(n,c)∈bd\/((n,fY)∈dP/\c=Kt):=by intro dP;induction dP with|cd=>exact λ h=>.inl h|bn q r ih=>intro bd n c h;obtain⟨m,k⟩:=q;have h:(n,c)∈QU jO m ((NS m).getD 0):=h;by_cases hk:(bb w6 k);(.rw[e! hk]at h;rw[jv hk (k=fY) hk];rcases ih h with h|⟨h1,h2⟩;(.rcases DC with e|h;(.cases e;rw[oO #[SZ hk,rfl]]);.exact .inl h);.rw[oO #[C1,h2]]);.rw[EG]at h;rcases ih h with h|⟨h1,h2⟩;(.exact .inl h);.rw[oO #[C1,h2]]
aDt:∀{dP:lf}{bd:bh}{p:a4×ab},p∈bd->p∈tC gu jO:=by intro dP;induction dP with|cd=>exact λ h=>h|bn q r ih=>intro bd p h;obtain⟨m,k⟩:=q;show p∈QU jO m ((NS m).getD 0);by_cases hk:(bb w6 k);(.rw[jB hk,ih Bj h]);.rw[lB hk,ih h]
Nf{jO:bh}:∀{dP:lf}{bd:bh}{n:a4},(n,fY)∈dP->(n,Kt)∈tC gu jO|(m,k)::r,bd,n,h=>by unfold gu;rcases DC with e|h;(.cases e;exact aDt F9);.split;(.exact Nf h);.exact Nf h
Au:∀{dP:lf}{h:d0}{bd:bh}{x:a4}{c:ab},JS (x,c)->(x,c)∈bd\/((x,f7)∈dP/\z1<=c/\Wq (NW h dP) c a!)|[],_,_,_,_,h=>.inl h|ES,h,bd,x,c,hm=>by unfold pk at hm;unfold NW;split at hm;(.rename_i hk;rw[jB hk,jv hk (k=f7) hk];rw[<-S_ (.cell a!)]at hm;rcases Au hm with hm|⟨h1,h2,h3⟩;(.rcases tM hm with e|hm;(.cases e;rw[oO (HQ SZ hk iE _ (V7 r _ _ _ ox) Z)]);.exact .inl hm);.rw[KC h2,oO #[C1,F_ h2,h3]]);.rename_i hk;rw[lB hk];rcases Au hm with hm|⟨h1,h2,h3⟩;(.exact .inl hm);.rw[oO #[C1,h2,h3]]
Gn:∀{dP:lf}{n:Y}{bd:bh}{p:a4×ab},p∈bd->p∈tC pk n|[],_,_,_,h=>h|(m,k)::r,n,bd,p,h=>by unfold pk;split;(.exact Gn Bj h);.exact Gn h
Km:∀{dP:lf}{n:Y}{bd:bh}{x:a4},(x,f7)∈dP->∃c,(x,c)∈tC pk n|(m,k)::r,n,bd,x,h=>by unfold pk;rcases DC with e|h;(.cases e;exact #[n,Gn F9]);.split;(.exact Km h);.exact Km h
Ox:∀{dP:lf}{h:d0}{bd:bh}{x y:a4}{c:ab},(∀p∈bd,p.2<z1)->(∀x y c,(x,c)∈bd->(y,c)∈bd->x=y)->JS (x,c)->JS (y,c)->x=y|[],_,_,_,_,_,_,hi,h1,h2=>la hi h1 h2|ES,h,bd,x,y,c,hl,hi,h1,h2=>by unfold pk at h1 h2;split at h1;(.rename_i hk;rw[e! hk]at h2;rw[<-S_ (.cell a!)]at h1 h2;refine Ox (h:=h.push _) EU (λ x y c a b=>?_) h1 h2;(.rw[rN];rcases tM hp with rfl|hp;(.exact Nat.lt_succ_self _);.exact NX (hl p hp));.rcases FL a with e|a<;>rcases FL b with e'|b;((.cases e;cases e';rfl);.cases e;rw[i! (hl _ b) xt]);(.cases e';rw[i! (hl _ a) xt]);.exact la hi a b);.rename_i hk;rw[EG]at h2;exact Ox hl hi h1 h2
aHD{A:dy}{E:d2}{s:ax}{NY:ab}{F':bh}{fS:a4}{func:lA}{code:a7}{around:Env}{builtins:ab}{Q:sv Env}(h:Q Ts (newEnv da b6 NY Hq (b6+1) F') func code j2 s B6):fj M A Ts (V9 da NY F' []) func code Q E s:=by simp only[V9,V_,o!];rw[j0 wpAny_alloc ?_,ci bF (wpAny_layCells _ (λ n k c=>rfl) nv F') ?_];rw[y0 (EF {s with rp:=lW nO}).heap.objs.size Th (rN ..)];rw[V5];exact e? qE h
Jz{sc:eX}:∀{dP:lf}{x:a4}{k:NR},(names.map λ qk=>if(H! w6 k)then Tr else qk).lookup x=ad k->∃k',names.lookup x=ad k'/\(k=k'\/(k'=fY/\k=f7))|[],_,_,h=>by simp at h|(n,k₀)::r,x,k,h=>by have ih:=@Jz sc r x k;have h':List.lookup x (Ly I0 Tr (n,k₀)::(r.map _))=ad k:=h;cases hx:x==n with|bC=>simp only[z0,hx];by_cases hc:(bb I0);(.rw[e! hc]at h';rw[CM hx h'];cases h';simp only[jN,rO]at hc;exact e_ k₀ jc #[hc.1.1,rfl]);.rw[fG hc]at h';rw[CM hx h'];cases h';exact e9 Z jx|false=>simp only[z0,hx];by_cases hc:(bb I0);(.rw[e! hc]at h';rw[CM hx h',ih h']);.rw[fG hc]at h';rw[CM hx h',ih h']
}
structure df(N:dp)(sc da:eX)(own:qS):Prop where
 kind:scope.kind=wP
 uniq:xq (vO y.1=ad y.2)
 ix:∀p∈own,N[p.2]?=ad p.1
 free:xq (B_->SI f7\/SI fY)
 own:xq (y.2=.local\/y.2=f7->y.1∈LH\/y.1∉N)
def z:={
rU.1(σ:St):c?->St|[]=>σ|v::vs=>(mz).set v a!
Oh(σ:St):∀vs:c?,cW mz=σ.length|[]=>rfl|v::vs=>by unfold rU;rw[Vq,Oh σ vs]
Jl{σ:St}{i:Y}{x:V}:∀{vs:c?},mz[i]?=ad xl->dH σ i xl/\i∉vs|[],h=>#[h,Hs]|v::vs,h=>by unfold rU at h;by_cases hi:v=i;(.subst hi;by_cases hv:v<cW mz;(.rw[List.getElem?_set_self hv]at h;cases h);.rw[V? (by simpa using hv)]at h;cases h);.rw[List.getElem?_set_ne hi]at h;obtain⟨h1,h2⟩:=Jl h;exact #[h1,by simp only[List.mem_cons,not_or];exact #[λ e=>hi e.symm,h2]]
Cx.cD.2(X:Cx)(s:ax)(H:Hp)(da:eX)(eT:Env)(fp:bA):Cx:={X with ip:=s,Av:=H,env:=eT,br:=X.stack,ex:=fp,fn:=λ x=>vO x==A8,pn:=[],xe:=λ _ _=>nq}
}
section
variable{X:Cx}{aN:ez}{σ:St}{H:Hp}{s:ax}
def z:={
awA{fp:bA}(I:cC)(ok:iK)(hN:e7)(r8:u5 b (p_ pA H b/\oJ b)):Inv sm s H sn IY b6 [] wb H j2 s B6:=by(have zW:Qs:=λ y hy e=>by rw[R_ (F? y hy e) k k]);generalize CK:sn IY b6=eT;have kp:∀b o,jt->gX (B6).get?:=mG e Kn j?;((have hL:z4=b6:=by rw[<-CK];rfl);have ij:eT.cells=IY:=by rw[<-CK];rfl);(have bJ:eT.scope=akR da F!:=by rw[<-CK];rfl);rw[<-rN gv nO]at ij;(have cm:∀{y c},(y,c)∈A3->Sr/\oJ c:=λ{y c}hm=>by rcases acX hm with hm|⟨h1,rfl⟩;(.cases hm);.obtain⟨c,hc⟩:=zW _ h1 Z;rw[hc];obtain⟨w,z⟩:=bF I.cell hc;exact #[rfl,z.lt]);((have mem:∀{y c},m8->(NZ y=ad c/\oJ c)\/(b6+1<=c/\Wq B6 c a!):=λ{y c}e=>by rw[ij]at e;rcases Kj Au with hm|⟨_,h2,h3⟩;(.exact .inl (cm hm));.rw[KC h2,oO #[h2,h3]]);have look:∀{y},PD->∃c,m8/\Sr:=λ{y}hl=>by have hy:(y,V6)∈nv:=Dl hl;obtain⟨c',e'⟩:=NV (Gn (dP:=nv) (n:=Qh) (Nf (jO:=Wa) (bd:=[]) hy));rw[<-ij]at e';refine bm c' e' ?_;rw[ij]at e';rcases Au (z5 e')with hm|⟨h1,_,_⟩;(.exact(cm hm).1);.have:=N0 _ h1;rw[h? hl cc cc]);(have okB:(sm s H eT).Ok:=by(refine #[I.ok.mod,by show eT.scope.kind=_;rw[ev bJ ok.kind],by show eT.globals=_;rw[<-CK];exact I.ok.glob,by show eT.builtins=_;rw[<-CK];exact I.ok.blt,by show b6<=z4;rw[hL];exact kI _,λ y z c e1 e2=>?_,gr y hy,λ y c z e=>?_,zR,I.ok.frames,.inl Z,zm b #[?_,λ y c e z=>?_],I.bs,LI I.ok.pq I.sz,λ b o e hb=>?_,au b hb z,I.stack,I.ZT];.have e1:m8:=e1;have e2:Wc z=ad c:=e2;rw[ij]at e1 e2;refine Ox EU (λ y z c a b=>I.ok.inj y z c (cm a).1 (cm b).1) (z5 e1) Dl e2;rw[rN];exact NX (cm (y:=p.1) (c:=p.2) hp).2);(((.show∃c,m8;(have key:∀k,N2 y=ad k->(k=f7\/k=fY)->∃c,m8:=λ k hk cj=>by unfold Env.kindOf at hk;rw[bJ]at hk;rw[j! Jz hk au k' e r];(have:k'=f7\/k'=fY:=by rcases r with rfl|⟨rfl,_⟩;(.exact cj);.rw[oO Z]);rcases cc with rfl|rfl;(.obtain⟨c,hm⟩:=Kj (Km (n:=Qh) (bd:=A3));obtain⟨c',e'⟩:=NV hm;exact #[c',by rw[ev ij e']]);.rw[j! look e λ c h1 _=>?_];exact #[c,h1]);rcases hy with hy|hy;(.exact key _ hy jx);.exact key _ hy t5);.have z:bb (vO y==ad V!):=z;rw[jv z (vO y=ad f7) z];have e:m8:=e;rw[ij]at e;rcases Kj Au with hm|⟨_,h2,_⟩;(.rcases acX hm with hm|⟨h1,_⟩;(.cases hm);.have q:=N0 _ h1;rw[h? z q q]);.rw[KC h2,F_ h2]);(.show b≠z4;rw[hL];exact nu (g0 r8).2);.have e:m8:=e;rcases mem e with⟨h1,_⟩|⟨h1,_⟩;(.exact Ei.2.2.2.2.1 y c h1 z);. (have h2:Th<=b:=by rw[<-z];exact h1);rw[i! (Wd (g0 r8).2 (F_ h2)) xt]);(.rcases Ei.2.2.2.1 with z|z;(.exact I.ok.BD b o e z);.rw[i! (Wd (pj e) LI I.ok.pq z) xt]);.rcases tM (I.IJ b z)with z|z;(.exact Ei.2.1 z);.exact Ei.2.2.1 z);(refine #[okB,rfl,I.bare,Un.kept kp,(bm (λ _=>a!) ?_ λ i y av e1 e2 e3=>?_),au y c e,?_,au y c e,gr p hp,I.aR.kept kp,by rw[ev Oh I.len]];.show Heap.Ns _ z4 _;rw[hL];exact Heap.Ns.keeps (Heap.Ns.new ..) mG e Kn e);(((.obtain⟨e2,bf⟩:=Jl e2;(have GU:RL:=by(have key:∀k,eT.scope.names.lookup y=ad k->k=.local\/k=f7\/k=fY->RL:=λ k hk cj=>by have jU:=hk;rw[bJ]at hk;rw[j! Jz hk au k' e r];(have no:¬(k'=.local\/k'=f7):=λ hh=>by rcases ok.own _ (z5 e) hh with e'|e';(.rw[j! We e' au p hp hpy];have e3:=ok.ix p hp;have:p.1=y:=hpy;rw[cc]at e3;exact bf (List.mem_map.mpr bm p hp (OH hN e3 e1)));.exact e' (Wf e1));rcases r with rfl|⟨rfl,rfl⟩;(.rcases cj with rfl|rfl|rfl;((.rw[i! jx no]);.rw[i! t5 no]);.exact #[e,.inr jU]);.exact #[e,.inl jU]);have e3:ny eT.scope y:=e3;rcases e3 with e3|e3|e3;((.exact key _ e3 jx);.exact key _ e3 jc jx);.exact key _ e3 jc t5);refine ah I.loc au m hn hl;have aqx:Bb ny y:=(F? _ Dl GU.1 Z).elim (λ k=>.inr gY k) (λ k=>.inr jc k);rw[<-ah (hl i y av e1 e2 aqx) au w r q,<-bm w r jc #[GU.2,?_],j! look GU.1 au c h1 h2];rcases q with⟨k,_⟩|⟨_,c',e',z⟩;(.have k:Hn:=k;rcases F? _ Dl GU.1 Z with k'|k'<;>rw[show N3 y=_ from k']at k<;>cases k);.rw[h? h2 e' e',(af c h1 (z.keeps kp))]);.have e:m8:=e;rcases mem e with⟨h1,_⟩|⟨_,z⟩;(.obtain⟨w,z⟩:=I.cell y c h1;exact #[w,z.keeps kp]);.exact #[_,z]);.show ca (H z4);rw[hL];exact sW);(.have e:m8:=e;rcases mem e with⟨h1,_⟩|⟨h1,_⟩;(.exact I.ly y c h1);.exact Nj (F_ h1));.rw[i! (show p∈([]:ez)++[]from hp) jd]
aF1{E:d2}{D:ab}{xs:bQ}{y:V}{v:a7}{Q:d2}(I:cC)(hD:mO D)(hz:lh)(r:eI y v)(h:∀s',fq su H D (xs++[y]) s'->vt eR):wq vo S3 [oG,v] Q E:=by refine zl u_ D hD λ FO aF n ri e=>?_;have hl:=ri.length;refine append_at (cv:=by rw[J4 ab9 hz hl]) e au h' sb i';refine h L1 s h' (oo I.write (by rw[hD];trivial) jx (λ b u hb q=>(Fa sb).pi q) #[_,i'] (o_ (by rw[R9]) (aF++[v]) (n+1) (ri.append (.bn r eC)) ?_));rw[i'];simp
Cv.1(X:Cx)(ifs:c!)(t:TT):Prop:=∀(aN:ez)(s:ax)(σ:St)(H:Hp)(Q:kP bM),cC->t σ H Q->on Rs c r (z6 c gA nE c) TP
kO.1:TT:=λ _ H Q=>Q bC H
pD:Cv X [] kO:=λ _ _ _ H _ I h=>wpAny_tests_nil bm H I h
IM{t:TT}(h:PT X c t):Cv X [c] t:=λ aN s σ H Q I hw=>wpAny_tests_one (fr h s H Q I hw)
}
section z
def z:={
zX{t:Sem α}{Q Q':sv α}{A:dy}{E:d2}{s:ax}(h:fj M A t Q uY s)(hQ:∀a s,Q a s->Q' a s):fj M A t Q' E s:=m? h hQ λ _ _ z=>False.elim z
apH{eG:cr}{w:cs}{A:dy}{R:KJ}{s:ax}{Ga:a6}{al:bi}{it bd:a7}(I:sv Y)(turn:∀n s,I n s->fj wV A (pyNext it) (λ r l6=>match r with|a!=>R (.ok .next) l6|jD=>xw (letOwnedTupleGo Ga it v) (λ _ s₁'=>xw (assign Ga env v) (λ _ iV=>xw Rs c r (z6 c env zg c) (λ ok rX=>Hl ok xw zg elt (λ x s₄=>xw vo S3 [bd,x] (λ _ s₅=>∃m,m<n/\I m s₅) s₄) rX (∃m,m<n/\I m rX)) iV) s₁') l6) O! A e e s)(n:Y)(h:I n s):C' (.compLoop Q5 0 it bd env) R s:=by refine codeAny_loop Z I jZ n s hI n h;show fj _ A ((compTurn Q5 0 it bd env).onRaise qf (do noteFrame x env;theTreesLotGoes x)) _ _ s;refine wpAny_noted ?_;rw[compTurn_list];rw[ci Sx m? (turn n s hI) jZ r l6 h₁ kB _ h' h'];cases r with|a!=>rw[DO h₁]|dJ v=>rw[ci m? h₁ (λ _ s₁' h₁'=>?_) kB _ h' h',ci m? h₁' (λ _ iV h₂=>TU h₂ jZ ok rX h₃ kB _ h' h') kB _ h' h'];cases ok with|false=>rw[DO #[rfl,h₃]]|bC=>exact e? (e? m? h₃ (λ x s₄ h₄=>TU h₄ (λ _ s₅ h₅=>qE #[rfl,h₅]) kB _ h' h') kB _ h' h')
}
section
variable{X:Cx}
def z:={
mo.1(wi:TI)(g:TG)(tt:TT)(te:TE)(vs:c?):TE:=iN g! wi J (∀D,rc D->Id w_ (W 0 m w4) (∀i m H,W i m H->(J.stop i H/\Q bD D H)\/(J.go i H/\Pi x J.oU x)))
abP{aN:ez}{s:ax}{σ:St}{H:Hp}{Q:VK}{tg:a6}{al hM:bi}{te:TE}{use:nF (a7->Sem Unit)}{Qf:d2}(hc:cZ)(hN:e7)(I:cC)(hi:LW wi)(ok:iK)(hg:∀(s:ax)(H:Hp)(C:ab)(cl:bh)(fp:bA),m3 PG tg g)(ht:∀(s:ax)(H:Hp)(C:ab)(cl:bh)(fp:bA),m3 Cv ifs tt)(he:∀(s:ax)(H:Hp)(C:ab)(cl:bh)(fp:bA),m3 PE elt te)(hs:∀x,Wj fc gA x=kG x)(h:w9 (mo wi g tt te) H Q)(hRR:∀D C s' m H',Dx->Q oG H'->s'.heap.Ns C m->p_ pA H' C->HA compPost l1 use Qf oG C (.ok .next) s'):wq QR hM [] use Qf l1:=by(have zW:Qs:=λ y hy e=>by rw[R_ (F? y hy e) k k]);refine wpAny_comprehension_free (use:=use) Z hs (anK zW) ok.kind (λ y hy e=>by rw[N0 y hy,e]) (qL hi I λ xv s1 hx=>be hx au KI s2 h2);refine zT h2 λ it fp tn J H2 e I2 T uC f2 q=>?_;subst e;refine FA (aHD ?_) (by show 0<=rB;decide);generalize hD:Gb=D;have hDn:ca (H2 D):=I2.aR.fresh (N7 hD);refine ah (q D hDn) λ W aCr turn=>cG aCr gr m0 w0;generalize Zw:EF {s2 with rp:=Rd n! ([]:ck)}=s3;((have I3:fq w3 s3:=by rw[<-Zw];refine I2.laid (t':=s2.toks) (λ b o e=>j?) (N7 hD) (o_ (Gc _) ([]) 0 eC ?_);rw[<-hD];rw[Sq Z]);have h3:s3.heap=Rd n! ([]:ck):=by rw[<-Zw]);have sz:u5 b Tg:=zm b (by refine ah (T.obj _ _ uC b hb) λ o e _=>?_;exact pj e);(have f3:u5 b (p_ pA w3 b/\b<l2):=zm b (by have a8:=g0 sz;refine #[#[?_,(g0 f2).2],by rw[h3,rN];exact NX a8];rw[aV (by rw[<-hD];exact nu a8)];exact(g0 f2).1);have yR:tn 0 s3.heap:=la T.keep uC λ b _ o e=>by rw[h3];exact Vf _ e);have I4:=awA I3 ok hN f3;have pg:=IX hg s3;have pt:=IX ht s3;have pe:=IX he s3;show N4 _ _ (.compStart tB 0 bD it oG P2) QS Qf j2 s3 P?;have Wg:u5 b ca (w3 b):=zm b (g0 f3).1.1;generalize KU:P2=ce at I4 pg pt pe⊢;(have cL:N8=l2:=by subst KU;rfl);generalize hH3:w3=H3 at I3 I4 pg pt pe w0 Wg f3;generalize Ol:EF {s3 with rp:=P?}=s4 at I4⊢;(have qx:tn 0 s4.heap:=la T.keep yR λ b _ o e=>by rw[<-Ol];exact Kn j?);have xf:∀{a2:St}{H':Hp}{s':ax},Inv qo [] a2 H' s'->(∀b∈fp,ca (H' b))->u5 b (pA qo [] H' b):=λ{a2 H' s'}I' hn b hb=>(Hw g0 hn ((g0 I'.ok.Iu).1) g0 I'.ok.xO gY hb (λ x c e=>(g0 I'.ok.Iu).2 x c e) (λ p hp=>absurd (show p∈([]:ez)++[]from hp) jd));(have loop:N4 LQ X.A (.compLoop tB 0 bD it oG ce) QS Qf s4:=by refine apH (λ n s'=>Qv i i n) ?_ m0 (ji 0 H3 I4 qx Wg w0);rintro n s5⟨i,H5,I5,uK,n5,w5⟩;rcases turn i n H5 w5 with⟨stop,qq⟩|⟨go,Nx,hNx,step⟩;(.have td:=T.done qo Z Z Z hc i [] s5 _ H5 uY I5 (xf I5 n5) uK stop;refine zX td λ r s6 ama=>bq ama gr hr I6;subst hr;(have I7:fq H5 s6:=I3.ary (ch:=fp) I6.os I6.base I6.aR I6.bare zm b (fQ (Er.2.2.2.1) (Er.2.1) (Er.2.2.2.2.1) (Er.2.2.2.2.2));have nC:ca (H5 l2):=by have z:ca (H5 N8):=I6.free;rw[cL]at z;exact z);refine ah I6.loc λ m hn _=>?_;have hn:s6.heap.Ns N8 m:=hn;rw[cL]at hn;exact hRR D l2 s6 m H5 I7 qq hn (I3.B3 (kI _) nC));.have ti:=T.item qo Z Z Z hc i [] s5 _ H5 uY I5 (xf I5 n5) uK go;refine zX ti λ r s6 ahq=>ah ahq au u hr h6;subst hr;refine zX h6 λ _ s7 aFs=>xn aFs λ x H7 I7 r7 y7 P4 n7=>?_;have I7':=I7.pinned (xf I7 n7) bF T.obj P4;refine zX (pg _ s7 _ H7 x u _ I7' r7 (step x H7 y7)) λ _ s8 auI=>aO auI λ σ8 H8 I8 T8 q8=>?_;refine zX (pt _ s8 σ8 H8 _ I8 q8) λ b s9 avR=>ah avR au H9 I9 q9;(have eY:∀{s':ax}{H':Hp},Inv qo ([]++Dh fp s7.heap) σ8 H' s'->Nx H'->∃m,m<n/\Qv i i m:=λ{s' H'}I' nx=>by refine ah (hNx H' nx) au m' hm w';(have Yd:u5 b (∀o,gX s7.heap.get?->gX s'.heap.get?/\ca (H' b)):=λ b hb o e=>let z:=I'.pin (b,o) SL SL (Mp hb e);#[z.1,z.2.1];have hl:cW wb=σ8.length:=by rw[<-T8,Oh]);refine #[m',hm,i+1,H',(I'.Es (aN:=[])).weak hl EZ v,la T.keep P4 λ b hb o e=>(Yd b hb o e).1,gr b hb,w'];(.rw[<-T8]at e;exact(Jl e).1);.refine ah (T.obj _ _ P4 b hb) λ o e _=>?_;exact(Yd b hb o e).2);cases b with|false=>simp only[N9,M8]at q9⊢;exact eY I9 q9|bC=>simp only[o!]at q9⊢;refine zX (pe _ s9 σ8 H9 _ I9 q9) λ z dF aFq=>Qb aFq λ yv mf I10 r10 bd ahC Qj nx=>?_;exact aF1 (X:=qo) I10 ahC Qj r10 λ yD I11=>eY I11 nx);exact codeAny_compStart_list loop la (T.self X.A 0) qx loop
vP{tg:a6}{al:bi}{te:TE}(hc:cZ)(hN:e7)(hi:LW wi)(ok:iK)(hg:∀(s:ax)(H:Hp)(C:ab)(cl:bh)(fp:bA),m3 PG tg g)(ht:∀(s:ax)(H:Hp)(C:ab)(cl:bh)(fp:bA),m3 Cv ifs tt)(he:∀(s:ax)(H:Hp)(C:ab)(cl:bh)(fp:bA),m3 PE elt te)(hs:mW):b? tB (mo wi g tt te U0):=by rw[kn];rw[eval_ListComp];refine abP hc hN I hi ok hg ht he hs h λ D C s' m H' I' q hn f=>(bm m hn λ h'' sb=>?_);refine lK f EQ;exact(aE oG H' E3 (I'.turned (t':=s'.toks)) b (Fg Fa sb e) Z q)
yt{i:Y}{y:a4}{py:bi}{tg:a6}{al jg:bi}{te:TE}(hc:cZ)(hN:e7)(hy:dH X.N i y)(QG:Hn)(lS:sQ tB ad Ew jg.line=fE bC)(hi:LW wi)(ok:iK)(hg:∀(s:ax)(H:Hp)(C:ab)(cl:bh)(fp:bA),m3 PG tg g)(ht:∀(s:ax)(H:Hp)(C:ab)(cl:bh)(fp:bA),m3 Cv ifs tt)(he:∀(s:ax)(H:Hp)(C:ab)(cl:bh)(fp:bA),m3 PE elt te)(hs:mW):PS X (.po [Ew] tB jg) (Md (mo wi g tt te U0) (dC i)):=by rw[sI D I h];rw[la exec_Assign_Name_used _ lS];rw[ci Sx ?_,kT X.A (do let _<-QR (firstIterPos [#[tg,fc,ifs,0]] al) [] ad sk assign Ew) s];have h:w9 (mo wi g tt te) H λ x H1=>dC i x σ H1 l7:=h;rw[ci (be (abP (Qf:=λ _ s'=>SP X aN D .next s') hc hN I hi ok hg ht he hs h λ L C s' m H' I' q hn f=>?_) λ _ s' hq=>qE hq),kT _ (assign Ew gA bD L) _,<-wpAny_assign_Name (VJ (v:=V.ref L) I' hN hy gY QG Z (λ s2 I2 as3=>ah as3 au a sb ha) jc QG),<-lK f EQ];(have haC:C≠a:=by rcases ha with z|z;(.rw[ev z f1]);.exact λ e=>f4 y a z e.symm);rw[oq (bm m (hn.sameBut sb haC) λ h3 sb3=>?_) (cE _ H' E3 (I2.turned (t':=s2.toks)) b (Fg Fa sb3 e) q)]
}
section z
def z:={
yw{lo:a3}{te:TE}{vs:c?}{σ:St}{D:ab}(Pv:w_)(h0:Pv 0 w4)(hs:∀i H,i<n->qA i (g AD i mz H Bk b vv Bg vv H3))(hd:∀H,qA n (Qd H)):IH MT MT (MT).oU:=by rw[Ji n (i<=n) n];rintro i m H⟨rfl,hi,p⟩;by_cases a8:i<n;(.rw[Ix a8 (λ H' p'=>II (n - jX) a8 p') x];subst e y;exact hs i _ a8 p);.rw[CX n iE (hd H p)]
ER{a:ab}{xs:bQ}{te:TE}{vs:c?}{σ:St}{D:ab}(Pv:w_)(h0:Pv 0 w4)(hl:∀i H,yO->qA i mN aC a)(hs:∀i x H,qa i x qA i (g x mz H Bk b vv Bg vv H3))(hd:SH):IH (tV K a) (tV K a) (tV K a).oU:=by rw[Ji b4 yO b4];rintro i m H⟨rfl,hi,p⟩;have q:=hl i H hi p;by_cases a8:L?;(.rw[PX i y q]);.rw[CX b4 (af xs q (kI _)) (hd H p)]
atD{a:ab}{xs:bQ}{te:TE}{vs:c?}{σ:St}{D:ab}(Pv:w_)(h0:Pv 0 w4)(hl:∀i H,yO->qA i Eg)(hs:∀i x H,qa i x qA i (g x mz H Bk b vv Bg vv H3))(hd:SH):IH (uM K a) (uM K a) (uM K a).oU:=by rw[Ji b4 yO b4];rintro i m H⟨rfl,hi,p⟩;have q:=hl i H hi p;by_cases a8:L?;(.rw[PX i y q]);.rw[CX b4 (af xs q (kI _)) (hd H p)]
X'.1(N:dp)(sc da:eX)(own:qS):bM:=(match scope.kind with|wP=>bC|_=>false)&&S9 bG (vO y.1=ad y.2)&&(own.all λ p=>bG (N[p.2]?=ad p.1))&&S9 (match y.2 with|fY=>(match zU y.1 with|A8=>bC|ad .free=>bC|_=>false)|.local=>bG (y.1∈LH)||bG (y.1∉N)|f7=>bG (y.1∈LH)||bG (y.1∉N)|_=>bC)
d9{N:dp}{sc:eX}(h:bb (X' N sc da own)):df N sc da own:=by unfold X' at h;simp only[jN,Wm,jQ]at h;refine bq h λ afG h4=>bq afG λ alo h3=>bq alo gr h1 h2;(refine #[?_,h2,h3,au y hy e,au y hy e];(.split at h1;(.assumption);.cases h1);.have q:=h4 y hy;simp only[e]at q;split at q<;>first|exact .inl (by assumption)|exact .inr (by assumption)|cases q);.have q:=h4 y hy;rcases e with e|e<;>(simp only[e,z7,jQ]at q;exact q)
}
section
variable{κ:Type} [Wo κ]
def z:={
b8.1(aq:fI)(k:κ):oS:=jK sR aq.find? bG (pY=k) ((·.2))
gL.1(aq:fI)(k:κ)(v:V):fI:=if(bb ub)then rZ (λ kv=>yc (lb=k) v kv)else aq++[(k,v)]
lF{p:κ×V}{r:fI}{k:κ}(e:nj):b8 (p::r) k=ad p.2:=by rw[ui b8 e]
lX{p:κ×V}{r:fI}{k:κ}(e:¬nj):b8 (p::r) k=b8 r k:=by rw[ui b8 e]
yH(k:κ):∀aq:fI,ub=BH lM|[]=>rfl|p::r=>by rw[rG];by_cases e:nj;(.simp only[ur,z8 e,Bool.true_or,V_]);.rw[ut,FN e,Bool.false_or];exact yH k r
Q7(k j:κ)(y:V):∀aq:fI,b8 (rZ λ kv=>yc (lb=k) y kv) j=jK Fo λ x=>if j=k then y else x|[]=>rfl|p::r=>by have ih:=Q7 k j y r;rw[jP];by_cases h:nj;(.rw[jB h,RC (lF (p:=(p.1,y)) e) (hC (e.symm.trans h)) (lX (p:=(p.1,y)) e)]);.rw[lB h,RC (lF (p:=p) e) fG yX h e.trans (lX (p:=p) e)]
OS(k j:κ)(y:V):∀aq:fI,ca lM->b8 (aq++[(k,y)]) j=if j=k then ad y else Fo|[],_=>by by_cases e:k=j;(.rw[jB e.symm,lF (p:=(k,y)) e]);.rw[lB Bm (e z.symm),lX (p:=(k,y)) e]|p::r,hn=>by rw[List.cons_append];(have hk:¬nj:=λ z=>by rw[lF z]at hn;cases hn);rw[lX hk]at hn;have ih:=OS k j y r hn;by_cases e:p.1=j;(.rw[ur,ur,fG yX hk e.trans]);.rw[ut,ut,ih]
kK(aq:fI)(k j:κ)(y:V):b8 (gL aq k y) j=if j=k then ad y else Fo:=by unfold gL;by_cases a:(bb ub);(.rw[hC a,Q7];rw[yH]at a;by_cases e:j=k;(.obtain⟨x,hx⟩:=Option.isSome_iff_exists.mp a;rw[y6,e,hx,N_,e! Z]);.rw[u7];cases Fo with|a!=>rfl|dJ x=>rw[N_,u7]);.rw[kE a];refine OS k j y aq ?_;rw[yH]at a;cases q:lM with|a!=>rfl|dJ x=>rw[q]at a;exact(a Z).elim
o6(aq:fI)(k:κ)(v:V):cW q_<=pp+1:=by unfold gL;split;(.rw[ev hJ J9]);.rw[zF,l5,Gd];exact aMk
GD{aq:fI}{k:κ}(v:V)(h:ca lM):gL aq k v=aq++[(k,v)]:=by unfold gL;rw[yH,h];exact Lh
jl.Br{o:oS}{u:sA}(r:jl o u):z9=u.isSome:=by cases o with|a!=>(cases u with|a!=>rfl|dJ _=>rw[DG nq r])|dJ _=>cases u with|a!=>rw[DG nq r]|dJ _=>rfl
jl.getD{o:oS}{u:sA}{d:V}{d':a7}(r:jl o u)(rd:eI d d'):eI (o.getD d) (u.getD d'):=by cases o with|a!=>(cases u with|a!=>exact rd|dJ _=>rw[DG nq r])|dJ _=>cases u with|a!=>rw[DG nq r]|dJ _=>exact r
KV.val{aq:fI}{vs:yi}(r:o5)(k:κ):jl (b8 aq k) yU vs:=by unfold KV at r;induction r with|cd=>rw[ym]|@bn p q ps qs h t ih=>obtain⟨h1,h2⟩:=h;by_cases e:nj;(. (have e':Fk:=T0;have b:yU Fp=ad q.2:=by rw[ui N' e']);rw[ur,b];exact h2);. (have e':¬Fk:=λ z=>e (Ge z);have b:yU Fp=yU qs:=by rw[ui N' e']);rw[ut,b];exact ih
KV.any{aq:fI}{vs:yi}(r:o5)(k:κ):ub=Se:=by unfold KV at r;induction r with|cd=>rfl|bn h t ih=>rw[rG,rG,ih,h.1]
KV.Oy{aq:fI}{vs:yi}(r:o5)(k:κ){y:V}{u:a7}(ry:ky):KV (rZ λ kv=>yc (lb=k) y kv) sR vs.map yc (lb=k) u kv:=by unfold KV at r⊢;induction r with|cd=>exact eC|@bn p q ps qs h t ih=>rw[K4 jP,<-vr ?_ ih];obtain⟨h1,h2⟩:=h;by_cases e:nj;(.rw[y6,Tk hC];exact #[h1,ry]);.rw[u7,fG yX e Ge];exact #[h1,h2]
KV.put{aq:fI}{vs:yi}(r:o5)(k:κ){y:V}{u:a7}(ry:ky):KV (gL aq k y) (Gg vs k u):=by unfold gL Gg;rw[r.any k];by_cases e:(bb Se);(.rw[y6,y6];exact r.Oy k ry);.rw[u7,u7];exact Wt r #[rfl,ry]
KV.length{aq:fI}{vs:yi}(r:o5):pp=zr:=N! r
}
section z
def z:={
uD{P:cr}{w:cs}{k:Key}{u:a7}(r:eI (kV k) u):bb ((MU).is k u):=by cases k with|inl i=>rw[SC (Value.int i t) aGL i]|inr x=>rw[SC (Value.str x t) afU x]
VP{P:cr}{w:cs}:∀{ks:ii}{us:ck},bN Ms us->ItemsAre (gb P w) ks us|[],_,r=>by rw[uj r r,eC]|k::ks,_,r=>by rw[Dv r];cases r with|bn h t=>exact vr (uD h) (VP t)
KT.2(H:Hp):cP (ii×V)->u2->Prop:=Paired λ p q=>p.1=q.1/\dV q.2.1 dL pO p.1 kV/\eI p.2 q.2.2
KT.val{H:Hp}{xs:u2}(r:u!)(k:ii):jl lM ((EB).map (·.2)):=by induction r with|cd=>rw[ym]|@bn p q ps qs h t ih=>refine bX h λ h1 _ h2=>?_;by_cases e:nj;(. (have e':Fk:=T0;have b:Bq Fp=ad q.2:=by rw[ui atKey e']);rw[ur,b];exact h2);. (have e':¬Fk:=λ z=>e (Ge z);have b:Bq Fp=Bq qs:=by rw[ui atKey e']);rw[ut,b];exact ih
KT.Oy{H:Hp}{xs:u2}(r:u!)(k:ii){y:V}{u:a7}(ry:ky):KT H sR rZ yc (lb=k) y kv (xs.map (putAt k u)):=by induction r with|cd=>exact eC|@bn p q ps qs h t ih=>rw[K4 jP,<-vr ?_ ih,<-bX h au h1 h2 h3];unfold putAt;by_cases e:nj;(.rw[y6,Tk hC];exact #[h1,h2,ry]);.rw[u7,fG yX e Ge];exact #[h1,h2,h3]
KT.put{H:Hp}{xs:u2}(r:u!)(k:ii){b:ab}{y:V}{u:a7}(hb:x8)(ry:ky):KT H (gL aq k y) (storedH xs k b u):=by(have e:ub=BH EB:=by rw[yH,(r.val k).Br,N?]);unfold gL storedH;rw[e];by_cases q:(bb BH EB);(.rw[e! q,e! q];exact r.Oy k ry);.rw[fG q,fG q];exact Wt r #[rfl,hb,ry]
KT.keeps{H:Hp}{xs:u2}(r:u!)(ht:∀b ys,dV b dL ys->H' b=ad (.dL ys)):KT H' aq xs:=Paired.FE r λ _ _ z=>#[z.1,bF ht z.2.1,z.2.2]
}
section
variable{P:cr}{w:cs}{H:Hp}{h:d0}{a:ab}
def z:={
acf{u:HO}(ok:u4)(e:_R H a u):EA a u:=e.ok ok
xc{aq:gq}(ok:u4)(e:u3 dK):x5/\un/\∃vs,o5/\h.DictOf (gb P w) a vs:=show EA a (.dK aq)from acf ok e
T9{aq:gq}(ok:u4)(e:yb):x5/\un/\∃vs,o5/\h.DictOf (gb P w) a vs:=xc ok Ff
wL{ks:ii}(ok:u4)(e:dV a dL Ms):(z_ MU).is h ks a:=by obtain⟨_,aF,r,o,h1,h2,n,h3⟩:=(show EA a (.dL Ms)from ok a _ e);exact(b9 o gH n h1 h2 h3 (by simpa using VP r))
vL(ok:u4)(e:u3 dT):x5/\un/\∃xs,u!/\h.DictOfH (z_ (gb P w)) a xs:=by obtain⟨z,y,xs,r,o,es,ep,h1,h2,h3,h4,h5⟩:=(show EA a (.dT aq)from acf ok e);(refine #[z,y,xs,r,o,es,ep,h1,h2,h3,h4,gr x hx,h5];have all:∀{l:cP (ii×V)}{m:u2},KT H l m->∀x∈m,(z_ MU).is h x.1 x.2.1:=by intro l m q;induction q with|cd=>intro x hx;exact nomatch hx|@bn p q ps qs hq t ih=>intro x hx;rcases tM hx with e|hx;(.subst e;exact wL ok (by rw[<-hq.1];exact hq.2.1));.exact ih x hx);exact all r x hx
abK(ok:u4)(e:ya):x5/\un/\∃xs,u!/\h.DictOfH (z_ (gb P w)) a xs:=vL ok Ff
}
section z
def z:={
dM.1(H:Hp)(a:ab)(y:V)(r:oS):Prop:=(∃aq k,u3 dK/\y=M1/\r=lM)\/∃aq k b,u3 dT/\y=cx b/\x8/\r=lM
i8.1(H:Hp)(a:ab)(y v:V)(H':Hp):Prop:=(∃aq k,yb/\y=M1/\DD/\H'=iM a dK q_)\/∃aq k b,ya/\y=cx b/\x8/\DD/\H'=iM a dT q_
dM.k{H:Hp}{a:ab}{aq:gq}{k:Key}(e:yb):dM H a (kV k) lM:=.inl (aE aq k Ff Z Z)
dM.t{H:Hp}{a b:ab}{k:ii}(e:ya)(eb:x8):dM H a ig lM:=.inr (b9 aq k b Ff Z eb Z)
i8.k{H:Hp}{a:ab}{aq:gq}{k:Key}{v:V}(e:yb)(hl:DD):i8 H a M1 v iM a dK q_:=.inl (ji aq k e Z hl Z)
i8.t{H:Hp}{a b:ab}{k:ii}{v:V}(e:ya)(eb:x8)(hl:DD):i8 H a ig v iM a dT q_:=.inr (pf aq k b e Z eb hl Z)
}
section
variable{X:Cx}{aN:ez}{σ:St}{H:Hp}{s:ax}{a:ab}{y v:V}{u r:a7}{o:oS}{A:dy}{E:d2}
def z:={
Inv.CI(I:cC):oJ Gh:=by have h:oJ mainGlobals:=(I.mod.glob.keeps I.bk).lt;exact r3 cS h
agQ{Q:d2}(hu:uz)(I:cC)(g:mI H jD)(ry:ky)(h:∀w' s',DB->eI v w'->vt w'):xN (rD eS u) Q E:=by rcases g with⟨aq,k,e,ey,l⟩|⟨aq,k,b,e,ey,eb,l⟩;(.subst ey;rw[wC xc vs dd,<-ah (jl.some_of (v:=v) (o:=yU vs) (by rw[l];exact Ob k)) au w' hw c4,wpAny_getItem_of (uD ry) Oc hw (h w' _ (zJ _) c4)]);.subst ey;rw[xE ry vL xs,<-ah (jl.some_of (v:=v) (o:=jK EB ((·.2))) (by rw[l];exact Ob k)) au w' hw c4,j! VU hw au p hp FG,Kq wpAny_getItem_heap dd hp];rw[FG];exact h w' _ (zJ _) c4
aBC{Q:d2}(hu:uz)(I:cC)(g:mI H o)(ry:ky)(h:∀s',DB->vt xJ z9):xN (Nw .In u eS) Q E:=by rcases g with⟨aq,k,e,ey,l⟩|⟨aq,k,b,e,ey,eb,l⟩;(.rw[QC wpAny_in_of hd l]);.subst ey;rw[xE ry vL xs,Kq wpAny_in_heap hd dd];have q:=IN;rw[N?]at q;rw[<-q,<-l];exact h _ xg
aLn{Q:d2}(hu:uz)(I:cC)(g:mI H o)(ry:ky)(h:∀s',DB->vt xJ (!z9)):xN (Nw .np u eS) Q E:=by rcases g with⟨aq,k,e,ey,l⟩|⟨aq,k,b,e,ey,eb,l⟩;(.rw[QC wpAny_notIn_of hd l]);.subst ey;rw[xE ry vL xs,Kq wpAny_notIn_heap hd dd];have q:=IN;rw[N?]at q;rw[<-q,<-l];exact h _ xg
Je{ob:HO}(I:cC)(mu:Co (H a))(hs:Heap.SameBut a gv h')(he:K! q a q)(new:sH fC (upd H a ob) h' a ob):fq (upd H a ob) wl s h' t':=Lx x a a mu jx (λ b q hb z=>(Fa hs).pi z) he new
P_{P:cr}{w:cs}{aq:gq}{vs:qP}(z:x5)(hd:un)(rel:o5)(dd:Oe (gb P w) a vs):fC P w H' h' a (.dK aq):=(HQ z hd vs rel dd)
ahh{Q:sv Unit}(hu:uz)(I:cC)(g:i8 H a y v H')(ry:ky)(rv:eI v r)(h:∀s',Dx->vt ()):xN (setItem eS u r) Q E:=by rcases g with⟨aq,k,e,ey,l,eH⟩|⟨aq,k,b,e,ey,eb,l,eH⟩;(.subst ey eH;rw[wC T9 vs dd];((have hz:p9 zr:=by rw[<-rel.length];exact z);have hl:j1 cW q_:=by have:=o6 aq k v;exact vE cc l);refine wpAny_setItem_pairs (cv:=hz) (uD ry) dd λ h' xA hs=>h _ ?_;(have he:K! q a q:=by obtain⟨q,_,_,hq,_⟩:=xA;exact #[q,hq]);exact Je I (by rw[e];rw[ym]) hs he (P_ hl hd (rel.put k rv) xA));.subst ey eH;rw[xE ry abK xs];((have hz:KQ:=by rw[<-N! rel];exact z);have hl:j1 cW q_:=by have:=o6 aq k v;exact vE cc l);refine wpAny_setItem_heap (cv:=hz) (Od hu) Ir dd λ h' xA hs=>h _ ?_;obtain⟨q,es,ep,hq,h2,h3,h4,_,h5⟩:=xA;refine Je I (by rw[e];rw[ym]) hs #[q,hq] #[hl,hd,_,(rel.put k eb rv).keeps au c ys ec,q,es,ep,hq,h2,h3,h4,h5];rw[aV (wI ec e Bm (nomatch z))];exact ec
}
section z
def z:={
Fl.1(i:a6):Prop:=∀ov iv,FF i iQ ov iv=Nt [ov,iv] (rD ov iv)
avi{eG:cr}{w:cs}{A:dy}{E:d2}{s:ax}{iU l3:a6}{al:bi}{T id:kM}{Q:d2}(hl:SN MR=fE ad EI)(hs:Fl l3)(h:kb zg iU (λ o l6=>(sZ A zg l3 λ i iV=>s₂.TypeIs o T/\sZ A UL Q E iV) E l6) E):kb zg A5 iU l3 Q E:=by refine Nh m? h (λ o l6 h₁=>m? h₁ jZ i iV h₂ kB _ x x) kB _ x x;obtain⟨hT,h₂⟩:=h₂;rw[qH Ni ?_];rw[getitemInPython_of_ne hT.not_modules];rw[ci (wpAny_specialOf hT hl ?_)];(have eY:(sZ A (FF l3 iQ o i) λ r rX=>sZ A (letTemporaryGo iU o r>>=(eU fE r)) Q E rX) E iV:=by rw[hs o i];exact wpAny_operating m? h₂ (λ r rX h₃=>e? wu wpAny_letTemporaryGo h₃) kB _ x x);first|exact fa (e? eY)|rw[DT IL fa eY]|rw[DT eY]
ayR{X:Cx}{aN:ez}{σ:St}{H:Hp}{s:ax}{a:ab}{y:V}{o:oS}(I:cC)(g:mI H o):zu eS "dict":=by rcases g with⟨aq,k,e,_,_⟩|⟨aq,k,b,e,_,_,_⟩;(.rw[sK xc rF λ _ _ vs _ dd=>?_];exact z!);.rw[sK vL rF λ _ _ xs _ dd=>?_];exact z!
aiR.1(td ty:TE):TE:=iN g! td x m7 ty y J! v jD n3
aDy.1(ty td:TE):TE:=iN g! ty y m7 td x J! o o fz i4 z9
aEm.1(ty td:TE):TE:=iN g! ty y m7 td x J! o o fz zo z9
aKE.1(td ty tv:TE):TS:=λ D σ H=>g! tv v m7 td x (ty σ H2 λ y H3=>∃a H4,ga x/\i8 H3 a y v H4/\l7 σ H4)
}
section
variable{X:Cx}{o i e iU:a6}{al hM ZP:bi}{td ty tv:TE}
def z:={
aJ8(hu:ln)(ho:y4)(hi:b? i ty)(hs:Fl i):b? qR i (aiR td ty):=by rw[kn,<-avi PySem.F.slot_dict_getitem.lookup hs (qL ho I λ u s1 ayv=>aO ayv λ x H1 I1 rx q1=>tp hi λ iv s2 avq=>pN avq λ y H2 I2 ry a v ex g q2=>?_),x6 (u=q6) rx,#[ayR I2 g,agQ hu I2 g ry λ w' s3 I3 c4=>Ek v I3 c4]]
adQ(hu:ln)(hi:b? i ty)(ho:y4):PC X .In i o (aDy ty td):=by rw[kn,<-be (fr hi s H _ I h) λ iv s1 aH3=>aO aH3 (JI y ry λ u s2 av6=>pN av6 λ x H2 I2 rx a ov ex g q2=>?_),x6 (u=q6) rx,aBC hu I2 g ry λ s3 I3=>Ek i4 ov.isSome I3 Z]
ahn(hu:ln)(hi:b? i ty)(ho:y4):PC X .np i o (aEm ty td):=by rw[kn,<-be (fr hi s H _ I h) λ iv s1 aDF=>aO aDF (JI y ry λ u s2 ajd=>pN ajd λ x H2 I2 rx a ov ex g q2=>?_),x6 (u=q6) rx,aLn hu I2 g ry λ s3 I3=>Ek zo ov.isSome I3 Z]
tY(hu:ln)(ho:y4)(hi:b? i ty)(hv:b? iU tv)(hs:sQ iU ad (.Nd o i hM) Gi=fE iQ):PS X gc po [.Nd o i hM] iU (aKE td ty tv):=by rw[sI D I h,<-wpAny_Assign_Subscript (be (fr hv s H _ I h) λ r s1 avf=>aO avf (JI v rv λ u s2 aq6=>aO aq6 (vc x rx De hi s2 λ iv s3 agH=>pN agH λ y H3 I3 ry a H4 ex g q3=>?_))) hs,x6 (u=q6) rx,ahh hu I3 g ry rv λ s4 I4=>(cE σ H4 I4 q3)]
}
section z
def z:={
ZA{P:cr}{w:cs}{H:Hp}(h:d0)(hb:Uu):QD (.dK []):=(HQ LM SM (zH (nu hb)) ([]) eC (Wu h))
aGZ{P:cr}{w:cs}{H:Hp}(h:d0)(hb:Uu):QD (.dT []):=#[LM,SM (zH (nu hb)),[],eC,_,yr,0,ox,#[rfl,rfl,rfl],rfl,rfl,List.nodup_nil]
ap8.1:TE:=λ _ H Q=>qF p p iM p dK []
ate.1:TE:=λ _ H Q=>qF p p iM p dT []
}
section
variable{X:Cx}{al:bi}
def z:={
AY:b? gc Dict [] [] ap8:=λ aN s σ H Q I h=>P7 dK ZA
R5:b? gc Dict [] [] ate:=λ aN s σ H Q I h=>P7 dT aGZ
}
section z
def z:={
JA.1:Ed->St->Hp->(i3 V V->h!)->Prop|[],_,H,Q=>Q [] H|(tk,tv)::r,σ,H,Q=>g! tk x m7 tv y (JA r σ H2 λ ps H3=>Q ((x,y)::ps) H3)
VV.2:i3 V V->AT a7->Prop:=Paired λ p q=>eI p.1 q.1/\eI p.2 q.2
F6.1(X:Cx)(al:bi)(keys:cP uX)(z?:c!)(tL:Ed):Prop:=∀(aN:ez)(s:ax)(σ:St)(H:Hp)(Q:i3 V V->h!),cC->JA tL σ H Q->fj LQ X.A (evalPairs (pairTrees keys z? gA al)) (λ vs s'=>∃ps H',Dx/\VV ps vs/\Q ps H') l1 s
aaM{X:Cx}{al:bi}:F6 X al [] [] []:=λ aN s σ H Q I h=>pairTrees_nil_walk (aE ([]) H I eC h)
Ug{X:Cx}{al:bi}{k v:a6}{ks:cP uX}{vs:c!}{tk tv:TE}(hk:b? k tk)(hv:b? v tv)(hr:F6 X al ks vs tL):F6 X al (ad k::ks) MV ((tk,tv)::tL):=λ aN s σ H Q I h=>pairTrees_cons_walk (qL hk I λ u s1 aHq=>aO aHq λ x H1 I1 rx q1=>tp hv λ w2 s2 af8=>aO af8 (vc y ry De hr s2 λ ws s3 aoe=>aO aoe λ ps H3 I3 rel q3=>(aE ((x,y)::ps) H3 I3 (.bn #[rx,ry] rel) q3)))
nQ.1(aq kN:gq):gq:=more.foldl (λ bd kv=>gL bd lb qp) aq
KV.merge:∀{kN:gq}{rs:qP}{aq:gq}{vs:qP},KV kN rs->KV aq vs->KV (nQ aq kN) (Gk vs rs):=by intro kN rs aq vs r;unfold KV at r;induction r generalizing aq vs with|cd=>intro q;exact q|@bn p q ps qs h t ih=>intro r0;(have e:KV (gL aq p.1 p.2) (Gg vs q.1 q.2):=by have:=r0.put p.1 h.2;rw[<-h.1];exact cc);exact ih e
Nl:∀(kN aq:gq),cW (nQ aq kN)<=pp+more.length|[],aq=>by show pp<=pp+0;exact abf|p::r,aq=>by have h1:=Nl r (gL aq p.1 p.2);have h2:=o6 aq p.1 p.2;show cW (nQ (gL aq p.1 p.2) r)<=_;rw[l5];exact Xp h1 h2
WQ{P:cr}{w:cs}:∀{aq:gq}{ws:AT a7},VV sR rZ (Fn,qp) ws->∃rs,Carries (gb P w) ws rs/\KV aq rs|[],_,r=>by rw[uj r r,bm [] True.intro eC]|p::aq,_,r=>by rw[Dv r];cases r with|@bn a b as bs h t=>rw[j! (WQ (P:=P) (w:=w)) t au rs c q];obtain⟨b1,b2⟩:=b;exact bm ((p.1,b2)::rs) #[uD h.1,rfl,c] (.bn #[rfl,h.2] q)
ao7.1(tL:Ed):TE:=iN (∀p,ca (H p)->JA tL σ iM p dK [] λ ps H2=>H2 p=ad (.dK [])/\∃aq:gq,ps=rZ (λ kv=>(Fn,qp))/\pp<=15/\Q bD p (upd H2 p (.dK vp)))
X0{X:Cx}{al:bi}{keys:cP uX}{z?:c!}(h:F6 X al keys z? tL)(b_:bb (keys.all (·.isSome)))(hl:Wx=values.length)(h0:keys≠[])(h15:Wx<=15):PE X gc Dict keys z? (ao7 tL):=by rw[sI Q I q];have hn:=Hf Nj b6;have I1:=oo (PB a dK [] (h':=lW nO)) Iv iE (ZA gv I.CI);refine wpAny_Dict_walk (knd:=gb l0 X.w) b_ hl h0 h15 (be (fr h _ _ _ I1 (q _ hn)) λ ws s2 agY=>aLp agY λ ps H2 I2 rel e aq ep lk q2=>?_);subst ep;rw[j! LA WQ P X.w rel au rs c rk,sK T9 I2.aR λ z hd vs0 r0 dd=>?_];cases r0;refine(aZ rs c dd (λ h' xA hs=>tD ?_ q2));((have hz:j1 cW vp:=by have h1:=Nl aq [];rw[Gd]at h1;rw[sizeLine_eq];exact ak7 h1 lk);have he:K! q b6 q:=by obtain⟨q,_,_,hq,_⟩:=xA;exact #[q,hq]);exact Je I2 (by rw[e];rw[ym]) hs he (P_ hz hd (rk.merge eC) xA)
}
structure M2(X:Cx)(o:a6)(m:a4)(gK:bi)(e f:a6)(kh:bi):Prop where
 b!:Di o m j3=j3
 few:bb Kk Dw [e,f] (FM kh AV []) ([e,f]:c!)
 line:bb LG kh.line
 trees:backTo kh pI [e,f]=[Hh e,wd f]
def z:={
K2.1(H:Hp)(a:ab):Prop:=(∃aq,u3 dK)\/∃aq,u3 dT
awa{X:Cx}{aN:ez}{σ:St}{H:Hp}{s:ax}{a:ab}(I:cC)(d:K2 H a):zu eS "dict"/\(∀b,q6=cx b->∃ob,KR ob/\Ux)/\un:=by rcases d with⟨aq,e⟩|⟨aq,e⟩;(.rw[sK xc rF λ _ hd vs _ dd=>?_];refine #[z!,gr b q,hd];cases q;refine gN dd λ ob _ _ h1 h2 _=>?_;exact bm ob h1 h2.2.1);.rw[sK vL rF λ _ hd xs _ dd=>?_];refine #[z!,gr b q,hd];cases q;refine gN dd λ ob _ _ h1 h2 _=>?_;exact bm ob h1 h2.2.1
}
section
variable{X:Cx}{aN:ez}{σ:St}{H:Hp}{s:ax}{a:ab}{y d:V}{u r:a7}{o:oS}{A:dy}{E:d2}
def z:={
anG{Q:d2}(hu:uz)(I:cC)(g:mI H o)(ry:ky)(rd:eI d r)(h:∀w' s',DB->eI (o.getD d) w'->vt w'):xN vo (k1 "dict.get") [eS,u,r] Q E:=by rcases g with⟨aq,k,e,ey,l⟩|⟨aq,k,b,e,ey,eb,l⟩;(.subst ey;rw[wC xc vs dd,<-R? (meets_dict_get_default (gb l0 X.w) a (uD ry) hd r) e9 Oc (h _ _ (zJ _) ?_)];rw[l];exact HL getD rd);.subst ey;rw[xE ry vL xs,<-R? (meetsH_dict_get_default (z_ (gb l0 X.w)) a b hd r) (GH (Od hu) k xs Ir dd (h _ _ (zJ _) ?_))];rw[l];exact HL getD rd
}
section z
def z:={
aAT.1(td ty tx:TE):TE:=iN g! td x (∃a,ga x/\K2 H1 a/\m7 ty y (tx σ H2 λ z H3=>∃o,mI H3 o/\Q (o.getD z) H3))
}
section
variable{X:Cx}{o e f:a6}{gK kh:bi}{td ty tx:TE}
def z:={
aFD(hu:ln)(ho:y4)(he:b? e ty)(hf:b? f tx)(m:M2 X o "get" gK e f kh):b? (.l4 (q5 "get" gK) [e,f] [] kh) (aAT td ty tx):=by rw[kn,<-wpAny_Call_method m.base m.few m.line PySem.F.plainAttrs_dict Wy PySem.F.type_dict_get (qL ho I λ u s1 aFY=>Qb aFY λ x H1 I1 rx a ex d q1=>?_),x6 (u=q6) rx,<-bX (awa I1 d) λ t1 t2 _=>?_,<-#[t1,t2,?_]];rw[m.trees];refine Vx Z (Vy (WA (tp he λ iv s2 aKe=>aO aKe vc y ry (WA (De hf s2 λ fv s3 aCF=>i_ aCF λ z H3 I3 rz ov g q3=>Calls.spliced_nil ?_)))));exact anG hu I3 g ry rz λ w' s4 I4 c4=>(aE _ H3 I4 c4 q3)
}
section z
def z:={
agT:typeLookup Ma "keys"=fE a!:=am_miss_of_fast (by first|rw[v?]|rfl)
Fm:entryFor table "dict.update.loop"=ad Builtin.«dict.update.loop»:=gS entryFor_of_tree
pE:bb (plainId "dict.update.loop"):=by rw[v?]
}
section
variable{eG:cr}{w:cs}{A:dy}{E:d2}
def z:={
Y1{s:ax}{a:ab}{o:Obj}{xs:nb}{k:Y}{Q:sA->L4}(hx:ke a o)(hc:o.cls=sB)(mS:o.data=k! xs k)(hd:o.dict=a!)(hA:uP)(h:∀h' tk,(∀b ob,KR ob->zL b=ad ob)->Q a! qD):kb (getAttr? eS "keys") Q E:=by obtain⟨c,dct,dat,sl⟩:=o;simp only at hc mS hd;subst hc mS hd;obtain⟨hp,g,d,tk,os⟩:=s;have hT:∀tk',(EF #[hp,g,d,tk',os]).TypeIs eS "list":=eU jR hx;have aLZ:=agT;((have aH8:(["__module__","__name__","__qualname__","__doc__","__annotations__"]:dp).contains "keys"=false:=by rw[v?]);have cv:j1 (cW ("keys":a4)+100):=by first|size_fits|rw[v?]);have f1:=sub_AttributeError;have f3:=PySem.F.slot_list_getattribute.lookup;have f4:=PySem.F.slot_list_getattribute.bind eS;have f5:=am_list_getattr_none;unfold getAttr? getAttrBy? getAttrBy;(repeat(any_goals(first|assumption|exact hT _|((with_reducible rw[kT _ (call (Value.builtin "list.__getattribute__") _ _) _]);refine NC PySem.F.slot_list_getattribute (hT _) am_entry_list_getattribute io PySem.F.args_list_getattribute_2 (meets_getattribute_miss_list a xs k sl "keys" _ aLZ aH8 cv) #[hx,hA,λ h' tk' e d5=>?_])|wp_step)));rw[<-gG d5.there au t' u' he,kT _ bF jp WB _ _];unfold WB;(repeat(any_goals(first|assumption|wp_step)));all_goals first|exact bF h d5.keeps|(dsimp only;repeat(any_goals(first|assumption|exact bF h d5.keeps|wp_step)))
adz{R:KJ}{S I l:ab}{fK:nb}{res:a7}(hh:uP)(w8:l≠I)(rV:S≠I)(Ah:S≠l):∀(db:qP)(i:Y)(bd:qP)(ix:a3)(t:Tok)(s:ax),hE=i+Oi->j1 (acc.length+Oi)->(∀(j:Y)(q:Key×a7),dH db j q->∃(b:ab)(u:a7),fK[i+j]?=ad ig/\b≠S/\b≠I/\IF vA gv b/\bb (rH q.1 u))->s.heap.IsListIter I l i->VG l fK->yz s.heap.DictOf S bd->(∀h' tk,yz Oe S (Gk bd db)->vq (b≠S->b≠I->jt->DK)->R (.ok (.ret res)) qD)->C' (k1 "dict.update.loop" #[[bD S,cx I,g? ix t,res],[]]) R s|[],i,bd,ix,t,s,cv,lY,ht,hit,hl,hm,hR=>by rw[Qe Fm (Oj pE _) (wpAny_pyNext_list_end (A:=pr) hh hit hl (by first|exact Array.getElem?_eq_none (N7 cv)|(simp at cv;simp;omega)) gr h' he),i? (Builtin.Dict.addKeywords S []>>=_) _,ci qE ?_,hR h' zD (hm.extBut he rV) λ b o _ hb e=>he b o hb e]|q::db,i,bd,ix,t,s,cv,lY,ht,hit,hl,hm,hR=>by refine xn (ht 0 q Z) λ b u hb hbS NJ IE hk=>?_;rw[l5]at cv lY;rw[Qe Fm (Oj pE _) (wpAny_pyNext_list_item (x:=cx b) hit hl iz hb au h1 JP fO)];have Mv:IF vA h1 b:=Ec IE.extBut NJ;have fk:TJ:=Ec hl.extBut w8;have p8:yz h1.DictOf S bd:=Ec hm.extBut rV;rw[<-yk (id Mv) EN ho hc n,i? (px [Pf] _>>=_) _,j0 zv ?_,j0 WD ?_,qH Builtin.Dict.pairItems (Fz (T:="tuple") bm o ho hc ?_)];rw[hC (by first|decide|rfl|simp)];rw[ci KF ho hd ?_,i? (px [u,q.2] (dictSet S u q.2)) _,<-zv (wpAny_dictSet_pairs (knd:=gb eG w) (k:=q.1) hk p8 jZ h2 nA dY gm WF lY),<-fa #[Ld,adz (fK:=fK) hh w8 rV Ah db jX (Gg bd q.1 q.2) (ix+1) 0 _ (show hE=i+1+Oi by exact Nb cv) ?_ EZ q' ?_ ?_ nA λ h' tk jM k=>?_]];((.have z:=stored_length_le bd q.1 q.2;exact ZK lY z);.refine xn (ht nl q' iz e) λ b' u' iA Cg Aj Pe cj=>?_;refine(fM b' u' ?_ Cg Aj ((Ec Pe.extBut Aj).extBut Gm Cg) cj);rw[show i+1+j=i+nl by exact yY];exact iA);((.exact JP.at λ o' e=>Gm I o' (zH rV) e);.exact fk.extBut Gm (zH Ah));.exact hR h' tk jM λ c oc h3 h4 e=>k c oc h3 h4 (Gm c oc h3 (fO.extBut c oc h4 e))
aBg{s:ax}{l:ab}{ol:Obj}{prs:qP}{Q:d2}(hh:uP)(hl:ke l ol)(hc:ol.cls=sB)(hd:ol.dict=a!)(mS:ol.data=k! fK n)(cv:hE=Om)(lY:p9 Om)(ht:Rc j fK ig)(h:∀h' tk,yz Oe b6 (Gk [] prs)->vq (jt->DK)->BT qD):kb vo UJ [jE] Q E:=by refine callType_codes (Q₁:=λ obj l6=>obj=cx b6/\l6=j2 s (lW nO)) PySem.F.kt_called_dict (PySem.F.kt_typeCall_dict_1 _) PySem.F.entry_dict_init (kt_code_dict_new _ #[rfl,rfl]) ?_;rintro obj l6⟨rfl,rfl⟩;have vj:yz BG DictOf b6 []:=Wu gv;have k0:∀b o,jt->gX BG get?:=mG e j?;rw[<-#[vj.typeIs,io PySem.F.args_dict_init_2,?_],qH Builtin.«dict.__init__» ?_,qH Builtin.Dict.selfAndRest (wpAny_notOrdered_dict vj.typeIs ?_)];show fj _ _ (kG (b6,[FU l])) _ _ _;rw[<-fa ?_,kT _ (WI "dict.__init__" b6 jE [] eR) _,qH WI (Fz (T:="list") bm ol bF k0 hl hc ?_)];rw[hC (by first|decide|rfl|simp)];rw[ci (Y1 bF k0 hl hc mS hd hh au h1 NH cI),jB (show bb (a!:sA).isNone from rfl),j0 wpAny_rule ?_];(have fk:TJ:=(FP ol bF cI bF k0 hl hc n mS);have nt:b6<WJ:=by have e:ST BG get? nO:=ox;exact pj jV cI);rw[ci (VS fk ?_)];have k2:∀b o,gX h1.get?->gX (h1.push wW KH [jE,g? 0 0]).get?:=mG e j?;have a8:oJ l:=pj hl;have key:=adz (eG:=eG) (w:=w) (A:=pr) (R:=wants (λ r iV=>r=eR/\BT iV) E) (S:=b6) (I:=WJ) (l:=l) (fK:=fK) (res:=On) hh (nu (r3 a8 nt)) LV nt (WL a8) prs 0 [] 0 0 yl s (h1.push wW KH [jE,g? 0 0]) NH (by rw[cv,Go]) (by rw[Gd,Go];exact lY) (λ j q e=>by refine aO (ht j q e) λ b u e1 e2 e3=>?_;have hb:oJ b:=e2.lt;exact(fM b u (by rw[ev Go e1]) (nu hb) (nu (r3 hb nt)) (e2.keeps λ c o z=>bF k2 bF cI bF k0 z) e3)) Mm ox (fk.at λ o e=>jV k2) ((vj.at λ o e=>jV cI).at λ o e=>jV k2) (λ h' tk jM k=>#[rfl,h h' tk jM mG e (k b o Lk LV (r3 (pj e) nt) bF k2 bF cI jV k0)]);first|rw[DO #[Ld,key]]|rw[DT qE #[Ld,key]]
}
section z
section
variable{X:Cx}
def z:={
auZ{aN:ez}{σ:St}{H:Hp}{s:ax}(I:cC){ps:bA}{aq:gq}(p:kw (λ p kv=>aJ a? H p [Fn,qp]) ps aq):∃prs:qP,KV aq prs/\Hg Om/\Rc j ps b:=by induction p with|cd=>exact(aZ ([]) eC Z (λ j q e=>by simp at e))|@bn p kv _ _ h t ih=>rw[<-bL ih λ prs r hl hp=>?_,uf hG h ht,<-aO (vals2 rv) λ u y ei ru ry=>?_];subst ei;refine(aZ ((pY,y)::prs) (.bn #[rfl,ry] r) (by rw[l5,l5,hl]) EZ q);cases j with|zero=>have e':(pY,y)=q:=Nm e;subst e';exact(aE p u Z ht (LA uD P X.w ru))|succ j=>refine aO (hp j q iz e) λ b u' e1 e2 e3=>?_;exact(aE b u' iz e1 e2 e3)
KA:∀{ps:bA}{us:ck},bN UB us->us=ps.map FU|[],us,r=>by rw[uj r r];rfl|p::ps,us,r=>by rw[Dv r];cases r with|bn h t=>cases h;rw[jP,<-KA t]
aIQ(M0:cZ):kF X UJ (λ xs H Q=>∃(a:ab)(ps:bA)(aq:gq),xs=[eS]/\aC a? H a UB/\kw (λ p kv=>aJ a? H p [Fn,qp]) ps aq/\qF p p iM p dK vp):=by intro aN s σ H xs us Q I r q;obtain⟨a,ps,aq,ex,hq,hp,q⟩:=q;subst ex;rw[j! vF r au u eu rx];subst eu;rw[dX,Dq rv hz (fN hq)];have ei:=KA rv;subst ei;rw[hJ]at hz;obtain⟨prs,rel,hl,ie⟩:=auZ I hp;obtain⟨o,n,ho,hc,hd,mS⟩:=pl;refine aBg (prs:=prs) (zR M0) ho hc hd mS (by simp[hl]) (by rw[ev hl hz]) EZ q' λ h' tk jM k=>?_;(.obtain⟨b,u,e1,e2,e3⟩:=ie j q' e;exact #[b,u,by simp[e1],e2,e3]);. (have hm:(b6==Gh)=false:=Og (WL I.CI);have bH:j1 cW vp:=by rw[dQ vE (Nl aq [])];rw[Gd,Go,rel.length,hl];exact hz);exact #[A4,iM b6 dK vp,zC (t':=tk) k iE (show sH fC _ _ _ (.dK vp)from#[bH,hm,Gk [] prs,KV.merge rel eC,jM]),rfl,CL]
}
section z
section
variable{X:Cx}
def z:={
amT{tg:a6}{aN:ez}{σ:St}{H:Hp}{s:ax}{R:kP It}{J:It}{tn:Y->d? d0}{tk:Y}(I:cC)(o:Obj)(T:sH Turn a? tg J [b6] b6 tn)(st:tn 0 (lW o))(q:R J H):p_ JK σ tg R A4 yl s (lW o) tk:=by refine(lq b6 ([b6]) tn J H Z (zM λ b ob e=>j?) T st A! b hb q);(have e:b=b6:=by simpa using hb);subst e;exact I.B3 (kI _) sW
}
section z
def z:={
Al.1(lo c:a3)(n:Y):It:=#[λ i _=>i<n,λ i H x H'=>H'=H/\x=e5 E2,λ i _=>n<=i]
}
def alw{P:cr}{w:cs}{tg:a6}(it:ab)(lo c:a3)(n:Y):Turn P w K tg E5 [it] it (λ i h=>WM h it E2 (lH - wn i) c)where mem:=Hs;obj:=(λ i h st b hb=>by(have e:b=it:=by simpa using hb);subst e;exact(e9 st λ v z=>nomatch z));keep:=λ i h h' st k=>k it jd _ st;item:=(by intro X hP hw hK hc i aN s σ H E I hf st hg;subst hP hw hK;refine lK (hf it jd) EQ;have W:=LA Walks.range eG X.w EE it lo c n;rw[<-W.item i s _ _ hg st λ v h' tk hv jz kk=>?_,e6 hv];have I1:fq H qD:=E3 I.turned b (kk b o iz hb e);exact e9 Z (FY (s:=qD) (n:="range_iterator") jz Z Z cS (fM dk E2 H I1 #[t,rfl] #[rfl,rfl] jz (λ b hb=>(g0 hf).1))));done:=(by intro X hP hw hK hc i aN s σ H E I hf st hg;subst hP hw hK;refine lK (hf it jd) EQ;exact wpAny_pyNext_range_end (zR hc) st (by have:n<=i:=hg;exact T6 cc) λ h' eb=>#[rfl,E3 oo I.turned b (eb b o hb e)]);self:=λ A i s Q E st h=>wpAny_pyIter_rangeiter st h
def z:={
nD.1(i j c:a3)(n:Y):Prop:=c≠0/\c.natAbs<1073741824/\bb (Builtin.Range.small i j c)/\WO i j c=n
nD.neg{i j:a3}(ha:AZ i)(ha':i<2^62)(hb:AZ j)(iA:j<2^62):nD i j (-1) gh (i - j):=(fQ cS cS (PySem.W.small_down ha ha' hb iA) (PySem.W.rangeSize_downNat i j))
aCt.1(ta:TA):TI:=λ σ H R=>g! ta vs (∃(i j c:a3)(n:Y),vs=[tf,e5 j,e5 c]/\nD i j c n/\R (Al i c n) H1)
}
section
variable{X:Cx}{tg:a6}
def z:={
Dm{a b:a6}{ta:TA}{p al:bi}(hg:Gl X "range")(hm:qZ)(ha:PA X [a,b,c] ta)(hs:kR [a,b,c] a vy)(a_:nK vy):PI X tg nJ (Hd p) [a,b,c] (aCt ta):=by rw[sI R I h,<-Call_ (yJ I hg hm boot_range (PyProof.Rows.callWith_type1 (be (ha al aN s σ H _ I h) λ us s1 aqs=>aO aqs EM vs H1 r1) hs a_)),<-DS q1 λ i j k n e aJ6 q=>dq aJ6 λ c0 c1 c2 c3=>?_];subst e;cases r1 with|bn r rr=>cases rr with|bn r' rr=>cases rr with|bn r'' rr=>cases rr;rw[e6 r,KB r'];obtain⟨t'',rfl⟩:=r'';refine call_range_3 c0 ?_ gY (PyProof.noPylong_small c1);refine wpAny_pyIter_range (IsRange.new ..) c2 ?_;have I2:fq H1 j2 s1 (s1.heap.push wW (mi "range") [.int i t,g? j t',g? k t'']):=I1.kept (t':=s1.toks) mG e j?;refine amT (tk:=s1.toks) I2 _ (alw _ i k n) ?_ q;((have e1:i+Ex*k=i:=by simp);have e2:c9 - Ex=WO i j k:=by rw[c3];simp);show WM _ _ (i+Ex*k) (lH - Ex) k;rw[e1,e2];rw[Sq Z]
}
section z
def z:={
C3{lo c:a3}{tb:TS}{D:Ends}{σ:St}{H:Hp}(Pv:Y->kP St)(h0:Pv 0 σ H)(hs:∀i σ H,i<n->Pv i σ H->g dk E2 σ H λ d6 H2=>wY tb {D with nx:=Pv jX,ct:=Pv jX,bk:=l7})(hd:∀σ H,Pv n σ H->l7 σ H):Id (Y->kP St) (W 0 m σ H) (∀i m σ H,W i m σ H->((E5).stop i H/\l7 σ H)\/((E5).go i H/\∃N:kP St,(∀a2 H',N a2 H'->∃m',m'<m/\W jX m' a2 H')/\∀x H',(E5).oU i H x H'->g x σ H' λ d6 H2=>wY tb {D with nx:=N,ct:=N,bk:=l7})):=by refine bm (λ i m σ H=>m=n - i/\i<=n/\Pv i σ H) (aZ n jd (Gc _) h0) ?_;rintro i m σ H⟨rfl,hi,p⟩;by_cases a8:i<n;(.rw[Ix a8 (λ a2 H' p'=>II (n - jX) a8 p') x];subst e y;exact hs i σ _ a8 p);.rw[CX n iE (hd σ H p)]
AA{β:Type}{G:α->d? β}{l₁:kz}{l₂:cP β}(h:kw G l₁ l₂):∀{i:Y}{a:α},dH l₁ i a->∃b,dH l₂ i b/\G a b:=by induction h with|cd=>intro i a e;simp at e|@bn a b l₁ l₂ r t ih=>intro i a' e;cases i with|zero=>simp only[List.getElem?_cons_zero,Option.some.injEq]at e;subst e;exact e_ b r|succ j=>simp only[List.getElem?_cons_succ]at e⊢;exact ih e
}
section _L
section
namespace zY
open lP lQ
variable{x:a3}
def z:={
UQ(k:Y)(hx:0<=x):WP x (2^k - 1)=x%2^k:=by obtain⟨n,rfl⟩:=Int.eq_ofNat_of_zero_le hx;have hp:0<2^k:=Nat.two_pow_pos k;rw[two_pow_cast];(have e:eV (2^k) - 1=eV (2^k - 1):=by generalize(2:Y)^k=m at hp;exact Ds hp);rw[e,bitAnd_pp lJ tu lJ ahS,vC,vC,Nat.and_two_pow_sub_one_eq_mod];first|rfl|exact Int.natCast_emod _ _|simp
aMe{y:a3}(hx:0<=x)(hy:0<=y):Builtin.bitOr x y=eV (x.toNat|||y.toNat):=by have e:=nat_or_add_and x.toNat y.toNat;rw[bitOr_and,bitAnd_pp hx hy];exact aEN hx hy e
}
section zY
section z
namespace _L
open lP pc lQ
variable{x fS:a4}{st:pB}{f:ab}{fd:Gr}{H:Hp}{ps:dp}
def z:={
E0.2:XK:=λ _ _ _=>nq
m6{X:Cx}:rS eK X E0:=λ _ _ _ _ _ _ _ h=>h.elim
}
section
variable{P:cr}{w:cs}{K:bT}{mg:g8}{b!:d0}
def z:={
fZ.ok{N:dp}{k:Y}{sp:Sp}(F:wG x st f)(S:kr)(len:∀vs H Q E,sp vs H Q E->Tb)(CY:∀(aK:a7)(A:dy)(br:ne)(s:ax)(H:Hp)(vs:bQ)(Q:VK)(E:XK),b7 k A_ f->sp vs H Q E->∃t,il (A9 f aK A br s H E).jh sE t/\t {nx:=λ _ H'=>Q .cB H',rt:=Q} (start N vs) H):q! mR ej du fd ps sp:=by obtain⟨oc,od,kV,doc,pm,an,aK,ct,rC,rfl,lk,gW⟩:=F.ex;refine aGJ lk gW S len λ A br s H vs Q E hr jJ=>?_;refine ah (CY aK A br s H vs Q E hr jJ) au t h q;exact bm t h.jh q
fZ.binds(F:wG x st f)(h:∀(kV doc pm:a7)(an:lA)(aK ct:a7)(us:ck),qG):yV:=by obtain⟨oc,od,kV,doc,pm,an,aK,ct,rC,rfl,lk,gW⟩:=F.ex;exact .all (h kV doc pm an aK ct)
}
section z
def z:={
j9{A:dy}{k:Y}(hr:b7 k A):uz:=Gs (Nat.add_le_add_left (cS:1<=64) _) hr.units
}
section
variable{X:Cx}
def z:={
pv(i:Y){al:bi}(hN:mB i x)(hv:Dj D1 ny)(hd:g6)(gW:AM (x==xY)):PE X Ee (sG i):=Df hN hv hd gW
}
section z
def z:={
j8{A B:Prop}(h:B):if q? then A else B:=by rw[lB Nv,h]
iZ{A B:Prop}(h:A):if bC=bC then A else B:=by rw[jB Z,h]
fA{c A B:Prop} [Decidable c](h1:c->A)(h2:¬c->B):if c then A else B:=by by_cases h:c;(.rw[jB h,h1 h]);.rw[lB h,h2 h]
aj.1(H H':Hp):Prop:=∀b o,gX H->gX H'
pF(H:Hp):aj H H:=kB _ h h
aj.trans{H1 H2:Hp}(a:aj H H1)(b:aj H1 H2):aj H H2:=λ c o h=>b c o (a c o h)
aj.free{H':Hp}(e:lI){l:ab}(h:H' l=WV):H l=WV:=by cases q:H l with|a!=>rfl|dJ o=>rw[e l o q]at h;cases h
}
section
variable{κ:Type} [Wo κ]
def z:={
auL{aq:fI}{k:κ}(h:ca lM):¬k∈rZ (·.1):=by intro m;rw[j! We m au p hp e];have q:bb ub:=List.any_eq_true.mpr (af p hp (z8 e));rw[yH,h]at q;rw[i! q jd]
}
section z
section _L
namespace _X
open lP pc lQ
variable{Q:d2}
def z:={
aEy(a d:a7):argsOk "max" #[[a],[(S0,d)]]:=by unfold argsOk;kernel_rfl
}
section
variable{eG:cr}{w:cs}{A:dy}{R:KJ}{I:ab}{fp wr:bA}{n:Y}{P:Y->d? a7}{St:Y->d? d0}{dv:a7}
def z:={
pZ.2(dv:a7):pJ a7:=[(S0,dv)]
ako(Wk:Kx I n P)(bt:Y->Mr)(cmp:KS .Gt P bt)(S:ab)(uF:S∉fp):∀(k j:Y)(s:ax)(l8:a7)(c:Y),n - nl=k->j+1<=n->St nl gv->P Mj l8->ke S {cls:=sB,dict:=a!,rq:=k! (vD [l8,l8]) c,slots:=yr}->(∀v h2 tk,Le v (zk->b≠S->jt->tN) (R (.ok (.ret v)) xT))->C' (k1 "max.loop" #[[Bv,eR,cx S],pZ dv]) R s:=by rw[Qp S uF q];intro k;induction k with|zero=>intro j s l8 c e0 e1 at_ pb sJ eY;(have last:j+1=n:=by exact avS e1 e0);rw[IU sJ _ s,Jt T5 s (last▸at_) h2 sY S,i? (Op S zn yr>>=_) _,ci ?_,oq (Gu sY Z (e? Sy)) (eY l8 _ tk (by rw[<-last];exact pb) λ b o q1 q2 e=>(JN).pi yP)]|succ k ih=>intro j s l8 c e0 e1 at_ pb sJ eY;(have kN:j+1<n:=by exact Nat.lt_of_sub_eq_succ e0);rw[IU sJ _ s,Jt (Wk.item nl s _ _ kN at_ λ v h2 tk pv at2 iW=>?_) sY S,i? (tryCatch (px [v,v] (richCompare .Gt v l8>>=_)) _>>=_) _,HV IL zv (cmp nl Mj v l8 _ _ _ pv pb ?_),ci (zv (VX ?_)),ci Sy];cases up:bt nl Mj with|bC=>simp only[o!];rw[ci ?_,<-Gu sY Z (e? (Oq ?_))];rw[nm];rw[Ct (ih nl _ v _ gm XW e0 kN (Lr at2 λ b inf o e=>?_) (by simp only[Aa,up,o!];exact pv) Sg sY Mz h3 BS C4)];(.exact Fg (Sn λ q:S=b=>uF (by rw[ev q inf])) e);.exact eY v2 h3 BS C4 K? C0 q1 ((JN).pi yP)|false=>rw[Do N9,j0 Oq ?_];rw[nm];rw[Ct (ih nl _ l8 c gm XW e0 kN at2 (by simp only[Aa,up,N9,M8];exact pb) sY Mz h3 BS C4),eY v2 h3 BS C4 K? C0 q1 yP]
aAq(Wk:Kx I n P)(bt:Y->Mr)(cmp:KS .Gt P bt)(S:ab)(uF:S∉fp){s:ax}{c:Y}(at_:St 0 gv)(sJ:ke S {cls:=sB,dict:=a!,rq:=k! (vD []) c,slots:=yr})(none_:n=0->∀h2 tk,vq (zk->b≠S->jt->tN)->R (.ok (.ret dv)) xT)(eY:0<n->∀v h2 tk,Le v (zk->b≠S->jt->tN) (R (.ok (.ret v)) xT)):C' (k1 "max.loop" #[[Bv,eR,cx S],pZ dv]) R s:=by rw[Qp S uF q,IU sJ _ s];by_cases al:0<n;(.rw[Jt (Wk.item 0 s _ _ al at_ λ v h2 tk pv at2 iW=>?_) sY S,i? (Op S zn O? [v,v]>>=_) _,ci ?_,<-Gu sY Z ?_];rw[nm];rw[Ct (ako Wk bt cmp S uF _ 0 _ v _ Z al (Lr at2 λ b inf o e=>?_) pv Sg sY Mz h3 BS C4)];(.exact Fg (Sn λ q:S=b=>uF (by rw[ev q inf])) e);.exact eY al v2 h3 BS C4 K? C0 q1 ((JN).pi yP));. (have z:n=0:=by exact Nat.eq_zero_of_not_pos al);rw[HV T5 s (z▸at_) h2];show sZ pr (rule (Pt++Oo ".default")>>=(eU (ret dv))) _ _ _;rw[DT wu wpAny_rule (none_ z _ tk λ b o q1 q2 e=>yP)]
}
section z
section
variable{eG:cr}{w:cs}{A:dy}{E:d2}{s:ax}{dv:a7}
def z:={
aoW{x:a7}(h:fj wV pr (pyIter x) (λ it s2=>∃I fp wr n P St bt,it=cx I/\Kx I n P/\St 0 s2.heap/\(∀b∈fp,Tg)/\KS .Gt P bt/\(n=0->∀h2 tk,vq R! zk->Q dv wl s2 h2 tk)/\(0<n->∀v h2 tk,Le v R! zk (Q v wl s2 h2 tk))) E s):kb (call wT [x] (pZ dv)) Q E:=by(have nm:PF kM:=by decide);rw[<-kmk_tree F.kind_max F.plain_max F.entry_max io aEy ?_,i? (RK 0 #[[],pZ dv]>>=_) s,ci (wpAny_of_eq (show RK 0 #[[],pZ dv]=fE [a!,ad dv]from rfl) ?_),j0 fa ?_,ci m? h jZ it s2 h2 kB _ e e];obtain⟨I,fp,wr,n,P,St,bt,rfl,Wk,at_,low,cmp,q0,q1⟩:=h2;rw[j0 FA ?_];have uF:Gb∉fp:=λ hm=>V2 _ (low _ hm);rw[nm];rw[Ct (aAq Wk bt cmp Gb uF (Lr at_ λ b _ o e=>j?) ox (λ z h3 tk iW=>?_) λ z v h3 tk pv iW=>?_)];(.exact q0 z h3 tk λ b o q e=>iW b o q Lk j?);.exact q1 z v h3 tk pv λ b o q e=>iW b o q Lk j?
}
variable{l:ab}{xs:Array (a3×Tok)}{aF:ck}{ns:mM}
def z:={
akJ(hh:uP)(hl:Ka)(hi:tP aF)(h0:ns=[]->∀h2 tk,vq (jt->tN)->Q dv xT)(h:D!->∀h2 tk M t,(∀b o,jt->tN)->iB M->(∀a,iB a->a<=M)->Q (.int M t) xT):kb (call wT [jE] (pZ dv)) Q E:=by(rw[JX xs];have hn:numsOf (vG xs).toList=ns:=by rw[KK e]);rw[NE]at hn;subst hn;rw[e]at hl;refine aoW (iter_intList hl λ s2 e2 st r8 w8=>?_);subst e2;refine #[_,_,_,_,_,_,_,rfl,LF pr hh _ l w8 (vG xs),st,r8,CmpOf.ints_gt (numAt xs) AQ VL,λ z h2 tk iW=>?_,λ z v h2 tk pv iW=>?_];(. (have z':zQ=0:=by rw[KE z]);exact h0 (by rw[List.map_eq_nil_iff];exact List.eq_nil_of_length_eq_zero (by simpa using z')) h2 tk (old_kept iW));. ((have z':0<zQ:=by rw[KE z]);have iF:jC ((vG xs)[Aa (λ i j=>bG (numAt xs i>numAt xs j)) (zQ - 1)]?):=by rw[KE pv]);rw[RG iF q1 q2,<-h iz z' h2 tk _ t (old_kept iW) ?_ gr a ha];(.rw[NF];exact VM (by rw[Ro,VO z' q1]));. (rw[b5 (ah (mem_getD ha) au j hj aU) aU]);rw[Rl q2 j hj]
}
section z
section _X
namespace _M
open lP pc lQ _L
variable{e:a6}{P:bE}{H':Hp}{db:c!}{op lR:CmpOp}{g:a3->a3->V}{g':El}{u:V}
def z:={
bc.1(P:h!)(H:Hp):Prop:=∀H',aj H H'->P H'
bc.now{P:h!}{H:Hp}(h:bc P H):P H:=h H (pF H)
bc.later{P:h!}{H:Hp}(h:bc P H)(s:lI):bc P H':=nN (h H2 (Ac s2))
bc.pure{p:Prop}{H:Hp}(h:p):bc (λ _=>p) H:=λ _ _=>h
cT{H:Hp}{p:ab}{o:HO}(h:ca (H p)):aj H (upd H p o):=λ b u e=>by rw[aV (c8 e h)];exact e
}
variable{X:Cx}{σ:dB}{H:Hp}
structure Ev(X:Cx)(σ:dB)(H:Hp)(e:a6)(P:bE):Prop where
 go:ff tw v CN (∀aN s,x!->on nE e EP)
def z:={
aB.2(X:Cx)(σ:dB)(H:Hp)(e:a6)(v:V):Prop:=fo e λ u _=>u=v
Ev.later(h:oM)(s:lI):Ev X σ H' e P:=yE
Ev.imp{P':bE}(h:oM)(k:∀v H1,hW (P v H1->P' v H1)):fo e P':=#[λ H1 s1 Q q=>h.1 H1 s1 Q (λ v H2 s2 p=>q v H2 s2 jT (k v H3 dl (p H3 s3)))]
aL.1(X:Cx)(e:a6):TE:=iN (∃P,oM/\∀v H2,qb H P n3)
aI:b? e ML:=λ aN s σ H Q I xh=>B9 xh P (yy H Q q aN s I)
eN{t:TE}(h:b? e t)(r:ff tw v CN (t σ H1 Q)):oM:=#[λ H1 s1 Q q aN s I=>fr h s H1 Q I EC]
aL.v{e:a6}{v:V}{Q:VK}(h:kt e)(q:qU H n3):aL X e σ H Q:=(e9 h λ u H2 s2 p=>by have e:=p.now;subst e;exact q H2 s2)
l_{e:a6}{P:bE}{Q:VK}(h:oM)(q:∀v H2,qb H P n3):aL X e σ H Q:=bm P h q
afk.1(sc:eX)(x:a4):bM:=bG ((To=ad .local\/xV f7\/xV fY)/\EK x Hb/\EK x xY)
O0{sc:eX}{x:a4}(h:bb (afk sc x)):ny sc x/\EK x Hb/\EK x xY:=by have:=KP;exact cc
Kd.1(sc:eX)(x:a4):bM:=bG (To=ad .local\/xV f7)
aLC{sc:eX}{x:a4}(h:bb (Kd sc x)):Loc sc x:=by have:=KP;exact cc
aa(i:Y){x:a4}{al:bi}{v:V}(e:jS (σ[i]?) jD)(hN:mB i x)(hv:wa sw D1 afk):kt Ee:=fh (Df hN MX.1 MX.2.1 MX.2.2) f' bm v e (q v H1 (pF _) wf)
ai{i:a3}{j al}:eh gc Os tf j i:=fh kf xH
cN{b:bM}{j al}:dW gc Os xJ b j b:=fh C_ xH
ag{x:a4}{n:a3}{al:bi}(g:GI gQ x n)(hg:j')(hd:g6):eh Ee n:=by obtain⟨t,g⟩:=g;exact eN (QW hg g (v:=e5 n) #[t,rfl] hd) xH
lU{x:a4}{a:ab}{al:bi}(g:gQ x=ad eS)(hg:j')(hd:g6):fW Ee eS:=eN (QW hg g (v:=cx a) Z hd) xH
}
variable{a b c:a6}{al:bi}{i j k:a3}{x y:bM}
def z:={
aW{op:Ot}(ho:dg X EJ op (jq g))(ha:f6)(hb:lg):fW (.BinOp a op b al) lw:=DL B5 ho n9 (aE i j Z Z jr)
iu{op:Ot}{C:a3->d? a3}(ho:dg X EJ op (rI C g))(ha:f6)(hb:lg)(hc:C i j):fW (.BinOp a op b al) lw:=DL B5 ho n9 (ji i j Z Z hc jr)
oI(ha:f6):eh H? USub a (-i):=eN (axI aI6 aI) k4 e_ i uo
gF(ho:dg X n6 op (jq g))(ha:f6)(hb:lg)(hm:n1 im op b):fW DM [op] [b] lw:=fh kx uq ho n9 (aE i j Z Z jr)
acp{v:V}(ha:fW a u)(hb:kt b)(hs:k_ (OC u v))(hm:Ck):dW kc Eq [b] bG (u=v):=fh kx uq adL n9 #[hs,jr]
d3(ha:f6)(hb:lg)(hm:Ck):dW kc Eq [b] yS:=(acp ha hb Z hm).imp ts v e (by rw[e];simp)
tJ{g:El}(ho:xP op j lw)(i':xP lR j (g' i j))(ha:f6)(hb:lg)(hc:eh c k)(hm:R7 (lastMarks [op,lR] vy)):dW DM [op,lR] vy (lw&&g' j k):=yK (aiE ho i' aI aI) hm P! e (aE j k Z Z (q _ H4 gZ f? (by rw[e,pG]))) pP f? (by rw[e,WW])
bZ{op}(h:gg a):gg gc BoolOp op [a]:=eN (ao3 aI) f' bm P Mi q
cp(ha:dW a x)(hb:x=bC->dW jy And Fd y):dW jy And va (x&&y):=yK atJ aI k4 e_ x (by rw[Be pX n4 (hb Z) jr uo])
fP(ha:dW a x)(hb:oZ->dW jy Or Fd y):dW jy Or va (x||y):=yK ah8 aI k4 e_ x (by rw[Be uo pX n4 (hb Z) jr])
iT(ha:dW a x):dW KZ (!x):=eN (aMo aI) k4 e_ x uo
}
structure Te(X:Cx)(σ:dB)(H:Hp)(e:a6)(b:bM):Prop where
 go:Dg Q ve nc fz b (∀aN s,x!->on (z6 e gA nE e) TP)
structure Tw(X:Cx)(σ:dB)(H:Hp)(e:a6)(b:bM):Prop where
 go:Dg Q ve nc fz b (∀(Ae:Sem a7)aN s,x!->on (z6 e gA Ae) TP)
def z:={
Te.later(h:mH e)(s:lI):Te X σ H' e x:=yE
Tw.later(h:ku e x)(s:lI):Tw X σ H' e x:=yE
Tw.te(h:ku e x):mH e:=#[λ H1 s1 Q q=>h.1 H1 s1 Q q _]
tTe.1(X:Cx)(e:a6):TT:=iN (∃b,h_ e b/\qU H fz b)
dw:PT X e (tTe X e):=λ aN s σ H Q I BP=>ah BP λ b h q=>yy H Q q aN s I
tTw.1(X:Cx)(e:a6):TT:=iN (∃b,ku e b/\qU H fz b)
Td:PW X e (tTw X e):=λ wh aN s σ H Q I CA=>ah CA λ b h q=>yy H Q q wh aN s I
vR{t:TT}(h:PT X e t)(r:Dg Q ve nc fz x (t σ H1 Q)):mH e:=#[λ H1 s1 Q q aN s I=>fr h s H1 Q I EC]
Af{t:TT}(h:PW X e t)(r:Dg Q ve nc fz x (t σ H1 Q)):ku e x:=#[λ H1 s1 Q q wh aN s I=>h wh aN s σ H1 Q I EC]
bO(h:dW e x)(he:Rh e v v):mH e:=vR (Ru aI he) Ax Ad e_ x qm
bP{g:El}(ho:xP op j lw)(ha:f6)(hb:lg)(hm:n1 im op b):h_ DM [op] [b] lw:=o2 kx tZ ho n9 xG (vB i j Z Z) uu
eW(ha:f6)(hb:lg)(hm:Ck):h_ kc Eq [b] yS:=o2 kx tZ adL n9 (eM Z _ Z (by rw[HN bG (iO i=iO j) yS];exact q H3 u1))
gd(ha:f6)(hb:lg)(hm:n1 im .NotEq b):h_ kc NotEq [b] (!yS):=o2 kx tZ Ue n9 (eM Z _ Z (by rw[HN bG (iO i=iO j) yS];exact q H3 u1))
tT{g:El}(ho:xP op j lw)(i':xP lR j (g' i j))(ha:f6)(hb:lg)(hc:eh c k)(hm:R7 (lastMarks [op,lR] vy)):h_ DM [op,lR] vy (lw&&g' j k):=vR (asD ho i' aI aI aI hm) P! e xG (vB j k Z Z) (by rw[e,pG]at q;exact q H4 gZ) e9 Z (by rw[e,WW]at q;exact q H3 u1)
dG(ha:uS):h_ KZ (!x):=vR (UI dw) Jq
c5(ha:uS):ku jy And [a] x:=Af (aHL dw) Jq
eE(ha:uS):ku jy Or [a] x:=Af (aFr dw) Jq
cF(ha:uS)(hb:x=bC->ku jy And Fd y):ku jy And va (x&&y):=Af (ajh dw Td) f' tA x p7 Cq LS y J5 uu qm
dr(ha:uS)(hb:oZ->ku jy Or Fd y):ku jy Or va (x||y):=Af (aGO dw Td) f' tA x p7 Cq qm LS y J5 uu
GW(hc:mH c)(ha:x=bC->gg a)(hb:oZ->gg b):gg TX:=DL aFw dw f' tA x L' (Cq (bm P Bw ha λ v H3 s3 p=>tI p) bm P J5 λ v H3 s3 p=>tI p)
kJ{v:V}(hc:mH c)(ha:x=bC->fW a u)(hb:oZ->kt b):fW TX (if x then u else v):=GW hc (λ e=>(ha e).imp λ w _ _ h=>by rw[h,e];rfl) (λ e=>(hb e).imp λ w _ _ h=>by rw[h,e];rfl)
}
section _M
namespace _M
open lP pc lQ _L
variable{X:Cx}{σ:dB}{H:Hp}
variable{xs vs:bQ}{z:bM}{Py:bE}{mU:eB}{hi:a3}{eb lo ea:a6}{H':Hp}{jg:bi}{r:sN}
structure fF(X:Cx)(σ:dB)(H:Hp)(es:c!)(PL:m4):Prop where
 go:R0 Q vs (∀al aN s,x!->fj LQ X.A (spliced mk es) p_ AP σ Q l1 s)
def z:={
eF.2(X:Cx)(σ:dB)(H:Hp)(es:c!)(vs:bQ):Prop:=fl fF es λ us _=>us=vs
fF.later{es:c!}{PL:m4}(h:DY)(s:lI):fF X σ H' es PL:=yE
Bc.1(X:Cx)(es:c!):TA:=iN (∃PL,DY/\∀vs H2,kY H (PL vs) fz vs)
dU{es:c!}:PA X es (Bc X es):=λ al aN s σ H Q I bx=>B9 bx P (yy H Q q al aN s I)
fF.of{es:c!}{t:TA}{PL:m4}(h:PA X es t)(r:R0 Q vs (t σ H1 Q)):DY:=#[λ H1 s1 Q q al aN s I=>h al aN s σ H1 Q I EC]
ao:fl eF [] []:=fF.of fH xH
ae{e:a6}{es:c!}{v:V}(h:kt e)(r:qT)(hs:g5):fl eF fX MV:=fF.of (iG aI dU hs) Ax Ad Ss us H3 Rw f8
cq{e:a6}{es:c!}{P:bE}{PL:m4}(h:oM)(r:DY)(hs:g5):fl fF fX λ us H=>∃v r,us=v::r/\P v H/\PL r H:=fF.of (iG aI dU hs) sq l_ Ad jW v hv Ss us H3 pP ib (aE v us Z (hv.later s3 H4 s4) o8 e)
RP.2:=bQ->Hp->(V->h!)->Prop
yp.1(R:RP):Sp:=λ vs H Q _=>∃P,R vs H P/\∀v H2,qb H P n3
aM.1(P:cr)(w:cs)(K:bT)(mg:g8)(b!:d0)(k:Y)(x:a4)(R:RP):Prop:=∃f fd ps,yj/\bb Tu tc/\yV/\q! mR ej k fd ps (yp R)
e8.1(P:cr)(w:cs)(K:bT)(mg:g8)(b!:d0)(k:Y)(C:ab)(m:a4)(R:RP):Prop:=∃f fd ps,mL K C m f/\yV/\q! mR ej k fd ps (yp R)
}
section
variable{k:Y}{x m:a4}{R:RP}{e o:a6}{es:c!}{p al gK:bi}{C a:ab}
def z:={
abQ{PL:m4}{P:bE}(F:qB aM R)(hr:oY)(ha:qO)(hR:qy CW R vs v)(hg:j')(d_:g6)(he:g5)(a_:j7):tU:=by refine gP F λ f fd ps hm hk hb G=>?_;refine eN (afj G hr hg hm hk hb eC m6 dU d_ he a_) f' bm PL p7 B! H2 s2 ?_;obtain⟨P',r,i⟩:=BW hR;rw[C5 bm P' r λ v H3 s3 hp=>tI ib lp i v o8 hp]
Kf{pl:EW}{PL:m4}{P:bE}(c:rh)(F:wz e8 vT k C m R)(hr:oY)(ho:qY eS)(hi:ff (∃dx fs,H1 a=ad my/\ux))(ha:qO)(hR:qy CW R (eS::vs) v)(bw:g5)(a_:j7)(ht:JB Cz (px [ov] (Gy ov m pl)) fX):gg Cz:=by refine gN F λ f fd ps hm hb G=>?_;refine eN (OT aI c hm G hr hb eC m6 dU bw a_ ht) CE ?_;refine dc HF hi λ dx fs h1 h2=>?_;refine #[a,dx,fs,rfl,h1,h2,PL,kQ r5,λ vs H3 s3 hv=>?_];obtain⟨P',r,i⟩:=hR vs H3 dl hv;rw[C5 bm P' r λ v H4 s4 hp=>q v H4 gZ λ H5 s5=>i v H5 (s4.trans s5) (hp H5 s5)]
}
section z
section
variable{a b:a6}{es:c!}{al hM:bi}{i:a3}{x1:Y}
def z:={
iR(ha:qT)(hl:uk):lr gc Tuple es x1 v p4 dV a dL vs:=eN (TB dU) f' or us #[by rw[ev f8 hl],λ p hp=>q _ _ G9 cT hp ib e_ p bF s4 (by rw[aY,f8])]
A2(ha:f6)(hb:qT)(hf:xL)(hl:uk)(hm:nG im .In wU):dW kc In Dt yW:=fh kx uq OJ k4 iL n4 (iR hb hl) λ v H3 s3 hv=>by(rw[CP aS e aS]);exact(fM p vs Z jc (i0 e) Z hf jr)
Yy(ha:f6)(hb:qT)(hf:xL)(hl:uk)(hm:nG im .np wU):dW kc np Dt (!yW):=fh kx uq Zz k4 iL n4 (iR hb hl) λ v H3 s3 hv=>by(rw[CP aU e aU]);exact(fM p vs Z jc (i0 e) Z hf jr)
tW(ha:f6)(hb:qT)(hf:xL)(hl:uk)(hm:nG im .In wU):h_ kc In Dt yW:=o2 kx tZ OJ k4 iL n4 (iR hb hl) λ v H3 s3 hv=>by(rw[CP a9 e a9]);exact #[p,vs,rfl,.inr (i0 e),rfl,hf,_,rfl,uu]
aqI(ha:f6)(hb:qT)(hf:xL)(hl:uk)(hm:nG im .np wU):h_ kc np Dt (!yW):=o2 kx tZ Zz k4 iL n4 (iR hb hl) λ v H3 s3 hv=>by(rw[CP bu e bu]);exact #[p,vs,rfl,.inr (i0 e),rfl,hf,_,rfl,uu]
}
section z
section
variable{o e:a6}{al:bi}{a p:ab}{f:a4}{v:V}{n:a3}
def z:={
cQ(ho:qY eS)(hf:ff (∃C dx fs,H1 a=ad my/\rh/\cf a? C f/\jn f v))(hb:f9 Di o f j3 j3):kt gc zN o f:=yK V' hb CE (by refine gP HF hf λ C dx fs h1 h2 h3 h4=>?_;exact UA lq C uo)
cO(ho:qY qn)(hi:eh e n)(hx:ff (∃xs,pT aC p/\jC (kL xs n)))(hs:Ku (oW e)):kt qR e:=fh (afh anS aI aI hs) CE pX vU (by refine ah (hx H3 dl) au xs h1 h2;exact(BC p xs n v Z Z h1 h2 jr))
bW(ho:qY qn)(hi:eh e n)(hx:ff (∃xs,oN p/\jC (kL xs n)))(hs:Ku (oW e)):kt qR e:=fh (afh aBv aI aI hs) CE pX vU (by refine ah (hx H3 dl) au xs h1 h2;exact(BC p xs n v Z Z h1 h2 jr))
}
section z
structure Bd(X:Cx)(σ:dB)(H:Hp)(mU:eB)(N:k?)(P:bE):Prop where
 go:Ry N v (∀aN s,x!->wq sk execs mU (SP X aN D) l1)
def z:={
Rn.2(X:Cx)(σ:dB)(H:Hp)(mU:eB)(P:bE):Prop:=D9 H mU uY
Bd.later{N:k?}{P:bE}(h:i6 σ H mU)(s:lI):i6 σ H' mU:=yE
zp.1(X:Cx)(mU:eB):TS:=λ D σ H=>∃N P,i6 σ H mU/\(∀a2 H2,kY H (N a2) IP)/\∀v H2,qb H P (D.rt v H2)
fL:il X mU (zp X mU):=λ aN s σ H D I cy=>aO cy λ N P h n p=>yy H D n p aN s I
Bd.of{t:TS}{N:k?}{P:bE}(h:il X mU t)(r:Ry N v (t D σ H1)):i6 σ H mU:=#[λ H1 s1 D n p aN s I=>fr h s H1 D I (r H1 s1 D n p)]
}
section
variable{e c:a6}{al hM:bi}{db a b:eB}{N:k?}{P:bE}{x:bM}
def z:={
c6(h:bc (N σ) H):i6 σ H []:=jk dh D (n σ H1 (pF _) Mi)
bg(h:oM):je (.Return zf al):=jk (aP (dD aI) fL) D bm P Mi λ v H2 s2 hv=>p v H2 s2 hv
aG{v:V}(h:kt e)(hv:bc (P v) H):je (.Return zf al):=bg (h.imp λ u H1 s1 e=>by rw[e];exact hv H1 s1)
aX(hc:mH c)(ha:x=bC->D9 H a uY)(hr:oZ->i6 σ H db):je (.If c a [] al):=jk (aP (iy dw fL dh) fL) D tA x L' Cq sC Bw ha (λ a2 H3 s3 h=>h.now.elim) AW v p v xx Bw hr
r6{N1:k?}(hc:mH c)(ha:x=bC->D9 H a N1)(hb:oZ->D9 H b N1)(hr:mm a2 (N1 a2) xm):je (.If c a b al):=jk (aP (iy dw fL fL) fL) D #[x,L',nN (by have go:∀{q:eB},Bd X σ H q N1 P->zp X q {D with nx:=zp X db D} σ H2:=λ{q}h=>sC kQ Ad (λ a2 H3 s3 h3=>(sC (hr a2 H3 dl h3) (λ σ4 H4 s4 h4=>n σ4 H4 gZ h4) λ v H4 s4 h4=>p v H4 gZ h4)) AW v p v;rw[Be (go (ha Z)) (go (hb Z))])]
gI(i:Y){y:a4}{P1:bE}(hN:e7)(he:fo e P1)(hr:mm v (P1 v) i6 Lp v H1 db)(hi:qt)(hx:wa sw Bb Kd y)(hs:f9 sQ e ad mn Gi fE iQ)(hf:qr):je gc po [mn] e:=jk (aP (bY (i:=i) hN hi (aLC hx) aI hs hf) fL) D bm P1 (GA s1) λ v H2 s2 hv=>xx mx hr v hv
bI(i:Y){y:a4}{v:V}(hN:e7)(he:kt e)(hr:i6 Lp v H db)(hi:qt)(hx:wa sw Bb Kd y)(hs:f9 sQ e ad mn Gi fE iQ)(hf:qr):je gc po [mn] e:=gI i hN he j6 H1 s1 (by rw[f8];exact hr.later s1) hi hx hs hf
}
section z
def z:={
atr{P:cr}{w:cs}{K:bT}{mg:g8}{b!:d0}{x fS:a4}{st:pB}{f:ab}{fd:Gr}{N ps:dp}{k:Y}{R:RP}(F:wG x st f)(S:kr)(len:∀vs H Q,R vs H Q->Tb)(CY:∀(aK:a7)(A:dy)(br:ne)(s:ax)(H0 H:Hp)(vs:bQ)(Q:bE)(E:XK),b7 k A_ f->R vs H Q->Rn (qe A9 f aK A E).jh (start N vs) H sE Q):q! mR ej du fd ps (yp R):=F.ok S (λ vs H Q E dz=>ah dz λ P h _=>len vs H P h) λ aK A br s H vs Q E hr eP=>B9 eP P #[_,fL,_,P,CY aK A br s H H vs P E hr h,λ a2 H2 s2 n=>n.now.elim,jW v hv (q v H2 s2 hv)]
}
section
variable{o e:a6}{es:c!}{al p p2 gK:bi}{x:a4}{n:a3}{k:Y}{R:RP}{P Po:bE}{PL:m4}
def z:={
vM{id:kM}(hc:kF X EI r)(hm:ca (gQ x))(hv:pH x=ad (.zw id))(ha:qO)(hr:qy tw v CN (r vs H1 Q))(hg:j')(hn:SK x)(d_:g6)(he:g5)(a_:j7):tU:=QI Qt dU Q
HJ{T:kM}(hc:kF X MR r)(hm:ca (gQ x))(hv:pH x=ad (.type T))(ha:qO)(hr:qy tw v CN (r vs H1 Q))(hg:j')(hn:SK x)(d_:g6)(he:g5)(a_:j7):tU:=QI aAW dU Q
di{m:Y}(hm:ca (gQ "len"))(ho:fi)(hx:jY (∃q xs,nU u/\(pT aC q\/oN q)/\Me m))(hg:mq (nw "len"))(he:mP)(a_:om):eh qM (eZ "len") m:=o4 (vM R6 hm PySem.boot_len rj) q (by(rw[lz (aO nz λ u r aU _ a9=>?_) aU a9]);obtain⟨a,xs,rfl,h1,h2⟩:=hx u H1 s1 nN (by refine aO (hv H2 s2) λ u' r' e1 h _=>?_;cases e1;exact h);exact na xs Hi q H1 f? (by rw[h2]))
ua{Po:bE}{H:Hp}(h:bc (λ H=>∃v r,vs=v::r/\Po v H/\r=([]:bQ)) H):∃v,vs=[v]/\bc (Po v) H:=by(rw[lz (aO vX λ v r bu _ bU=>?_) bu bU]);exact #[v,rfl,nN (by refine aO (h H2 s2) λ v' r' e1 h' _=>?_;cases e1;exact h')]
wy{bs:qu}(hc:cZ)(hm:ca (gQ "all"))(ho:uw o v p4 (aC a? H a B0))(hv:jS (pH "all") Ur)(hg:mq (nw "all"))(he:mP)(a_:om):dW qM (eZ "all") Mw:=o4 yQ awb hv rj q (by(rw[qz cH h cH]);(rw[qC vX dA dA]);exact na bs wE)
zd{bs:qu}(hc:cZ)(hm:ca (gQ "any"))(ho:uw o v p4 (aC a? H a B0))(hv:jS (pH "any") Uo)(hg:mq (nw "any"))(he:mP)(a_:om):dW qM (eZ "any") Mx:=o4 yQ aI1 hv rj q (by(rw[qz ee h ee]);(rw[qC vX fJ fJ]);exact na bs wE)
LN(F:qB aM R)(hr:oY)(hR:ff CW R [] v)(hg:j')(d_:g6):gg nJ (eZ x p) []:=by refine gP F λ f fd ps hm hk hb G=>?_;refine eN (aLu G hr hg hm hk hb eC m6 d_) D7;refine ah (hR H1 s1) au P' r i;exact(bm P' r λ v H3 s3 hp=>q v H3 s3 ib lp i v o8 hp)
tF{hi:a6}{i j:a3}(ho:fi)(hl:eh lo i)(hh:eh hi j)(hx:Rv q p (gT xs vg ad j)):gg qR yM ad lo ad hi:=IW MH (yL aI) (aL.v (hh.later dl) ib #[j,rfl,by(rw[b5 (aO (hx u H4 (iY gZ) (GC (r9 s4))) λ a xs iH h1 h2=>?_) iH]);exact na xs Fe (q _ _ O5 (s4.trans (cT hl)) MZ)])
SQ{i:a3}(ho:fi)(hl:eh lo i)(hx:Rv q p (gT xs vg a!)):gg qR yM ad lo a!:=IW MH W_ (by(rw[b5 (aO J0 λ a xs jG h1 h2=>?_) jG]);exact na xs Fe Kz _ hl MZ)
uT(hu:ln)(ho:fi)(hi:yA)(hx:Pk v jD (bc (P v) H1))(hs:Ku (Fl e)):gg qR e:=fh (aJ8 hu aI aI hs) n8 iL vU λ y H3 s3 hy=>by(rw[b5 (aO (hx u y H3 dl (GC s3) hy) λ a v l9 h1 h2=>?_) l9]);exact na v tI h2
adt(hu:ln)(hi:yA)(ho:fi)(hx:IZ r r)(h1:n1 im .In o):dW AR e .In [o] z:=fh (agx (adQ hu aI aI) h1) sq l_ vU jW y hy iL r_ λ u H3 s3 hu=>by(rw[JG r kg kg]);exact na r Rw h2
aas(hu:ln)(hi:yA)(ho:fi)(hx:IZ r r)(h1:n1 im .In o):h_ AR e .In [o] z:=o2 (YC (adQ hu aI aI) h1) sq l_ vU jW y hy iL r_ λ u H3 s3 hu=>by(rw[JG r jF jF]);exact xG (vB a r Z h1) (by rw[h2];exact q H3 u1)
I_(hu:ln)(hi:yA)(ho:fi)(hx:IZ r r)(h1:n1 im .np o):h_ AR e .np [o] (!z):=o2 (YC (ahn hu aI aI) h1) sq l_ vU jW y hy iL r_ λ u H3 s3 hu=>by(rw[JG r kD kD]);exact xG (vB a r Z h1) (by rw[h2];exact q H3 u1)
oH(ho:fo e Po)(hx:jY (vJ a? u H1 z))(he:Rh e v v):h_ e z:=vR (aDS aI he) n8 bm z Kh qm
}
section z
section
variable{e c:a6}{al hM p1 p2:bi}{db eO:eB}{N:k?}{P:bE}{y:a4}
def z:={
k7(i:Y){op:Ot}{g:a3->a3->a3}{m k:a3}(ho:Gp X op (O7 g))(hN:e7)(hv:dH σ i ad IT)(he:eh e k)(hr:i6 Lp dk (g m k) H db)(hi:qt)(hx:xR)(hf:qr):je (.AugAssign mn op e al):=jk (aP (Fw (i:=i) hN hi hx aI ho hf) fL) D e9 hv (aL.v (GA s1) nN #[m,k,rfl,rfl,_,_,kQ hr.later,λ a2 H3 s3 h=>wc n a2 h,λ v H3 s3 h=>wc p v h])
lN(J:x2)(mono:∀m a2 H1 H2,nc (J m a2 H1->J m a2 H2))(m0:Y)(hp:xM)(h0:J m0 σ H)(hs:∀m a2 H1,hW (J m a2 H1->∃x,Te X a2 H1 c x/\(x=bC->Bd X a2 H1 eO wJ d6 (∃m',m'<m/\wY J m') P)/\(x=false->xm))):je (.While c eO [] al):=jk (aP (oa hp dw fL) fL) D (by refine bm (λ m a2 H'=>pS H1/\J m a2 H') bm m0 Io (jp mono s1 h0) ?_;rintro m a2 H'⟨s2,j⟩;refine bL (hs m a2 H' (iY s2) j) λ x hc hb hr=>?_;refine LS x hc ?_;cases x with|bC=>refine iZ #[wJ d6 (aj H1 H2/\∃m',m'<m/\wY J m'),λ d6 H2 bx=>iS bx λ s4 m' hm h=>(aZ m' hm s4 h),_,_,(hb Z).l! s3,λ d6 H2 s4 h=>#[gZ,vX],λ v H2 s4 h=>t8 H2]|false=>exact j8 sC ((hr Z).l! s3) wg d6 H2 (n d6 H2 gZ h) wg v H2 t8 H2)
JE(i:Y){lo:a3}(J:x2)(hp:xM)(rA:cZ)(hN:e7)(hm:qZ)(ha:C!)(gw:DJ)(h0:En J)(hb:∀k a2 H1,hW (uL->CF J pQ du))(hr:mm a2 (J n0 a2) xm)(hg:tR)(hs:B')(dY:t0)(fg:qt)(hx:xR)(hf:qr)(mE:B1):CQ wS nT:=jk (aP (iC hp rA (CV hg hm dU hs dY) D2 fg hx hf fL mE) fL) D (by refine or vs (aE lo hi f8 gw (E' B2 (pS H1/\bc (J k a2) H') #[s2,IC] ?_ ?_));(.rw[yo k a2 j,oC (hb k a2 H' (iY s3) hk j) D3 lp p v h]);.rintro a2 H'⟨s3,j⟩;rw[oC (hr a2 H' (iY s3) j) lp n d6 h lp p v h])
abR(i:Y)(J:x2)(hp:xM)(rA:cZ)(hN:e7)(hm:qZ)(ha:fl eF qg [dk hi])(gw:HM/\HT)(h0:En J)(hb:∀k a2 H1,hW (UV->CF J E? du))(hr:mm a2 (J GE a2) xm)(hg:tR)(hs:t0)(fg:qt)(hx:xR)(hf:qr)(mE:AN x wS qg x):CQ wS qg:=jk (aP (iC hp rA (CT hg hm dU hs) D2 fg hx hf fL mE) fL) D (by refine or vs (fB hi f8 gw.1 gw.2 (E' B2 (pS H1/\bc (J k a2) H') #[s2,IC] ?_ ?_));(.rw[yo k a2 j,oC (hb k a2 H' (iY s3) hk j) D3 lp p v h]);.rintro a2 H'⟨s3,j⟩;rw[oC (hr a2 H' (iY s3) j) lp n d6 h lp p v h])
GB(i:Y){fc:a6}{Po:bE}(J:x2)(hp:xM)(rA:cZ)(hN:e7)(ho:lm)(hx:tO)(h0:En J)(hb:∀k v a2 H1,hW qa k v CF J v du)(hr:Qu)(fg:qt)(d5:xR)(hf:qr)(mE:mW):CQ fc:=jk (aP (iC hp rA (mD aI) D2 fg d5 hf fL mE) fL) D (by rw[x4 s1 H2 s2];(rw[xF ka hl ka]);have d4:∀H3,aj H2 H3->aC a? H3 a xs:=jT (by rw[xB H3 e h]);refine SO t_ cy cy;(.rintro k v a2 H' hk⟨s3,j⟩;rw[oC (hb k v a2 H' dl hk j) D3 t8 H4]);.rintro a2 H'⟨s3,j⟩;rw[oC (hr a2 H' dl j) (n d6 H4 gZ h) t8 H4])
MB(i:Y){fc:a6}{Po:bE}(J:x2)(hp:xM)(rA:cZ)(hN:e7)(ho:lm)(hx:wA u u oN a)(h0:En J)(hb:∀k v a2 H1,hW qa k v CF J v du)(hr:Qu)(fg:qt)(d5:xR)(hf:qr)(mE:mW):CQ fc:=jk (aP (iC hp rA (BR aI) D2 fg d5 hf fL mE) fL) D (by rw[x4 s1 H2 s2];(rw[xF lL hl lL]);have d4:∀H3,aj H2 H3->aJ a? H3 a xs:=jT (by rw[xB H3 e h]);refine SO KL dz dz;(.rintro k v a2 H' hk⟨s3,j⟩;rw[oC (hb k v a2 H' dl hk j) D3 t8 H4]);.rintro a2 H'⟨s3,j⟩;rw[oC (hr a2 H' dl j) (n d6 H4 gZ h) t8 H4])
}
section z
section
variable{elt fc:a6}{da:eX}{own:qS}{al hM p1 p2:bi}{y:a4}
def z:={
j5.1(X:Cx)(da:eX)(elt:a6):TE:=λ a2 H' Q=>∃v,(∀(s:ax)(H0:Hp)(C:ab)(cl:bh)(fp:bA),aB mw a2 H' elt v)/\qU H' n3
pR(s:ax)(H0:Hp)(C:ab)(cl:bh)(fp:bA):PE mw elt sO:=λ aN s' a2 H' Q I eP=>S? eP h j6 H2 s2 (by rw[uv e' e',q H2 s2])
xi.1(X:Cx)(da:eX)(c:a6):TT:=λ a2 H' Q=>∃b,(∀(s:ax)(H0:Hp)(C:ab)(cl:bh)(fp:bA),Te mw a2 H' c b)/\qU H' fz b
MQ{c:a6}(s:ax)(H0:Hp)(C:ab)(cl:bh)(fp:bA):PT mw c w?:=λ aN s' a2 H' Q I kq=>S? kq h Bf qm
ael(i:Y){Po:bE}{f:gt}(ho:lm)(hx:tO)(hw:jj)(hl:lh)(he:∀(s:ax)(H0:Hp)(C:ab)(cl:bh)(fp:bA)(k:Y)(x:V),tG):Kv u? BJ kO:=by intro H1 s1 Q q;rw[x4 s1 H2 s2];(rw[xF nR fk nR]);have d4:∀H3,aj H2 H3->aC a? H3 a xs:=jT (by rw[xB H3 e h]);refine PJ ER lT lT;(.rw[yo k x e,<-#[hw x,?_]];(refine(bm (f x) sP ((q4 fp k x hk).l! dl) λ H4 s4=>xa fB _ p!);(.rw[Q1]);.exact oV (by rw[aV (c8 hb hD)];exact x_));.rw[aY,Ow,hk];simp);.rw[Jb]
pd(i:Y){Po:bE}{f:gt}(hc:cZ)(hN:e7)(ok:iK)(ho:lm)(hx:tO)(hw:jj)(hl:lh)(he:∀(s:ax)(H0:Hp)(C:ab)(cl:bh)(fp:bA)(k:Y)(x:V),tG)(hg:∀(s:ax)(H:Hp)(C:ab)(cl:bh)(fp:bA),m2)(hs:mW):lr tS v mK u?:=RW vP mD ael
XQ(i j:Y){z:a4}{pz:bi}{db:eB}{N:k?}{P:bE}{Po:bE}{f:gt}(hc:cZ)(hN:e7)(ok:iK)(ho:lm)(hx:tO)(hw:jj)(hl:lh)(he:∀(s:ax)(H0:Hp)(C:ab)(cl:bh)(fp:bA)(k:Y)(x:V),tG)(hg:∀(s:ax)(H:Hp)(C:ab)(cl:bh)(fp:bA),m2)(hr:Jp a a u?)(hz:mB j z)(oE:CG)(lS:Cf tS)(hs:mW):je C8 tS:=J_ mD xI (ael i ho hx hw hl he H1 s1 Lu jW v hv (by(rw[eq nz au a nM ha nM]);exact xx mx hr a ha))
acO(i:Y){Po:bE}{f:gt}(ho:lm)(hx:wA u u oN a)(hw:jj)(hl:lh)(he:∀(s:ax)(H0:Hp)(C:ab)(cl:bh)(fp:bA)(k:Y)(x:V),tG):Kv u? XA kO:=by intro H1 s1 Q q;rw[x4 s1 H2 s2];(rw[xF qX fk qX]);have d4:∀H3,aj H2 H3->aJ a? H3 a xs:=jT (by rw[xB H3 e h]);refine PJ atD oB oB;(.rw[yo k x e,<-#[hw x,?_]];(refine(bm (f x) sP ((q4 fp k x hk).l! dl) λ H4 s4=>xa fB _ p!);(.rw[Q1]);.exact oV (by rw[aV (c8 hb hD)];exact x_));.rw[aY,Ow,hk];simp);.rw[Jb]
z3(i:Y){Po:bE}{f:gt}(hc:cZ)(hN:e7)(ok:iK)(ho:lm)(hx:wA u u oN a)(hw:jj)(hl:lh)(he:∀(s:ax)(H0:Hp)(C:ab)(cl:bh)(fp:bA)(k:Y)(x:V),tG)(hg:∀(s:ax)(H:Hp)(C:ab)(cl:bh)(fp:bA),m2)(hs:mW):lr tS v mK u?:=RW vP BR acO
am9(i j:Y){z:a4}{pz:bi}{db:eB}{N:k?}{P:bE}{Po:bE}{f:gt}(hc:cZ)(hN:e7)(ok:iK)(ho:lm)(hx:wA u u oN a)(hw:jj)(hl:lh)(he:∀(s:ax)(H0:Hp)(C:ab)(cl:bh)(fp:bA)(k:Y)(x:V),tG)(hg:∀(s:ax)(H:Hp)(C:ab)(cl:bh)(fp:bA),m2)(hr:Jp a a u?)(hz:mB j z)(oE:CG)(lS:Cf tS)(hs:mW):je C8 tS:=J_ BR xI (acO i ho hx hw hl he H1 s1 Lu jW v hv (by(rw[eq nz au a oh ha oh]);exact xx mx hr a ha))
Yb(i:Y){c:a6}{lo:a3}{f:gt}{t:nh}(hc:cZ)(hN:e7)(ok:iK)(hm:qZ)(ha:C!)(gw:DJ)(hw:jj)(hl:y1 n0)(ht:∀(s:ax)(H0:Hp)(C:ab)(cl:bh)(fp:bA)(k:Y),uL->Te mw xD H c uB)(he:∀(s:ax)(H0:Hp)(C:ab)(cl:bh)(fp:bA)(k:Y),uL->bb (t pQ)->wp aB xD uA)(hg:∀(s:ax)(H:Hp)(C:ab)(cl:bh)(fp:bA),m2)(rK:tR)(rJ:B')(dY:t0)(hs:B1):lr IV v mK s0 ra w1 xz n0:=by refine eN (vP hc hN LE ok hg Lz pR hs) D7;refine or vs (aE lo hi f8 gw t? (Jc Fb tt te xd ra JH t7 ?_ ?_));(.rw[DW k s3 e];(refine Ch uB (ht s H0 C cl) MD;have QO:(w1 xz du).GG t=(JH).GG t++L2 bb (t pQ) (iO (lo+k)) []:=by rw[GJ,nB,Oz];congr 1;rw[jP,Nc,OB];rfl);cases et:uB with|bC=>rw[JL uA (q4 fp k hk et).l! s5];((.rw[Du];have h1:=J' t (By).map wD k Hy;rw[Iz OD h1,BV h1 (r3 hk hl)]);.exact oV (by rw[aV (c8 hb hD)];exact xj x_));.rw[aY,QO,e! et,nB];rfl|false=>refine j8 #[y3,?_];rw[p!,QO,kE (by rw[et];simp),Ag]);.rw[w7 s3 e,Bt q _ D]
}
section z
section _M
namespace _M
open lP pc lQ _L
variable{z dx:ab}{xs vs:bQ}{ns:mM}{H':Hp}{eb ea:a6}{PL:m4}{i hi lo:a3}{jg:bi}{g:a4}{R:RP}{l:uE}
def z:={
RQ.1{α:Type}(hO:lG)(d7:lx)(fU:ls):RP:=λ vs H P=>∃a,vs=k8/\d7 a H/\P=sT
}
section
variable{P:cr}{w:cs}{K:bT}{mg:g8}{b!:d0}{x fS:a4}{st:pB}{f:ab}{fd:Gr}{N ps:dp}{k:Y}{α:Type}{hO:lG}{d7:lx}{fU:ls}
def z:={
U5(F:wG x st f)(S:kr)(bH:qv)(eO:∀(a:α)(aK:a7)(A:dy)(br:ne)(s:ax)(H0 H:Hp)(E:XK),xy xr):q! mR ej du fd ps (yp n?):=atr F S (λ vs H Q bx=>bL bx λ a e _ _=>by rw[e];exact bH a) λ aK A br s H0 H vs Q E hr cy=>bL cy λ a e hp e2=>by subst e e2;exact eO a aK A br s H0 H E hr hp
c7(h:ud yj)(S:kr)(hb:∀(kV doc pm:a7)(an:lA)(aK ct:a7)(us:ck),qG)(bH:qv)(eO:∀(a:α)(f:ab)(aK:a7)(A:dy)(br:ne)(s:ax)(H0 H:Hp)(E:XK),xy xr):mR aM b! du x n?:=by refine dc h λ f fd hm F=>?_;exact(b9 f fd ps hm F.kp UU (U5 F S bH λ a=>eO a f))
KG{C:ab}(h:ud (mL K C x f))(S:kr)(hb:∀(kV doc pm:a7)(an:lA)(aK ct:a7)(us:ck),qG)(bH:qv)(eO:∀(a:α)(f:ab)(aK:a7)(A:dy)(br:ne)(s:ax)(H0 H:Hp)(E:XK),xy xr):JT e8 du x:=by refine dc h λ f fd hm F=>?_;exact(lO f fd ps hm (F.binds hb) (U5 F S bH λ a=>eO a f))
}
section z
section
variable{X:Cx}{σ:dB}{H:Hp}{k:Y}{x m:a4}{e o:a6}{es:c!}{p al gK:bi}{C b:ab}{α:Type}{hO:lG}{d7:lx}{fU:ls}
def z:={
aT(F:qB aM n?)(hr:oY)(a:α)(ha:fl eF fX k8)(hp:Db)(hg:j')(d_:g6)(he:g5)(a_:j7):fo A6 sT:=abQ F hr ha (λ us H1 s1 e1=>Mg (aZ a Ai E7 Z) u h) hg d_ he a_
cK{pl:EW}(c:rh)(F:wz e8 vT k C m n?)(hr:oY)(a:α)(ho:qY ig)(hi:ff (∃dx fs,C6/\ux))(ha:fl eF fX vs)(hv:k8=cx b::vs)(hp:Db)(bw:g5)(a_:j7)(ht:JB Cz (px [ov] (Gy ov m pl)) fX):fo Cz sT:=Kf c F hr ho hi ha (λ us H1 s1 e1=>Mg (aZ a (by rw[ev Ai hv.symm]) E7 Z) u h) bw a_ ht
}
section z
structure Fr where
 f:ab
 aK:a7
 A:dy
 br:ne
 s:ax
 H0:Hp
 E:XK
def z:={
zS.1(N:dp)(fS:a4)(st:pB)(P:cr)(w:cs)(K:bT)(mg:g8)(b!:d0)(e:Fr):Cx:=(A9 e.f e.aK e.A e.outer e.s e.H0 e.E).jh
}
section
variable{P:cr}{w:cs}{K:bT}{mg:g8}{b!:d0}{x fS:a4}{st:pB}{N ps:dp}{k:Y}{α:Type}{hO:lG}{d7:lx}{fU:ls}
def z:={
bp(h:ud yj)(S:kr)(hb:∀(kV doc pm:a7)(an:lA)(aK ct:a7)(us:ck),qG)(bH:qv)(eO:∀(a:α)(e:Fr)(H:Hp),b7 k (CO).A->d7 a H->DZ U a HE CO N a):mR aM b! du x n?:=ED c7 S λ a f aK A br s H0 H E hr hp=>Ua A s H
iw{C:ab}(h:ud (mL K C x f))(S:kr)(hb:∀(kV doc pm:a7)(an:lA)(aK ct:a7)(us:ck),qG)(bH:qv)(eO:∀(a:α)(e:Fr)(H:Hp),b7 k (CO).A->d7 a H->DZ U a HE CO N a):JT e8 du x:=ED KG S λ a f aK A br s H0 H E hr hp=>Ua A s H
k9(h:ud yj)(S:kr)(hb:∀(kV doc pm:a7)(an:lA)(aK ct:a7)(us:ck),qG)(bH:qv)(eO:∀(a:α)(f:ab)(aK:a7)(A:dy)(br:ne)(s:ax)(H0 H:Hp)(E:XK),xy DZ U a xr):mR aM b! du x n?:=ED c7 S λ a f aK A br s H0 H E hr hp=>qe (eO a f aK A) H E hr hp _ λ _ h=>h
QZ{C:ab}(h:ud (mL K C x f))(S:kr)(hb:∀(kV doc pm:a7)(an:lA)(aK ct:a7)(us:ck),qG)(bH:qv)(eO:∀(a:α)(f:ab)(aK:a7)(A:dy)(br:ne)(s:ax)(H0 H:Hp)(E:XK),xy DZ U a xr):JT e8 du x:=ED KG S λ a f aK A br s H0 H E hr hp=>qe (eO a f aK A) H E hr hp _ λ _ h=>h
}
section z
section
variable{X:Cx}{σ:dB}{H:Hp}{o e f:a6}{al gK p p2:bi}{P Po:bE}
def z:={
Us{Py Pz:bE}(hu:ln)(ho:fi)(he:yA)(hf:fo f Pz)(hd:jY (∃a,ga u/\K2 H1 a))(hx:∀a y z H1,hW (bc (Po eS) H1->bc (Py y) H1->bc (Pz z) H1->∃r,mI H1 r/\bc (P (r.getD z)) H1))(m:hV (M2 X o "get" gK e f al) aw5._auto_1):gg ul (q5 "get") [e,f]:=fh (aFD hu aI aI aI m) n8 (by(rw[qC mx hd u hu aS aS]);refine(BB h1 iL GA λ y H3 s3 hy=>l_ (hf.later dl) λ z H4 s4 hz=>?_);refine ah (hx a y z H4 (iY gZ) (GC (r9 s4)) (hy.later s4) hz) au r h2 h3;exact bm r h2 (q _ H4 gZ h3))
MW(ho:fi)(hf:jY (∃a C dx fs v,ga u/\H1 a=ad my/\rh/\cf a? C g/\jn g v/\bc (P v) H1))(hb:f9 Di o g j3 j3):gg gc zN o g:=yK V' hb n8 (by(rw[b5 (zT mx hf u hu λ a C dx fs v aU h1 h2 h3 h4 h5=>?_) aU]);exact UA lq C (q _ H2 s2 h5))
aKm(hm:ca (gQ "list"))(ho:fi)(hx:jY tj (pT aC q\/oN q))(hv:jS (pH "list") Ma)(hg:mq (nw "list"))(he:mP)(a_:om):lr qM (eZ "list") v mK xs:=o4 (HJ aol hm hv rj) q (by(rw[qz a9 h a9]);(rw[qC (hx u H1 s1 h) bu bu]);exact na xs Fe (q _ _ (cT hl) jT e_ l y? aY))
DQ(hm:ca (gQ "tuple"))(ho:fi)(hx:jY tj pT aC q)(hv:jS (pH "tuple") Uy)(hg:mq (nw "tuple"))(he:mP)(a_:om):lr qM (eZ "tuple") v p4 dV a dL xs:=o4 (HJ aCq hm hv rj) q (by(rw[qz bU h bU]);(rw[qC (hx u H1 s1 h) cH cH]);exact(cE a xs Z gY #[h1,λ l hl=>q _ _ (cT hl) jT e_ l y? aY]))
nY{es:c!}(ha:qT)(hl:uk):lr (.List es al) v mK vs:=eN (mV dU) f' or us #[by rw[ev f8 hl],λ p hp=>q _ _ G9 cT hp ib e_ p bF s4 (by rw[aY,f8])]
DF{a b:a6}{ys:bQ}(ha:uw a v (∃q,nU v/\mO q))(hb:uw b v (∃q,nU v/\dV q lst ys))(hl:R8):lr (.BinOp a .Add b al) v (∃q,nU v/\dV q lst MN):=DL B5 T7 AS r5 u iL Gx λ v H3 s3 hv=>by(rw[eq GF (λ l dA _=>?_) dA]);refine ah (hu H3 s3) au l' e' h1;cases e';(rw[eq nz au r ee h2 ee]);exact(AE l r xs ys Z Z h1 h2 hl (λ p hp=>Kz _ hp ib e_ p bF s4 aY))
WN{lo:a6}(ho:fi)(hl:eh lo i)(hx:jY (∃q xs,nU u/\oN q/\UR 0 vg≠0/\∀p,bc (P qn) (upd H1 p (.dL (gT xs vg a!))))):gg qR yM ad lo a!:=IW aH9 W_ (by(rw[b5 (fR J0 λ a xs fJ h1 bf h2=>?_) fJ]);exact(ji a xs Z h1 (λ h=>bf h.1) Fe Kz _ hl MZ))
arX{a:a6}{ta:TE}(ha:b? a ta):b? KZ λ σ H Q=>g! ta x (∃k,vJ a? x H1 k/\Q zo k H1):=by rw[kn,<-UnaryOp_ (qL ha I λ v s1 bx=>i_ bx λ x H1 I1 r1 k ht q1=>?_),not_of (be (fr acZ s1 H1 x v wJ b fz zo b I1 r1 bm k ht q1) λ b s2 cy=>ah cy λ H2 I2 q2=>Ek zo b I2 Z)]
aLG{z:bM}(ho:fi)(hx:jY (vJ a? u H1 z)):dW H? Not o (!z):=eN (arX aI) n8 bm z Kh uo
oF{k:Y}{x:a4}{es:c!}{α:Type}{hO:lG}{d7:lx}{fU:ls}(F:qB aM n?)(hr:oY)(ha:qO)(hp:qy (∃a,vs=k8/\Bs/\∀v H2,nc (fU a v H2->P v H2)))(hg:j')(d_:g6)(he:g5)(a_:j7):tU:=abQ F hr ha (λ us H1 s1 e1=>by refine bL (hp us H1 s1 e1) λ a e2 h1 h2=>?_;exact e9 (aZ a e2 h1 Z) h2) hg d_ he a_
}
section z
def z:={
aFn(l:ab)(fK:nb)(n:Y)(b:ab)(Bu:nb)(cv:j1 (hE+Bu.size)):Meets (Builtin.«list.extend» #[[jE,cx b],[]]) (λ _ R s=>ke l sM (k! fK n)/\(∃o n2,jt/\o.cls=BZ/\o.data=k! Bu n2)/\R (.ok (.ret On)) j2 s K6 l (λ x=>x++Bu)):=by intro eG w A R s zz;rw[<-bX zz λ hS zz hR=>aO zz EN n2 ho hc,i? (WY jE ig eR) s,qH WY (Fz bm o ho hc ?_)];(have h1:bb (Builtin.List.listSameRef jE ig||Lf==Value.type "list"||Lf==Lf):=by simp);rw[K1 h1,ci ?_,qH Builtin.List.listItems KF ho hd ?_,ci ?_,ci KF hS Z ?_];(have h2:(!items.isEmpty&&SE (hE+Bu.size))=false:=by rw[abD cv,FR]);simp only[h2];rw[i? (Op l (· ++ Bu)>>=(eU (ret On))) s,ci (Gu hS Z ?_ (hz:=nZ WF cv) (_hz':=by rw[Array.size_append];exact VF cv)),DO hR]
ayV.1(K:bT):ot:=kA vs (∃l b xs zs,JV (vs=[ig]) (aJ K H b zs) (Q .cB qd l MO))
agP{X:Cx}:TL (ayV a?):=by intro aN s σ H x vs v us Q I rx rv h;obtain⟨l,b,xs,zs,rfl,rfl,hH,hB,hz,q⟩:=h;rw[dX];(rw[eq rv.one au u a9 ru a9]);cases ru;rw[C7 n r e,hZ hG hB λ km r2 bu fV=>yk bu EN ho hc n2];have f_:=r2.length;rw[<-QP (aFn l gH n b ND (by rw[Cw,PZ hz hl f_])) #[e,(aE o n2 ho hc hd),?_],Ln (aF++km) e (FQ r2),J2 Lj hz]
}
section
variable{X:Cx}{σ:dB}{H:Hp}{elt fc:a6}{da:eX}{own:qS}{al hM p1 p2:bi}{y:a4}
def z:={
azx(i:Y){f:gt}(hc:cZ)(hN:e7)(ok:iK)(hm:qZ)(ha:C!)(gw:DJ)(hw:jj)(hl:y1 n0)(he:∀(s:ax)(H0:Hp)(C:ab)(cl:bh)(fp:bA)(k:Y),uL->wp aB xD uA)(hg:∀(s:ax)(H:Hp)(C:ab)(cl:bh)(fp:bA),m2)(rK:tR)(rJ:B')(dY:t0)(hs:B1):lr HZ .l4 nT [] v mK s0 w1 xz n0:=by refine eN (vP hc hN LE ok hg xI pR hs) D7;refine or vs (aE lo hi f8 gw t? (Iq Fb tt te xd JH t7 ?_ ?_));(.rw[DW k s3 e];(refine(Ch uA q4 λ H5 s5=>xa fB _ jV s5);(.rw[SF hJ hk hl]);.exact oV (by rw[aV (c8 hb hD)];exact bF s5 bF s3 hb));.rw[Dd aY GJ nB];rfl);.rw[w7 s3 e,Bt q _ D]
asJ(i:Y){f:gt}(hc:cZ)(hN:e7)(ok:iK)(hm:qZ)(ha:fl eF qg [dk hi])(gw:HM/\HT)(hw:jj)(hl:AJ GE)(he:∀(s:ax)(H0:Hp)(C:ab)(cl:bh)(fp:bA)(k:Y),UV->wp aB G7 E? (f E?))(hg:∀(s:ax)(H:Hp)(C:ab)(cl:bh)(fp:bA),m2)(rK:tR)(rJ:t0)(hs:AN x wS qg x):lr HZ .l4 qg [] v mK s0 pO xz GE wD k (0+wn k):=by refine eN (vP hc hN (CT rK hm dU rJ) ok hg xI pR hs) D7;refine or vs (fB hi f8 gw.1 gw.2 t? (Iq Fb tt te xd pO By wD k (0+wn k) t7 ?_ ?_));(.rw[DW k s3 e];(refine(Ch (f E?) q4 λ H5 s5=>xa fB _ jV s5);(.rw[SF hJ hk hl]);.exact oV (by rw[aV (c8 hb hD)];exact bF s5 bF s3 hb));.rw[Dd aY GJ nB];rfl);.rw[w7 s3 e,Bt q _ D]
aEL{a o:a6}{Po:bE}(ha:f6)(ho:fi)(hx:jY tj (aJ a? H1 q vs))(hf:xL)(hm:nG im .In o):dW kc In [o] yW:=fh kx uq OJ k4 iL r_ λ v H3 s3 hv=>by(rw[eq (hx v H3 dl hv) au p aS e aS]);exact(fM p vs Z jc e Z hf jr)
}
section z
section
variable{X:Cx}{σ:dB}{H:Hp}{o e a b:a6}{es:c!}{al gK p kp:bi}{P Po Pa Pb:bE}
def z:={
NG.1(S:Ub (Hp->ab->bQ->Prop))(K:bT):R2:=kA y (∃(a b:ab)(ns ms:mM),ga x/\y=cx b/\S K H a mJ/\S K H b Uw/\Q i4 BE H)
aDd(hu:F7<vH):dg X n6 .LtE (NG aJ a?):=by intro aN s σ H x y v u Q I rx ry h;(rw[lz (zt h λ a b ns ms aS aU ha hb q=>?_) aS aU]);rw[dX];cases ry;obtain⟨aF,r1,⟨⟨cls,dd,rq,sl⟩,ho,hc,n,hd⟩,_⟩:=hG ha;obtain⟨km,r2,⟨⟨Ta,kZ,data2,lD⟩,pU,tq,n2,hd2⟩,_⟩:=hG hb;rw[Q3 (Sz op .LtE jR ho jR pU PySem.F.slot_tuple_le PySem.F.entry_tuple_le io PySem.F.args_tuple_le_2 (Ty _E.aq9 _ _ i1 i2) #[ho,pU,?_] hu) (FS (OE ns ms)) x]
awJ(hu:F7<vH):dg X n6 .LtE (NG aC a?):=by intro aN s σ H x y v u Q I rx ry h;(rw[lz (zt h λ a b ns ms dA ee ha hb q=>?_) dA ee]);rw[dX];cases ry;obtain⟨aF,r1,⟨⟨cls,dd,rq,sl⟩,n,ho,hc,_,hd⟩,_⟩:=fN ha;obtain⟨km,r2,⟨⟨Ta,kZ,data2,lD⟩,n2,pU,tq,_,hd2⟩,_⟩:=fN hb;rw[Q3 (Sz op .LtE jR ho jR pU PySem.F.slot_list_le PySem.F.entry_list_le io PySem.F.args_list_le_2 (Ty _E.apo _ _ i1 i2) #[ho,pU,?_] hu) (FS (OE ns ms)) x]
Xc{S:Ub (Hp->ab->bQ->Prop)}(ho:dg X n6 .LtE (NG S a?)){ms:mM}(ha:fo a Pa)(hb:fo b Pb)(h1:mm u (Pa u) tj (S a? H1 q mJ))(h2:mm u (Pb u) tj (S a? H1 q Uw))(hm:n1 im .LtE b):h_ kc LtE [b] BE:=o2 kx tZ ho AS r5 u iL Gx λ v H3 s3 hv=>by(rw[eq (h1 u H3 dl Ii) au l kg e1 kg]);(rw[eq (h2 v H3 dl hv) au r jF e2 jF]);exact #[l,r,ns,ms,rfl,rfl,e1,e2,_,rfl,uu]
anD.1(K:bT):ot:=kA vs (∃(l:ab)(ns:mM)(k:a3),tr l/\vs=[dk k]/\aC K H l mJ/\Q dk (UO:Y) H)
ap2:MtR X "list.count" (anD a?):=by intro aN s σ H x vs v us Q I rx rv h;(rw[lz (gP h λ l ns k kD ka hs q=>?_) kD ka]);rw[dX];(rw[lz (aCR (vF rv) λ u lL t nR=>?_) lL nR]);rw[hZ fN hs λ aF r hl _=>?_];exact count_list_ints FV r.ints (aE dk _ H xg y5 q)
aqD{k:a3}(ho:fi)(he:eh e k)(hx:Ca)(JO:f9 (Vv o "count" gA j3) j3)(OM:k_ Kk mk [e] HU ([e]:c!))(MG:k_ LG Gi)(hs:kR [e] e [])(a_:om):eh ul (q5 "count") [e] (UO:Y):=eN (lu PySem.F.plainAttrs_list PySem.F.slot_list_count PySem.F.type_list_count ap2 aI dU JO OM MG hs a_) n8 (by(rw[eq Kh au l nM h1 nM]);refine(eM gY (ll Z _ h1) _ kQ n4 (ae he ao hs) (λ vs H3 s3 e3=>?_));refine ah (hx _ H3 dl Ii) au l' e' h2;cases e';exact(b9 l ns k Z e3.now h2 jr))
aFN(hc:cZ)(hm:ca (gQ "sum"))(ho:fi)(hx:Ca)(hv:jS (pH "sum") LR)(hg:mq (nw "sum"))(he:mP)(a_:om):eh qM (eZ "sum") ns.sum:=o4 yQ ag1 hv rj q (by(rw[qz qX h qX]);(rw[qC (hx u H1 s1 h) oh oh]);exact na ns wE)
amC{m:a3}(hc:cZ)(hm:Eu)(ho:fi)(hx:Ca)(bf:D!)(jb:RX k k (k=m))(hv:Cr)(hg:Cl)(he:mP)(a_:om):eh qM (eZ "max") m:=o4 yQ atF hv rj q (by(rw[qz uW h uW]);(rw[qC (hx u H1 s1 h) vV vV]);exact(ji a ns Z h1 bf (λ k h2 h3=>Hi q H1 f? (by rw[jb k h2 h3]))))
awe{j:a3}(hc:cZ)(hm:Eu)(ha:f6)(hb:lg)(hv:Cr)(hg:Cl)(he:kR [a,b] a [b])(Lm:kR [b] b [])(a_:nK [b]):eh nJ (eZ "max" p) [a,b] (if j>i then j else i):=o4 yQ ayO hv (ae ha (ae hb ao Lm) he) q (cE i j nz wE)
avk{t td:TE}{d:a6}(hc:cZ)(hm:Eu)(ho:b? o t)(hd:b? d td)(hg:Cl)(hv:Cr)(bw:mP)(he:f9 mk [o] (wd o::mk []))(A7:nK [o])(b_:P6 all)(M_:P3)(NA:Qc a4):b? (.l4 (eZ "max" p) [o] [HC dJ d kp] al) λ σ H Q=>g! t x Rp m k k:=by rw[kn,<-WZ (yJ I hg hm hv ?_),<-callWith_kw (be (fr (iG ho fH bw al) s H (λ xs H1=>match xs with|[x]=>Rp m k k|_=>nq) I h) au us s1 ir) he A7 b_ M_,<-aO ir EM xs H1 r1];rcases xs with _|⟨x,_|⟨x',xs⟩⟩;((.rw[Lo q1]);. (rw[b5 (ah (vF r1) au u vd ru) vd]);refine kws_cons (tp hd λ w s2 bx=>aho bx λ y H2 I2 ry l ns ex hl q0 q2=>kws_nil ?_);subst ex;cases ru;rw[uf I2.list hl hL];rw[NA];refine _X.akJ (I2.ok.hd hc) hL.isList NK (λ e h2 tk hk=>(aE y H2 (I2.kept hk) ry (q0 e))) λ hp h2 tk M t' hk h3 h4=>(aE dk M H2 (I2.kept hk) y5 (q2 hp M h3 h4)));.rw[Lo q1]
}
section z
section
variable{X:Cx}{σ:dB}{H:Hp}{e:a6}{es:c!}{al p:bi}{P:bE}{k:Y}{x:a4}
def z:={
nS.1(Pr:cr)(w:cs)(K:bT)(mg:g8)(b!:d0)(k:Y)(f:ab)(R:RP):Prop:=∃fd ps,bb Tu tc/\yV/\q! o1 ej K k fd ps (yp R)
aM.at_{Pr:cr}{w:cs}{K:bT}{mg:g8}{b!:d0}{x:a4}(h:o1 aM K b! k x R):∃f,yj/\o1 nS K b! k f R:=by refine gP h λ f fd ps h1 h2 h3 h4=>?_;exact(wN f h1 fd ps h2 h3 h4)
nS.mono{Pr:cr}{w:cs}{K:bT}{mg:g8}{b!:d0}{j:Y}{f:ab}{R:RP}(h:o1 nS K b! k f R)(hj:k<=j):o1 nS K b! j f R:=by refine aO h λ fd ps h2 h3 h4=>?_;exact(aE fd ps h2 h3 (h4.mono hj))
XF{f:ab}{fd:Gr}{ps:dp}{sp:Sp}{t:TA}(i:Y)(F:wz ej vT eK k f fd ps sp)(hr:oY)(hk:bb (WX a? tc))(hb:Binds a? fd ps [])(ha:PA X fX t)(hN:mB i x)(hv:Dj D1 ny)(hd:g6)(gW:AM (x==xY))(he:g5)(a_:j7):b? A6 λ σ H Q=>dH σ i ad tc/\g! t vs (sp vs H1 Q E0):=by intro aN s σ H Q I#[h0,h];refine WZ (be (fr (Df (al:=p) hN hv hd gW) s H (λ v H1=>v=cx f/\H1=H) I Mm h0) λ u s1 cy=>fR cy λ v H1 I1 r1 e1 e2=>?_);subst e1 e2;cases r1;refine PySem.W.callWith_K (h₀:=vT) I1.ok.mod.zV hk (be (ha al aN s1 σ H1 _ I1 h) λ us s2 dz=>aO dz vc vs r2 #[I2.jH,?_]) he a_;exact BF F hr hb eC m6 I2 r2 (by rw[ev Ag q2])
JJ{f:ab}(i:Y)(F:wz nS vT k f R)(hr:oY)(h0:dH σ i ad tc)(ha:qO)(hR:qy CW R vs v)(hN:mB i x)(hv:Dj D1 ny)(hd:g6)(gW:AM (x==xY))(he:g5)(a_:j7):tU:=by refine aO F λ fd ps hk hb G=>?_;refine eN (XF i G hr hk hb dU hN hv hd gW he a_) f' (eM h0 PL (r5 s1) B! H2 s2 ?_);refine ah BW hR au P' r i;exact(bm P' r λ v H3 s3 hp=>tI ib lp i v o8 hp)
}
section z
section
variable{Pr:cr}{w:cs}{K:bT}{mg:g8}{b!:d0}{k:Y}{x:a4}{α:Type}{hO:lG}{d7:lx}{fU:ls}{C:ab}
def z:={
spI.1(C:ab)(hO:lG)(d7:lx)(fU:ls):Sp:=λ vs H Q _=>∃a x dx H1,vs=cx x::k8/\H=upd (upd H1 dx (.own x)) x mt []/\ca (H1 x)/\rc dx/\dx≠x/\Bs/\∀H2,kY H1 MF bD x fz .cB
lE.1(Pr:cr)(w:cs)(K:bT)(mg:g8)(b!:d0)(k:Y)(x:a4)(C:ab)(hO:lG)(d7:lx)(fU:ls):Prop:=∃f fd ps,mg x=ad bD C/\Mk K C f/\yV/\q! o1 ej K k fd ps (spI C hO d7 fU)
Bi{st:pB}{fS:a4}{N ps:dp}(hm:mg x=ad bD C)(h:TK (fZ K) st fd)(S:kr)(hb:∀(kV doc pm:a7)(an:lA)(aK ct:a7)(us:ck),Hr->SV an aK ct=Ht)(bH:∀a,Hx (Hu+1))(eO:∀(a:α)(f:ab)(aK:a7)(A:dy)(br:ne)(s:ax)(E:XK)(z dx:ab)(H1:Hp),b7 k A_ f->rc z->rc dx->dx≠z->d7 a H1->∃t,il (iq eK Pr w K mg b! N fS (aw st) f aK A br s JR E).jh sE t/\∀D:Ends,(∀a2 H2,kY H1 MF wK IP)->t D MA JR):sL (o1 lE K b! du x C):=by refine dc h λ f fd M F=>?_;refine(b9 f fd ps hm M UU (F.ok S (λ vs H Q E eP=>Ft eP λ a z dx H1 e _=>by rw[e,l5];exact bH a) λ aK A br s H vs Q E hr kq=>ajm kq λ a z dx H1 e eH h1 h2 h3 h4 q=>?_));subst e eH;refine ah (eO a f aK A br s E z dx H1 hr h1 h2 h3 h4) au t ht hq;exact bm t ht (hq _ jW a2 n (q H2 s2 n))
}
section z
section
variable{X:Cx}{σ:dB}{H:Hp}{e:a6}{es:c!}{al p:bi}{P:bE}{k:Y}{x:a4}{α:Type}{hO:lG}{d7:lx}{fU:ls}{C:ab}
def z:={
C9{H1:Hp}{o o':HO}(h1:rc z)(h2:rc dx):aj H1 m1 (upd H1 dx o) o':=λ b u e=>by rw[aV (c8 e h1),aV (c8 e h2)];exact e
LD(M:sL qB lE C)(hr:b7 du X.A)(ha:qO)(hp:qy (∃a,vs=k8/\Bs/\∀v H2,nc (fU a v H2->P v H2)))(hg:j')(d_:g6)(he:g5)(a_:j7):tU:=by rw[<-gP M λ f fd ps hm M hb G=>?_,<-eN (Z2 M G hr hg hm hb eC m6 dU d_ he a_) (f' bm PL p7 λ vs H2 s2 hv z dx h1 h2 h3=>?_),<-bL BW hp λ a e2 h4 h5=>?_,C5 (AF a z dx H2 (by rw[e2]) Z h1 h2 h3 h4 (λ H3 s3 n=>#[rfl,pP ib lp h5 _ o8 n]))]
sj(M:sL qB lE C)(hr:b7 du X.A)(a:α)(ha:fl eF fX k8)(hp:Db)(hg:j')(d_:g6)(he:g5)(a_:j7):fo A6 sT:=LD M hr ha (λ vs H1 s1 e1=>(aZ a Ai E7 (λ _ _ _ h=>h))) hg d_ he a_
aIi(M:sL qB lE C)(hr:b7 du X.A)(a:α)(ha:k8=[])(hp:Db)(hg:j')(d_:g6):fo nJ (eZ x p) [] sT:=by refine gP M λ f fd ps hm M hb G=>?_;refine eN (aG0 M G hr hg hm hb eC m6 d_) λ H1 s1 Q q z dx h1 h2 h3=>?_;exact(AF a z dx H1 (by rw[ha];rfl) Z h1 h2 h3 E7 (λ H3 s3 n=>#[rfl,q _ H3 s3 n]))
rY{t:TS}{D:Ends}{fs:m9}(hc:rh)(hn:cf a? C g)(hl:Uc)(he:Ev X σ H' e P)(hr:∀v H2,qb H' P (qN H2->t D σ m1 H2 mt (bK g v fs)))(hz:qN H')(ho:σ[0]?=ad Ef):pW (GV a? zq ML g) t D σ H':=by refine l_ he jW v hv #[_,ho,z,C,dx,fs,rfl,tE hz,hc,hn,hl,?_];exact hr v H2 s2 hv tE hz
}
section z
def z:={
PV{f:a4}{v:V}:∀{fs:m9},f∉yF->bK f v fs=fs++[(f,v)]|[],_=>rfl|(g,x)::r,h=>by have hg:¬g=f:=λ e=>h (by rw[K4 e,.head _]);show(if g=f then(g,v)::r else(g,x)::bK f v r)=_;rw[fG hg,PV λ m=>h (.tail _ m)];rfl
dn.1:dp->bM|[]=>bC|vz=>r.all (λ y=>!bG (x=y))&&dn r
PK:∀{l:dp},bb (dn l)->l.Nodup|[],_=>eC|vz,h=>by unfold dn at h;rw[jN,Wm]at h;refine vr jZ y hy e (PK h.2);have:=h.1 y hy;rw[e]at cc;simp at cc
}
inductive Fv
 |v(x:V)
 |p(P:bE)
def z:={
Got.1(H:Hp):uE->(m9->Prop)->Prop|[],k=>k []|(f,.v x)::l,k=>Got H l zc (k ((f,x)::fs))|(f,.p P)::l,k=>∀x,P x H->Got H l zc (k ((f,x)::fs))
Ak{H:Hp}:∀{l:uE}{k k':m9->Prop},Got H l k->(∀fs,k fs->k' fs)->Got H l k'|[],_,_,h,q=>q _ h|(f,.v x)::l,_,_,h,q=>Ak (l:=l) h zc (q _)|(f,.p P)::l,_,_,h,q=>λ x hx=>Ak (l:=l) (h x hx) zc (q _)
SX.1(z C dx:ab)(H H':Hp):Prop:=vq (b≠z->gX H->gX H')/\∃fs,qN H'
Cd.1(z C dx:ab)(ns:dp)(P:bE):Prop:=∀v H fs gC,qN H->(∀f x,jn f x->iB f)->P v H->P v m1 H mt gC
aHe{C:ab}{ns:dp}{P:bE}{v:V}{H:Hp}{fs:m9}(k:Cd z C dx ns P)(hz:qN H)(hf:∀f x,jn f x->iB f)(s:SX z C dx H H')(n:bc (P v) H):bc (P v) H':=nN (by obtain⟨s1,gC,e⟩:=s;have e2:=jV s2;have g:aj H m1 H2 my:=oV (by by_cases h:b=z;(.subst h;rw[aY,<-hz];exact hb);.rw[aV h];exact tE (s1 _ _ h hb));have:=k v _ fs gC aY hf (n _ g);(have q:m1 m1 H2 my mt gC=H2:=funext λ b=>by by_cases h:b=z;(.subst h;rw[aY,e2]);.rw[aV h,aV h]);rw[q]at cc;exact cc)
}
inductive nX(X:Cx)(σ:dB)(z C dx:ab)(ns:dp)(H:Hp):eB->uE->Prop
 |cd:rb C [] []
 |v{e:a6}{f:a4}{p1 p2 p3:bi}{v:V}{r:eB}{l:uE}(hn:cf a? C f)(he:kt e)(h:rb C r l)(hs:I! e:=by rfl):rb C Jw ((f,.v v)::l)
 |p{e:a6}{f:a4}{p1 p2 p3:bi}{P:bE}{r:eB}{l:uE}(hn:cf a? C f)(he:oM)(hk:Cd z C dx ns P)(h:rb C r l)(hs:I! e:=by rfl):rb C Jw ((f,.p P)::l)
def z:={
SX.go{C:ab}{H2 H3:Hp}{o:HO}(s2:aj H' H2)(s3:SX z C dx m1 H2 o H3):SX z C dx H' H3:=#[λ b u n hb=>s3.1 _ _ n (by rw[aV n];exact tE hb),s3.2]
B4.1(X:Cx):eB->TS|.po [.zN _ f _] e _::r=>pW (GV a? zq ML f) (B4 X r)|_=>afu
Yn{f:a4}{x:V}:∀{fs:m9},jn f x->f∈yF|(g,y)::r,h=>by by_cases e:f=g;(.rw[e];exact .head _);.refine .tail _ (Yn (x:=x) ?_);rw[z0,Og e]at h;exact h
nX.run{X:Cx}{σ:dB}{C:ab}{H:Hp}{ns:dp}(ho:∀p,b? (wM p) zq)(cl:rh)(hσ:σ[0]?=ad Ef)(hz:ca (H z))(hd:ns.Nodup)(hn:zP<1000){st:eB}(h:rb C st l):il X st (B4 X st)/\∀(D:Ends)(H':Hp)(fs:m9)(T:h!),aj H H'->qN H'->yF++L9=ns->ve (aj H H2->SX z C dx H' H2->Got H2 l λ r=>H2 z=ad mt (fs++r)->T H2)->ve kY H T (l7 σ H2)->B4 X st D σ H':=by((have up:∀{H2:Hp}{o:HO},aj H H2->aj H m1 H2 o:=λ s b u hb=>by rw[aV (c8 hb hz)];exact bF s hb);have ap:∀{f:a4}{v:V}{fs r:m9},fs++(f,v)::r=fs++[(f,v)]++r:=λ{f v fs r}=>by rw[OF];rfl);(have sub:∀{fs:m9}{f:a4}{r:dp},yF++f::r=ns->f∉yF/\Uc/\∀g x,jn g x->iB g:=λ{fs f r}e=>by subst e;refine #[λ m=>(List.nodup_append.mp hd).2.2 _ m _ (.head _) Z,?_,λ g x h=>List.mem_append_left _ (Yn h)];rw[zF,hJ]at hn;omega);induction h with|cd=>exact #[dh,λ D H' fs T s e _ k q=>q H' s λ H3 s3=>k H3 (Ac s3) #[λ b o _ hb=>y? hb,fs,jV s3] (by rw[C5 jV s3])]|@v e f p1 p2 p3 v r l hn he h hs ih=>refine #[aP (ik (ho p1) aI hs) ih.1,λ D H' fs T s e en k q=>?_];have b:=sub en;refine rY cl hn b.2.1 UX (λ u H2 s2 hu e2=>?_) e hσ;cases GF;rw[PV b.1];refine ih.2 D _ (fs++[(f,v)]) T (up (Ac s2)) aY (by rw[nB,OF];exact en) jZ H3 s3 x3 q;exact Ak (l:=l) (k H3 s3 (x3.go s2)) λ gC w e=>w (by rw[ev ap e])|@p e f p1 p2 p3 P r l hn he hk h hs ih=>refine #[aP (ik (ho p1) aI hs) ih.1,λ D H' fs T s e en k q=>?_];have b:=sub en;refine rY cl hn b.2.1 UX (λ u H2 s2 hu e2=>?_) e hσ;rw[PV b.1];refine ih.2 D _ (fs++[(f,u)]) T (up (Ac s2)) aY (by rw[nB,OF];exact en) jZ H3 s3 x3 q;exact Ak (l:=l) (k H3 s3 (x3.go s2) u (aHe hk e2 b.2.2 (x3.go (pF _)) hu).now) λ gC w e=>w (by rw[ev ap e])
nX.go{X:Cx}{σ:dB}{C:ab}{H:Hp}{ns:dp}{st:eB}{D:Ends}(T:h!)(ho:∀p,b? (wM p) zq)(cl:rh)(hz:ca (H z))(h:rb C st l)(s:lI)(e:H' z=ad mt [])(k:qU H (Got H2 l λ r=>H2 z=ad mt r->T H2))(q:∀H2,kY H T (l7 σ H2))(en:At (L9=ns))(hσ:jS (σ[0]?) Ef)(hd:k_ (dn ns))(hn:RU):B4 X st D σ H':=(Sb (h.run ho cl hσ hz) PK hn).2 D H' [] T s e en mA H2 s2 ww k q
}
inductive F2(X:Cx):eB->Prop
 |cd:F2 X []
 |bn{e:a6}{f:a4}{p1 p2 p3:bi}{r:eB}(h:F2 X r)(hs:I! e:=by rfl):F2 X Jw
def z:={
ar9{X:Cx}(ho:∀p,b? (wM p) zq){st:eB}(h:F2 X st):il X st (B4 X st):=by induction h with|cd=>exact dh|bn h hs ih=>exact aP (ik (ho _) aI hs) ih
fm0{α:Type}{p:d? α}:∀y∈([]:kz),p y:=L_ h h
fm{α:Type}{p:d? α}{x:α}{l:kz}(h:p x)(t:∀y∈l,p y):∀y∈x::l,p y:=List.forall_mem_cons.mpr #[h,t]
}
section
variable{Pr:cr}{w:cs}{K:bT}{mg:g8}{b!:d0}{k:Y}{x:a4}{C:ab}{α:Type}{hO:lG}{d7:lx}{fU:ls}
def z:={
Ij{st:pB}{fS:a4}{N ps:dp}(hm:mg x=ad bD C)(h:TK (fZ K) st fd)(S:kr)(hb:∀(kV doc pm:a7)(an:lA)(aK ct:a7)(us:ck),Hr->SV an aK ct=Ht)(bH:∀a,Hx (Hu+1))(cl:dS K C)(ns:dp)(eO:∀(a:α)(e:Fr)(z dx:ab)(H:Hp),b7 k (HP N Pr K).A->d7 a H->∃l,nX HP N Pr K MA z C dx ns H sE l/\L9=ns/\qU H (Got H2 l zc (qN H2->fU a wK H2)))(h0:hV (∀a z,MA[0]?=ad Ef) auY._auto_1)(hN:jS (N[0]?) ("self":a4))(hv:Dj (ny (aw st) "self"))(hd:k_ (dn ns))(hl:RU):sL (o1 lE K b! du x C):=by refine Bi hm h S hb bH λ a f aK A br s E z dx H1 hr hz n_ bf hp=>?_;obtain⟨l,hi,en,q⟩:=eO a #[f,aK,A,br,s,JR,E] z dx H1 hr hp;obtain⟨ht,k⟩:=Sb (hi.run (λ p=>Df hN hv) cl (h0 a z) hz) PK hl;exact #[_,ht,λ D nn=>k D _ [] MF wK (C9 hz n_) aY en mA H2 s2 qm λ H2 s2 n=>nn _ _ s2 n]
}
section z
section
variable{X:Cx}{σ:dB}{H:Hp}{elt fc:a6}{da:eX}{own:qS}{al hM p1 p2:bi}{y:a4}
def z:={
rR.1(lo:a3)(n:Y)(t:nh)(f:gt):bQ:=jK ra w1 Uv f
KN(lo:a3)(n:Y)(t:nh)(f:gt):yZ (n+1)=yZ n++L2 bb (t AD n) (f AD n) []:=by unfold rR;rw[Dd GJ nB Oz];congr 1;rw[jP,Nc,OB];split<;>rfl
aqQ(lo:a3)(n:Y)(t:nh)(f:gt):cW yZ n<=n:=by unfold rR;rw[Du];have h1:=J' t (Uv).map wD k Hy;rw[Iz OD h1,h1]
aCl(i:Y){c:a6}{f:gt}{t:nh}(ha:C!)(gw:DJ)(hw:jj)(hl:y1 n0)(ht:∀(s:ax)(H0:Hp)(C:ab)(cl:bh)(fp:bA)(k:Y),uL->Te mw xD H c uB)(he:∀(s:ax)(H0:Hp)(C:ab)(cl:bh)(fp:bA)(k:Y),uL->bb (t pQ)->wp aB xD uA):ff tw D (rc D->nc (sy H2 D yZ n0->fz oG)) w9 (mo (L0 (Bc X nT)) CC w? sO) H1 Q:=by intro H1 s1 Q q;refine or vs (aE lo hi f8 gw t? (Jc Fb tt te (λ k H'=>pS H2/\sy H' D yZ k) t7 ?_ ?_));(.rw[DW k s3 e,<-Ch uB (ht s H0 C cl) MD];cases et:uB with|bC=>rw[JL uA (q4 fp k hk et).l! s5];((.rw[BV (aqQ lo k t f) (r3 hk hl)]);.exact oV (by rw[aV (c8 hb hD)];exact xj x_));.rw[aY,KN,e! et]|false=>refine j8 #[y3,?_];rw[p!,KN,kE (by rw[et];simp),Ag]);.rw[w7 s3 e,q D H' (s2.free hD) u1 e]
agC(i j:Y){z:a4}{pz:bi}{c:a6}(hc:cZ)(hN:e7)(ok:iK)(hm:qZ)(hg:∀(s:ax)(H:Hp)(C:ab)(cl:bh)(fp:bA),m2)(rK:tR)(rJ:B')(dY:t0)(hz:mB j z)(oE:CG)(lS:Cf IV)(hs:B1):PS X C8 IV (λ D σ H=>w9 (mo (L0 (Bc X nT)) CC w? sO) H λ x H2=>l7 (Gz j xl) H2):=yt (i:=j) hc hN hz oE lS LE ok hg Lz pR hs
}
section z
section
variable{X:Cx}{σ:dB}{H:Hp}{a b:a6}{db:c!}{al:bi}{x:bM}
def z:={
uJ(ha:uS)(hx:oZ):ku jy And va iQ:=by(have h:=Mf cF (b:=b) (db:=db) (al:=al) ha λ e=>by rw[h? hx e e]);rw[S5,h]
Ip(ha:dW a x)(hx:oZ):dW jy And va iQ:=by(have h:=Mf cp (b:=b) (db:=db) (al:=al) ha λ e=>by rw[h? hx e e]);rw[S5,h]
}
section z
def z:={
aLg{k:Y}{v:V}(h:0<k)(e:jC (xs[k - 1]?)):jC (kL xs (kX k - 1)):=by rw[show(kX k - 1)=eV (k - 1)by exact Ds h];exact cb e
}
section
variable{X:Cx}{σ:dB}{H:Hp}{elt fc c:a6}{da:eX}{own:qS}{al hM p1 p2:bi}{y:a4}
def z:={
ajw(i:Y){Po:bE}{f:gt}{t:nh}(ho:lm)(hx:tO)(hw:jj)(hl:lh)(ht:∀(s:ax)(H0:Hp)(C:ab)(cl:bh)(fp:bA)(k:Y)(x:V),qa k x (Te mw AC H c (t x)))(he:∀(s:ax)(H0:Hp)(C:ab)(cl:bh)(fp:bA)(k:Y)(x:V),dH xs k x->rf t->Ho):Kv s0 UK BJ w?:=by intro H1 s1 Q q;rw[x4 s1 H2 s2];(rw[xF aS fk aS]);have d4:∀H3,aj H2 H3->aC a? H3 a xs:=jT (by rw[xB H3 e h]);refine BB #[xs,fk] t? (Jc (ER (xs:=xs) (g:=CC)) tt te xd ra IQ t7 (λ k H' _ bx=>bq bx λ s3 _=>d4 H' s3) ?_ ?_);(.rw[yo k x e];(refine(eM (hw x) (t x) sP ((ht s H0 C cl fp k x hk).l! dl) MD);have jJ:jK ra (Ou du) f=jK ra IQ f++L2 rf t (f x) []:=by rw[Dd Ow hk Oz];congr 1;show jK ra [x] f=_;rw[OB];split<;>rfl);cases et:t x with|bC=>rw[JL (f x) (q4 fp k x hk et).l! s5];((.rw[Du];have h1:=J' t Ou k;rw[Fu]at h1;rw[BV (show _<=b4 by exact aAY h1) hl]);.exact oV (by rw[aV (c8 hb hD)];exact xj x_));.rw[aY,jJ,e! et]|false=>refine j8 #[y3,?_];rw[p!,jJ,kE (by rw[et];simp),Ag]);.rw[Jb]
aGj(i j:Y){z:a4}{pz:bi}{db:eB}{N:k?}{P:bE}{Po:bE}{f:gt}{t:nh}(hc:cZ)(hN:e7)(ok:iK)(ho:lm)(hx:tO)(hw:jj)(hl:lh)(ht:∀(s:ax)(H0:Hp)(C:ab)(cl:bh)(fp:bA)(k:Y)(x:V),qa k x (Te mw AC H c (t x)))(he:∀(s:ax)(H0:Hp)(C:ab)(cl:bh)(fp:bA)(k:Y)(x:V),dH xs k x->rf t->Ho)(hg:∀(s:ax)(H:Hp)(C:ab)(cl:bh)(fp:bA),m2)(hr:Jp a a s0 UK)(hz:mB j z)(oE:CG)(lS:Cf Hv [c])(hs:mW):je C8 Hv [c]:=J_ mD Lz (ajw i ho hx hw hl ht he H1 s1 Lu jW v hv (by(rw[eq nz au a aU ha aU]);exact xx mx hr a ha))
}
section z
section
variable{X:Cx}{σ:dB}{H:Hp}{o d:a6}{al p kp:bi}{Po:bE}
def z:={
awq{dd m:a3}(hc:cZ)(hm:Eu)(ho:fi)(hd:eh d dd)(hx:Ca)(h0:ns=[]->m=dd)(h1:RX k k (k=m))(hg:Cl)(hv:Cr)(bw:mP)(he:f9 mk [o] (wd o::mk []))(A7:nK [o])(b_:P6 all)(M_:P3)(NA:Qc a4):eh (.l4 (eZ "max" p) [o] [HC dJ d kp] al) m:=fh (avk hc hm aI aI hg hv bw he A7 b_ M_ NA) n8 pX hd.later (by(rw[eq J0 au l a9 h2 a9]);exact(ji l ns Z h2 (λ e=>Rx (h0 e)) (λ _ k hk hm=>Rx (h1 k hk hm))))
}
section z
section _M
namespace _P
open lP pc lQ _L _M
def z:={
fsB.1(N P:dp)(sc:eX):bM:=bG (sc.kind=wP/\sc.isCoroutine=false/\sc.isGenerator=false/\N.Nodup/\N.take P.length=P/\(∀x∈P,xV .local\/xV f7)/\∀y∈sc.names,y.2≠fY)
aH{N P:dp}{sc:eX}(h:bb (fsB N P sc)):aD N P sc:=by obtain⟨a,b,c,d,e,f,g⟩:=KP;exact #[a,b,c,d,e,f,g]
aua:a5 ["number","bit"] ["number","bit"] Wp:=O
anY:ld aaT:=O
WG:oA ["numbers","number"] GS:=O
afX:t! ad2:=O
alz:t! Xv:=O
avF:t! aah:=O
aKw:t! Vm:=O
ajy:t! abY:=O
ayM:t! afa:=O
Cy:a5 ["scalar","offset","trailing","leading","vowel"] ["scalar"] aeG:=O
Qx:oA ["numbers","records","at","kind"] Dy:=O
Yp:oA ["numbers","records","at","record","behind","kind"] IB:=O
T3:oA ["numbers","records","at","record","key_end","behind","key","kind"] EV:=O
Fj:a5 ["records","record"] ["records"] yB:=O
ad0:a5 ["self","rows","records"] ["self","rows"] yu:=O
Mb:a5 ["self","part","kind"] ["self","part","kind"] aei:=O
vK:Pw ["self","kind","scalar","ranges","low","high","middle"] Qa:=O
aCb:a5 ["self","bit","scalar"] ["self","bit","scalar"] RY:=O
yg:Ke ["self","row","classes","place","scalar"] ou:=O
aI0:QB Wz:=O
apx:QB QV:=O
aGd:a5 ["self","kind","key"] ["self","kind","key"] W7:=O
aoK:Jx afm:=O
Cj:HX ["self","scalar","row","turn","step"] abm:=O
aDa:Jx YO:=O
QN:Ke ["self","row","stepped","scalar","step"] aa1:=O
MP:Ke ["self","row","scalar"] GP:=O
B8:HX ["self","scalar","row","steps"] adT:=O
akG:Jx afw:=O
SS:x9 ["self","counts","record"] Rg:=O
aHB:Cm Vc:=O
Vd:Qo Ww:=O
JM:Qo Vk:=O
aiw:DA Q_:=O
adX:a5 ["marks","text","mark"] ["marks","text"] Ep:=O
Qr:Sk ["marks","begin","at"] YR:=O
Tt:Sk ["marks","begin","must","place"] GR:=O
ajq:a5 ["self","kind","begin","end"] ["self","kind","begin","end"] X8:=O
asU:a5 [] [] Va:=O
asO:a5 ["book","kind","scalar"] ["book","kind","scalar"] YQ:=O
afd:a5 ["book","text","kinds","begin","end","kind","scalar","is_mark","unit","general"] ["book","text","kinds","begin","end"] aao:=O
adK:a5 ["kinds","begin","end"] ["kinds","begin"] Zd:=O
ace:RR ["book","ways","text","kinds","units","begin","end","scalar"] Eo:=O
ai7:Cp ZV:=O
W5:a5 ["book","text","units","first","last","cost"] ["book","text","units","first","last"] aaF:=O
Qm:QT ["book","text","units","first","behind","least","lasts","begin","last","cost","whole"] aak:=O
aeI:QT ["book","text","units","first","behind","lasts","cuts","begin"] aeS:=O
YM:a5 ["book","text","units","cuts","first","behind","unit"] ["book","text","units"] Wv:=O
aIG:DA aaR:=O
aHE:DA RT:=O
aFd:DA adI:=O
aG5:Cp US:=O
QL:Cp WK:=O
Yx:a5 ["self","units","place","is_cut","no_space"] ["self","units","place","is_cut"] Z':=O
aK0:a5 ["holds"] ["holds"] S8:=O
aH7:er Sw:=O
axi:er acQ:=O
agf:er aaI:=O
agh:er T1:=O
aLO:er Q9:=O
aB5:er W':=O
aiM:er Uq:=O
aGE:er aa3:=O
aa5:nH ["at","begins"] aar:=O
adY:nH ["at","ends"] ab8:=O
aCZ:er ZS:=O
aiT:er Wb:=O
aFT:er adN:=O
afP:er YG:=O
apC:er Su:=O
awS:er Zn:=O
Ja:nH ["at","is_hyphen","begins"] Q8:=O
acT:nH ["at","is_hyphen"] Vw:=O
an7:er UT:=O
Ls:R4 YU:=O
aa7:Cp VT:=O
at5:er Qy:=O
F3:nH ["at","x","y","digits_open"] ac8:=O
axZ:a5 ["x","y"] ["x","y"] abv:=O
M5:R4 aau:=O
aKG:er acI:=O
ajZ:a5 ["unit"] ["unit"] YA:=O
az2:er ZR:=O
apk:er aeF:=O
aKh:er TH:=O
S6:Pg ["units","place","back"] aeZ:=O
avO:er adV:=O
au4:er RB:=O
aeh:nH ["at","rule","said"] RV:=O
aae:RR ["book","ways","text","units","cuts","marks","place","scalar"] Gf:=O
af6:Cm ZX:=O
aGC:Cm UW:=O
agg:Cm TQ:=O
Uh:a5 ["self","book","text","scalar"] ["self","book","text"] rW:=O
asL:a5 ["a","b"] ["a","b"] Wh:=O
AH:Is ["signs","begin","place","linked","back"] XC:=O
PN:Qn acz:=O
NM:Qn VC:=O
My:Is ["signs","begin","place","a","b"] aeP:=O
abG:a5 ["signs","begin","end","ends","place"] ["signs","begin","end"] FT:=O
aco:Px ["book","ways","scalar","width"] Vn:=O
Y9:a5 ["self","book","ways","text","scalar"] ["self","book","ways","text"] vn:=O
W1:a5 ["sheet","begin","end","column","cluster","number"] ["sheet","begin","end","column"] adZ:=O
Ws:RH ["sheet","begin","end","column","at","border"] ae8:=O
abJ:RH ["sheet","begin","end"] aeC:=O
WR:a5 ["sheet","columns","begin","places","fits","place"] ["sheet","columns","begin","places"] FC:=O
ade:a5 ["sheet","columns","splits","begin","chances","end","borders"] ["sheet","columns","splits","begin","chances"] Vj:=O
VD:a5 ["sheet","columns","splits","marks","lines","begin","end"] ["sheet","columns","splits","marks"] RJ:=O
CD:HI ["book","scalar","steps","step"] aaG:=O
FK:hX ["book","record","behind","scalar"] Jo:=O
LK:xC K_:=O
ajT:lc RA:=O
JW:xC Oa:=O
ahZ:lc acu:=O
aoA:lc UC:=O
au3:lc QF:=O
L8:hX ["book","record","scalar","row"] acC:=O
OX:Jd aek:=O
asE:lc afb:=O
azB:a5 ["book","kind","record"] ["book","kind","record"] ZQ:=O
aGK:lc ada:=O
Jk:hX ["book","record","scalar","bracket"] VH:=O
T':xC V4:=O
Fx:hX ["book","record","nought","digit"] NP:=O
aDj:a5 ["book"] ["book"] VQ:=O
azy:lc Qi:=O
OI:hX ["book","record","script"] LO:=O
La:Jd XU:=O
ayK:a5 [] [] He:=O
J3:a5 ["record","scalar"] ["record"] DN:=O
XN:QJ Xg:=O
V8:xC abx:=O
ayd:a5 ["book","scalar","first"] ["book","scalar","first"] S2:=O
aKA:Sc ac2:=O
PQ:a5 ["book","first","second","cluster","wanted"] ["book","first","second"] aeL:=O
aa0:hX ["book","record","row"] ac6:=O
amW:ld abW:=O
apD:ld acL:=O
aAb:ld abU:=O
apW:ld aef:=O
axF:ld adp:=O
asu:ld aeB:=O
Eb:hX ["book","record","row","place","number"] Rf:=O
Ie:hX ["book","record","key","scalar"] Li:=O
asX:lc ZJ:=O
aHx:lc aaX:=O
ab7:QJ VR:=O
avU:lc abj:=O
aeK:HI ["book","scalar","folded","parts","part"] aba:=O
Vt:Jd Q4:=O
Ic:hX ["book","record","wanted","scalar"] LY:=O
K8:xC Nr:=O
aK8:a5 [] [] G5:=O
Q6:a5 ["book","rule","part","kind","holds","record"] ["book"] ad1:=O
Tj:a5 ["sheet","columns","begin","end","is_last","lack"] ["sheet","columns","begin","end","is_last"] QK:=O
aCC:Sc abq:=O
aaW:a5 ["sheet","columns","places","must","least","ends","at","begin","end","badness"] ["sheet","columns","places"] acw:=O
ae2:a5 ["sheet","columns","marks","lines","begin","places","ends"] ["sheet","columns","marks"] adk:=O
aDn:a5 ["last","first"] ["last","first"] XO:=O
afo:Iw ["numbers","at","kind","first","last","follows","value"] P9:=O
aaP:oA ["numbers","at","rule"] Z4:=O
abV:oA ["numbers","place"] adi:=O
atA:a5 ["kind","row"] ["kind","row"] Zm:=O
QH:RD ["numbers","at","before","kind","scalar","follows","many","row"] ac5:=O
arl:Rj aap:=O
aCm:Rj aaJ:=O
Uk:a5 ["numbers","at","kind","many"] ["numbers","at","kind"] aeH:=O
adn:RD ["numbers","at","before","kind","length","key","follows"] acq:=O
adg:Iw ["numbers","at","key_end"] QA:=O
abt:a5 ["numbers","record_rule","record_end","before","at","record","rule"] ["numbers","record_rule","record_end"] W3:=O
aKf:ld Sm:=O
aCf:ld Q2:=O
afs:a5 ["name","letter"] ["name"] HR:=O
ajr:a5 ["name","number","names"] ["name","number","names"] abc:=O
QM:oA ["numbers","names","at","name"] SR:=O
atN:a5 ["kind","value"] ["kind","value"] RF:=O
U6:oA ["numbers","walked","at"] P8:=O
VN:a5 ["rows","broken"] ["rows"] QE:=O
aFi:ld aaH:=O
aAE:a5 ["self","number"] ["self","number"] S4:=O
aqO:a5 ["w","text"] ["w","text"] ac7:=O
Wi:a5 ["w","columns","text","marks","refused"] ["w","columns","text","marks"] UE:=O
aFF:x9 ["self"] Tz:=O
acb:a5 ["self","rows","broken","book","row"] ["self","rows"] JD:=O
azZ:Pl ["self","w","text"] So:=O
Tf:Jf aem:=O
Y3:Jf Ql:=O
YT:Qq Sf:=O
RS:Qq Tp:=O
aaV:Jf ZN:=O
agI:a5 ["self","numbers"] ["self","numbers"] acD:=O
aoQ:x9 ["self"] Xe:=O
aea:x9 ["self","number"] Xz:=O
aaY:x9 ["self","many","row"] adw:=O
Wn:RE ["desk","call","reader","w","text"] abb:=O
aeO:RE ["desk","call","reader","w","columns","text","marks"] acy:=O
aay:a5 ["desk","reader","call","row"] ["desk","reader"] JF:=O
SU:a5 ["calls","desk","reader","told","answer"] ["calls"] P5:=O
}
section _P
namespace _P
open lP pc lQ _L _M
variable{P:cr}{w:cs}{K:bT}{mg:g8}{b!:d0}{c:Cs}
variable{l:c?}{C z dx:ab}{α β:Type}{H':Hp}{g:Mr}{R:α->d? β}{m:cP β}{ns:dp}{u:V}{xs:bQ}
def z:={
iJ.1(n:a3)(b:a3):bM:=bG (T_ (n/2^b.toNat) 1=1)
RI.2(g:a3->V):RP:=RQ (λ n:a3=>[dk n]) oQ mA n v (v=g n)
mC(A:bB):ki "has_bit" (RQ gp (a3×a3) [dk a.1,e5 ef] (λ a _=>0<=ef) ko (iJ a.1 ef)):=c7 A.azL aua gS b2 (λ _=>rfl) λ a f aK A' br s H0 H E hr hp=>oR (d3 (aW tm (iu Ej bv el hp) ai) ai)
yx.1(n:a3):bM:=bG (0<=n)&&bG (n<=1114111)&&!(bG (55296<=n)&&bG (n<=57343))
um(A:bB):lv (ki "is_scalar") RI yx:=g7 A.aB3 anY λ a f aK A' br s H0 H E hr hp=>oR (cp u6 eg ai A.g.aBX eU (bZ (iT u6 eg e4 A.g.aeq A.g.Zi)))
FZ.1(n:a3):bM:=bG (4352<=n)&&bG (n<=4370)
EL.1(n:a3):bM:=bG (4449<=n)&&bG (n<=4469)
FX.1(n:a3):bM:=bG (4519<n)&&bG (n<=4546)
sF.1(n:a3):bM:=bG (44032<=n)&&bG (n<=55203)
WS(A:bB):lv (ki "is_leading") RI FZ:=g7 A.aqc afX λ a f aK A' br s H0 H E hr hp=>oR u6 eg e4 A.g.adG A.g.aie
Ri(A:bB):lv (ki "is_vowel") RI EL:=g7 A.azY alz λ a f aK A' br s H0 H E hr hp=>oR u6 eg e4 A.g.Y' A.g.akk
UP(A:bB):lv (ki "is_trailing") RI FX:=g7 A.aJv avF λ a f aK A' br s H0 H E hr hp=>oR u6 cM e4 A.g.Vz A.g.ayZ
D6(A:bB):lv (ki "is_syllable") RI sF:=g7 A.akT aKw λ a f aK A' br s H0 H E hr hp=>oR u6 eg e4 A.g.JC A.g.alj
NI.1(n:a3):bM:=sF n&&bG (Ez=0)
afC(A:bB):lv (kl "is_lv_syllable") RI NI:=g7 A.anb ajy λ a f aK A' br s H0 H E hr hp=>oR (cp nW D6 a eU (bZ (d3 (iu vS (aW cX bv (ag A.g.JC)) (ag A.g.Ky) cS) ai)))
me.1(n:a3):bM:=FZ n||(EL n||(FX n||sF n))
zK(A:bB):lv (kl "is_hangul") RI me:=g7 A.avN ayM λ a f aK A' br s H0 H E hr hp=>oR (fP nW WS a eU (fP nW Ri a eU (fP nW UP a eU (bZ nW D6 a))))
gj{S:α->d? β}(h:∀x y,R x y->S x y){l:kz}(p:kw R l m):kw S l m:=_L.Paired.FE p h
p6{l:kz}{i:Y}{y:β}(h:kw R l m)(e:dH m i y):∃x,dH l i x/\R x y:=by induction h generalizing i with|cd=>simp at e|bn r t ih=>cases i with|zero=>cases e;exact e9 Z r|succ i=>refine ah (ih (i:=i) (by simpa using e)) au x h1 h2;exact bm x iz h1 h2
iX{l:kz}(h:kw R l m):vZ=m.length:=N! h
cU.1(H:Hp)(v:V)(l:c?):Prop:=p4 dV a dL ng
mT.1(H:Hp)(v:V)(x:Ut):Prop:=p4 dV a dL [vN x.1,vN x.2.first,vN x.2.last,vN x.2.iU]
ju.1(H:Hp)(v:V)(x:L!):Prop:=DH y dV a dL [vN x.1,vN x.2.scalar,y] (cU H y x.2.to)
lC.1(H:Hp)(v:V)(x:Y×GK):Prop:=∃a y z,ga v/\dV a dL [vN x.1,y,z]/\cU H y x.2.key/\cU H z x.2.to
eA.1(R:Hp->V->d? α)(H:Hp)(v:V)(l:kz):Prop:=DH xs dV a lst xs kw (R H) xs l
Up.1(R:Hp->V->d? α):Prop:=∀H H' v x,aj H H'->R H v x->R H' v x
gD:Up cU:=qJ x bx uO bx h t6
lV:Up mT:=qJ x cy uO cy h t6
j4:Up ju:=qJ x dz (aO dz λ a y e h t=>(aE a y e t6 (jp gD s t)))
m5:Up lC:=qJ x eP (gP eP λ a y z e h t u=>(b9 a y z e t6 (jp gD s t) (jp gD s u)))
gk{R:Hp->V->d? α}(h:Up R):Up (eA R):=qJ x kq (aO kq λ a xs e h1 p=>(aE a xs e MC (gj (λ _ _=>la h _ s) p)))
}
structure bR where
 ps:i3 Y r!
 ms:i3 Y l?
 ss:i3 Y GK
 ns:cP Mt.Bytes
def z:={
bR.book.1(d:bR):Am:=#[Ea Mt.PROPS r?,Ea OG d.ms,Ea Mt.SEQS d.ss,d.ns]
qQ.1:dp:=["records","value","has_flag","in_order","row","has_row","number_of","canonical_step","taken_apart","k_step","stepped_by_k","has_k_step","find_by_k","by_k","composing_counts"]
}
structure i5(C:ab)(H:Hp)(b:ab)(d:bR):Prop where
 de:wo _B.dj
 ex:∃dx fs pa p0 p1 p2,H b=ad my/\jn ("parts":a4) bD pa/\(∀m∈qQ,ux)/\dV pa lst [p0,p1,p2]/\eA (eA mT) H p0 (_B.eL 14 r?)/\eA (eA ju) H p1 (_B.eL 15 d.ms)/\eA (eA lC) H p2 (_B.eL 3 d.ss)
def z:={
i5.later{H:Hp}{b:ab}{d:bR}(h:i5 C H b d)(s:lI):i5 C H' b d:=by refine zh h.ex λ dx fs pa p0 p1 p2 h1 h2 h3 h4 h5 h6 h7=>?_;exact #[h.de,dx,fs,pa,p0,p1,p2,MC,h2,h3,bF s h4,Mq lV _ h5,Mq j4 _ h6,Mq m5 _ h7]
VB(d:bR){k:Y}(h:k<14):mX=_B.pick k r?:=_B.jw r? (show k<Mt.PROPS from h)
azw.2(C:ab):RP:=RQ gp (vh×Y×a3) [nP,Bp,e5 c_] g4 (i5 C H a.1.1 mj/\dI<14) mA a v (v=vN (OK Aw mj dI c_))
Uz(z:a3):(bb (yx z))↔0<=z/\qi OL:=by rw[_B.oX];unfold yx;simp only[jN,jQ,W0,W2,Ao];exact aAf
Cu(A:bB):wt 2 gR "value" (azw gR):=wX A.bj.axu vK λ a e H hr hp U hU=>by rw[Kc d k z,qw];(rw[b5 (zh v0 λ dx fs pa p0 p1 p2 hb rQ hm v9 aS _ _=>D_ aS aU qI) aU]);(rw[b5 (uZ (p6 wj EH r?) λ vk kU ak rs a9 qh sS=>?_) a9]);(have bH:rs.length=cW mX:=by rw[iX sS,VB d hk,_B.ET]);(have dm:∀(i:Y)(q:r!),mX[i]?=ad q->∃r a',dH rs i bD a'/\dV a' dL [vN r,vN q.first,vN GL,vN q.value]:=λ i q hq=>by rw[VB d hk,<-_B.m_,rM]at hq;cases e:(_B.cV k r?)[i]? with|a!=>rw[h? e hq hq]|dJ y=>rw[h? e hq hq];obtain⟨v,h1,a',rfl,h2⟩:=p6 sS e;exact(cE _ a' h1 h2));have ze:ff (aC K H1 ak rs):=xk s1 (mb gV qh);rw[i9];generalize hn:cW mX=n at bH;rw[dQ (bI 3 Ap (v:=cx ak)) (cO (cO (cQ bv d1 Bo fs A.bj.vw rQ) e4 A.g.R' AL (mb gV v9)) el HH qI cb kU),<-bI 4 Ap ai ?_,dQ (bI 5 Ap (v:=e5 n)) (di v1 g9 B? Ll ak rs (ze H1 s1)),dQ (lN mA m a2 (∃(lo hi:Y)(mv:oS),a2=[q7,nf k,ad dk z,ad bD ak,nf lo,nf hi,mv]/\m=hi - lo/\lo<=hi/\hi<=n/\Rq q (i<lo) (D5<z)/\Rq q (hi<=i) (z<=D5)) (λ _ _ _ _ _ h=>h) n GM) #[0,n,a!,rfl,by exact aju,LM,iE,λ i q h=>by exact(oz h).elim,λ i q h e=>by rw[RO le_of_eq_of_le hn h]at e;cases e]];rintro m a2 H1 s1⟨lo,hi,mv,rfl,rfl,h1,h2,h3,h4⟩;refine(aZ _ (bP cM kC (aa 5)) dt dt);(. ((have a8:lo<hi:=by rw[D']);have em:((kX lo+cJ hi)/2)=eV ni:=by exact aB2);rw[dQ ft (bI 6 Ap) ni ((iu uh za kC (aa 5) ai LJ).imp gf (by rw[e,em]))];obtain⟨q,hq⟩:∃q,mX[ni]?=ad q:=#[_,Aq (by exact aqu a8 h2 hn)];refine dc (dm _ q hq) λ r a' mF oe=>?_;have hF:=List.pairwise_iff_getElem.mp (hR.de.Ov k hk);(have hle:∀(i j:Y)(p q:r!),i<=j->mX[i]?=ad p->mX[j]?=ad q->p.last<=GL:=λ i j p q tQ hp hq=>by rw[QY li hp,QY lj hq];by_cases e:i=j;(.subst e;exact kI _);.have h5:=hF i j li lj (by exact Nat.lt_of_le_of_ne tQ e);have h6:=(hR.de.gU k _ hk (List.getElem_mem lj)).le;dsimp only at h6;exact aqW h5 h6);refine r6 (bP cM J7 nV GL M4 oe cY) UF (bI 4) za M4 ai H2 UF (bI 5) M4 H2 (λ d6 H2 s2 h=>c6 h);(.rw[jv d5 (D5<z) hx,<-#[hi - (ni+1),nZ aGq a8,Hm/2+1,hi,nf ni,rfl,rfl,nZ aGc a8,h2,λ i p fg hp=>?_,h4]];have:=hle i ni p q gm Nat.le_of_lt_succ fg hp hq;exact aGW d5 cc);.rw[jv d5 (z<=D5) hx,<-#[ni - lo,nZ aq0 a8,lo,Hm/2,nf ni,rfl,rfl,nZ agE a8,by exact ayT a8 h2,h3,λ i p fg hp=>?_]];have:=hle ni i q p fg hq hp;exact aE6 d5 cc);. (have heq:lo=hi:=by(have:¬(cJ lo)<hi:=by rw[D']);exact Na h1 cc);subst heq;have bJ:=Uz z;by_cases p5:lo<n;(.obtain⟨q,hq⟩:∃q,mX[lo]?=ad q:=#[_,Aq (by exact AG p5 hn)];refine dc (dm _ q hq) λ r a' mF oe=>?_;have hz:=h4 lo q (kI _) hq;refine aX vf (cF (bP cM kC (di v1 g9 j6 H2 s2 Ll ak rs H_)) eU (cF (bP eg J7 nV q.first kC oe cY) eU (c5 (bO G? um z cY)))) dt dt;(.rw[Jr hx,<-bX hx λ _ hf hs=>?_];obtain⟨hz0,uI⟩:=bJ.mp hs;rw[<-ft aG q.value J7 bW kC oe f? ?_,D0];rw[e! #[hz0,uI],_B.ahL hR.de hk (c:=OL) (λ i p hi hp=>by rw[oK (h3 i p hi hp) Lq]) hq gm arK hz gm alP hf]);.rw[<-aG ai f? ?_,D0];split;(.rename_i hs;have pV:=bJ.mpr hs;rw[TD c low lo (λ i p hi hp=>by rw[oK (h3 i p hi hp) Lq]) EU];(.rfl);.rw[h? hq hp hp];(have Jj:(cJ lo)<c9:=by exact BN p5);rw[z8 Jj,pV,pG,Bool.and_true,Ao]at hx;omega);.rfl);. (have Jj:¬(cJ lo)<c9:=by exact Tq p5);rw[<-aX vf (Mf cF (bP cM kC (di (m:=n) v1 g9 j6 H2 s2 Ll ak rs H_)) λ hx=>absurd (Gw hx) Jj) (λ hx=>by rw[h? FR hx hx]) zn ?_,<-aG ai f? ?_,D0];split;(.rename_i hs;rw[TD c low lo (λ i p hi hp=>by rw[oK (h3 i p hi hp) Lq]) EU];(.rfl);.rw[RO asC hn p5]at hp;cases hp);.rfl
Y8(n:Y):sF n=T!:=by unfold sF v4;rw[x7];simp only[jN,jQ];exact aEb
aBy(A:bB):ki "syllable_step" (RQ (λ n:Y=>[vN n]) (λ n _=>bb (v4 n)) (λ n v H=>cU H v (OO n))):=g7 A.arH Cy λ n f aK A' br s H0 H E hr hp=>by(have hb:44032<=n/\n<44032+11172:=by unfold v4 at hp;simpa using hp);rw[dQ ft (bI 1 Cy.nd) p? ((aW cX bv (ag A.g.JC)).imp gf (by rw[e];rw[oD gm am1 hb])),dQ ft (bI 2 Cy.nd) Ez ((iu vS el (ag A.g.Ky) cS).imp gf (by rw[e];rw[oD lJ alY])),<-aX (bP gJ cY ai) dt dt];(. (have h0:¬Ey=0:=by(have:(0:a3)<eV Ez:=by rw[D']);exact ati cc);refine bg (i7 (iR (ft ae (n - Ey) (i7 (aW cX bv cY) gf (by rw[e];rw[oD lJ aoi])) (ft ae (4519+Ey) (i7 za e4 A.g.Vz cY gf (by rw[e];rw[oD lJ ass])) ao))) ts v bx uO bx h ?_);rw[h];unfold OO;dsimp only;rw[lB h0];rfl);. (have h0:Ey=0:=by(have:¬(0:a3)<eV Ez:=by rw[D']);exact aEK cc);rw[dQ ft (bI 3 Cy.nd) (p?/588) ((iu uh el (ag A.g.RM) LJ).imp gf (by rw[e];rw[oD lJ aL8])),dQ ft (bI 4 Cy.nd) (p?%588/28) ((iu uh (iu vS el (ag A.g.RM) cS) (ag A.g.Ky) LJ).imp gf (by rw[e];rw[oD lJ akl])),<-bg (i7 (iR (ft ae (4352+p?/588) (i7 za e4 A.g.adG g9 gf (by rw[e];rw[oD lJ aCD])) (ft ae (4449+p?%588/28) (i7 za e4 A.g.Y' kC gf (by rw[e];rw[oD lJ ayE])) ao))) ts v cy uO cy h ?_)];rw[h];unfold OO;dsimp only;rw[jB h0];rfl
vi.1(H:Hp)(v:V)(sa:cP l?):Prop:=DH aq yb kw L3 Fi l? (lb=v6 cJ d!) aq sa
keyOf.1(l:c?):ii:=vY λ(n:Y)=>Pj
wZ.1(H:Hp)(v:V)(sa:cP GK):Prop:=DH aq ya kw L3 (ii×V) GK (lb=keyOf r.key) aq sa
CU:Up vi:=Rr dz dz h
Eh:Up wZ:=Rr eP eP h
tH.1(B:Am)(l:c?):Y:=cW ((Mt.canonRows B).GG λ q=>q.to==l&&!v8 B 15 q.scalar)
}
structure bz(C:ab)(H:Hp)(b:ab)(d:bR)(kk:ab):Prop where
 parts:i5 C H b d
 ex:∃dx fs mr sr co aq,H b=ad my/\jn ("map_rows":a4) mr/\jn ("sequence_rows":a4) sr/\RZ a4/\jn ("composing":a4) bD co/\jn ("known_by_k":a4) bD kk/\(∀m∈qQ,ux)/\eA vi H mr W4/\eA wZ H sr d.book.seqs/\dV co dT aq/\(∀l:c?,0<B7 tH->b8 aq (keyOf l)=ad (vN B7 tH))
def z:={
bz.later{C:ab}{H H':Hp}{b kk:ab}{d:bR}(h:bz C H b d kk)(s:lI):bz C H' b d kk:=by refine wx h.ex λ dx fs mr sr co aq h1 h2 h3 h4 h5 h6 h7 h8 h9 fb eD=>?_;exact #[h.parts.later s,dx,fs,mr,sr,co,aq,MC,h2,h3,h4,h5,h6,h7,gk CU _ _ _ _ s h8,gk Eh _ _ _ _ s h9,bF s fb,eD]
bz.de{C:ab}{H:Hp}{b kk:ab}{d:bR}(h:bz C H b d kk):wo _B.dj:=h.parts.de
Rt(d:bR){k:Y}(h:k<15):dH W4 k Kw:=by(have e:d.book.maps.length=15:=by show cW Ea OG d.ms=15;unfold Mt.byKind;simp[OG]);rw[VW,Aq (by exact aeM h e)];rfl
V0{H:Hp}{aq:gq}{sa:cP l?}(h:kw L3 Fi l? (lb=v6 cJ d!) aq sa)(n:Y):match rows.find? λ r=>yT with|ad r=>∃v,jC Dz b8 aq/\cU H v sf|a!=>ca Dz b8 aq:=by induction h with|cd=>rfl|@bn kv r aq sa q t ih=>unfold b8 at ih⊢;by_cases e:d!=n;(. ((have e1:bb (d!==n):=by simpa using e);have e2:bb C2:=by rw[q.1,e];simp);rw[W6 (p:=λ(r:l?)=>yT) e1,W6 (p:=λ(kv:Fi)=>C2) e2];exact e_ qp q.2);. ((have e1:¬(bb (d!==n)):=by simpa using e);have e2:¬(bb C2):=by rw[q.1,jQ];intro h;have:=Sum.inl.inj h;exact az7 cc e);rw[W8 (p:=λ(r:l?)=>yT) e1,W8 (p:=λ(kv:Fi)=>C2) e2];exact ih
BK.2:=ab×bR×ab
d8.2(C:ab)(a:BK)(H:Hp):Prop:=bz C H a.1 dI c_
Et(A:bB):Ci (x? "row") (og/\dI<15) o3 (cU H v SD):=wX A.bj.aFo aI0 λ a e H hr hp U hU=>by rw[BQ k n a,qw];obtain⟨dx,fs,mr,sr,co,aq,hb,Lc,_,_,_,_,_,⟨am,xs,rfl,tK,A0⟩,_⟩:=v0;(rw[b5 (uZ (p6 A0 (Rt d hk)) λ vk kU ak xp aU qh sS=>?_) aU]);have hl:=V0 sS n;rw[i9,<-bg (Us (j9 hr) P0 cO Lc tK cY (iR ao) B? bm ak f8 gY #[xp,.inl gV qh] (λ a' y z H1 s1 e1 e2 e3=>?_))];have vW:=Ai;cases vW;have ow:=e2.now;subst ow;refine tA Dz b8 xp (dM.k (k:=v6 c9) gV qh) ?_;unfold Ar;cases hf:(Kw).find? (λ r=>yT)with|dJ r=>rw[hf]at hl;refine ah hl au v hv ht;rw[hv];exact jp gD (iY s2) ht|a!=>rw[hf]at hl;rw[hl];(rw[eq ww e3 au az a9 haz a9]);exact e_ az haz
uH(A:bB):Ci (x? "has_row") (og/\dI<15) o3 (v=.bl (!(SD==[]))):=wX A.bj.ax0 apx λ a e H hr hp U hU=>by rw[BQ k n a,qw];obtain⟨dx,fs,mr,sr,co,aq,hb,Lc,_,_,_,_,_,⟨am,xs,rfl,tK,A0⟩,_⟩:=v0;(rw[b5 (uZ (p6 A0 (Rt d hk)) λ vk kU ak xp bU qh sS=>?_) bU]);have hl:=V0 sS n;rw[i9,<-bg (adt (j9 hr) cY P0 cO Lc tK (λ u y H1 s1 e1 e2=>?_))];have vW:=Ai;have ow:=e2.now;subst vW ow;refine(aE ak Dz b8 xp Z (dM.k (k:=v6 c9) gV qh) ?_);unfold Ar;cases hf:(Kw).find? (λ r=>yT)with|dJ r=>(rw[hf]at hl;refine ah hl au v hv ht;rw[hv];have jf:=(hR.de.row k r hk (List.mem_of_find?_eq_some hf)).al;dsimp only at jf;cases k5:sf with|cd=>rw[k5]at jf;simp at jf|bn x l=>simp[k5])|a!=>rw[hf]at hl;rw[hl];rfl
bz.cu{H:Hp}{b kk:ab}{d:bR}(h:bz C H b d kk){m:a4}(hm:m∈qQ):ff (∃dx fs,C6/\ux):=by obtain⟨dx,fs,mr,sr,co,aq,hb,_,_,_,_,_,kd,_⟩:=h.ex;exact xk s1 (cE dx fs Hz (kd m hm))
i5.cu{H:Hp}{b:ab}{d:bR}(h:i5 C H b d){m:a4}(hm:m∈qQ):ff (∃dx fs,C6/\ux):=by obtain⟨dx,fs,pa,p0,p1,p2,hb,_,kd,_⟩:=h.ex;exact xk s1 (cE dx fs Hz (kd m hm))
F0{B:Am}{k n:Y}(h:DV):OK B k c9=GQ B k n:=by rw[D0];rw[vC,e! #[lJ tu,h]]
ja(n b:Y):iJ c9 cJ b=n.testBit b:=by unfold iJ;(have e1:(lH/2^(gh cJ b))=eV (n/2^b):=by rw[vC];norm_cast);rw[e1];(have e2:T_ eV (n/2^b) 1=eV (n/2^b%2):=by rw[PyProof.Rows.bitAnd_m1];norm_cast);rw[e2,Nat.testBit_eq_decide_div_mod_eq];congr 1;simp only[eq_iff_iff];exact aLz
y_(A:bB):DE "has_flag" (RQ gp (vh×HS) [nP,Bp,vN c_] g4 (xX/\qi c_) ko (v8 Aw mj dI c_)):=wX A.bj.azg aCb λ a e H hr hp U hU=>by rw[Kc d k n,qw,i9,k3 (aT (mC A) qc ((ge 13 n:a3),o0) (ae (i7 (g3 Cu hr (o7,13,c9) bv fe sg hY A.g.N5 pM cY Z d1 #[ql,oi ((13:Y)<14)]) gf (by rw[e,F0 hk])) wQ) HD)];rw[e];exact mc nr io ja
xo(A:bB):Jn (wt 2 gR "canonical_step") zj o3 (cU H v (As kW ef)):=JQ A.bj.aBH aoK λ a e H hr hp U hU=>by rw[CB b d a,<-aX (bO G? D6 c9 el) dt dt];(.rw[Y8]at hx;rw[CJ (aT (aBy A) hr n pM el AQ hx) AX n As,jB hx,h]);.rw[Y8]at hx;rw[CJ (g3 Et hr (iI,0,n) bv fe sg BX A.g.Ih Z d1 #[ql,oi (E8<15)]) AX n As];rw[kE (by rw[hx];simp)];exact h
ba.1(H:Hp)(v:V)(l:c?):Prop:=mK ng
gM:Up ba:=qJ x bx uO bx h t6
Sa{i:Y}(h:yO):gT xs ad cJ i a!=xs.drop i:=by unfold gT;((have e1:UR 0 ad cJ i=i:=by rw[_H.vI];exact Nat.min_eq_left h);have e2:gE b4 b4 a!=b4:=by unfold gE;rfl);rw[e1,e2,VI (by rw[M'];exact kI _)]
aCp{x:V}{r:bQ}:gT (x::r) (dJ 1) a!=r:=Sa (xs:=vz) (i:=1) (by simp)
UG(A:bB):Jn (DE "k_step") zj o3 (cU H v (sh kW ef)):=JQ A.bj.aoq aDa λ a e H hr hp U hU=>by rw[CB b d a,<-aX (bO PR uH (iI,1,n) ((1:Y)<15)) dt dt];(.rw[jv d5 (¬uR 1 n=[]) hx,CJ PR Et (iI,1,n) ((1:Y)<15) uQ sh,lB d5,h]);.rw[jv d5 (uR 1 n=[]) hx,CJ (g3 xo hr (iI,n) bv fe sg wQ Z d1 ql) uQ sh,jB d5,h]
Ha{K:bT}{H:Hp}{v:V}(h:cU H v l):vJ K v H (!MY):=by obtain⟨a,rfl,h⟩:=h;refine .inr gY #[_,i0 h,?_];cases l<;>rfl
Ki(A:bB):Jn (DE "taken_apart") zj o3 (ba H v (Mt.full kW ef)):=JQ A.bj.ajG Cj λ a e H hr hp U hU=>by rw[CB b d a,<-gI 2 Cj.nd (nY wQ) λ v H1 s1 hv=>?_,dQ (abR 3 (hi:=8) B2 (∃v t st,a2=[q7,nf n,jD,t,st]/\ba H' v KX) GM Z Cj.nd A.g.gO sV A.g.J8 cS Bf (tX v a! a! Z ww hv)) ?_];(.intro k a2 H2 s2 hk j;(rw[b5 (mh j.now λ v t st aS hl=>?_) aS]);(rw[eq hl au a1 aU nI aU]);(obtain⟨x,r,Hj⟩:∃x r,OP ma k n=vz:=by cases h:KX with|cd=>rw[i! h (_B.JU k n)]|bn x r=>exact(dZ x r Z));rw[Hj]at nI;have bH:=hR.de.vm k n;rw[jv rP (k<8) hk,<-gI 4 Cj.nd Qw (SY).cu wv ft cO x cY xK wF (mb y? nI) ME j Z (GT dl) λ vs H3 s3 hs=>?_];have ij:=hR.de.LB x;refine r6 (N1:=λ d6 H4=>∃v t st,d6=[q7,nf n,jD,t,st]/\ba H4 v (OP ma du n)) (oH kC j6 H4 s4 (by rw[uv e' e',Ha o8 hs])) dt dt wg d6 H4 (c6 h);(.rw[jv bf (¬Dn) hx,<-gI 2 Cj.nd (DF (xs:=jK Bn vN) (ys:=r.map vN) (aKm A.g.alJ kC j6 H4 s4 (by rw[uv e' e'];(rw[eq o8 hs au q a9 hq a9]);exact e_ q jc BL hq)) (SQ cY ai j6 H4 s4 (by rw[uv e' e',<-(aE a1 _ Z (mb bF y3 nI) (λ p H5 s5=>e_ p xj ?_))];rw[aY,jP,aCp])) ?_) λ v5 H5 s5 h5=>c6 λ H6 s6=>(tX v5 _ _ Z ?_)];(.rw[HY hJ];(have:cW KX=zG+1:=by rw[Hj];rfl);have hz:rB=16777216:=rfl;exact aks ij hz rP cc bH);. (rw[eq (h5 H6 s6) au q bu hq bu]);refine e_ q ?_;rw[hq,_B.Jm,Hj];show _=ad (HO.lst ((if Dn then vz else Bn++r).map vN));rw[fG bf,nB]);.rw[jv bf Dn hx,<-c6 ib #[bD a1,_,_,rfl,a1,rfl,?_]];rw[bF y3 nI,_B.Jm,Hj];show _=ad (HO.lst ((if Dn then vz else Bn++r).map vN));rw[jB bf]);.intro a2 H2 s2 j;(rw[b5 (mh j.now λ v t st bU hl=>?_) bU]);exact aG cY jT (jp gM s3 hl)
eQ.1:V->Y|e5 i=>FD|_=>0
g_(n:Y):MI=n:=vC n
eJ{k:Y}{x:V}(h:ng[k]?=ad x):∃n,dH l k n/\x=vN n:=by rw[rM]at h;cases e:l[k]? with|a!=>rw[h? e h h]|dJ n=>rw[e]at h;exact e_ n (Lg).symm
ack.1:eB->uX|.po _ e _::_=>zf|.Return ad (.l4 _ (e::_) _ _) _::_=>zf|_=>a!
mQ.1(l:eB):eX:=match ack l with|ad (.N6 _ _ sc _)=>sc|_=>{kind:=wP,dP:=[],isGenerator:=false,isCoroutine:=false}
aMl.1(l:eB):a6:=match ack l with|ad (.N6 e _ _ _)=>e|_=>.Os eR 0 #[0,0,0,0]
adu.1(H:Hp)(v:V)(l:c?):Prop:=ba H v l\/cU H v l
WT(A:bB):DE "in_order" (RQ gp (vh×V×c?) tz dI g4 (xX/\adu H dI c_/\bb Ud c_/\cW c_<=1000) ko (OQ Aw mj c_)):=QZ A.bj.aB9 yg gS b2 (λ _=>rfl) λ a f aK A' br s H0 H E hr hp U hU=>by rw[Kc d v l,<-dq hp λ hR hv bJ bH=>?_];dsimp only at hR hv bJ bH;have aLj:∀(k n:Y),dH l k n->DV:=λ k n h=>List.all_eq_true.mp bJ n (Wf h);((have cv:y1 cW ng:=by rw[hJ];exact Gs bH cS);have ij:jK ng qf KM=jK BA n Ia vN:=by rw[GX,GX];rw[SJ];intro n _;show vN (ge 0 MI)=vN Ia;rw[g_];rfl);have ed:df ["self","row","classes","place","scalar"] (aw ou) _ [("scalar",4)]:=fe (d9 (da:=Mo));((have main:∀ac H1,hW (sy H1 ac (pO ng λ x=>KM)->Bd (qe Ju f aK A' E).jh [q7,jD,ad bD ac,a!,a!] H1 (cw ou).tail uY (λ u _=>u=.bl B7 OQ)):=by intro ac H1 s1 jI;rw[ij]at jI;have MK:∀H2,nc (aC K H2 ac JY):=nN (mb tE jI);rw[dQ (JE 3 (lo:=1) (hi:=cJ vZ) mA k a2 ((∃p q,a2=[q7,jD,ad bD ac,p,q])/\∀(i x y:Y),i<k->dH l i x->l[jX]?=ad y->uy=0\/DX<=uy) GM Z yg.nd A.g.gO (ae ai (ae (di (m:=vZ) v1 cY j6 H2 s2 (aE ac _ f8 gY ww MK jd)) ao)) gm axd bH (λ _ _=>#[bF dZ Z,λ i x y h=>by exact(oz h).elim])) ?_];(.intro k a2 H2 s2 hk j;(rw[b5 (bq j.now λ aS hj=>gG aS au p q aU) aU]);(have cj:k+1<vZ:=by exact LP hk);obtain⟨x,hx⟩:∃x,dH l k x:=#[_,Aq (by exact Nat.lt_of_succ_lt cj)];obtain⟨y,hy⟩:∃y,l[du]?=ad y:=#[_,Aq cj];(have gx:JY[k]?=ad (vN DX):=by rw[rM,rM,hx];rfl);((have gy:JY[du]?=ad (vN uy):=by rw[rM,rM,hy];rfl);have e1:(1+o0)=eV du:=by exact aey);refine aX (tT cM cM ai (ft cO uy cY g9 xK e9 HB MK H3 (by rw[e1];exact cb gy)) (ft cO DX cY (aW cX g9 ai) xK e9 HB MK H3 (by rw[show(1+o0 - 1)=o0 by exact arF];exact cb gx))) ml d5 ml d5;(.rw[qj,Jr d5];rw[OR,W9];intro hs;have:=(Uf).mp hs k x y hx hy;exact asv d5 cc);.refine c6 jT #[bF dZ Z,λ i x' y' hi cn zE=>?_];by_cases e:i=k;(.subst e;rw[hx]at cn;rw[h? hy zE cn];cases zE;(have:¬((0:a3)<(uy:Y)/\(eV uy)<(DX:Y)):=by simpa[W2]using d5);exact aFc cc);.exact hj i x' y' (by exact oT hi e) cn zE);.intro a2 H2 s2 j;(rw[b5 (bq j.now λ a9 hj=>gG a9 au p q bu) bu]);rw[qj];rw[OR];rw[<-(Uf).mpr λ i x y hx hy=>hj i x y ?_ hx hy,oK (Nq hy).1 aex]);have Wl:∀(s':ax)(dE:Hp)(C:ab)(cl:bh)(fp:bA)(k:Y)(x:V),ng[k]?=ad x->aB ((qe Ju f aK A' E).jh.cD s' dE Mo (compEnvC Mo cl C (qe Ju f aK A' E).jh.env) fp) [q7,jD,a!,a!,xl] H (aMl (cw ou)) KM:=by intro s' dE C cl fp k x hk;(rw[b5 (ah (eJ hk) au n hn bU) bU]);exact(g3 Cu qc (o7,0,c9) bv fe sg hY A.g.wm pM kC Z d1 #[ql,oi (E8<14)]).imp gf (by rw[e,F0 (aLj k n hn),g_]));rw[i9];rcases hv with⟨av,rfl,gn⟩|⟨av,rfl,gn⟩;(.exact Rm (XQ 4 2) mb Wl Re main);.exact Rm (am9 4 2) i0 Wl Re main
EO{X:Cx}{H:Hp}(h:cU H u l):∃q xs,nU u/\(aC a? H q xs\/aJ a? H q xs)/\Me vZ:=by obtain⟨a,rfl,h⟩:=h;exact #[a,_,rfl,.inr (i0 h),by rw[Du]]
Nk(l:c?):bG (kX vZ>0)=!MY:=by cases l with|cd=>rfl|bn x l=>(have:pL (x::l).length>0:=by rw[ev l5 aLV]);rw[z8 cc];rfl
aD1(A:bB):wt 4 gR "has_k_step" (RQ gp (BK×V×c?) tz dI g4 (og/\ba H dI c_/\cW c_<=1000) ko (!_B.gi kW c_)):=QZ A.bj.amP MP gS b2 (λ _=>rfl) λ a f aK A' br s H0 H E hr hp U hU=>by rw[BQ v l a,<-bX hp λ hR aS bH=>ah aS au av hv gn];dsimp only at hR hv gn bH;subst hv;rw[iD];have ed:df ["self","row","scalar"] (aw GP) _ [("scalar",2)]:=fe (d9 (da:=mQ (cw GP)));((have cv:y1 cW ng:=by rw[hJ];exact Gs bH cS);have qV:jK ng qf EX (sh ma (eQ x))=jK BA n (!(uQ==[])) nr:=by rw[GX,GX];rw[SJ];intro n _;show EX pK sh MI=EX uQ;rw[g_]);rw[i9,<-bg (i7 (zd (bs:=BA n (!(uQ==[]))) Z A.g.zi (i7 (pd 2 (f:=λ x=>EX (sh ma (eQ x))) Z MP.nd ed el B? (af av e (mb gV gn)) IR cv (λ s' dE C cl fp k x hk=>?_) (λ _ _ _ _ _=>cz MP.nd Z jx t5)) ts u bx uO bx h (mb (by rw[h,qV])))) ts u e ?_)];(. (rw[b5 (ah (eJ hk) au n hn aU) aU]);refine(gF gJ (di (m:=cW uQ) v1 Pu UG (iI,n) pM cY (λ u H1 s1 h=>EO vX)) ai).imp λ u _ _ e=>?_;rw[e,g_];exact mc nr (Nk _));.rw[e];rw[dQ mc nr];unfold _B.gi;rw[VZ,List.not_all_eq_any_not];rfl
akM(A:bB):x? "records" (RQ gp (vh×Y) [nP,g? 0,vN ef] g4 (xX/\ef<14) o3 (eA mT H v (_B.cV ef (mj).ps))):=Jy Mb λ a e H hr hp U hU=>by obtain⟨⟨b,d⟩,k⟩:=a;rw[qw];(rw[b5 (zh v0 λ dx fs pa p0 p1 p2 hb rQ hm v9 a9 _ _=>D_ a9 bu qI) bu]);rw[<-ah (p6 wj EH r?) au vk kU hL,IS v cO lV]
ZM(A:bB):x? "records" (RQ gp (vh×Y) [nP,g? 1,vN ef] g4 (xX/\ef<15) o3 (eA ju H v (_B.cV ef (mj).ms))):=Jy Mb λ a e H hr hp U hU=>by obtain⟨⟨b,d⟩,k⟩:=a;rw[qw];(rw[b5 (zh v0 λ dx fs pa p0 p1 p2 hb rQ hm v9 _ bU _=>D_ bU cH qI) cH]);rw[<-ah (p6 wj EH d.ms) au vk kU hL,IS v cO j4]
aAQ(A:bB):x? "records" (RQ gp (vh×Y) [nP,g? 2,vN ef] g4 (xX/\ef<3) o3 (eA lC H v (_B.cV ef (mj).ss))):=Jy Mb λ a e H hr hp U hU=>by obtain⟨⟨b,d⟩,k⟩:=a;rw[qw];(rw[b5 (zh v0 λ dx fs pa p0 p1 p2 hb rQ hm v9 _ _ dA=>D_ dA ee qI) ee]);rw[<-ah (p6 wj EH d.ss) au vk kU hL,IS v cO m5]
Mn.1(B:Am):Y->c?->bM|0,l=>l==[]|_+1,[]=>bC|n+1,a::_=>Mn B n Em a
yn(B:Am):∀n c,GY B n c=Mn B n Em c|0,c=>rfl|n+1,c=>by show(match Em c with|[]=>bC|a::_=>GY B n a)=_;cases h:Em c with|cd=>rfl|bn a r=>exact yn B n a
aKa(A:bB):aM P w K mg b! 3 "firsts_end" (RQ gp (BK×Y) tz zj g4 og ko (GY kW Mt.STEPS ef)):=jm A.aLH CD λ a e H hr hp U hU=>by rw[CB b d a,<-bI 2 CD.nd ai ?_,<-gI 3 CD.nd (g3 xo hr (iI,n) bv fe sg wQ Z d1 ql) λ v H1 s1 hv=>?_,<-lN (λ m a2 H'=>∃(k:Y)(st:V)(l:c?),a2=[q7,nf n,nf k,ad st]/\cU H' st l/\k<=8/\m=Fq/\Mn ma (8 - k) l=Tl) (λ _ _ _ _ s2 cy=>gN cy λ k st l h1 h2 h3=>(lO k st l h1 (jp gD s2 h2) h3)) 8 GM (pf 0 v _ Z nz cS Z ((wo yn 8 n).symm)) ?_];rintro m a2 H2 s2⟨k,st,l,rfl,bw,hk,rfl,he⟩;refine(aZ _ vf (cF (oH g9 j6 H3 s3 (by rw[uv e' e',Ha (jp gD s3 bw)])) eU (c5 (bP cM cY (ag A.g.J8)))) dt dt);(.rw[Jr hx];obtain⟨h1,h2⟩:=hx;(have rP:k<8:=by exact agw h2);cases l with|cd=>simp at h1|bn x r=>(rw[eq bw au ast fJ v7 fJ]);refine gI 3 CD.nd Qw (SY).cu wv nV x g9 xK wF BL y? v7 ME j Z (GT dl) λ v3 H3 s3 IK=>?_;refine k7 2 o9 CD.nd Z ai (c6 ib #[8 - du,nZ aCX h2,k+1,v3,_,rfl,o8 IK,nZ aL2 h2,rfl,?_]);rw[<-he,show Fq=(8 - du)+1 by exact aKg h2];rfl);.refine aG (aLG g9 j6 H3 s3 (by rw[uv e' e',Ha (jp gD s3 bw)])) f? Hk;rw[OU];show MY=Tl;rw[<-he];cases l with|cd=>cases Fq<;>rfl|bn x r=>(have:¬o0<8:=by have h1:bb (!(x::r==[])):=rfl;rw[h1,pG,Ao]at hx;exact hx);rw[show Fq=0 by exact aAN cc];rfl
js.2(C:ab)(d7:bR->d? l?)(g:bR->l?->bM):RP:=RQ gp (BK×V×L!) tz dI g4 (d8 C a.1 H/\ju H dI c_/\(vb).to≠[]/\d7 we vb) ko (g we vb)
Az(n:Y):me n=(T!||OW n):=by unfold me FZ EL FX sF v4 OW;rw[x7];simp only[z7,jN,jQ];exact aIA
aqf(A:bB):kS 3 "scalar_is_no_hangul" (js gR oQ rm (!s? v4&&!s? OW)):=jm A.aHz ajT λ a e H hr hp U hU=>by rw[j_ d dq λ hR aS _ _=>uU aS y bo];dsimp only at hR hv bo ty;rw[oj,k3 (iT (aT (zK A) qc Ui wR G' _))];rw[e,Az,Bool.not_or]
ak0(A:bB):oy (kl "has_no_canonical_row") oQ (uR 0 d!==[]):=jm A.aEx aoA λ a e H hr hp U hU=>by rw[j_ d dq λ hR aU _ _=>uU aU y bo];rw[iD];dsimp only at hv bo ty;rw[oj,k3 (iT (g3 uH hr (iI,0,d!) bv fe si hY A.g.Ih wR Z d1 #[sU,oi (E8<15)]))];rw[e,OU]
arM(A:bB):oy (aM P w K mg b! 4 "taken_apart_in_order") (λ d r=>bb Ud Lt) pK OQ Lt:=jm A.atW ahZ λ a e H hr hp U hU=>by rw[j_ d dq λ hR a9 _ bJ=>uU a9 y bo];rw[iD];dsimp only at hv bo ty bJ;subst hv;have bH:=s? (aQ.de.vm 8);rw[i9,<-bg (Kf ON (WT A) hr bv fe si (cq PM Ki ao) B! H1 s1 ?_)];(rw[qz bu hu bu]);exact Mg (aZ (o7,u,Lt) Z (fQ IG gY GF bJ LI bH cS) Z) v h
anM(A:bB):oy (kl "simply_folded_stays") rm Ul (r.to.all λ x=>uR 6 x==[]):=c7 A.ar3 asE gS b2 (λ _=>rfl) λ a f aK A' br s H0 H E hr hp=>by rw[j_ d dq λ hR bU _ h1=>i_ bU λ ar y hv bo ay hy cR=>?_];rw[iD];dsimp only at hv bo hy cR h1⊢;subst hv hy;obtain⟨x,hx⟩:∃x,sf=[x]:=W! h1;rw[hx]at cR⊢;rw[k3 (iT (g3 uH hr (iI,6,x) bv fe si hY A.g.Ti wv nV x xb (bW (v:=cx ay)) G! cR Z d1 #[sU,oi ((6:Y)<15)]))];rw[e,OU];simp
dN.1(l:c?):uV:=vY λ(n:Y)=>K9
wB{K:bT}{H:Hp}:∀l:c?,xu K H (vY vN) rn|[]=>eC|n::l=>vr dk c9 (wB l)
MM:∀l:c?,G0 (dN l)=0|[]=>Im G0|n::l=>by have:=MM l;show G0 (K9::rn)=0;simp[G0,OZ,cc]
NO:∀l:c?,bb (G1 (dN l))|[]=>Im G1|n::l=>by have:=NO l;show bb (G1 (K9::rn));simp[G1,O1,cc]
DI(l:c?):K7 E_ rn:=by unfold F5;simp[O1,OZ,MM,NO]
ab6(l:c?):K7 (.list rn):=by unfold F5;simp[O1,OZ,MM,NO]
GZ:∀l m:c?,G2 (dN l) M3=(l==m)|[],[]=>Kl|[],y::m=>Kl|x::l,[]=>Kl|x::l,y::m=>by have ih:=GZ l m;show G2 (OY cJ x::rn) (OY cJ y::M3)=_;rw[G2,ih,NQ,List.cons_beq_cons];congr 1;rw[x7];simp only[rO];exact W?
axU{X:Cx}{σ:dB}{H:Hp}{a b:a6}{al:bi}{m:c?}(hu:Tm)(ha:uw a v (cU H v l))(hb:uw b v (cU H v m))(hm:Ck):dW kc Eq [b] (l==m):=fh (uq (OV hu) aI aI hm) AS r5 u iL Gx λ v H3 s3 hv=>by refine ah (hu H3 s3) au q1 e1 h1;refine ah nz au q2 e2 h2;subst e1 e2;refine(fM E_ rn E_ M3 (.dL (i0 h1) (wB l)) (.dL (i0 h2) (wB m)) (DI l) (DI m) pP f? Hk);rw[NQ,GZ]
AU{A:dy}{k:Y}(hr:b7 k A):A.units+64<vH:=hr.units
acW(A:bB):kl "goes_both_ways" (RQ gp (BK×Y×V×L!) [nP,Bp,c_.1] g4 (og/\dI<15/\ju H c_.1 vb/\c_.2.2.to≠[]) ko (Ar kW dI (a.2.2.2.2.to.headD 0)==[a.2.2.2.2.scalar])):=c7 A.atc azB gS b3 (λ _=>rfl) λ a f aK A' br s H0 H E hr hp=>by obtain⟨⟨b,d,kk⟩,k,v,num,r⟩:=a;rw[<-dq hp λ hR hk aS bf=>i_ aS λ ar y hv bo ay hy cR=>?_,iD];dsimp only at hv bo hy cR hk bf⊢;subst hv hy;(obtain⟨x,l,hx⟩:∃x l,sf=x::l:=by cases h:sf with|cd=>rw[i! h bf]|bn x l=>exact(dZ x l Z));rw[hx]at cR⊢;exact bg (axU (AU hr) (g3 Et hr (iI,k,x) bv fe si (ae el wv nV x (bW (v:=cx ay) cY ai AL BL (s1 _ _ bo)) d1 wF (i0 gV cR) ME j Z) Z d1 #[sU,hk]) (iR O8 cY))
as1(A:bB):oy (kS 4 "mirror_holds") rm C? (uR 7 D?==UN&&s? (HK 13)):=jm A.auR aGK λ a e H hr hp U hU=>by rw[j_ d dq λ hR fw bf bJ=>?_];rw[iD,<-aO (id fw) λ ar y hv bo ty=>?_];dsimp only at fw hv bo ty bJ bf;rw[oj,bg (cp (aT (acW A) qc (iI,7,cx ar,num,r) (ae bv BX A.g.Yr) Tc (7:Y) fw bf) eU (bZ PP (o7,13,d!) A.g.av4 bJ))]
ay6(A:bB):oy (kS 3 "scalar_has_no_class") rm C? (AO d!==0):=jm A.aKW avU λ a e H hr hp U hU=>by rw[j_ d dq λ hR aU bf bJ=>uU aU y bo];rw[iD];dsimp only at hv bo ty bJ bf;rw[oj,mY (d3 (i7 (g3 Cu hr (o7,0,Ui) bv fe si hY A.g.wm wR Z d1 #[IG,oi (E8<14)]) gf (by rw[e,F0 bJ])) ai)];rw[GN];unfold Mt.ccc;simp
Ng(A:bB):oy (kS 4 "scalar_is_cased") rm C? (HK 2 d!):=bp A.aEU aHx gS b2 IR λ a e H hr hp U hU=>by rw[j_ d dq λ hR a9 bf bJ=>uU a9 y bo];rw[iD];dsimp only at hv bo ty bJ bf;rw[oj,bg PP (o7,2,d!) A.g.U2 bJ]
pC.2(C:ab)(d7:bR->d? r!)(g:bR->r!->bM):RP:=RQ gp (BK×V×Ut) tz dI g4 (d8 C a.1 H/\mT H dI c_/\d7 we vb) ko (g we vb)
O2.1(d:bR):Prop:=T2
ZL(A:bB):ki "script_count" (RQ (λ a:BK=>[bD a.1]) g4 (d8 gR a H/\O2 dI) mA a v (v=vN (max 3 (dI).zP))):=bp A.art aDj gS b1 (λ _=>rfl) λ a e H hr hp U hU=>by obtain⟨b,d,kk⟩:=a;obtain⟨hR,hn⟩:=hp;rw[iD];have u0:T2:=hn;obtain⟨dx,fs,mr,sr,co,aq,hb,_,_,hnc,_⟩:=aQ.ex;have Tv:ff (∃C dx fs,C6/\dS K C/\cf K C "name_count"/\RZ a4):=xk s1 Bo fs A.bj.adh hnc;rw[dQ hU _,<-aX (eW (cQ bv Tv) ai) dt dt];(. (have h0:IO:=by rw[oK (Gw hx) VE]);exact aG (ag A.g.agW) f? (mc iO (by dsimp only;exact aD7 h0)));. (have h0:¬IO:=by rw[oK (Xa hx) axn]);exact aG (cQ bv Tv) f? (mc iO (by dsimp only;exact aiA u0 h0))
akw(A:bB):kl "script_is_named" (pC gR (λ d _=>O2 d) (λ d r=>bG (v_<max 3 d.book.scripts.length))):=jm A.aCM azy λ a e H hr hp U hU=>by rw[j_ d bX λ hR aS hn=>ah aS au ar hv bo];rw[iD];dsimp only at hv bo hn;rw[oj,mY (gF cM xb nV v_ (aT (ZL A) hr (b,d,kk) pM bv d1 #[sU,hn]))];rw[GN,jQ,jQ];show(qW<eV TZ)↔v_<TZ;exact Int.ofNat_lt
alp(A:bB):kl "flags_agree" (pC gR oQ rm ((!yd||yf)&&!Tn)):=jm A.aCL XN λ a e H hr hp U hU=>by rw[PY aU aU XN.nd,<-aX vf (cF (bO t9 (qW,7) A.g.az1) eU (c5 (dG (bO t9 (qW,8) A.g.ais)))) dt dt];(.rw[y0 (oL 7) yd (nk 7),y2 (oL 8) yf (nk 8)]at hx;rw[qj];revert hx;cases yd<;>cases yf<;>simp);.rw[y0 (oL 7) yd (nk 7),y2 (oL 8) yf (nk 8)]at hx;rw[mY (iT t9 (qW,16) A.g.ahb)];rw[y0 (oL 16) Tn (nk 16)];revert hx;cases yd<;>cases yf<;>simp
aiv(A:bB):kl "letter_case_is_cased" (pC gR oQ rm (!(TM||TN)||TR)):=jm A.aid ab7 λ a e H hr hp U hU=>by rw[PY a9 a9 ab7.nd,mY (fP t9 (qW,2) A.g.U2 eU (bZ (iT (fP t9 (qW,0) A.g.aJ5 eU (bZ t9 (qW,1) A.g.amQ)))))];rw[y0 (oL 2) TR (nk 2),y2 (oL 0) TM (nk 0),y2 (oL 1) TN (nk 1),Bool.or_comm]
aro(A:bB):oy (kS 3 "weighed_has_no_step") oQ (Kg==[]):=jm A.awT asX λ a e H hr hp U hU=>by rw[j_ d dq λ hR bu bf _=>uU bu y bo];rw[iD];dsimp only at hv bo ty bf;rw[oj,mY (d3 (di (m:=cW Kg) v1 PM xo (λ u H1 s1 h=>EO vX)) ai)];cases Kg with|cd=>rfl|bn x l=>rw[FN (by rw[ev l5 Rz])];rfl
aL5(A:bB):aM P w K mg b! 1 "conjuncts_follow" (RQ gp HS [vN a.1,zj] oQ ko (if a.1=2\/a.1=3 then ef==3 else if a.1=1 then ef==1||ef==3 else bC)):=jm A.azA aKA λ a e H hr hp U hU=>by obtain⟨m,n⟩:=a;(have jo:(bb (ia dk cJ m [.int 2,g? 3]))↔(m=2\/m=3):=by rw[SB (E9==cJ m) ((3:a3)==cJ m||false) rO,aMs]);rw[i9,<-aX (tW bv hY A.g.Bz sV A.g.Iy) dt dt];(.rw[hC (jo.mp hx)];rw[mY (d3 el (ag A.g.Iy)),xW,aj1]);.rw[lB (λ h=>by rw[jo.mpr h]at hx;cases hx),<-aX (eW bv (ag A.g.Gv)) u8 u8];(.rw[hC (by rw[oK (Gw cn) Q0])];rw[mY (A2 el hY A.g.Gv sV A.g.Iy),x7,SB u9 c9 (u9 c9||false) rO];simp only[z7,rO,jQ];exact ahW);.rw[kE (by rw[oK (Xa cn) aam])];exact aG cN wf
}
section
variable{X:Cx}{σ:dB}{H:Hp}{o ek e:a6}{gK al:bi}{b kk:ab}{d:bR}
def z:={
fT{pl:EW}(A:Fs a? gQ c)(hr:b7 2 X.A)(k n:Y)(hR:AK)(hk:k<14)(hs:DV)(ho:qY ig)(h1:fW ek (vN k))(h2:fW e (vN n))(fO:kR [e] e [])(bw:kR vx ek [e])(a_:nK [e])(ht:JB ul (q5 "value") vx (px [ov] (Gy ov "value" pl)) vx):fW ul (q5 "value") [ek,e] (vN Ik GQ):=(TY Cu (o7,k,c9) hk).imp gf (by rw[e,F0 hs])
Cn{pl:EW}(A:Fs a? gQ c)(hr:b7 3 X.A)(k n:Y)(hR:AK)(hs:DV)(ho:qY ig)(h1:fW ek (vN k))(h2:fW e (vN n))(fO:kR [e] e [])(bw:kR vx ek [e])(a_:nK [e])(ht:Pm ul (q5 "has_flag") vx (px [ov] (Gy ov "has_flag" pl)) (callWith al f first mk vx HU)):dW ul (q5 "has_flag") [ek,e] Ik v8:=TY y_ (o7,k,n) hs
}
section z
def z:={
yI(a b:Y):(!bG (kX a=cJ b))=!(a==b):=by congr 1;rw[xW,W?]
aDb(A:bB):Ci (kS 4 "as_the_first") (og/\qi dI/\qi c_) ko (ue==wk 2 c_&&(CS==CR&&v8 kW 12 dI==v8 kW 12 c_)):=bp A.aHo ayd gS b3 (λ _=>rfl) λ a e H hr hp U hU=>by rw[Q? m hR hm,<-aX (gd (Da 2 m aQ cS hm bv e4 G3 el) (Da 2 n aQ cS hn bv e4 G3 cY)) dt dt];(.rw[yI]at hx;rw[Jg hx x0]);.rw[yI]at hx;refine aX (gd (Da 3 m aQ cS hm bv e4 A.g.sD el) (Da 3 n aQ cS hn bv e4 A.g.sD cY)) u8 u8;(.rw[yI]at cn;rw[qj];revert hx cn;first|(generalize x0=b0;generalize Dk=b1;revert b0 b1;decide)|(cases x0<;>cases Dk<;>simp));.rw[yI]at cn;rw[mY (acp Um m hm el Um n hn cY)];revert hx cn;first|(generalize x0=b0;generalize Dk=b1;generalize DP m=b2;generalize DP n=b3;revert b0 b1 b2 b3;decide)|(cases x0<;>cases Dk<;>cases DP m<;>cases DP n<;>simp)
ajP(A:bB):oy (kS 3 "partner_holds") (λ d r=>C?/\Ul/\bb (r.to.all An)/\xU<=2) (xU !=0&&(ge 9 D?+xU==3&&(uR 8 D?==UN&&s? (ge 8)==13))):=jm A.aqp Jk λ a e H hr hp U hU=>by rw[j_ d wO λ hR fw bf bJ h1 lZ hle=>?_];rw[iD,<-i_ (id fw) λ ar y hv bo ay hy cR=>?_];dsimp only at fw hv bo hy cR bJ h1 lZ hle bf;subst hv hy;obtain⟨x,hx⟩:∃x,sf=[x]:=W! h1;(have zB:rf An:=by rw[hx]at lZ;simpa using lZ);rw[i9,dQ ft (bI 2 Jk.nd) d! xb bW,<-bI 3 Jk.nd (rl 9 d! aQ cS bJ bv e4 A.g.G8 cY) ?_,<-aX vf (dr (eW g9 ai) eU (eE (gd (rl 9 x aQ cS zB bv e4 A.g.G8 (nV x xb (bW (v:=cx ay)) ai d1 e9 (i0 gV cR) (by rw[hx];rfl))) (aW cX ai g9)))) ml hq ml hq];(.rw[qj];rw[OR,W9,hx];simp only[List.headD_cons,ne_eq,jN,bne_iff_ne,rO];simp only[z7,jQ,W0,Ao]at hq;exact λ z=>aI8 hq z.1 z.2.1);.simp only[Bool.or_eq_false_iff,Ao,O3,jQ]at hq;rw[mY (cp (aT (acW A) hr (iI,8,cx ar,num,r) (ae bv BX A.g.K') Tc (8:Y) fw bf) eU (bZ (d3 (rl 8 d! aQ cS bJ bv (ag A.g.avM) cY) (ag A.g.akB))))];((have g1:bb (xU !=0):=by simp;exact aBi hq);have g2:bb (ge 9 D?+xU==3):=by rw[hx];simp;exact aIs hq);rw[g1,g2,pG,pG];congr 1;rw[xW,U1]
ayI(A:bB):Ci (kS 3 "second_follows") (og/\qi dI/\qi c_) ko ((ue==0||(ue==4||(ue==8||ue==10)))&&(wk 2 c_==(if ue=10 then 10 else 4)&&(if CS=2\/CS=3 then CR==3 else if CS=1 then CR==1||CR==3 else bC))):=bp A.azF PQ gS b3 (λ _=>rfl) λ a e H hr hp U hU=>by rw[Q? m hR hm,<-bI 3 PQ.nd (rl 2 m aQ cS hm bv (ag G3) el) ?_];generalize FG:ge 2 m=p2;(have jo:ia dk cJ p2 [.int 0,g? 4,g? 8,g? 10]=(p2==0||(p2==4||(p2==8||p2==10))):=by rw[x7];show(bb (u9 pL _||(u9 pL _||(u9 pL _||(u9 pL _||false)))))↔_;simp;exact aIc);refine aX (aqI g9 hY A.g.LU hY A.g.F4 hY A.g.aKV sV A.g.NB) dt dt;(.rw[jo]at hx;rw[Jg hx (p2==0||(p2==4||(p2==8||p2==10)))]);.rw[jo,O3]at hx;rw[hx,pG];rw[dQ ft (bI 4 PQ.nd) (if p2=10 then 10 else 4) ((kJ (eW g9 (ag A.g.NB)) zn e4 A.g.NB zn e4 A.g.F4).imp gf ?_)];(.rw[e];by_cases fb:p2=10;(.rw[e! fb,z8 (by exact aDQ fb)];rfl);.rw[fG fb,FN (by exact aed fb)];rfl);refine aX (gd (rl 2 n aQ cS hn bv e4 G3 cY) kC) u8 u8;(.rw[yI]at cn;rw[Jg cn (ge 2 n==if p2=10 then 10 else 4)]);.rw[yI,O3]at cn;rw[cn,pG];exact bg (aT (aL5 A) qc (ge 3 m,ge 3 n) (ae (rl 3 m aQ cS hm bv UZ el) (ae (rl 3 n aQ cS hn bv UZ cY) ao)) G' _)
Ab.2(g:Y->V):RP:=RQ (λ n:Y=>[vN n]) oQ mA n v (v=g n)
Mh(A:bB):ki "first_weight" (Ab λ n=>vN (G4 n)):=g7 A.aE2 amW λ n f aK A' br s H0 H E hr hp=>by rw[PU (TC (lH/2^(gh (15:a3))) 16) ((E9^16 - 1)=65535) G4]
Of(A:bB):ki "second_weight" (Ab λ n=>vN (O4 n)):=g7 A.axp apD λ n f aK A' br s H0 H E hr hp=>by rw[PU (TC (lH/2^(gh (5:a3))) 10) ((E9^10 - 1)=1023) O4]
abw(A:bB):ki "third_weight" (Ab λ n=>vN (G6 n)):=g7 A.am8 aAb λ n f aK A' br s H0 H E hr hp=>by rw[k3 (aW tm bv ai)];rw[e];rw[dQ mc iO];have h:=Xb c9 5;rw[Ib ((E9^5 - 1)=31)]at h;rw[h];unfold G6;norm_cast
Cb(n:Y):bG ((0:a3)<c9)=(n !=0):=by rw[xW,Nat.pos_iff_ne_zero]
CH(n:Y):bG (lH=0)=!(n !=0):=by rw[xW]
Js.1(n:Y):bM:=T?&&(!LC&&!(G6 n !=0))
ayh(A:bB):lv (kl "is_first_weight_alone") Ab Js:=g7 A.arD apW λ n f aK A' br s H0 H E hr hp=>by rw[k3 Jh cp gF (cp (d3 Jv ai) eU (bZ (d3 Ra ai)))];rw[e,Cb,CH,CH];rfl
qK.1(n:Y):bM:=!(G4 n !=0&&!LC)&&(!LC||G6 n !=0)
agm(A:bB):lv (kl "weights_fit") Ab qK:=g7 A.ajK axF λ n f aK A' br s H0 H E hr hp=>by refine aX vf Jh cF bP (c5 (eW Jv ai)) dt dt;(.rw[Cb,CH]at hx;rw[qj];unfold qK;rw[hx];rfl);.rw[Cb,CH]at hx;rw[k3 (fP (d3 Jv ai) eU (bZ (gF gJ Ra ai)))];rw[e,Cb,CH];show _=nr (qK n);unfold qK;rw[hx];rfl
xZ.1(n:Y):bM:=T?||!UH
aky(A:bB):lv (kl "variable_fits") Ab xZ:=g7 A.anW asu λ n f aK A' br s H0 H E hr hp=>by rw[k3 Jh fP gF (bZ (iT (aT (mC A) hr (lH,31) (ae bv sV A.g.Lb) HD)))];rw[e,Cb,y2 (iJ c9 31) UH (nk 31)];rfl
}
end
mutual section
def z:={
R:=Nat
bE:=true
c!:=some
aH:=none
g?:=Mt.Book
xC:=_B.gg
IO:=l.take
IR:=List.take_add_one
o8:=Nat.le_trans
fL:=m.length
IT:=List.length_append
mB:=List.length_cons
i9:=l.length
c?:=aC.of
i':=List.length_map
cs:=Bool
UU:=Mt.joinsWell
Pn:=Mt.prop
jV:=r.scalar
t2:=base
mJ:=c.Book
i!:=Mt.scalar
t3:=r.to.length
eo:=d.book
jY:=aJ.of
O:=rfl
gi:=r.to
CD:=absurd
i?:=cons
IU:=List.all_cons
eh:=Bool.and_eq_true
fO:=aQ.later
j0:=congrArg
bN:=V.bl
UV:=List.headD_cons
IV:=A.g.cg
t4:=e.now
IX:=Bool.and_true
ep:=Bool.true_and
Pp:=List.drop_zero
IY:=decide
bF:=Int
jc:=Bool.false_or
ei:=_L.St
dk:=Expr
ct:=pos
ej:=Pos
mL:=aL.v
q9:=s1.trans
CE:=s2.trans
UW:=Mt.elementsFine
a3:=hlen
a0:=σ'
kF:=PassesOwn.never
q_:=A.g.gO
Pq:=Nat.lt_of_succ_le
CH:=List.getElem?_eq_getElem
o_:=l.map
nI:=List.getElem?_map
U0:=Int.zero_add
hA:=false
Pr:=eq_comm
az:=this
cZ:=σ2
CI:=Tw.te
gj:=if_pos
Ps:=Nat.sub_lt_of_lt
da:=if_neg
xD:=decide_eq_false
q!:=Bool.eq_iff_iff
Pu:=Int.toNat_natCast
q?:=Mt.Range
Pv:=List.range
e5:=V.int
ey:=r.first
CK:=filter
U1:=List.map_id
Py:=List.filter_map
hE:=List.map_map
mN:=r.last
cx:=outer
nJ:=scope
xF:=Nat.lt_of_le_of_lt
U2:=List.mem_filter.mp
CO:=List.mem_of_getElem?
IZ:=A.g.Bz
gk:=beq_iff_eq
t5:=Bool.or_eq_true
dW:=decide_eq_true_eq
rb:=Bool.not_eq_true'
xG:=decide_eq_false_iff_not
xH:=Bool.or_eq_false_iff
rc:=Bool.not_eq_false'
xJ:=List.all_eq_true
U4:=List.getElem_of_mem
CQ:=sizeLine
U5:=List.length_filter_le
t6:=Mt.isSyllable
t':=Mt.isJamo
Pz:=r.to.map
CR:=A.g.zi
CU:=HO.lst
PA:=Bool.not_or
xK:=List.any_map
U6:=List.not_any_eq_all_not
xL:=A.g.w6
PC:=decide_eq_decide.mpr
CX:=List.all_map
o!:=r.value
a5:=Addr
t!:=Mt.Seq
PE:=Mt.canon
o?:=r.key
I0:=A.bj.cl
CY:=aQ.cu
I1:=List.length_drop
I2:=List.map_drop
j1:=hu.now
PJ:=Bool.not_not
CZ:=eI.later
I3:=j'.now
U8:=List.mem_filter.mpr
PK:=List.mem_map.mpr
t?:=List.mem_map.mp
PM:=Bool.and_eq_false_iff
U9:=beq_eq_false_iff_ne
U_:=of_decide_eq_true
U':=of_decide_eq_false
ub:=keyOf
PP:=Mt.joined
rd:=Bool.false_and
C0:=Bool.and_false
C1:=z.toNat
PQ:=d.book.seqs.getD
PT:=List.getD_eq_getElem?_getD
mO:=numOf
C2:=Mt.sequence
j4:=MtLine.Ways
uc:=fs.lookup
a4:=Str
C4:=y.how
C7:=y.all
uh:=y.words
up:=y.tab
C8:=y.split
PU:=jP.later
xO:=MtLine.scalarWidth
xU:=MtLine.in_
C':=A.e9.cl
PV:=A.e9.P0
PW:=Mt.hangul
U!:=Mt.Rules.none
PY:=Mt.ownClass
I4:=l.contains
U?:=List.map_cons
I5:=List.contains_cons
jd:=pos'
uq:=vs.length
xW:=NotIn
PZ:=MtLine.plain
xX:=A.g.ID
pa:=A.g.AL
I6:=A.g.CM
I7:=A.g.NS
ut:=MtLine.sort
Va:=MtLine.resolve
uw:=contains
P3:=A.e9.IH
C!:=A.g.HL
nK:=A.g.NU
I8:=A.g.H2
I9:=A.g.H3
I':=A.g.JL
C?:=A.g.JV
Da:=A.g.JT
Vb:=this.imp_right
xY:=Or.imp_right
x2:=A.g.BK
re:=A.g.rX
uz:=A.g.rO
x3:=A.g.NL
rf:=A.g.SP
Db:=A.g.ZW
Dc:=Mt.Info
gl:=x.cls
I!:=x.pict
uB:=X.mg
P4:=attributeBase
mR:=X.env
P5:=Subscript
Dd:=Attribute
Df:=A.md.cl
P7:=A.md.J4
uC:=Bool.or_false
Dg:=Mt.linked
uD:=z.conj
I?:=_W.back
Dh:=Nat.le_of_succ_le
x4:=Nat.le_refl
Vc:=Nat.le_sub_one_of_lt
x!:=decide_eq_true
Jb:=Bool.or_true
uE:=y.cls
P8:=dropWhile
uF:=z.cls
P9:=takeWhile
P_:=List.length_nil
Ve:=List.takeWhile_cons_of_pos
Vf:=List.takeWhile_cons_of_neg
P':=Bool.not_false
Vg:=Bool.or_assoc
P!:=List.range'
rg:=List.map_append
Di:=_W.ends
Vh:=PySem.F.slot_list_append
Vj:=PySem.F.type_list_append
Dk:=List.append_nil
jh:=t.map
Dl:=_W.inf
rh:=n.testBit
Vk:=Nat.testBit_or
Vl:=Nat.lt_of_lt_of_le
P?:=Nat.le_of_not_lt
Vm:=Builtin.bitAnd
x?:=X.env.kindOf
Jd:=starEach
Dn:=MtLine.waysOf
db:=t.length
Vn:=MtLine.hangs
kH:=h.ex
Qa:=h9.later
Qb:=A.fE.cl
Je:=A.fE.FH
yc:=PySem
ye:=PySem.Spec
yf:=PyProof.Rows
Qe:=Program
Qf:=PySem.W.Frag
pb:=MtLine.Bad
rk:=MtLine.row
Jf:=Nat.min_eq_left
Vp:=List.map_take
it:=aL.p
kM:=hv.now
Vq:=Int.ofNat_inj
Vr:=MtLine.clusterWidth
Qg:=take_snoc
Qh:=getLast?.getD
uK:=Nat.lt_of_succ_lt
Qi:=List.getLast?_append
Vs:=List.getElem_mem
yg:=List.pairwise_iff_getElem.mp
Vt:=MtLine.width
yh:=gh.later
Do:=List.take_length
Qk:=MtLine.measure
Vu:=MtLines.marksFine
Dp:=m.map
Jh:=A.g.yW
Vw:=List.any_eq_false
Vy:=List.getLast?_eq_some_getLast
Vz:=Nat.le_add_right_of_le
Ql:=Nat.lt_of_le_of_ne
Dt:=A.g.i6
Dv:=Places
hG:=L.length
Qs:=List.getLast?_eq_getElem?
Dw:=_W.nj
Jj:=A.g.Ei
Qt:=MtLines.pairs
Dy:=pairs_len
VB:=MtLine.linesBy
VC:=MtLine.unmarked
Jk:=dn.length
VE:=Nat.le_of_eq
Qu:=List.append_assoc
Qv:=x.lines
VH:=MtLine.lineBad
nM:=h.lo
rl:=h.en
DA:=L.drop
rm:=putK
VJ:=Nat.ne_of_lt
Qw:=List.drop_eq_getElem_cons
Qx:=List.drop_drop
DH:=List.getElem?_drop
Qy:=Nat.add_lt_of_lt_sub'
Qz:=Option.some.inj
VL:=List.take_of_length_le
jl:=drop
uM:=same
Jl:=ev.now
VN:=List.drop_eq_nil_of_le
yk:=V.ref
uO:=sH.trans
yl:=lA.trans
Jm:=A5.trans
DI:=small
VP:=Bool.not_true
VQ:=Nat.le_succ_of_le
QA:=MtLine.raggedBy
ym:=_W.ki
DK:=s3.trans
gm:=c.Unit
QB:=fs.length
Jr:=A.du.cl
QC:=A.du.Kc
QD:=A.du.Ph
QE:=A.du.KJ
Jt:=A.du.FV
QF:=A.du.PH
QG:=A.du.KH
QH:=A.du.LF
QI:=A.du.Kr
QJ:=A.du.N8
QK:=A.du.Jp
jm:=MtLine.Unit_
fS:=u.is.cls
Ju:=MtLine.isEast
yn:=Ch.vE
Jw:=A.g.DX
QM:=MtLine.ends
DL:=Bool.and_comm
DM:=MtLine.Sort_
DR:=Ch.fN
Jx:=S.length
uP:=r.length
VR:=Nat.zero_add
Jz:=A.g.EI
QN:=MtLine.isMark
JA:=Nat.succ_le_of_lt
JB:=MtLine.Say
DS:=sorts
VS:=List.contains_nil
JC:=sA.trans
JD:=MtLine.begin_
mS:=Ch.bT
b?:=us.length
VT:=List.getElem?_eq_none
VU:=List.sum_append
DT:=MtLine.units
QO:=hU.later
uS:=Ch.nh
QQ:=hO.later
uU:=Ch.rj
pc:=Ch.cY
uW:=Ch.oV
c0:=cut
QR:=c.Place
pe:=Ch.gX
pg:=Ch.gY
DU:=Ch.mM
DV:=Ch.gZ
DY:=h.later
QS:=vf.later
VV:=List.head?_drop
uX:=A.g.sE
yo:=Ch.gV
DZ:=Ch.num
D0:=Ch.seg
D1:=A.g.GL
D2:=A.g.HY
JF:=A.g.CL
D3:=A.g.CP
JG:=A.g.SY
JI:=A.g.OP
yp:=A.g.QU
yq:=A.g.IS
JK:=Bool.not_and
QT:=MtLine.kernel
rn:=MtLine.digits
QV:=Nat.sub_self
uY:=A.g.PR
u_:=A.g.PO
QW:=MtLine.says
JN:=MtLine.pieceCost
D4:=Ch.texts
JO:=jD.later
QY:=sM.trans
QZ:=Dz.trans
Q1:=own.map
Q2:=MtLine.marksFrom
Q3:=uy.is.sa
VZ:=List.map_set
V0:=List.eq_nil_of_length_eq_zero
D5:=_B.ku
aN a b:=a _ _ b
fo a b:=c! (a b)
ac a:=ag a
dd:=a.2
fW a:=List a
an a:=c! a
ad:=aa 0
dR:=a.1
kP a b c:=ae a (ae b c)
kS a:=a eo
Z:=aa 1
cL a:=λ _=>a
ci a:=fo .ref a
iv a b c:=a X σ H b c
dT a:=aN s1 a
nO a:=.pure a
ax a b c:=λ a b c=>?_
bB a:=(a:bF)
be:=λ _=>rfl
bQ:=by decide
c2 a b:=by refine a b ?_
bC a b:=kP a b ao
as a:=a=bE
ap:=aa 2
kT:=kS Pn
u! a b:=autoParam a b
dl a:=(a:bF)
a?:=dd.1
dt a:=a (by kernel_rfl)
D7 a b c:=a b w c mg t2
b!:=dd.2
Y:=Fs K mg c
gp:=D7 aM P K
dX a b:=a (v:=b)
bn a:=λ H1 s1=>a
nR a:=a A h ad
aD:=fW R
j6 a b:=iv aB a b
cA a b:=af _ a b
bd a:=fo vN a
ro a b:=j0 a b
rp a b:=a A nR b
fq a b c:=a (b us c)
e6 a b:=MtLine.is a b
e7 a:=u! a aA._auto_1
bG a b c:=λ a=>aG b c
j! a:=λ a=>?_
a6 a:=(a).length
dp a:=.ref a
kX a:=rp uk a
aF:=aa 3
bm:=dd.2.2
iz a:=(a:bF)
eu a:=.ref a
nT a:=a (by decide)
cd a b:=by exact a b
rq a b c:=CI (a b c)
dv a b c:=aN a aN b c
ce a b:=by refine a;subst b
eA a b c:=a (by exact b c)
dg a b c:=a[b]?=an c
br:=b!.1
dY:=dR.2
kZ a b:=dX a (vN b)
ck:=by rw[c2 hU _];dsimp only
ph a:=Option a
mU:=dR.2.2
jp a b:=a eo b
bH a:=IY a
mW a b c:=cA (a dT b) c
bD a:=iz (a:R)
d0:=nT hr.mono
gr:=dR.1
a7 a b c:=by rw[a]at b;cases c
bt:=j! hx
e! a:=.bl a
ca:=fW jm
cm a b:=bC ac a ac b
a!:=aa 4
bi b c:=λ a:b=>c
iA a b c:=D4 a b c
k0:=nO ro bN ?_
JP:=Or.inl O
bA b:=λ a H=>b
jq:=cP c H a us p c0
e? a:=aN s2 a
hH a:=eval a mR
pi a b c:=λ u a b e=>c
u? a:=dl a - 1
pk a:=a _ _ _ _
pm a b c:=a kX b ac c
k8 a b:=af a e b
nU a b:=fW (a×b)
ew:=by rw[i']
fr a b:=a nd O JP b
d1 a:=ae a ao
d' a:=c? a
cc a b:=cp a cL b
k! a b c:=a b ai bn mW jY c O
eH a b:=af a O b
ju a:=a (by decide+kernel)
cr a b:=by refine a hp b
cV a b c:=bp a b dt b1 be c
cB:=gp 2
c3 a b c:=show a by exact b c
ch:=aa 5
fZ a:=.int a
d! a:=λ H2 s2=>a
k? a b c:=a b=fo .dK c
dV a:=λ x=>a
JQ a:=List.getElem?_eq_some_iff.mp a
la a:=(a:R)
iB a:=aj H1 a
d?:=tx t us
va a:=DA a
yu b d e:=by obtain⟨b,us,d,c0⟩:=e;have h:jq:=hp
jv a b c:=a eo b c
jw:=kT 2
yv a b:=λ a v _=>v=b
dy a b c:=kP ac a ac b c
mX:=nO ro e5 ?_
rr a b c:=λ a _ b e=>c
pn a:=mS us a
iL a:=e6 fq pe Bf p a
el:=k+1
vc:=J+1
JR:=pk D0
ds a b:=rq cF a cL b
lc a:=a eo y n t
po a b e:=by have a:bz mJ H b d kk:=e
cS a b:=λ a b=>?_
d2:=by rw[yu a p q,c2 hU _]
c':=Fs X.K uB c
dB:=by conv in JR=>whnf
eb:=nO ?_
gt a b:=by refine aG a b
fa a b c:=a b=an (.lst (c vN))
dL b:=yv a b
yw a:=fK (a A) bQ bQ
nV:=rr v _ ?_
eK:=p+1
gu a b:=(a).map b
hK:=bB n
f3 a:=kZ bW a
Q4 a b c:=e7 (a mR (eval b mR)=hH c)
nW a:=e6 fq pg Af p a
f4 a b:=by exact a b
eq a:=Q4 a o o
fv:=va vc
fd a b c:=aP a (aP b c)
mY a:=k! a Z bo
f5 a b c:=by exact a b c
jy a:=a jV
eL a b c:=a O b c
ec:=ph jm
ef:=gp 1
eR:=a?.2
d7 a:=by exact a az
pp a:=(a:bF)
dP:=e_ c
f6:=by rw[po aQ b hR]
m0 a b:=bg ((a).imp b)
vd:=λ _ _=>trivial
iM:=mU.2
m1 a:=pi H1 s1 a
eT a:=λ h=>a
fe:=dY.1
hQ a b c:=ae a bC b c
er:=P4 o
JS:=kS Mt.flag
yz a b c:=upd a b (.dK c)
et:=.Dd o
ld:=bB m
lf:=kT 1 n
n1 a b:=j6 a eu b
lg a b:=j6 a fZ b
f7:=eu gr
lh a:=e? dT a
D8:=.inl O
D9:=.inr O
em a:=.int a
ff a b:=rq dr a cL b
pq a b c:=λ a H1 _ b=>c
rs a b c:=Qk eo y a b c
vh b c d:=ah b λ a e h=>k8 c d
fh:=nO O
rt a:=cL ac a
li a:=gQ A hr a
m2 a:=λ _ _ _ _ _=>a
f8 a:=a=aH
fx a b c:=bp a b dt b2 be c
pr a b:=xU a b
jz:=bB k
jA a:=by exact a
f?:=.int
fl b:=λ a v H=>b
fy a b:=pm a px b
gv:=mU.1
ps a:=aW cX a ai
lj:=kT 3
j? a b:=k? a b ke
ga:=rk t b e
gb a b c:=aX a bG b cN k0 c
ru a:=Qt a
n2:=.tail
n3 a b c:=di (m:=a) IV b c
gc a b:=by subst a;have nd:=b
gx a:=bO a
gy a b:=dg l a b
lk a:=a=bE
eV a b:=(a).imp b
n4 a b:=iv Ev a (OU c b)
fz:=x4 _
fC:=nU Key V
kc a:=fr a aI
lm:=dl n
vi a b:=fq a pc b
fn a:=a ct
yA a b c:=bn (b9 _ dx fs dT h1 a b c)
gf:=kX py
pt:=gj O
gA a:=(JQ a).1
kh a:=aW bV a ai
hV:=u? k
fI a b:=by rw[a];exact b
iN:=vN a?
n5 a b:=λ a a0 _=>b
gH:=(b,d,kk)
ln a:=ba H v a
rv a:=I? I b a
gM a b:=uc a=fo .bl b
hY:=Mt.inside r
h' a:=m0 a nV
m3 a:=λ hx=>a
JU a b c:=.Compare a [b] c ct
iO a b:=(a).imp b
D_ a b:=behindInMarks a b=false
h! b c d:=pq u b vh c a d
pu:=kS Mt.map
h? a:=(a).map
lr:=a?.1
gU:=pn i
iU:=k - 1
iV a:=by rw[gt a k0]
ie:=gp 3
iX:=by obtain⟨⟨b,d,kk⟩,v,num,r⟩:=a
JY a b c:=a (ut b c)
g0:=ph V
ls:=o_ vN
rx:=iA l J bh
ii a:=da a
il:=ci a
lv a b c:=ah aS ax a b c
m4 a:=fo .int a
D' a b:=nO ro a (b).symm
g':=fW V
ry a:=λ d r=>a
m5 a b d:=a gm H b d
m8 a b c:=by obtain⟨a,b⟩:=JQ c
g!:=aa 6
iY a b:=by rw[aV (c8 hb a)];exact b
rz a b:=a (by exact b)
pA a b:=λ a H=>b
jB:=.Name
i0 b c:=JU a .b c
D! a:=by rw[c2 j0 a]
im a b:=by rw[a];exact b
yB:=kT 6 n
n7 a:=by exact xF a bQ
D? a:=dl a+1
io:=j! h1
rA:=v=dp q
kj a b c:=q yw a (q yw b c)
km:=ci qt
ip a:=gj a
lw:=JY jh eo y
Ea:=.Tuple es x1 jd
jC a:=ju (d9 (nJ:=a))
i1 a:=fo bN a
kp a:=(a).toNat
pB a:=aN s a
n!:=k - 1
i2:=aa 7
kq a b c:=aX a bG b ac Dt mX c
yC:=i! n
JZ a b:=a (Dl b)
yE a:=(a).book
jE:=n1 o a
rC a b:=rm ke (kN a) (vN b)
jH:=gp 4
yF a b:=a (c! b)
iq:=hx.2
pE a b c:=by refine bX hp ax a b c
yH:=JS 12
jI a b:=j6 a e! b
vj:=la k
jK a:=gu a vN
ly:=ci bb
pH a:=a->cs
i3 a:=λ v H=>a
m_ a b:=pm a py b
pJ:=j+1
jO:=bd n
jT a b:=uc a=b
vl a b:=iL a&&nW b
m' a:=a<=db
rD a b c:=dJ (l:=a) (b:=c)
n? a b c:=dJ (a:=b) (i:=c)
m? a b c:=List.all_eq_true.mp a b c
J1:=by rw[ew]
oc:=JZ jh eo
pK a b c:=a b u c t4
lD a b c:=(a).map λ b=>c
na a b c:=df a (aw b) _ [c]
kr a b c:=j6 a (.bl (b c))
nb a b:=by rw[ce (bq j.now a) b]
lI a:=a kl ke
vp a b c:=aT (a A) d0 b c vd
ks:=R×R
lM a:=by exact aG li a D' e5 (iI _)
yI a:=Ch.cst B iA l a bh
yJ:=aj H H1
lP a:=vi a eK
kt a:=by show Rn _ _ _ _ a
i5:=bI 2
i7:=.bl
vq a b:=yz a l1 b
lQ:=Nat.zero_le _
kw a b:=by exact CD a b
lR a:=xF a bQ
od a b c:=by have a:b:=c;rw[ck]
lT a:=λ _ _=>a
ky a b:=by exact a b az
kA a:=by rw[da a]
nc:=fO s1
rH a:=b8 kl (kN a)
nf a b c:=a b (CO c)
lY:=by repeat(first|rw[cW,pt]|rw[cW,nT da])
rI a b:=(a).uw b
l0 a b:=by show a=_;rw[b]
vr:=by rw[D! bN]
kB a b c:=aZ a O b c
kC a b c:=(a).all λ b=>c
yK a:=cA O a
pL:=_W.d6 m k q
Q5 a:=u! a bS._auto_1
l_:=iB H2
l!:=lg e i
l? a b:=eA gj a b
ma a b:=eA da a b
oh a b c:=cK I0 (a A) b c
yL:=kT 7 n
Ec a:=aN dZ a
vt a b c:=λ u a b hu=>c
yM a b:=ae ac a b
J2 a b:=yA A.eC.cl a b
mb a b:=uc a=an b
rJ a:=dv s4 s3 a
mc a b c:=a b=an (.ins c dx fs)
ng a b c:=e7 (Jd a mR=(false,b)::Jd c mR)
kE a:=e5 a
mh a b:=j6 a (vN b)
ni a b c:=bp a b dt b3 be c
rK a b c:=kJ a rt b c
vu:=fS==38
mi a:=kZ mL a
mj a:=pp (a:R)
nk a b c:=by rw[ce (ah (eJ hk) ax a hn b) c]
mk a b:=iv Te a b
ml a b:=fP a cL b
Ed a b c:=∃q xs,u=dp q/\(a\/b)/\xs.length=c
mm a:=cd a hj
nl a:=cd Dh a
rP a b:=eA x! a b
nm a:=by rw[nI,a];rfl
rQ:=64*i
Ef a b c:=by generalize a=b0;generalize b=c
np a:=by have:=U_ a
mn:=bm.1
yP a:=c6 (.pure a)
mq:=Ch.ib x r
oi:=iB H'
nq:=n4 o u
nt:=kX px
pO:=p - 1
nu:=q+1
vw a b:=Ch.g8 a b
mt:=an uv
rS:=jw n
mw a b:=a (bs:=b)
mx a:=(a:R)
my a:=a->Prop
J5 a b c:=a ct (b c mR)
ol:=(a,(bb,d,kk),y,t)
on a b c:=by refine Bd.of a λ H1 s1 D b c=>?_
op a b c:=eH a aN b c
vA a b c:=a eo y n b c
oq:=e6 o l
vB a b:=jP c.Ways H a b
mA:=a.1.1
rU:=by simpa using hx
nv:=fW Dc
or a b:=by refine a;refine b
os a b c:=aT (a A) hr b d1 c vd
yQ a b:=u! D_ .a b _L.gz._auto_1
pP a:=b8 ke (kN a)
yR a:=rs t b a<=n
Eg:=lz.cls==47
rV a:=pi H2 s2 a
nw a b:=gd a ac b
ny a b:=dX a (.bl b)
nB a:=yF a u
nC a b:=IY a=b
yS a:=m.getD a 0
ou:=bY (i:=5)
ox a:=cJ (dD a)
Eh:=pv 8
oy:=fW (jm×aD)
J6:=yB==39
yT a:=Ch.gS B rx a
yU:=lc _W.lb
vC a b c:=a b be hsz c m2 (cz nd O D8 D9)
rY a:=(a:R)
oA a:=kx us a
J7:=QM gl
vH:=ru dn
vJ a:=dv s3 s2 a
pQ a b c:=cQ (v:=a) ho J2 b c hb
r0 a:=cz a O D8 D9
oB:=nU R R
oD:=lm - ld
oG a:=∃q,rA/\a
oH:=ci ar
vK:=pu 5
vL:=pp _==iz _
El a:=fo e5 a
Em a b:=a (CE b)
oJ:=a6 dY
oK:=ps ap
yX a:=dX a dp ay
oL a:=i8.k (k:=kN a)
pS:=dg L j x
nF a:=(a).cls
r3:=(dR).B
pT a b c:=k9 a b dt b2 be c
pU:=r.to.headD 0
oP a:=a<=b?
pY a b:=bG a b mX
vM:=hG - 1
oQ a:=kZ cO a
oR:=Ec O
pZ a b c:=yM a cm b c
En a b:=(J5 backTo Jd a).b (·.1)=false
yZ a:=a<CQ
r4 a:=.pure (a ?_)
oS:=u? n
oU:=bm.2
oY a c d:=qw a c ho (λ fs b e h=>d) hb
y1 a:=pc us a
r5:=n - 1
oZ:=λ _ _=>True
y2:=jh vN
o0 a:=c5 (bO a)
p0 a b:=by have a:=U' b
Es a:=rz xD a
o1 a:=(a).isSome
o2 a b:=yo a=b
vP:=Bf us p
o4 a:=mI H v a
vQ a:=Q5 (a=an .globalImplicit)
p2:=by have gh:kb c H a (bb,d,kk) y t:=hS
Et a b:=by rw[q!,a,b]
Q6 a:=u! a nL._auto_1
Ew a:=a (i:=6)
r7:=by simp
p3 a:=λ H4 s4=>a
p4 a b c:=by refine(aZ hA rq uJ a b m3 (nomatch hx) cL c)
Ex:=rm kl (kN x0) bv
r8 a b c:=∀(H2:Hp)(u:V),a->u=dp b->Ed (aC K H2 q xs) (aJ K H2 q xs) c
y3 a b:=by obtain⟨a,b⟩:=hp
y5 a:=λ _ r=>a
p9 a b c:=by rw[c2 (lN n5 m a (λ _ _ _ _ _ h=>h) b kF) c]
vV a b c:=λ a u b e=>c
o7:=iK h1
p_ a:=λ i=>a
r_:=a6 iM
p! a b c:=sL _ O a O _ O b c
EA:=as yC
p? a b c:=λ a b=>fA bt c
qa:=kT 0
qd a:=as (i! a)
qf:=d8 mJ dR H
qj:=ci l2
ql:=ci l1
qn a b c:=a b=fo .lst c
y7 a:=a (q9 s2)
J8:=pr yL [2,3,4]&&!J7
qp:=by simp at az⊢
qq:=ci l
v4:=ci r
y!:=bB ey
qr a:=pA v ln a
y? a b c:=a ad d! (b9 _ dx fs lh h1 Qb b c)
r! a c d:=by rw[e];refine gG a ax b c hh;exact(dZ b d (hh.later s1))
r? a b c:=aT (a A) hr b hQ ad Z ap c
sb a:=show a by decide
qs a b:=cA d' a b
qv a:=dX cQ dp a
qx a b:=.Call a b [] ct
ED a b c:=aE a _ b (.inl (c? c)) J1
v5:=e.testBit 31
qz a b:=show a by exact b
qC a b:=show a by exact b
qD:=bd b
qE:=by rw[az];rfl
zb:=CE s3
sd:=V×aD
zc a b c:=ju (d9 (N:=a) (sc:=aw b) (own:=[c]))
J9:=bK "spaceless" e! J6 (bK "joined" e! Eg fs)
EE a:=a=b?
J' a b:=m1 k8 a (jY dT b)
se:=uA c dR H
ze:=D? b
qG:=i=la j
qH:=ik Eh aI O
zf a:=bP eO a ai
qJ a:=λ n:R=>a
v6 a b c:=a n aQ bQ hs ad ac b c
zh:=#[_,rfl]
EG:=vN b!
qQ:=aj H' H2
si:=Q6 (oW e)
zl a:=bY (a:=4)
qR:=bB b
sl:=fT A hr
qT a b:=bP cM a b
qW a b:=λ u H1 s1 a=>b
v7 a:=aN s7 a
qX a:=aN s6 a
sm:=e7 (vs.all ic=bE)
sq:=j6 a (.int (kI o))
v8 a b c:=a vO b O ai yP c
st a b:=by have a:=U_ b
EH:=fT A d0
qY a b c:=λ v a b hv c=>?_
sw:=u! (uq<=CQ) k6._auto_1
sz:=dl ey+vj
q4 a:=λ _=>a
q6:=a.2.2
sC:=[Ea]
sI a b c:=H a=an (.lst (b c))
v9:=fW DM
sJ:=.P5 o e jd
J!:=jp PE n
v' a b:=bG a b eb
zn:=jp Mt.full n
EJ a:=by unfold a;dsimp only
v! a:=gx vp a hK d1 Z
v? a b c:=_B.mH (if a then aH else l[b]?) c
sK:=ci qm
wb a:=jp Mt.ccc a
wc a:=rD us i a
sQ a b c:=by rw[<-a b l,<-hv];exact c ha hb hf hl hm
sT:=ci b
sW:=rv k
sX a:=∀H1,yJ->a
wd a:=bH a=false
zp a:=show a by decide
zr a b:=fd a b dh
sY a b c:=c5 (a b ac c)
q8:=i+1
s_:=pv 4
s?:=iv eF es vs
zs:=hS.later s1
tb a:=by cases a<;>rfl
tc a:=by rw[gj a]
td a b:=jZ c.k_ H a b
tf a:=a6 a<=64
tg:=hG - 1
th a b:=a Z ac b
we:=vN br
zt:=_W.jR I b p
ti a b:=∀{a:Hp},b
tk a b c:=c! (a b c)
tl:=(bb,d,kk)
J?:=R×cs
tn:=pH R
Ka:=dT eN
tp:=aN dF pI
tq a b c:=by exact a b c
Kd a:=lc _W.jt mu x0 fv a
zu a b c:=by revert a;rw[Ef b c b1];revert b0 b1;decide
tr a b:=λ a:R=>b
ts a b:=∃a:R,b
tw:=L.map vN
ty a b c:=jS a H b us c
tA:=vR A hr n
tB a:=dG (bO a)
wg a b c:=c7 a b dt b1 be c
wh a b c:=c7 a b dt b2 be c
wi:=e7 (vs=ls)
tC:=cb (j:=0)
wj a b c:=λ a a0 b=>c
tD:=bB p
tE:=aj H H'
tI a:=bZ (iT a)
Ke:=.head _
wk:=lk b
tJ a:=λ h1=>a
Kg a b:=jp Ch.cst iA d? a b
wn a b c:=#[a,λ i b c=>by exact(oz h).elim]
EN:=yI j
wp:=by have e1:=j1;have e2:=hz.now;subst e1 e2
wr:=by rw[eh]at hx
Kh a b c:=yK (p _ _ a λ b s4=>c)
tL a b:=λ a _=>b
tM a:=λ m=>a
ws:=λ _ _ h=>h
tN a:=λ n=>a
tO:=oI ai
Kk a b c:=iC kF O a (b nd O JP) c
wt a b e:=a (js mJ b ry e)
wv:=rI [13,47] gl
Q7:=lf==16
ww a:=by rw[i',a]
wz a b:=n3 a ap b
wC:=by rw[q!]
wD:=m4 bB J
wE a:=as ((a).all i!)
tS:=h1.2
tV:=.nil
wF:=vN e
wG:=m5 iQ gr dY
Km a b:=(a).P9 λ b=>vu
zv a:=oa kF dw a
wI a:=rp a py
zx a:=jv Ch.m7 d? a
wL a:=f8 rH a
wM a:=.P5 a e ct
wN a b c:=LI a L b J x0 c kl ke
zy:=bK "initial" e! Q7 (bK "east" e! J8 J9)
Kn a:=by unfold PW a
EP a b c:=a (q9 (b c))
wP a:=El (a - 1)
tX:=pv 3
t0:=pv 6
t1:=aa 9
wQ a:=by rw[gj a];rfl
wR:=DT l
Q8 a:=a×j4
wS a b c:=by exact(aE a _ O b c)
wT:=bd fi
wX:=bd bh
wZ:=nR px
w0:=pn pJ
w1 a b c:=WI B l bh J a b c
zD:=e7 En [] any
zE:=yz vq H' Ex l2 rC x0 e
w2 a b:=a (us.drop b)
w3:=bd k
zJ a b c:=a b (DA c)
w4:=by split<;>rfl
w5:=bd e
zL:=e7 D_ .In Ea
zP:=mY yX bW
w7:=r.to.drop 1
w8 a:=eH qt a
zQ a:=bO (cQ Z a)
zR a b c:=λ qu vs a b c=>?_
zS:=by rw[ew,n7 a3]
w':=br.2
zT:=u? p
zV:=hK - 1
w!:=Pn B
w? a:=vt H2 s2 a
Ko:=dT dQ
zW a b c:=λ u a b c hu hz=>?_
zX:=L.filter λ p=>bH yR p
z1:=yQ Eq b
xa:=.cluster
xb a b:=by refine a kM b
xc:=gj h
z5:=Ew bY
z6:=by rw[Et dW gk]
EQ a b c:=aT (BY A) hr ((eu qu,us),a) bC Z b c
xd a:=(a).length
z_:=Af us p
xe a:=aN s8 a
xf:=an u
z! a:=d3 a ai
xh:=an b
xi:=(iW,k)
Kq:=J' ay cR
ET a:=by rw[PT,a];rfl
z? a:=e7 (a=ld)
EU a b:=rK a A.g.zw rt b
xj a:=a e !=0
xn:=f? 0
xr a:=λ h=>a
xt:=hs hm
EV:=[f7,iN,EG]
Aa a:=by exact o8 a bQ
Ab:=rs t b e
Ad:=jy yH==yH x
Ah:=yT el
Aj:=by rw[Pr,Bool.eq_false_iff]
Al:=by simp only[eh,dW]
Kt a:=cd Vc a
Am a:=by rw[ck];unfold a
Ao:=jy lj==lj x
Aq:=jy jw==jw x
At:=by rw[vr];congr 1
Q9 a:=f5 Ql a e
Ku a b c:=lu PySem.F.plainAttrs_list a b c
Au a b:=eA xD a b
Kv:=n2 _ (n2 _ Ke)
xu:=h1.1
xv:=eQ x
EW:=ja _
xw:=.int
EY a b c:=by generalize a=b2;generalize b=c
Av a b:=fa a b L.map
Aw:=yZ a6 y2
Ay a b e:=a (pC mJ b ry e)
AA:=Em q9 s3
AC:=lf==17
AD:=J!==[]
EZ a b c:=by refine ah (eJ hk) ax m hm a;subst b;refine iO c nV;rw[e,g_]
AJ a b:=by rw[a,b,hE];rfl
AO:=vB lr eR
AQ:=ba H br bm
E0:=ca×J?
AR a b:=free (a:=.ins gm fc b)
E1:=EE uq
xz:=b+1
xA:=pv 5
AT:=n - 1
xB a:=bh - a
AV a:=by rw[a,jc]
AX:=L.Pairwise (· < ·)
AZ a b c:=VH a b c
A1 a b:=by simp at a⊢;exact b h1
E5:=Q8 a5
A3:=D7 lE P K
A4:=JS 11
A7:=jp Mt.full x
A_ a b c:=ah a λ b e1 e2=>(af q e1 c)
A! a:=(a).P9 dV (gl==6)
A?:=R×V×aD
Kw:=jp Dl n
Bb a b c:=a (b:=eo) (w:=c)
Bc a b:=dv a s4 b
E8 a b c:=aE a _ j1 b c
Bg:=lv qt ft dI
Bh a b c:=∀{H':Hp}{a:HO},b->c
Bj a b:=by unfold a;rw[b];rfl
Bk:=nU a4 V
E9:=rv p
Bl:=k::pL
E_ a b c:=λ a b=>QS c
Bn a:=by cases a<;>rfl
Bo b c:=b c a? b!
Kx a:=.inl (c? a)
Ky a:=(a).map (·.cls)
Kz:=e1.testBit 31
Bp a:=a6 a<=200
Bq a:=eL ll _ d' a
E!:=kh ap
Br:=yE fe
E? a b:=show a=b from rfl
Fa a b c:=show a by exact b c
Bs a b:=cq a (cq b ao)
KA a:=ke.length<=a
Bt:=PW n
Bu:=h.2.2.2.2.2
Bx a b c:=D0 a b c k
By:=.int (kI o)
BD a b:=aZ _ O a b
KB a:=a db 0
BF:=y5 (qN r)
BG:=ey+k
BH:=0+jz
BI:=I.getD p _W.no
BM a:=dM.k (k:=a)
BP:=dT dI
BQ:=ey+i
BR:=uE==4
BS a b:=af a b O
BT:=j! h2
BU:=j! cn
BX a:=BO A hr a
BZ a:=by rw[e,a]
B3:=pB h2
B4 a:=upd H' a o
B8 a:=wo (cw a)
B9:=aN o6 _
B_ a b c:=tY hU a b c O
Fb a e f:=by obtain⟨⟨a,d,kk⟩,e⟩:=f;rw[y3 hR hs,f6]
Fd:=mY f3 ey
B' a:=o?==a
B!:=_<=1000
B?:=an vb
Ff:=eu gr.1
Q_:=ub l
Ca a:=aN s3 a
Cb a:=aN s4 a
Cc:=dp qt
Fg c d e:=by obtain⟨⟨a,I⟩,b,c⟩:=q;rw[pE hS kn a_];dsimp only at hS d e
Fh a b:=by simp only[a,eh,dW]at b;rw[Kn t6]
Fi a b c:=vV H2 a ED b e c
KC:=by simp
Cg a:=λ H5 s5=>a
Ci a:=λ fs h=>a
Cj:=vN dd
Ck:=R->V
Fj a b c:=Kk eL a q_ dU b c
Fk:=vw a (Kg a m).2
Cl a:=λ p=>a
Co a:=.inl a
Cq:=J+k+1
Ct:=b7 1 X.A
Cv:=vc+k
Fm:=Kd el
KD a b c:=aE a _ t4 (.inr (b c)) J1
Fo a b c:=bn (b9 _ dx fs dT a C' b c)
Fq:=m2 (cz nd O D8 D9)
Cy:=e::es
Cz:=dH 33
Fr a:=Kh zb H4 a
Ft:=λ j=>yU mu va j
Fv a b c:=c7 a b dt b3 be c
FA a b:=m1 k8 a (c? dT b)
FB:=Km vP u
FD:={kind:=.function,names:=[],isGenerator:=false,isCoroutine:=false}
FE a b:=bn mW c? a b
FG:=n==9676&&!([9,15,30,31,13,47].uw gl)
FJ b c:=ru (b r3 gv a? iM (VC c))
KE:=nW [33]
FM:=by rw[Ch.sU];rw[EJ JD]
FN a b:=by have:a:=eT (b (x! h))
Q':=f4 Vc hk
FO:=Q9 hj
FP a b c:=by refine ah j1 ax a e1 b;exact(af q e1 d' c)
FR:=jv xO y n
CA:=aa 8
FS:=rP Ii iE
FU:=Es HV
FY a b c:=by rw[c3 (a+1=b) xT c]at az
F0 a b c:=∃a kl ke,v=dp qe/\j? H b/\c
KF a:=Qw a
F2:=max 3 d.book.scripts.length
Q! a:=cd VQ a
F6 a:=CH a
F7:=vJ Ko
F9:=(V×ca)×R
Q? a b c:=CG A d! lh a (QO s1) O ad b c hu
F_:=by rw[q!];simp
F':=vL||false
F! a:=a (DK (s4.trans s5))
F? a:=by rw[a,dW]
Ga:=nO ro vN ?_
Gc a:=by rw[a,ep]at hx
Rb:=[13,47].uw gl
Rc:=U2 hn
Gd a b:=by have a:b:=by rw[rU]
Gh a b c:=by rw[a,b,ep,c]
Gi a b:=jv PY a b
Gj a b c:=by obtain⟨a,b⟩:=Gg (t:=t) c
Gk a b:=lc Dw a b
Gn:=rS==0
Go a:=pi H2 s3 pK a H2 s3
Gp:=vK y==[]
Gq a:=(fv).getD a
KG a b c:=c6 λ a b=>#[zh,c]
Gr a:=λ v l h=>pk gD a h
Rd:=pn b?
Gs a b c:=j0 (λ a=>fo CU z) (G0 b c)
Gt a b c:=by have a:=gh.len;have b:=c
Gu a b c:=a (p:=λ b:Dc=>c) n9
KI:=jp PE x
KK:=cP c H dR a? br bm
Gw:=d8 mJ gr H
Gx:=ze+jz
GA:=bH (kv.1=Q_)
GD:=D7 nS P K
GE:=JS 15
GH a c d:=a0=a/\b<=k/\c/\m=k - b/\d
GI a b c:=by cases a<;>cases b<;>cases c
KL a:=as (a i!)
GJ:=da (by simp)
GK:=e6 o [m]
GM:=bP eO aF Z
GO a b c:=if(as a)then b else c
Re a b:=if a then b else aH
GP a:=fo HO.tup a
GT:=ci qe
GU:=ci ay
GX:=ci qL
GY:=ci wa
G1:=ci qu
G2 a b c:=.v a cN (.v b cN c)
G3 a d e:=a (EK c λ I b d=>.bl e)
G4 a b c:=lI (WE a b bh c)
G5 c d e:=c (d:=e) (a:=b) (k:=n!)
G7:=yE gr.2.1
G8:=by dsimp only at hs
G9:=("kinds":a4)
G_ a b c:=upd a b (.lst c)
G':=iz rY n
G! a b c:=by rw[a (Ne.symm b)];exact c
G? a:=og (wK A) hr a
Ha:=_W.lb B y n t
Hd a:=a6 a<=1000
He:=nR Ey
Hg:=nR DC
Hh:=Pv n
Hj a:=wipe a (Q1 (·.2))
Hl a b:=b8 a (ub b)
Rf:=lk uh
Hm:=zf Z
KM a b:=fO (a b)
Hq a:=eW aF ac a
Hs:=bd mu
Hv a b e:=a (Hz mJ λ d b=>e)
Hx:=bm.2.2
Hy:=i<b?
HA:=bm.2.1
HB:=V×aD
HD:=yS pO !=0
HE:=q9 s2
KO:=fO s2
HF:=j=vM
KP a:=a+1<hG
HG:=Pv (mN+1 - ey)
HI a b:=∃(a:R),b
HJ:=ph R
HP a b c:=xm (α:=R) a b c
HQ a:=.i? (.i? a)
HR:=me hK
HS:=bK "final"
HT:=fW dk
HW a:=aW tm a ai
HZ:=jA zj
H_:=DR x r
KQ:=dT cR
H!:=aN dF wJ
H?:=.ListComp _ _ sc _
Ia:=yE bk.2.1
Ib a:=(a).flatten
Id:=fW Key
KS:=eu dR
Ig:=pB h1
Ih a:=us.drop a
Ik:=L.take k
KT a b:=(a).CK b
Io a:=gF eO a Z
Iq a:=ey+a
Ir:=bY (i:=7)
Rg:=n==8208
Is:=la i
It:=h.2.2.2
Iu:=e5 0
Iw:=an x
Ix a:=aP a dh
IA a b:=λ a b=>?_
IB:=z.1.sa
IC:=max m (a+1)
KV a b c:=a Kq be (E4 a3) b m2 r0 c
KW a b c:=vC (pd 3 (f:=dV a) O nd b ap) rV k8 av d' e? gn c
IE:=λ _ _ _ h=>h
IG:=cT hl
IJ:=j<=bh
KX a b c:=by obtain⟨a,hz⟩:=n? l I n! (by exact b c a_);have cI:(hV)=bD iU:=by exact xP hk
KY:=yz vq H' (rm kl (kN J) (vN iW)) l2 rC J (J+k)
KZ:=y? kZ cQ up A.fE.w_ h4
Rh a b c:=dy x2 a dy uz x3 cm b c
IK:=dH 37
IL:=n==m
K0 a:=zc ["book","record","scalar"] a ("scalar",2)
K1:=mY f3 o!
K2:=Q? eN Z iE
K3:=mY f3 mN
K5:=lD ga n bD (Kw).cls
K9:=n3 b? ad m1 (aE qu vs t4 Kx Ka hl)
K! a b c:=aT (mC A) d0 a bC b ac c lT KC
IM:=n+1
K?:=e+1
Lc a b c:=f3 a b ai bn mW jY cR c
Ld:=n3 fL ad m1 pK vg H1 s1
Le:=vQ (x? x)
Lf a:=na ["self","book","text","scalar"] a ("scalar",3)
Lh:=n2 _ (n2 _ Kv)
Lj a b c:=by rw[a,q!,b,dW];exact c
Lk a c d:=#[iU - b,f4 Fp hk,n!,?_,Q',f4 a c,rfl,d]
Ln a b:=yA Qb a b
Lo:=Ky lw
Rj a b c:=bn (b9 _ dx fs dT a I0 b c)
Lp a b c:=by rw[nb (λ aU hj=>gG a ax p q b) c]
Lq a b c:=e7 (P4 a g mR hH b=hH c)
Lr a b c:=ae ad kP a ap bC b c
Lt a b c:=aP kc a (cJ (iy dw b c))
Lx a b:=eA CH a b
Lz a b c:=by rw[od Cr (∀a∈hY,EA) (λ b c=>Rc.2)]
LA a b c:=by generalize a=b0;generalize b=b1;generalize c=b2;revert b0 b1 b2;decide
LD a:=m_ a yp
LG a b c:=FW A a bn Ka hU O b c O
LL a e f:=by obtain⟨⟨b,d,kk⟩,⟨wa,a⟩,e⟩:=f;rw[pE hR hW hs,f6]
LM a b c:=EH 0 a aQ bQ b ad ac A.g.wm c
LP a b c:=by rw[IT,List.length_singleton];exact a b c
LR a b c:=∀(i a:R),b->gy i n->as c
LS:=Rg&&!Rb
LT:=kc zl i
LX a b c:=by rw[ce (ah (eJ hk) ax a hm b) c]
L0:=Kt hk
L1 a:=by apply List.map_congr_left;intro a _
L2:=DT (jh jp ut y)
L3:=eH l rJ ?_
L4 a b c:=by(have a:b:=by exact Nat.eq_zero_of_not_pos h0);subst c
L5:=by rw[xH]at h1
L6 a b c:=∀{a:R}{b:R},dg c k n->EA
L9 a b c:=by obtain⟨⟨uv,us⟩,p⟩:=q;obtain⟨⟨qu,a,g9,eN,b⟩,hp⟩:=hp;dsimp only at g9 eN hU hp⊢;rw[gc g9 c]
L! a b:=Q5 ((a==("__debug__":b))=false)
L?:=pr ux.is.cls [3,22]&&pr uy.is.cls [3,22]
Mb a:=a (lo:=y!) (hi:=bB mN+1)
Mc a b:=by rw[I1];exact a b
Md a:=m? bJ a (CO h)
Me:=Re Rf an m
Mf a:=f4 JA a
Mg a:=by have:=U' a
Mh a:=Di oc b a
Mj:=Iv A zs ad a! cI hz
Mk a:=beq_eq_false_iff_ne.mpr a
Ml a b c:=yK (p _ _ a λ b s7=>c)
Mn:=KB List.replicate
Mo:=CO hn
Mp a b:=EP JO a b
Mq:=by exact Int.ofNat_eq_zero
Mu b c d:=[ly,km,b,v4,bd a,c,d]
Mv:=y7 yh
Mw a:=by exact aG a fh
Mx a:=by rw[eh]at a
MD a b c:=by dsimp only at hv a hy cR b c;subst hv hy
MF a b c:=by dsimp only at a b hle c;subst hv
MG a:=jv ut y a
MH a b c:=by refine ah (hU.2 _ a hv) ax b c hO
MJ:=pr fS [42,26]
MK a:=by rw[a,hE];rfl
MM a b:=JN B a b
MO a b d:=(free (o:=.ins gm fc a) b).trans d
MP a b c:=by dsimp only at a b hv c;subst hv
MQ:=Dl eo (eQ x)
MS:=p7 λ p=>!zt
MU a:=by exact a (by assumption)
MV:=by unfold QN
MX:=nU cs JB
MY a b c:=a (Vn b y c)
MZ:=λ x=>bN (g (eQ x))
M0:=Rd=db
M2 a c:=kS C2 2 (rk a b c)
M3 a:=by rw[a,ep]
M4:=rJ hL
M6:=n::zn
M7 a:=lx gm H v a b e
M8 a b c:=j6 (.Dd a b ct) c
M_:=tx mU eR
M':=t3<=1000
M!:=r.value.testBit 12
M? a:=PK a
Nc:=(nc).parts
Nf:=jh λ n=>yC
Ng:=dl lo+vj
Ni:=jv _W.wf y t 0 b (L.take k)
Nj:=dl hG - 2
Nl a b c:=if(as a)then b else c
No a b:=(a).Qh b
Np:=!t6 c&&!t' c
Nq:=bP cM Z ap
Ns:=cf X.K gm g
Nu a b:=o8 a b
Rk:=D? mN
Rl:=r4 bad
Nv:=jp Dl m
Nx:=bD (DZ s)
Ny a:=r.to.all dV a
Nz a:=zp (¬a)
NA:=f5 oT hi e
NB a b c:=tF (P:=a) b Z ap c
Rm a:=DK (a s5)
NC:=dl ey - o!+1
NE a b c:=a (P:=b) (w:=c) (t2:=t2)
NF a:=z'=b? - a
NG:=jv Gm y t
NH a:=fq pe a p
NJ:=dl uD
NK:=I4 n
NO:=λ h=>CD h r7
NQ:=a4->ph Value
NR a:=jp a gi
NT:=f5 Ms hle jb
NV:=ps aF
NX:=ps a!
NZ:=kh Z
N2:=y1 el
N5:=X.A.units+1<cLine
N! a:=a+1<b?
N?:=by assumption
Ob a b c:=xS (n:=a) hU ch i2 O b c
Oc a b c:=GQ a hz (λ _ _ b c=>nomatch h)
Od a:=h.hi j x a hx
Of:=a?<65536
Oh:=ph cs
Oi:=i! x
Oj:=tG.later s1
Ok:=yh s1
Ol:=Pz vN
Om:=yS (b+k)
On:=_<=1114112
Op:=rh 2
Os:=rh 3
Ot a:=(a).Pairwise (· < ·)
Ou:=u? bh
Ov:=u? fi
Ow:=kp (8:bF)
Ox:=j<i9
Oy:=y1 n
Oz:=jB x p'
OA a:=a=b?
OB:=λ b' o' hb=>?_
OC:=o!=2
OE:=nomatch hb
OF:=fW Stmt
OG:=jA Kp
OH:=jA Cf
OJ:=D? a
OK:=v7 nG
OM:=ac Jh
OR:=aN j_ zg
OS:=aN j_ Ji
OT a b c:=λ q a b c h2 h3=>?_
OY:=mN+1
O0:=uD=3
O1:=uE==5
O3:=bK "ring"
O4:=fW a4
O5:=j! h3
O6:=l.getD j 0
O7:=IO k
O8:=vN gl
O9:=(0:bF)
O_:=n<16384
O':=(2:bF)
O! a:=bY (a:=3)
O? a:=bY (a:=9)
Pa:=_B.dj B
Pb:=jh g
Pc:=b8 aq (kN n)
Pd:=pJ - i
Pe:=ul - 1
Pg:=oo r
Pi:=wK A
Pj:=x::r
Ro a b c:=by rw[on (aP fr zl i (mV fH) fd fr ou kf zv (aP kc z5 a) ox s_) n' p,<-#[lQ,λ l hl=>#[wj z H' b,c,?_]]]
Pm:=a+k
Rp a b c:=by rw[m8 a1 a2 qg,m8 b1 b2 a];have:=yg Hn j b a1 b1 c
Rr a c f:=by rw[EZ aU aU (aT (a A) d0 (gH,m) bC Z c d! #[KO,f])];rfl
Rs a b c:=gx (oh uH d0 a ad ju kG.cu bC ac b aF O bn #[kG.later s1,sb (c<15)])
Rt a b c:=cZ=a/\m' k/\z'=db - k/\l_/\fa H2 l h? vH/\dn++lc b m k=vA c t m 0/\Jk<=k
Ru a b c:=a0=a/\m' k/\z=db - k/\oi/\fa H' l h? vH/\dn++lc b m k=vA c t m 0/\Jk<=k
Rv a b c:=.p a EQ b E! E_ H6 s6 s6 nT Ai c
Ry a b c:=by rw[<-v8 a nd (Bw r5 f5 Jq iE hm r5 ?_ cd ab0 hn O b),l0 c iE]
RA:=n3 t3 aF rV KD ay jY e? cR
RB a c d:=by(have xQ:k=b:=by exact a c d);subst xQ;have fU:wd (hV>=jz):=Es Pt
RE:=Rh re rf Db
RF a b c:=dX a dp b (cQ ad Rj hb A.bj.Nh Hf) Z bn mW c? c (cb kU)
RG a c e:=oh a hr (gH,n) ad ju c d1 ap O bn e
RI a b c:=zr (lG (Ku Vh Vj a b (iG aI fH))) c
RJ a b c:=zr (lG (Ku PySem.F.slot_list_extend PySem.F.type_list_extend a b (iG aI fH))) c
RK a b c:=z3 3 (f:=dV (bN (!(PE eo (eQ x)==[])))) O a zc b c ("scalar",3) ap
RL a b c:=ds zQ d! (b9 _ dx fs lh hw C' a b) c
RM b c d:=b (RQ (λ a:WD=>[Ff,fe,lr,we,vN bm]) c fl d)
RN a b c:=by obtain⟨u,hu⟩:=n? l us AT (by exact a b c);have iE:zV=bD r5:=by exact Ds h0
RO a b c:=by rw[E? ([33,36,35]:aD) ([33]++[36,35]),tR,tR]at h1;(conv in JR=>whnf);simp only[kQ,wq];revert h1;rw[Ef iL [3,22] KE b1,EY iL [33] nW [3,22] b3];generalize iL [36,35]=a;generalize nW [36,35]=b5;generalize(vl [36] [24,16,17]||b)=c
RR:=vl [27,29,28,20,21] [35]
RS:=vl [27] [27,29,20,21]
RT a b c:=a0=a/\oi/\k? H' l1 kl/\j? b l2/\c/\kl.length<=1+rQ/\KA rQ
RU b d e:=b (RQ bi (d×E0) [KS] bA KK dL e)
RV:=mY f3 jV
RW a b c:=by rw[a,jc,show iJ bB e 31=v5 from EW 31,show iJ b 31=Kz from EW 31]at c;rw[aR];rw[zu hq v5 Kz]
RX a b c:=∀(a:Hp)(u:V),yJ->u=dp b->Ed (aC K H1 q xs) (aJ K H1 q xs) c
RY b c d:=b (RQ bi (BK×E5×sd) [f7,dp lr,br] bA c fl d)
RZ b d e:=b (RQ bi (d×ks) EV bA (se/\a?<=b!/\b!<=r_) dL e)
R0 a b c:=k? a l1 kl/\j? H2 l2/\b/\kl.length<=1+rQ+k/\KA c
R1:=vl [29,20] [29,28]
R2:=vl [28,21] [28]
R3 a b c:=a/\j? b qe/\fa c l h? vH/\dn++((zJ yU nu j).2++lc ym m nu)=vA ym t m 0/\Jk<=x
R5 a b c:=aX a bG b ac uX mX v' h1 EU c Dt
R6 a b c:=aT (a A) d0 b bC aF ch p3 c
R8:=v6 (EH 1) A.g.Jg ap
R9 a b c:=by(have hn:kp (Rk - y!)=a - b:=by exact c);rw[ck]
R' b c e:=b/\j? c r/\(Ch.iD d? a\/oA e=false)/\qo ke p_ (i<a/\zx i)/\ke.length<=a
R! a b c:=by obtain⟨a,b⟩:=eA wc p uK c
R? a b c:=by simp only[xH,a,b,xG]at c
Sc a b c:=sl 2 n a bQ nf b n hn ad ac A.g.uG c
Sd c e f:=aT (Kl A) hr (ol,b,c) hQ ad ap e bn f
Se a:=na ["self","book","ways","text","scalar"] a ("scalar",4)
Sf a b c:=by rw[m8 a b c];rw[KF h1,h2,rz VN aeE]
Sg a b c:=aT (a A) hr b d1 Z bn #[pk lV s1 fw,c]
Sj a b c:=(∃p q,a0=a)/\∀(i n:R),i<k->dg gi i n->as ((b).all λ y=>c)
Sk a b c:=by rw[ET (CH (by exact a b c))]
Sl a b c:=GB 3 (xs:=jK a) n5 k' b kF O c
Sm a b:=by have:a:=eT (b (List.length_eq_zero_iff.mp h))
Sn a b c:=by obtain⟨a,hy⟩:=eA n? l I (b - 1) Ps a_;have o5:(zT)=bD pO:=by exact xP c
So:=iL [35,36,23,26]
Sp a b c:=by rw[ce (ah (t? a) ax i hi b) c]
Sq a b c:=a (xs:=b) n5 k c kF O nd
Sr a b c:=by simp only[t5,rb,xG,a,b,c]at h1
Su a b c:=d! (b9 _ dx fs dv s2 su a C' b c)
Sv a b c:=vt H1 s1 E8 a (c? dT b) λ p H2 s2=>eH p e? c
Sw a b c:=by refine ah (a.2 i v hv) ax b h1 h2;exact(af u h1 c)
Sx a b c:=by obtain⟨⟨uv,us⟩,a⟩:=q;rw[cr aO zR g9 eN hU];dsimp only at b eN hU⊢;subst g9;have hl:E1:=hU.1;unfold c
Sy a b c:=aX ff a b bG hq cN Rl (λ hq=>c6 λ H3 s3=>good c H3)
Sz a b c:=#[λ cZ H2=>∃z',z'<a - b/\c,ws,?_]
SB:=r.key.all dV (KI==[])
SC a b c:=a/\aj H2 b/\fa c r dn.map/\dn++vw j EN.2=vw fi (yI fi).2/\Jk<=j
SD a b c:=uT (P:=λ v _=>v=wF) hU g! a! zW a b c
SF:=Di oc b e
SH:=Em q9 Rm s4.trans
SJ a b c:=∀j,a->j<bh->∃b,pP j=bd e/\c<=e/\e<bh/\EN.2=(e - j+1)::(yI K?).2
SK a b c:=a (Ch.zk u) (b u) (Ju u) (Ch.uR u) (Ch.wA u) (c u) (Ch.z4 u) (Ch.zm u)
SL a b c:=(∃p q,a)/\∀(i b:R),i<k+1->gy i e'->as v? (c=0) (i - 1) e'
SN a:=vN jv xO y a
SO a b c:=#[op qm s4 a,b,show fL<=64 by exact le_of_eq_of_le c a3]
SR a b:=by simp only[rc,a]at b
SS:=by(conv=>lhs;rw[<-List.dropLast_concat_getLast h0]);rw[rg];rfl
ST a:=by rw[<-a,List.not_all_eq_any_not]
SU:=lP rn
SW a b:=Vf (a:=b)
SX:=by intro n hn;obtain⟨i,hi,rfl⟩:=U4 hn
SZ:=ru vA QA t (VC m)
S0 a:=Fa (p<b?) uK a
S1 a b c:=qM _ _ _ kl ke O a b c ?_ Q! c_ Q! gR
S2 a b c:=KP j->pS->∃a j',pP x=bd e/\j<j'/\dg L j' e/\(F j).2=(b,c)::(F j').2
S4 a b:=eA a Dh b
S5 a b:=c3 a P? b
S7 a b:=List.find?_cons_of_pos (p:=a) b
S8 a b:=List.find?_cons_of_neg (p:=a) b
S9:=by rw[Pr,xJ]
S_:=by rw[ii hg,da (by simpa using hg)];rfl
S':=by rw[U6]
S! a b c:=by refine gI 2 a (P1:=pA u b) c λ u H1 s1 hu=>?_
S?:=CH h
Ta:=vi rn n
Tb a:=λ i=>by rw[<-a,DH]
Td a b c:=∀{H1:Hp}{a:R}{b:DM},yJ->c->∃xs,aC K H1 qk xs/\kL xs bB i=bd uF
Tf:=Nat.le_of_ble_eq_true O
Ti a b:=jv Q2 a b
Tk a:=f4 VQ a
Tl a b c:=a (b c) e.s.heap.objs.size e.f e.aK
Tm:=wb jV==0
Tn a b c:=aX a bG hx cN nO (j0 bN (HN b ?_)) m3 KG H4 s4 (Fn hm ?_ c)
To a:=cd P? a
Tp a:=DT (jh (ut B a))
Tr:=ph (pb×R)
Tu a b c:=by refine h' (a z! (b IV ap m1 (aE ay _ t4 (.inr (jY KQ)) O)) c);rw[e];rw[vr];unfold A9 UU;rw[hx]
Tv a:=a×j4×aD
Tx a b c:=k? a l1 wW/\k? b l2 wV/\c/\wW.length<=1+rQ+el/\wV.length<=rQ+el
Ty:=bN (i! (eQ x))
Tz:=KL r.to.all
TA:=gj (by simpa using hg)
TB:=y7 hb.later
TC:=jv ut y n
TD:=PP pU (r.to.getD 1 0)
TE a b c:=AE l a _ _ O O b c ?_ ?_
TF a:=a×DM×v9
TG a b c:=mo (BJ X.K (aL a iter)) (dC i) kO (j5 X nJ elt) (Q1 (·.2)) σ b c
TH:=if jw x=10 then 10 else 4
TI a:=PZ a yB lf
TK a:=KM JC a
TL a:=U8 a
TM:=kS Mt.canonRows
TO a:=as (QN a)
TP a b c:=.ListComp a [#[jB y jd,b,c,0]] nJ ct
TQ a:=or_assoc.trans (or_congr_right a)
TR:=jy i!
TT:=m' fL
TU:=u? b?
TV:=if wk then 0 else -1
TW a:=KT a i!
TZ a b:=show a by simpa using b
T0 a b e:=by rw[cr wO a,po aQ bb hR];dsimp only at ft dI b hW e jN f9⊢
T1:=max 3 d.ns.length
T2:=pn el - 1
T3:=rh 7=false
T5:=t6 n
T6:=(gv).split
T8:=MtLine.lacks o||oq
T9 a:=vN (m.getLast a)
T_ a:=Dg a E9
T!:=t3==2
T?:=la i9
Ua:=OW.later (vZ.trans s4)
Uc a:=a (DK s4)
Ud:=t3=2
Uf:=Pv 10
Uk:=("kind":a4)
Ul:=q.testBit 31
Un:=(16255:R)
Uo:=b? - 1
Up:=ha.later s1
Uq:=c0&&vX (pg z_)
Ur a:=eT #[by omega,a]
Us:=Hb.trans s6
Uu:=jV::gi
Uv:=0<db
Uw:=jA acF
Ux a:=fn (a "kind")
Uy:=Ak.yd p hp
UC:=x.conj==2
UD:=uh&&!C7
UE:=ac Dt
UG:=Mt.flag B
UI:=ac A.g.yG
UJ:=C4==2
UM:=uF==4
UO:=Dp vN
US:=o_ g
UT:=e - b - 1
PB(p:HJ)(e:R):_B.mH p e=GO (Js e) (match p with|an q=>Ul==v5|aH=>false) (qK e&&xZ e):=by unfold _B.mH Js qK xZ Mt.variable_;cases p with|aH=>dsimp only;rw[Ef xj Mt.weight1 xj Mt.weight2 b1,EY xj Mt.weight3 v5 b3];revert b0 b1 b2 b3;decide|c! q=>dsimp only;rw[Ef xj Mt.weight1 xj Mt.weight2 b1,EY xj Mt.weight3 v5 b3];generalize Ul=b4;revert b0 b1 b2 b3 b4;decide
acv{B:g?}{i n:R}(h:gy i n):xC B (IO q8)=xC B (IO i)++_B.lW B n:=by rw[IR,h,_B.Zh];simp[xC]
adq{B:g?}(F:Pa)(n:R):a6 (_B.dO B n)<=18:=by unfold _B.dO;split;(.rw[Aa (F.LB n)]);.rename_i h;rw[<-bL (_B.map_some h) λ r h1 _ h3=>?_,im h3 (F.row 1 r bQ h1).most]
aaN{B:g?}(F:Pa):∀m:aD,a6 (xC B m)<=18*fL|[]=>by simp[xC]|x::m=>by have ih:=aaN F m;(have h1:a6 (_B.lW B x)<=18:=by unfold _B.lW;split;(.simp);.exact adq F x);unfold xC at ih⊢;rw[List.flatMap_cons,IT,mB];exact Nm h1 ih
OD{X:Cx}{H:Hp}(h:ba H u l):Ed (aC X.K H q xs) (aJ X.K H q xs) i9:=by obtain⟨a,rfl,h⟩:=h;exact #[a,_,rfl,.inl (c? h),by rw[ew]]
A9.1(B:g?)(r:Mt.Row):cs:=UU B r&&jy (w! 2)==w! 2 pU&&(jy (UG 12)==UG 12 pU&&(jy (w! 3)==w! 3 pU&&(w7).all dV (w! 2 x==(if w! 2 pU=10 then 10 else 4))))
anz(A:Y):wt (gp 5 "canonical_row_stays_cluster") y5 (as TR/\Tz/\t3<=2) jp A9 r:=fx A.ag0 aa0 λ a e H hr hp U hU=>by rw[iX,cr lK λ hR fw bf bJ lZ hle=>?_];rw[f6,<-i_ (id fw) λ ar y hv bo ay hy cR=>?_];dsimp only at fw hv bo hy cR bJ lZ hle bf;subst hv hy;rw[ck,c2 yX (i5 aa0.nd) mY bW];(obtain⟨x,l,hx⟩:∃x l,gi=x::l:=by cases h:gi with|nil=>rw[kw h bf]|i? x l=>exact(dZ x l O));(have zB:as Oi:=by rw[hx,IU,eh]at lZ;exact lZ.1);rw[hx]at cR;refine aX tB (aT (aDb A) hr (gH,jV,x) hQ ad RV Lc x ap (tC O) bn #[nc,bJ,zB]) j! hq j! hq;(.rw[iV cN];unfold A9;rw[hx];simp only[UV];revert hq;dsimp only;first|(rw[LA Aq Ao Ad])|(rw[GI Aq Ao Ad]<;>simp));. (have fD:as Aq/\as Ao/\as Ad:=by revert hq;dsimp only;first|(rw[LA Aq Ao Ad])|(rw[GI Aq Ao Ad]<;>simp));cases l with|nil=>rw[Tu (fP (y:=false)) (di (m:=1)) (λ h=>by cases h)];simp[fD.1,fD.2.1,fD.2.2]|i? z l'=>(obtain rfl:l'=[]:=by rw[hx]at hle;cases l' with|nil=>rfl|i? _ _=>simp at hle);(have uI:qd z:=by rw[hx]at lZ;simp at lZ;exact lZ.2);rw[Tu fP (di (m:=2)) xr (bZ (aT (ayI A) d0 (gH,x,z) hQ ad k! f3 x ap cR k! f3 z ap cR bn #[nc,zB,uI]))];simp only[UV,fD.1,fD.2.1,fD.2.2,IX,ep,List.drop_succ_cons,Pp,IU,List.all_nil];rw[zp wd (pp (2:R)=1),jc];show _=((_&&_)&&(jw z==TH));generalize(jw x==0||(jw x==4||(jw x==8||jw x==10)))=q1;generalize(jw z==TH)=q2;generalize(if lj x=2\/lj x=3 then lj z==3 else if lj x=1 then lj z==1||lj z==3 else bE)=q3;first|(revert q1 q2 q3;decide)|(cases q1<;>cases q2<;>cases q3<;>rfl)
OO.1(H:Hp)(v:V)(l:aD):Prop:=∃a x y z,v=dp a/\H a=fo .tup [x,y,z]/\cU H z l
ak1(x y:cs):(!bH (bN x=bN y))=!(x==y):=by cases x<;>cases y<;>decide
agL{X:Cx}{σ:ei}{H:Hp}{a b:dk}{ct:ej}{x y:cs}(ha:jI a x)(hb:jI b y)(hm:yQ NotEq b):mk i0 NotEq [b] (!(x==y)):=Te.of (tZ Ue aI aI hm) λ H1 s1 Q q=>mL Up λ H2 s2=>mL TB λ H3 s3=>(eM O _ O (by rw[ak1];exact q H3 zb))
Zv(A:Y):ie "weights_hold" (RQ bi (V×V×aD) [a.1,a?] bA (OO H a? b!/\Hd b!) dL (i7 (UW aH b!))):=fx A.aLF Eb λ a e H hr hp U hU=>by obtain⟨vb,v,l⟩:=a;obtain⟨⟨ar,x0,y0,z0,hv,bo,ay,hz,cR⟩,a3⟩:=hp;dsimp only at hv bo hz cR a3;subst hv hz;rw[ck,c2 yX (i5 Eb.nd) mY bW,c2 (abR 3 (hi:=bB i9) n5 k ((∃p q,a0=[B?,oH,GU,p,q])/\∀(i e:R),i<k->gy i e->as v? (i=0) (i - 1) e) kF O Eb.nd q_ d1 wz i9 rV KD ay jY e? cR cd aJu a3 lT wn oR e h) ?_];(.intro k a0 H2 s2 hk j;(rw[Lp aU a9 a9]);(have cj:k<i9:=by exact Pq hk);obtain⟨e,he⟩:∃e,gy k e:=#[_,F6 cj];(have ge:ls[k]?=w5:=by rw[nm he]);have ado:∀H3,aj H2 H3->aJ K H3 ay ls:=λ H3 s3=>jY vJ cR;rw[c2 kZ (bI 4 Eb.nd) e (bW ap aF (λ H3 s3=>cA (ado H3 s3) (by rw[U0];exact cb ge)))];have good:as v? (k=0) iU e->∀H3:Hp,SL ([B?,oH,GU,m4 BH,w5]=[B?,oH,GU,p,q]) e' i:=λ h H3=>#[oR,λ i e' hi pG=>by by_cases Vo:i=k;(.subst Vo;rw[a7 he pG pG,h]);.exact hj i e' f5 oT hi Vo pG];have bad:v? (k=0) iU e=false->(bN hA=bN (UW aH l)):=eT (by rw[vr,Aj];intro b_;have:=(_B.N7 l aH).mp b_ k e he;rw[a7 h az az]);refine r6 (N1:=λ cZ H3=>SL (cZ=[B?,oH,GU,p,q]) e' i) gx os ayh e a! bt bt (λ cZ H4 s4 h=>c6 h);(.by_cases jU:k=0;(.subst jU;refine aX rq (dr (y:=bE)) (eW aF ai) NO cL (aG cN Rl) NO;rw[PB,ip hx,pt]);.obtain⟨e1,SV⟩:∃e1,l[iU]?=an e1:=#[_,Lx Ps cj];(have ge1:ls[iU]?=bd e1:=by rw[nm SV]);(have aR:v? (k=0) iU e=(Kz==v5):=by rw[PB,ip hx,ii jU,SV]);have h0:wd (O9+jz=0):=Au akW jU;refine Sy (eW aF ai) (eE (agL K! (dl e,31) a! A.g.Lb K! (dl e1,31) (f3 e1 ap NV (λ H3 s3=>cA (ado H3 s3) (by rw[c3 ((BH - 1)=bD iU) arW jU];exact cb ge1))) A.g.Lb)) ?_;(.rw[RW h0 bB e1 hq]);.rw[RW h0 bB e1 hq]);. (have aR:v? (k=0) iU e=(qK e&&xZ e):=by rw[PB,da (by rw[hx];simp)]);refine Sy tB os agm e a! (eE (dG (bO os aky e a!))) ?_;(.rw[aR];rw[zu hq (qK e) (xZ e)]);.rw[aR];rw[zu hq (qK e) (xZ e)]);.intro a0 H2 s2 j;(rw[nb (λ bu hj=>gG bu ax p q bU) bU]);rw[iV cN];rw[Pr];refine(_B.N7 l aH).mpr λ i e he=>hj i e ?_ he;have:=gA he;rw[d7 Pq]
N0.1:(pH V)|em z=>yx z|_=>false
oN(n:R):yx hK=yC:=by rw[Et Uz Pu];constructor;(.exact eT h.2);.exact eT #[jA tu,h]
aou(r:q?)(n:R):(KT lD Hh k kE sz N0).map id=jK TW lD Hh i Iq i:=by rw[U1,Py,Py,hE];(have e:(N0∘λ(k:R)=>kE sz)=(i!∘λ i=>Iq i):=by funext k;show yx sz=i! BG;rw[<-oN];congr 1);rw[e];rw[L1 k];show e5 sz=kE bD BG;congr 1
qN.1(r:q?):Prop:=ey<=mN/\mN<1114112
IF(A:Y):cB "scalars_of" (RQ bi (V×R×q?) [a.1] bA (mT H dR dd/\qN b!) fl ln (Mt.inside b!)):=k9 A.akH J3 dt b1 be λ a f aK A' cx s H0 H E hr hp U hU=>by obtain⟨v,num,r⟩:=a;rw[cr bX λ aS hle jb=>lv ar hv bo];rw[MF hv bo jb];have ed:na ["record","scalar"] DN ("scalar",1):=jC (mQ [match cw DN with|.Return an e p::_=>.Assign [] e p|_=>.Pass #[0,0,0,0]]);rw[R9 OY ey KR,<-m0 (Mb (Yb 1) (f:=id) (t:=N0) O J3.nd ed q_ bC k! f3 ey ad bo kh k! f3 mN ad bo NT be (by rw[hn];rw[n7 c3 On Um jb]) (λ s' dE C cl fp k hk=>gx os um sz Z) (λ s' dE C cl fp k hk ht=>Z) m2 r0 J3.nd) h! bx bx ?_];rw[h,aou,hn];rfl
ahd(A:Y):Ay (ie "combining_extends") BF kC hY n (rS==4&&lj n !=2):=fx A.af3 V8 λ a e H hr hp U hU=>by rw[iX,pE hR fw aR,f6];dsimp only at fw aR;rw[Lz n n hn,<-GB 2 (xs:=jK hY) n5 k ((∃p,a0=[sT,an v,p])/\∀(i n:R),i<k->hY[i]?=an n->as (rS==4&&lj n !=2)) kF O V8.nd Sg IF (v,num,r) aR qW cy vh cy a d' h lT wn zh n h ?_ ?_];(.intro k x a0 H2 s2 hk j;(rw[nb (λ aU hj=>cG aU cS p a9) a9]);(rw[nk n bu bu]);have hs:=nf Cr n hn;have eI:=fO s2;refine aX ff nw (sl 2 n eI bQ hs ad ac A.g.uG ap) A.g.F4 (eE (eW (sl 3 n eI bQ hs ad ac A.g.sD ap) ac IZ)) bt bt;(.rw[iV cN,Aj];intro b_;have h1:=m? b_ n Mo;simp only[eh,gk,bne_iff_ne,ne_eq]at h1;simp only[t5,dW,rb,xG]at hx;exact asx h1 hx);.refine KG H3 s3 (λ i m hi hm=>?_);by_cases e:i=k;(.subst e;rw[a7 hn hm hm,R? rc dW hx];simp only[eh,gk,bne_iff_ne,ne_eq];exact alh hx);.exact hj i m NA hm);.intro a0 H2 s2 j;(rw[nb (λ bU hj=>cG bU cS p cH) cH]);rw[iV cN,S9,SX,hj i _ (by rw[ew,hi]) F6 hi]
G0(g:tn)(l:aD):(ls).map MZ=gu US bN:=by rw[hE,hE];rw[L1 n];show bN (g (eQ (vN n)))=bN (g n);rw[g_]
E4(h:i9<=1000):yZ a6 ls:=by rw[ew,n7 h]
YX{r:q?}(h:qN r):yZ a6 hY:=by have h1:a6 hY<=a6 lD HG i Iq i:=U5 _ _;rw[i',List.length_range]at h1;obtain⟨h2,h3⟩:=h;rw[n7 (show On by exact ajV h1 h3)]
atj(A:Y):ie "canonical_row_without_hangul" (js mJ y5 M' y5 kC Uu c Np):=pT A.aIM LK λ a f aK A' cx s H0 H E hr hp U hU=>by rw[iX,cr dq λ hR aS _ a3=>i_ aS λ ar y hv bo ay hy cR=>?_];dsimp only at hR hv bo hy cR a3;subst hv hy;rw[ck,<-h' (cp (iT vp zK bB jV d1 RV) q4 tI eL mw zd (Pz tr n HR) CR eV KV (z3 2 (f:=dV (bN (me mx xv))) O LK.nd K0 K_ zP) (λ s' dE C cl fp k x hk=>by(rw[nk n aU aU]);exact(vp zK hK d1 ap).imp rr v _ BZ g_) LK.nd h! bx bx (c? (by rw[im h Gs z qJ HR gi])))];rw[e,Az,PA];rw[vr];rw[IU,xK];congr 1;rw[S'];congr 1;funext n;show(!HR)=_;rw[Az,PA]
aHu(A:Y):wt (cB "scripts_are_named") ry (namesOk d/\M') Ny bH (x<F2):=pT A.aIN OI λ a f aK A' cx s H0 H E hr hp U hU=>by rw[iX,cr gE λ hR a9 _ Il a3=>i_ a9 λ ar y hv bo ay hy cR=>?_];rw[f6,MD bo a3 Il,ck,<-h' eL mw wy (Pz tr n bH (n<F2)) xL eV KV (z3 2 (f:=dV (bN (IY (xv<F2)))) O OI.nd zc ["book","record","script"] LO ("script",2) zP) (λ s' dE C cl fp k x hk=>by(rw[nk n bu bu]);refine iO (gF cM ap (aT (ZL A) hr (b,d,kk) d1 ad bn #[nc,Il])) nV;rw[e,g_];refine j0 bN (PC ?_);show(lm<bD T1)↔n<T1;exact Int.ofNat_lt) OI.nd h! cy cy (c? (by rw[im h Gs z qJ bH (n<F2) gi]))];rw[e,CX];rfl
ahR(A:Y):Ay (ie "pictures_hold") BF (!M!||kC hY n Gn):=pT A.ai9 K8 λ a f aK A' cx s H0 H E hr hp U hU=>by rw[iX,pE hR fw aR,f6,<-ah (id fw) ax ar hv bo,MP fw aR bo,Lz n n hn,<-gb tB K! (dl o!,12) K1 A.g.yG hx m3 h' eL mw wy gu hY tr n Gn xL eV (pd 2 (f:=dV (bN (jw (eQ x)==0))) O K8.nd K0 Nr Sg IF (eu ar,num,r) aR qW dz vh dz a d' h be (by rw[ew,YX aR]) (λ s' dE C cl fp k x hk=>by(rw[nk n bU bU]);refine iO (d3 Sc aQ Cr ap ac A.g.LU) nV;rw[e,g_];rw[vr,z6,Mq]) m2 r0 K8.nd) h! eP eP (c? (by rw[im h Gs z qJ Gn hY]))];(.rw[show iJ bB o! 12=M! from EW 12]at hx;rw[hx];rfl);.rw[show iJ bB o! 12=M! from EW 12]at hx;rw[e,hx,CX];rfl
II(g:tn)(l:aD):an (CU ((ls).map MZ))=an (CU ((US).map bN)):=Gs z g l
VW.2(C:a5)(pre:bR->my t!)(g:bR->pH t!):RP:=RQ bi (BK×V×R×t!) [f7,a?] bA (d8 C dR H/\lC H a? b!/\pre fe bm) dL (i7 (g fe bm))
ahD(A:Y):jH "contraction_holds" (VW mJ (λ d s=>s.key≠[]/\KL s.key.all/\s.key.length<=1000) (λ d s=>(s.key.all dV (KI==[]))&&(jp Mt.sorted s.key&&wb (s.key.headD 0)==0))):=pT A.awf Ie λ a f aK A' cx s H0 H E hr hp U hU=>by rw[iX,cr gE λ hR aS bf bJ a3=>gP aS λ ar y z hv bo aU tz=>ah aU ax ay hy cR];rw[f6];dsimp only at hv bo hy cR a3 bf bJ;subst hv hy;(obtain⟨x,l,hk⟩:∃x l,o?=x::l:=by cases e:o? with|nil=>rw[kw e bf]|i? x l=>exact(dZ x l O));rw[od hx as Oi m? bJ x (by rw[fI hk List.mem_cons_self]),c2 yX (i5 Ie.nd) mY bW,<-gb (bO (mw zd (r.key.map tr n (!AD)) O CR eV KV RK Ie.nd ["book","record","key","scalar"] Li (λ s' dE C cl fp k x hk=>by(rw[nk n a9 a9]);refine iO (gF gJ (di (m:=a6 J!) IV (oh xo d0 (gH,n) ad ju CY d1 aF O bn nc) qW h (EO h.now)) ai) rr u _ ?_;rw[e,g_];exact j0 bN (Nk _)) Ie.nd h! bx bx (c? (by rw[h];exact II qJ (!AD) o?)))) hq λ hq=>h' (cp (oh WT hr ((b,d),dp ay,o?) ad ju CY d1 ap O bn (fQ Nc (.inr eH ay KQ) bJ a3)) q4 (bZ (d3 LM x hx Lc x ap (by rw[hk];exact tC O) ai)))];(.rw[xK]at hq;(have:SB=false:=by rw[ST rb,hq]);rw[qE]);.rw[xK]at hq;(have:as SB:=by rw[ST rc,hq]);rw[Gh e az hk,At,z6];show bD (qa x)=0↔qa x=0;rw[Mq]
aGR(A:Y):wt (jH "canonical_steps_end") ry M' (jv Mt.ends Mt.STEPS jV&&((w7).all dV (KI==[]))):=pT A.aJk FK λ a f aK A' cx s H0 H E hr hp U hU=>by rw[iX,cr dq λ hR bu bf a3=>i_ bu λ ar y hv bo ay hy cR=>?_];rw[f6,MD bo a3 bf];(have hsz:Hd w7:=by rw[Mc aF8 a3]);rw[ck,S! FK.nd (cU H u w7) (WN (i:=1) zP ai m1 (ji ay Ol t4 (jY dT cR) ?_ (λ p H2 s2=>eH p e? ?_)))];((.rw[E? (1:bF) iz (1:R),_H.vI,i'];rw[Sm (t3≠0) bf,d7 aF7]);.rw[aY,show(1:bF)=iz (1:R)from rfl,Sa (by rw[ew,Sm (t3≠0) bf,d7 aBk]),I2]);. (rw[ce (ah j1 ax au bU vU) bU]);have fj:=fO s1;refine h' (cp (aT (aKa A) hr (gH,jV) bC ad (f3 jV Z ai d! cA (jY lh bo) O) d! (fj.later s2)) q4 tI eL mw zd gu w7 tr n (!AD) CR eV (RK FK.nd ["book","record","behind","scalar"] Jo J' au vU be (E4 hsz) (λ s' dE C cl fp k x hk=>by(rw[nk n cH cH]);refine iO (gF gJ (di (m:=a6 J!) IV (oh xo d0 (gH,n) ad ju fj.cu d1 aF O bn (fj.later s1)) qW h (EO h.now)) ai) rr u _ ?_;rw[e,g_];exact j0 bN (Nk _)) m2 r0 FK.nd) h! cy cy (c? (by rw[h];exact II qJ (!AD) w7)));rw[e,xK];rw[At,S'];congr 1;funext n;rw[l0 (!!AD) PJ]
Ek(h:LR n (i<a6 ls) (g n)):as (l.all g):=by rw[xJ];rw[SX,h i _ (by rw[ew,hi]) F6 hi]
HN{k n:R}(hn:gy k n)(h:g n=false):false=l.all g:=by rw[Aj];intro b_;rw[m? b_ n Mo]at h;cases h
Fn{k n:R}(hn:gy k n)(h:as (g n))(hj:LR n (i<k) (g n)):LR n (i<k+1) (g n):=by intro i m hi hm;by_cases e:i=k;(.subst e;rw[a7 hn hm hm,h]);.exact hj i m NA hm
ala(A:Y):wt (jH "prototype_stays") ry (∀x∈gi,(wE A7)) Ny kC A7 y (pu 9 y==[]&&!A4 y):=fx A.aiz La λ a e H hr hp U hU=>by rw[iX,cr dq λ hR aS bf bJ=>i_ aS λ ar y hv bo ay hy cR=>?_];rw[f6,MD bo bJ bf,ck,<-MB 2 (xs:=Ol) n5 k Sj [sT,oH,p,q] zn (pu 9 y==[]&&!A4 y) kF O La.nd zP Kq lT wn oR n h ?_ ?_];(.intro k x a0 H2 s2 hk j;(rw[Lp aU a9 a9]);(rw[nk n bu bu]);have eI:=fO s2;refine Sl zn ((∃q,a0=[sT,oH,jO,q])/\∀(i y:R),i<k'->zn[i]?=an y->as (pu 9 y==[]&&!A4 y)) La.nd RG Ki eI.cu (CZ s1) qW bx vh bx a d' h lT wn zh n h ?_ ?_;(.intro k' x a0 H3 s3 cj j';(rw[ce (bq I3 λ bU jx=>cG bU cS q' cH) cH]);(rw[ce (ah (eJ cj) ax m hm dA) dA]);have kG:=CZ s3;have kd:qd m:=m? nf bJ n hn m (CO hm);refine Tn ff Rs (gH,9,m) A.g.RD (9:R) (eE (bO (oh y_ d0 ((b,d),11,m) ad ju kG.cu bC ac A.g.Yu aF O bn #[(kG.later s1).parts,kd]))) hn jx;(.rw[<-(HN hm ?_).symm,zu hx (pu 9 m==[]) (A4 m)]);.rw[zu hx (pu 9 m==[]) (A4 m)]);.intro a0 H3 s3 j';(rw[ce (bq I3 λ ee jx=>cG ee cS q' fJ) fJ]);exact c6 λ H4 s4=>#[oR,Fn hn (Ek jx) hj]);.intro a0 H2 s2 j;(rw[nb (λ iH hj=>gG iH ax p q jG) jG]);exact aG cN D' bN (Ek hj)
aKD(A:Y):wt (jH "folded_stays") (λ d r=>True) Ny (vK x==[]&&kC A7 y Gp):=fx A.azk OX λ a e H hr hp U hU=>by rw[iX,cr dq λ hR aS bf _=>i_ aS λ ar y hv bo ay hy cR=>?_];rw[f6];dsimp only at hv bo hy cR bf;subst hv hy;rw[od hg (∀x,(vK x==[]&&kC A7 y Gp)=kC (x::A7) y Gp) dV (by rw[IU])];simp only[hg];refine MB 2 (xs:=Ol) n5 k Sj [sT,oH,p,q] M6 Gp kF O OX.nd zP Kq lT wn oR n h ?_ ?_;(.intro k x a0 H2 s2 hk j;(rw[Lp aU a9 a9]);(rw[nk n bu bu]);have eI:=fO s2;have a3:=aQ.de.vm 8 n;(refine Sl M6 ((∃q,a0=[sT,oH,jO,q])/\∀(i y:R),i<k'->M6[i]?=an y->as (vK y==[])) OX.nd (DF (xs:=[vN n]) (ys:=jK zn) (nY (ae ap ao)) RG Ki eI.cu (CZ s1) ?_) qW bx vh bx a d' h lT wn zh n h ?_ ?_;.rw[ew,Aa (Nat.add_le_add_left a3 1)]);(.intro k' x a0 H3 s3 cj j';(rw[ce (bq I3 λ bU jx=>cG bU cS q' cH) cH]);(rw[ce (ah (eJ cj) ax m hm dA) dA]);have kG:=CZ s3;refine Tn Rs (gH,5,m) A.g.Cp (5:R) hn jx;(.refine(HN hm ?_).symm;revert hx;cases(vK m==[])<;>simp);.revert hx;cases(vK m==[])<;>simp);.intro a0 H3 s3 j';(rw[ce (bq I3 λ ee jx=>cG ee cS q' fJ) fJ]);exact c6 λ H4 s4=>#[oR,Fn hn (Ek jx) hj]);.intro a0 H2 s2 j;(rw[nb (λ iH hj=>gG iH ax p q jG) jG]);exact aG cN D' bN (Ek hj)
aDM(A:Y):Ay (cB "brackets_have_partners") BF kC hY n (pu 8 n !=[]):=fx A.asG T' λ a e H hr hp U hU=>by rw[iX,cr dq λ hR l9 hle jb=>ah l9 ax ar hv bo];rw[f6,MF hv bo jb,R9 OY ey KR,c2 (Mb (JE 2) n5 k ((∃p,a0=[sT,oH,p])/\∀i,i<k->qd BQ->as (pu 8 BQ !=[])) kF O T'.nd q_ bC Fd kh K3 NT lT #[zh,λ i h=>by exact(oz h).elim]) ?_];(.intro k a0 H2 s2 hk j;(rw[nb (λ kg hj=>cG kg cS p jF) jF]);rw[hn]at hk;have eI:=fO s2;(have ek:y!+jz=bD BG:=by exact Lv);rw[ek];refine gb ds gx os um bD BG ap (c5 (dG (bO (oh uH hr (gH,8,ey+k) ad ju eI.cu bC ac A.g.K' ap O bn #[CZ s1,sb ((8:R)<15)])))) hx m3 KG H3 s3 ax i hi hs;(.rw[oN]at hx;simp only[eh,PJ]at hx;rw[Aj];intro b_;have h1:=m? b_ BG TL #[M? BS k (List.mem_range.mpr hk),hx.1];rw[bne,iq]at h1;cases h1);.by_cases e:i=k;(.subst e;rw[oN,hs,ep,PJ]at hx;rw[bne,hx];rfl);.exact hj i NA hs);.intro a0 H2 s2 j;(rw[nb (λ kD hj=>cG kD cS p ka) ka]);rw[hn]at hj;rw[iV cN,S9];intro n hn;obtain⟨h1,h2⟩:=U2 hn;(rw[Sp h1 lL lL]);exact hj i (List.mem_range.mp hi) h2
Jy.1(g:pH bF):V->V|em z=>i7 (g z)|_=>.bl hA
XB(g:pH bF)(lo:bF)(n:R):fo CU (h? lD Hh k kE (lo+vj) (Jy g))=an (CU ((lD Hh k (g (lo+vj))).map bN)):=by rw[MK hE]
asT(r:q?)(g:tn)(h:∀n,yC=false->as (g n)):(hY).all g=kC HG i (g BQ):=by show(TW lD HG i Iq i).all g=_;rw[Et xJ xJ];constructor;(.intro ha i hi;cases hs:i! BQ with|false=>exact h _ hs|bE=>exact ha _ TL #[M? BS i hi,hs]);.intro ha n hn;(rw[Sp Rc.1 aS aS]);exact ha i hi
auy(n:R)(h:yC=false):as (!T5&&!t' n):=by(have h1:¬EA:=by rw[h];simp);rw[_B.oX]at h1;unfold t6 t';simp only[eh,rb,xH,PM,xG];exact aHr h1
aIb(A:Y):ie "range_without_hangul" (pC mJ BF y5 kC hY c Np):=pT A.auv JW λ a f aK A' cx s H0 H E hr hp U hU=>by rw[iX,cr dq λ hR aU hle jb=>ah aU ax ar hv bo];rw[MF hv bo jb];(have hn:kp (Rk - y!)=OY - ey:=by exact KR);rw[ck,<-h' (iT (mw zd (gu HG λ k=>me sz) O CR eV (Mb (azx 2) (f:=Jy me) O JW.nd K0 Oa q_ bC Fd kh K3 NT be (by rw[hn];rw[n7 c3 On Um jb]) (λ s' dE C cl fp k hk=>os zK sz ap) m2 r0 JW.nd) h! bx bx (c? (by rw[h,hn];exact XB me _ _))))];rw[e,asT r _ auy,xK,U6];rw[At];funext i;show(!me (dl ey+Is))=_;rw[qz ((dl ey+Is)=bD BQ) Lv,Az,PA]
aq7(A:Y):Ay (ie "digits_stand_in_tens") ry (qN r/\kS _B.dj/\r∈d.book.props.getD 11 []) (ey==mN&&kC Uf i (kT 11 (ey+1 - o!+i)==i+1&&bH (o!<=ey+1))):=pT A.ajO Fx λ a f aK A' cx s H0 H E hr hp U hU=>by rw[iX,cr gE λ hR a9 bu hF fu=>ah a9 λ ar hv bo=>bq bu cS hle jb];rw[f6];dsimp only at hv bo hle jb hF fu;subst hv;rw[ck];rw[_B.awl hF fu];rw[c2 dX (i5 Fx.nd) em NC kh (aW cX Fd K1),<-gb (gd Fd K3) hx m3 h' eL mw wy gu Uf tr k bH (mj (kS _B.valAt 11 (NC+BH))=BH+1) xL eV (asJ 3 (hi:=10) (f:=Jy λ z=>bH (mj (kS _B.valAt 11 (NC+z))=z+1)) O Fx.nd zc ["book","record","nought","digit"] NP ("digit",3) q_ d1 ai jA aBD be bQ (λ s' dE C cl fp k hk=>d3 (oh Cu hr ((b,d),11,y! - o!+1+BH) ad ju CY bC ac A.g.acE (aW bV ap aF) O bn #[Nc,sb ((11:R)<14)]) kh aF) m2 r0 Fx.nd) h! cy cy (c? (by rw[im h (XB _ 0 10)]))];(. (have:(ey==mN)=false:=by rw[U9];intro h;rw[h]at hx;simp at hx);rw[qE]);. (have:as (ey==mN):=by rw[gk];rw[SR dW hx,AW hx]);rw[Gh e az CX,At];funext k;show nC _ bH _;rw[U0]
oo.1(r:q?):g':=if OC then[xw 0]else[xw 4,f? 5]
azS(r:q?):as ((Pg).all ic):=by unfold oo;rw[w4]
aDI(r:q?)(n:R):ia fZ hK (oo r)=(if OC then n==0 else n==4||n==5):=by unfold oo;split;(.rw[wC];show as F'↔_;simp;exact aHd);.rw[wC];show as (vL||F')↔_;simp;exact ahB
am5(A:Y):Ay (ie "conjuncts_hold") BF kC hY n (if OC then Gn else rS==4||rS==5):=pT A.aKL Ic λ a f aK A' cx s H0 H E hr hp U hU=>by rw[iX,pE hR fw aR,f6,<-ah (id fw) ax ar hv bo,MP fw aR bo,Lz n n hn,S! Ic.nd (∃a,u=dp a/\H a=an (.tup (oo r))) (GW (eW K1 ac IZ) m3 iO (iR (ae ac A.g.LU ao)) h! bx bx ?_ m3 iO (iR cm A.g.F4 A.g.aKI) h! cy cy ?_)];((.rw[np hx];rw[h,oo,l? Dj az]);.rw[Mg hx];rw[h,oo,ma adC az]);. (rw[ce (ah j1 ax au aS vU) aS]);have fj:=fO s1;refine h' eL mw wy gu hY tr n (ia fZ mx rS (oo r)) xL eV (pd 3 (f:=dV (bN (ia fZ mx (jw (eQ x)) Pg))) O Ic.nd zc ["book","record","wanted","scalar"] LY ("scalar",3) (aT (IF A) hr (eu ar,num,r) d1 Z d! #[pk lV HE fw,aR]) qW dz vh dz a d' h be (by rw[ew,YX aR]) (λ s' dE C cl fp k x hk=>by(rw[nk n aU aU]);refine iO (aEL (vs:=Pg) Sc fj Cr aF ap rV (af au t4 (jY e? vU)) (azS r)) nV;rw[e,g_]) m2 r0 Ic.nd) h! eP eP (c? (by rw[h];exact II qJ (ia fZ mx rS (oo r)) hY));rw[e,CX];rw[At];funext n;exact aDI r _
xk(l:aD):(Q_).map kV=ls:=by rw[Bj ub hE]
aE1{a b:R}(h1:as (!t6 a&&!t' a))(h2:as (!t6 b&&!t' b)):f8 (PP a b):=by unfold PP;simp only[eh,rb]at h1 h2;have hj:=tS;unfold t' at hj;simp only[xH,PM,xG]at hj;rw[ma aDL hj,da (by rw[h1.1];simp)]
agX(A:Y):wt (jH "composes_alone") ry (as TR/\Tz/\r∈TM/\as ((Uu).all λ c=>Np)) (jy GE||(T!&&(Tm&&(wb pU==0&&(xd ((TM).CK λ q=>q.to==gi&&!GE q.scalar)==1&&TD==aH))))):=fx A.ajS L8 λ a e H hr hp U hU=>by rw[iX,cr wO λ hR aS bf hs b_ fu gB=>i_ aS λ ar y hv bo ay hy cR=>?_];rw[f6];dsimp only at hv bo hy cR bf hs b_ fu gB;subst hv hy;rw[<-wx aQ.ex λ dx fs mr sr co aq hb _ _ _ Ks _ _ _ _ gW Ae=>?_,ck,c2 kZ (i5 L8.nd) jV mY bW,c2 yX (bI 3 L8.nd) mY bW,<-gb gx (oh y_ d0 ((b,d),15,jV) ad ju CY bC ac A.g.Ra ap O bn #[Nc,hs]) hx bt];(.rw[show(as jy GE)from hx,Bool.true_or]);.have jW:jy GE=false:=hx;rw[AV jW];have jf:0<NR tH:=List.length_pos_of_mem (U8 #[fu,by rw[jW];simp]);by_cases h2:Ud;(. (obtain⟨x,z,k5⟩:∃x z,gi=[x,z]:=by match gi,h2 with|[x,z],_=>exact(dZ x z O));have zB:as Oi:=m? b_ x (by rw[k5];simp);have nx:=m? gB x (by rw[k5];simp);have nz:=m? gB z (by rw[k5];simp);(refine gb ff (gd RA ai) (dr (gd LM jV hs ap ai) cL (eE (gd LM x zB Lc x aF (by rw[k5];exact tC O) ai))) hq λ hq=>h' (d3 (i:=mx NR tH) (uT (j9 hr) (cQ ad Rj hb A.bj.RC Ks) aF (λ u y H1 s1 e1 e2=>(aE co (vN (tH eo gi)) e1.now ?_ fh))) ai);(.rw[k5];show false=(bE&&((jy qa==0)&&((qa x==0)&&_)));rw[k5]at hq;by_cases h3:jy qa=0;(.by_cases h4:qa x=0;(.rw[h3,h4]at hq;simp at hq);.rw[Mk h4,rd,C0,C0]);.rw[Mk h3,rd,C0]);.have ow:=e2.now;subst ow;rw[<-Ae gi jf];exact dM.t dT gW (by rw[im xk KQ]));.rw[e];rw[vr];((have je:jy qa=0/\qa x=0:=by simp only[xH,rc,dW]at hq;exact arR hq);have f_:as T!:=by rw[h2];rfl);(have hj:f8 TD:=by rw[k5];exact aE1 nx nz);rw[hj,f_,ep,show(as Tm)from by rw[show wb jV=0 from je.1];rfl,show(as (wb pU==0))from by rw[k5,show wb ([x,z].headD 0)=0 from je.2];rfl,ep,ep];show nC _ ((NR tH==1)&&bE);rw[IX,q!,dW,gk];exact alu);.refine gb rq (dr (y:=bE)) (gd RA ai) j! h hq NO;(.rw[SR dW h,kw c3 Ud Dj h h2]);.rw[Mk h2,rd]
G6{m:aD}(h:ub l=ub m):l=m:=by have h1:=ro (List.map λ k:Key=>match k with|.inl z=>C1|.inr _=>0) h;unfold ub at h1;rw[hE,hE]at h1;simpa[Function.comp_def]using h1
aHh(d:bR){k:R}(h:k<3):d.book.seqs[k]?=tk PQ k []:=by(have e:d.book.seqs.length=3:=by show a6 (Mt.byKind Mt.SEQS d.ss)=3;unfold Mt.byKind;simp[Mt.SEQS]);rw[Sk Sb h e]
amM{H:Hp}{aq:fW (Id×V)}{rows:fW t!}(h:Paired (λ(kv:Id×V)(r:t!)=>kv.1=ub o?/\cU H kv.2 gi) aq rows)(l:aD):match rows.find? λ r=>B' l with|an r=>∃v,Hl aq l=an v/\cU H v gi|aH=>f8 Hl aq l:=by induction h with|nil=>rfl|@i? kv r aq rows q t ih=>unfold b8 at ih⊢;by_cases e:o?=l;(. ((have e1:as (o?==l):=by simpa using e);have e2:as GA:=by rw[q.1,e];simp);rw[S7 (λ(r:t!)=>B' l) e1,S7 (λ(kv:Id×V)=>GA) e2];exact eH kv.2 q.2);. ((have e1:¬(as (o?==l)):=by simpa using e);have e2:¬(as GA):=by rw[F? q.1,eT (e (G6 h))]);rw[S8 (λ(r:t!)=>B' l) e1,S8 (λ(kv:Id×V)=>GA) e2];exact ih
mO.1(B:g?)(k:R)(l:aD):bF:=match C2 B k l with|an t=>mx (t.headD 0)|aH=> -1
V7(A:Y):D7 e8 P K 1 mJ "number_of" (RQ bi (BK×A?) [f7,iN,br] bA (qf/\a?<3/\cU H br bm) fl (v=em (mO Br a? bm))):=iw A.bj.aiB aGd dt b3 be λ a e H hr hp U hU=>by obtain⟨⟨b,d,kk⟩,k,v,l⟩:=a;rw[cr iP λ hR hk av hv gn=>?_];rw[MP hR hk gn];obtain⟨dx,fs,mr,sr,co,aq,hb,_,Hf,_,_,_,_,_,⟨am,xs,rfl,tK,A0⟩,_⟩:=hR.ex;(rw[ce (uZ (p6 A0 (aHh d hk)) λ vk kU ak xp aU qh sS=>?_) aU]);have hl:=amM sS l;rw[od sV sX (dM H1 ak eu av Hl xp l) (λ H1 s1=>dM.t dT qh (by rw[im xk dT gn]))];(refine aX (aas (z:=o1 Hl xp l) (j9 hr) ap RF cO ak tK (λ u y H1 s1 e1 e2=>?_)) bt (λ hx=>dX aG em (-1) ?_ eb);.have vW:=e1.now;have ow:=e2.now;subst vW ow;rw[wS ak (sV H1 s1) O]);((.unfold mO C2;cases hf:(PQ k []).find? (λ r=>B' l)with|c! r=>rw[hf]at hl;obtain⟨v,hv,at',rfl,ht⟩:=hl;have jf:=(hR.de.seq k r hk (List.mem_of_find?_eq_some hf)).ct;(obtain⟨x,m,k5⟩:∃x m,gi=x::m:=by cases e:gi with|nil=>rw[e]at jf;rw[kw jf r7]|i? x m=>exact(dZ x m O));refine dX aG em la x (bW (uT (P:=λ v _=>v=dp at') (j9 hr) RF cO ak tK ap (λ u y H1 s1 e1 e2=>?_)) ai bn mW jY ht (by rw[k5];exact tC O)) eb;(.have vW:=e1.now;have ow:=e2.now;subst vW ow;rw[wS ak (by rw[<-hv];exact sV H1 s1) fh]);.show e5 la x=kE bD pU;rw[k5];rfl|aH=>rw[hf]at hl;rw[a7 hl hx hx]);.exact oI (i:=1) ai);.unfold mO C2;cases hf:(PQ k []).find? (λ r=>B' l)with|c! r=>rw[hf]at hl;rw[<-ah hl λ v hv _=>?_,a7 hv hx hx]|aH=>rfl
jP.1(C:a5)(H:Hp)(a:a5)(y:j4):Prop:=∃dx fs,mc H a C/\gM ("strict":a4) (C4==0)/\gM ("loose":a4) UJ/\gM ("break_all":a4) C7/\gM ("keep_all":a4) y.keep/\gM ("by_words":a4) uh/\gM ("eastern":a4) y.east/\jT ("tab":a4) bd up/\gM ("splits":a4) C8
PU{H:Hp}{a:a5}{y:j4}(h:jP C H a y)(s:tE):jP C H' a y:=by refine dc h λ dx fs h1 h2=>?_;exact(cE dx fs Ig h2)
aJ1(A:Y):jH "scalar_width" (RQ bi (BK×E5×R) [f7,dp lr,EG] bA (qf/\AO/\qd b!) dL (vN (xO Br eR b!))):=ni A.aLA aco λ a e H hr hp U hU=>by rw[LL y n a];obtain⟨dx,fs,hw,_,_,_,_,_,vY,_⟩:=hW;dsimp only at hw vY hs;(have hg:ia fZ mx lf [xw 6,f? 8,f? 26,f? 27]=pr lf [6,8,26,27]:=by rw[wC];show as (vL||(vL||(vL||F')))↔_;simp[xU];exact axw);(have QP:ia fZ mx yL [xw 3,f? 4]=pr yL [3,4]:=by rw[wC];show as (vL||F')↔_;simp[xU];exact ape);rw[Am xO,<-aX ff (tW R8 dy A.g.MN A.g.ME cm A.g.CC A.g.CF) (eE (bO (Cn A hr 11 n aQ hs ad ac A.g.Yu ap))) bG hx ai eb bt];(.rw[hg,t5]at hx;rw[wQ hx]);.rw[hg,xH]at hx;rw[da (by rw[hx.1,iq];simp)];rw[c2 dX (bI 3 aco.nd) (vN (kT 7 n)) v6 (EH 7) A.g.afv ap,<-aX ff (tW aF cm A.g.Wa A.g.Zb) (eE (CI (cF Hq A.g.awn cL o0 (cQ Z Fo hw PV vY)))) bG hq ai eb v' hq ai];(.rw[QP,t5,eh,dW]at hq;rw[gj (hq.imp id Ur h.2)];rfl);.rw[QP]at hq;rw[da];(.rfl);.intro h;(have:as (pr yL [3,4]||(bH (mj yL=1)&&y.east)):=by rw[t5,eh,dW];exact h.imp id Ur h.2);rw[a7 az hq hq]
Hz.2(C:a5)(g:bR->Ck):RP:=RQ bi (BK×R) [f7,Cj] bA (d8 C dR H/\qd dd) dL (g fe dd)
M1(n:R):o1 Bt=HR:=by rw[Az];rw[Kn t'];by_cases h:(as T5);(.rw[xc,h];rfl);.rw[da h,Bool.eq_false_iff.mpr h,jc];rw[wC];simp only[t5,eh,dW];split;(.simp;rw[MU aC4]);.split;(.simp;rw[MU aJ0]);.split;(.simp;rw[MU awL]);.simp;exact aK6 N? N? N?
amd(A:Y):Hv (ie "conjunct_class") n (vN (Mt.info eo U! xa n).conj):=fx A.aHb aGC λ a e H hr hp U hU=>by rw[Fb b n a,G8,ck,<-h' (kJ v! zK (λ _=>ai) cL v6 (sl 3) A.g.sD Z)];rw[e];show _=kE bD (if(as o1 Bt)then 0 else lj n);rw[M1];rw[w4]
aBm(A:Y):Hv (jH "is_pictographic") n (.bl (Mt.info eo U! xa n).pict):=fx A.aGA agg λ a e H hr hp U hU=>by rw[Fb b n a,G8,ck,<-h' cc (iT vp zK hK d1 Z) (bZ (Cn A hr 12 n aQ hs ad UI Z))];rw[e,<-M1];show _=bN ((Bt).isNone&&yH n);rw[Option.not_isSome]
ahJ(A:Y):Hv (ie "cluster_class") n (vN Gi xa n):=fx A.aqL af6 λ a e H hr hp U hU=>by rw[Fb b n a,G8];(have Ag:∀x,PW n=an x->e5 la x=vN Gi xa n:=λ x h=>by unfold PY;rw[h]);have ajQ:f8 Bt->vN (jw n)=vN Gi xa n:=eT (by rw[Bj PY h]);rw[ck];(refine aX v! WS bG h1 ac A.g.L r4 (Ag 9) io;.rw[Fh FZ h1];rw[da (by rw[Al,amj h1]),l? awF h1]);(refine aX v! Ri bG h2 ac A.g.V r4 (Ag 10) BT;.rw[Fh EL h2];rw[da (by rw[Al,ato h2]),ma ajE h2,l? aFA h2]);(refine aX v! UP bG h3 ac A.g.T r4 (Ag 11) O5;.rw[Fh FX h3];rw[da (by rw[Al,aDu h3]),ma asz h3,ma aJy h3,l? aDv h3]);(refine aX v! afC bG h4 ac A.g.LV r4 (Ag 12) j! h4;.simp only[NI,sF,eh,dW]at h4;rw[Kn t6];rw[gj (by rw[Al,ahj h4]),l? aCd h4]);refine aX v! D6 bG h5 ac A.g.Pf r4 (Ag 13) bG h5 v6 (sl 2) A.g.uG Z r4 ajQ;(.rw[NI,h5,ep]at h4;rw[p0 qZ h4,Fh sF h5];rw[gj (by rw[Al,aGr h5]),da (by exact afM h5 qZ)]);.have:=M1 n;unfold me at az;rw[h1,h2,h3,h5]at az;cases e:Bt with|aH=>rfl|c! x=>rw[a7 e az az]
C5(n:R):∀l:aD,ia fZ hK (o_ vN)=NK|[]=>rfl|x::l=>by have ih:=C5 n l;unfold ia at ih⊢;rw[U?,List.any_cons,ih,I5];congr 1;rw[q!,gk];show as (dl x==hK)↔_;rw[fI gk axQ]
}
section
variable{X:Cx}{σ:ei}{H:Hp}{a:dk}{es:HT}{ct jd:ej}{n:R}{x1:R}{vs:g'}
def z:={
n6(l:aD)(ha:mh a n)(hb:s?)(hv:wi)(hf:sm)(hl:sw)(hm:zL):mk i0 In sC NK:=by rw[sQ C5 n tW]
zo(l:aD)(ha:mh a n)(hb:s?)(hv:wi)(hf:sm)(hl:sw)(hm:zL):kr i0 In sC I4 n:=by rw[sQ C5 n A2]
Rx(l:aD)(ha:mh a n)(hb:s?)(hv:wi)(hf:sm)(hl:sw)(hm:e7 D_ .xW Ea):jI i0 xW sC (!NK):=by rw[sQ C5 n Yy]
Du{b:dk}{m:R}{k:bF}(ha:mh a n)(hb:lg b k)(hk:z? k)(hm:z1):mk i0 Eq [b] IL:=by(have e:IL=bH (lm=k):=by rw[Lj hk gk aad]);rw[e];exact eW ha hb hm
pj{b:dk}{m:R}{k:bF}(ha:mh a n)(hb:lg b k)(hk:z? k)(hm:z1):jI i0 Eq [b] IL:=by(have e:IL=bH (lm=k):=by rw[Lj hk gk aad]);rw[e];exact d3 ha hb hm
}
section z
def z:={
UL(A:Y):Hv (ie "first_class") n (vN (kT 6 n)):=fx A.aBE aHB λ a e H hr hp U hU=>by rw[Fb b n a,c2 hU _,aG v6 (sl 6) A.g.aIl Z fh]
RBW.2(c:Cs)(g:bR->j4->Ck):RP:=RQ bi (BK×E5×R) [f7,dp lr,EG] bA (qf/\AO/\qd b!) dL (g fe eR b!)
aAL(A:Y):jH "resolved_class" (RBW c λ d y n=>vN (PZ y yB lf)):=ni A.ayi Vd λ a e H hr hp U hU=>by rw[LL y n a];obtain⟨dx,fs,hw,bw,_,_,_,_,vY,_⟩:=hW;dsimp only at hw vY bw hs;rw[Am PZ,c2 dX (bI 3 Vd.nd) (vN (kT 6 n)) (aT (UL A) hr (gH,n) bC ad ap bn #[nc,hs])];generalize yB=k;(refine aX Hq A.g.AI bG h1 rK zQ Fo hw PV vY xX rt pa eb io;.rw[st hX h1,tc c3 (k=1) Q0 hX];cases y.east<;>rfl);rw[p0 hX h1,kA c3 (¬k=1) aam hX];(refine aX (n6 [40,0] aF cm A.g.SG A.g.XX) bG h2 ac pa eb BT;.have Dq:=h2;rw[wQ TZ (k=40\/k=0) Dq]);have Dq:=h2;rw[kA TZ (¬(k=40\/k=0)) Dq];(refine aX Hq A.g.SA bG h3 rK (n6 [6,7] R8 cm A.g.MN A.g.MC) I6 rt pa eb O5;.rw[st N' h3,tc c3 (k=39) aIB N'];by_cases hg:lf=6\/lf=7;(.rw[ip hg,TA];rfl);.rw[S_]);rw[p0 N' h3,kA c3 (¬k=39) aAI N',<-aX Hq A.g.CJ bG h4 rK zQ Fo hw A.e9.Ut bw I7 rt xX eb v' h4 aF];(.rw[st qZ h4,tc c3 (k=11) XZ qZ];by_cases hg:C4=0;(.rw[ip hg,TA];rfl);.rw[S_]);.rw[p0 qZ h4,kA c3 (¬k=11) XI qZ]
Tg(A:Y):gp 5 "line_class" (RBW c λ d y n=>vN nF TC):=ni A.aly JM λ a e H hr hp U hU=>by rw[LL y n a];have tG:vB wa y:=hW;obtain⟨dx,fs,hw,bw,p5,b_,nN,_,vY,_⟩:=hW;dsimp only at hw vY bw p5 b_ nN hs;rw[ck,kt tL v (v=vN (Va y yB lf))];unfold Va;rw[c2 kZ (bI 3 JM.nd) TI y r? aAL (gH,(wa,y),n) bn #[nc,Oj,hs]];generalize TI y=k;dsimp only;(refine r6 (N1:=λ a0 _=>a0=[sT,GY,jO,bd (if C4=2/\(k=32\/k=25)then 24 else k)]) ds zQ Fo hw A.e9.Z5 p5 (c5 (n6 [32,25] aF cm I7 A.g.IN)) tJ (bI 3 JM.nd ac xX yP ?_) tJ yP ?_ ?_;(.rw[eh]at h1;rw[wQ #[by simpa using xu,by simpa using tS]]);.rw[da];(.rfl);.intro h;(have:as (UJ&&rI [32,25] k):=by simpa using h);rw[a7 az h1 h1]);.intro a0 H1 s1 hσ;have hσ':=hσ.now;subst hσ';generalize(if C4=2/\(k=32\/k=25)then 24 else k)=m;(refine aX RL P3 b_ (c5 (n6 [3,22,33] aF pZ pa C! nK)) bG h2 ac xX eb BT;.rw[Mx h2,wQ #[h2.1,h2.2]]);rw[kA (λ h=>by(have:as (C7&&rI [3,22,33] m):=by rw[fI eh h]);rw[a7 az h2 h2]),<-aX RL A.e9.Qp nN (c5 (n6 [24,20,21,27,29,28] aF dy xX I8 dy I9 I' cm C? Da)) bG h3 ac pa eb v' h3 aF];(.rw[Mx h3,wQ #[h3.1,by have:=h3.2;unfold xU;rw[qp,Vb (xY (xY (xY Or.symm)))]]]);.rw[kA (λ h=>by(have:as (y.keep&&rI [24,20,21,27,29,28] m):=by rw[eh];refine #[h.1,?_];have:=h.2;unfold xU at az;rw[qp,Vb (xY (xY (xY Or.symm)))]);rw[a7 az h3 h3])]
YY(A:Y):ef "stands_alone" (RQ qJ [vN n] oZ yv n (i7 (MtLine.alone n))):=wg A.alA aiw λ n f aK A' cx s H0 H E hr hp=>by rw[gt (zo [9,15,30,31,41,46] ad RE) fh]
jZ.1(C:a5)(H:Hp)(a:a5)(I:nv):Prop:=∃dx fs k1 k2 k3,mc H a C/\jT G9 ci k1/\jT ("conjuncts":a4) ci k2/\jT ("pictures":a4) ci k3/\sI k1 I.map dV O8/\sI k2 I.map dV (vN x.conj)/\sI k3 I.map dV (bN I!)
jZ.later{H:Hp}{a:a5}{I:nv}(h:jZ C H a I)(s:tE):jZ C H' a I:=by refine zF h λ dx fs k1 k2 k3 h1 h2 h3 h4 h5 h6 h7=>?_;exact(qM dx fs k1 k2 k3 Ig h2 h3 h4 pB h5 pB h6 pB h7)
}
section
variable{X:Cx}{σ:ei}{H:Hp}{o e:dk}{ct jd:ej}{a:a5}{I:nv}{i:bF}{j:R}{x:Dc}
def z:={
x_(A:c')(h:td a I)(ho:jE)(hi:l!)(hj:qG)(hx:dg I j x)(hs:si)(hb:eq (er "kinds")):mh wM (et "kinds" jd) gl:=by refine zF h λ dx fs k1 k2 k3 h1 h2 h3 h4 h5 h6 h7=>?_;exact cO (cQ ho yA Df P7 h2 hb) hi FE h5 (by rw[im hj (cb (by rw[nm hx]))]) hs
Iv(A:c')(h:td a I)(ho:jE)(hi:l!)(hj:qG)(hx:dg I j x)(hs:si)(hb:eq (er "conjuncts")):mh wM (et "conjuncts" jd) x.conj:=by refine zF h λ dx fs k1 k2 k3 h1 h2 h3 h4 h5 h6 h7=>?_;exact cO (cQ ho yA Df A.md.aab h3 hb) hi FE h6 (by rw[im hj (cb (by rw[nm hx]))]) hs
Zl(A:c')(h:td a I)(ho:jE)(hi:l!)(hj:qG)(hx:dg I j x)(hs:si)(hb:eq (er "pictures")):jI wM (et "pictures" jd) I!:=by refine zF h λ dx fs k1 k2 k3 h1 h2 h3 h4 h5 h6 h7=>?_;exact cO (cQ ho yA Df A.md.Wt h4 hb) hi FE h7 (by rw[im hj (cb (by rw[nm hx]))]) hs
}
section z
def z:={
aoV(A:Y):ef "syllable_joins" (RQ bi ks [vN dR,Cj] oZ dL (i7 (_W.DE dR dd))):=fx A.axM asL λ ab e H hr hp U hU=>by obtain⟨a,b⟩:=ab;rw[ck];unfold _W.DE Mt.one;(refine aX (Du (m:=9) ad ac A.g.L) bG h1 (zo [9,10,12,13] Z dy A.g.L A.g.V cm A.g.LV A.g.Pf) k0 io;. (have ea:a=9:=by simpa using h1);subst ea;simp);rw[h1,rd,jc];refine aX (n6 [12,10] ad cm A.g.LV A.g.V) bG h2 (zo [10,11] Z cm A.g.V A.g.T) k0 bG h2 cc (zo [13,11] ad cm A.g.Pf A.g.T) (bZ (pj (m:=11) Z ac A.g.T)) k0;(.rw[M3 h2];(have:rI [13,11] a=false:=by simp at h2⊢;exact aCK h2);rw[az,rd,uC]);.rw[h2,rd,jc]
EK.2(c:Cs)(g:nv->R->Ck):RP:=RQ bi ((a5×nv)×ks) EV bA (td gr dY/\a?<b!/\b!<oJ) dL Bo g dY
dJ{l:fW α}{i:R}(h:i<i9):∃x,gy i x:=#[_,S?]
AM{l:fW α}{i:R}{x y:α}(h:gy i x):l.getD i y=x:=by rw[PT,h];rfl
adW(sn:cs)(z:Dc)(l:nv):Dg sn (z::l)=if uD=2 then sn else if uD=1 then Dg bE l else if O0 then Dg sn l else false:=rfl
ajk(A:Y):G3 (ef "conjunct_joins") p ((BI).conj==2&&T_ hA):=ni A.amJ AH λ q e H hr hp U hU=>by((rw[Fg p kn a_];obtain⟨x,hx⟩:=dJ a_;rw[ck];rw[AM hx];refine gb nw (Iv A hS ad ap O hx) IZ h1 io;. (have:UC=false:=by rw[A1 h1 adC]);rw[qE]);have cn:as UC:=by rw[A1 h1 Dj]);rw[M3 cn,<-bI 3 AH.nd cN (dX (bI 4 AH.nd) em zT oK ?_),p9 (∃(k:R)(sn:cs),GH [il,qD,bd p,fo .bl sn,m4 hV] (k<=p) (Dg sn sW=T_ hA)) (p - b) (fM p hA O nl kn fz O O)];rintro m a0 H1 s1⟨k,sn,rfl,h1,h2,rfl,h3⟩;by_cases hk:b<k;(.rw[KX z aaj h2];(have hb:sW=z::rv iU:=by have:=G5 _W.YH I I L0 hz;rw[FY n! k cI,az]);have fU:as bH (hV>=qR):=rP M9 hk;rw[hb]at h3;refine(aZ _ ds (bP eO a! Z) (c5 (n6 [1,3] Mj cm A.g.Gv A.g.Iy)) bt bt);(. (rw[wr];have De:uD=1\/O0:=by simpa using iq);refine ny (bI 3 AH.nd) (sn||bH (NJ=1)) ml aF (bZ (d3 Mj ac A.g.Gv)) v8 (k7 4) AH.nd #[iU - b,f4 Fp hk,n!,sn||bH (NJ=1),?_,Q',f4 Gb h2,rfl,?_];(.rw[l0 [_,_,_,_,wP hV] cI]);.rw[<-h3,adW];rcases De with h|h;(.rw[ma aC7 h,xc,rP asW h,Jb]);.rw[ma ark h,ma alx h,xc,Au aD6 h,uC]);.rw[Gc fU];(have De:¬(uD=1\/O0):=by rw[rU]);rw[iV cc aF cc Io a! (bZ (d3 Mj ac IZ))];rw[<-h3,fU,ep,adW];by_cases h:uD=2;(.rw[xc,h];simp);.rw[da h,ii λ e=>De (.inl e),ii λ e=>De (.inr e)];have:wd (NJ=2):=Au as8 h;rw[az,C0]);. (have xQ:k=b:=by exact DW h1 hk);subst xQ;have fU:wd (hV>=jz):=Es Pt;rw[_W.Oe]at h3;rw[p4 (bP eO a! Z) fU ?_,iV cc aF (Ip Io a! fU)];rw[C0];rw[<-h3];rfl
Cm{I:nv}{b k:R}{z:Dc}(h:b<k)(hz:I[iU]?=an z):sW=z::rv iU:=by have:=G5 _W.YH I I Kt h hz;rw[c3 (n!+1=k) avh h]at az;exact az
apc(A:Y):G3 (ef "picture_joins") p ((BI).pict&&Mt.sprout (I? I b p)):=ni A.aHM PN λ q e H hr hp U hU=>by rw[Fg p kn a_];obtain⟨x,hx⟩:=dJ a_;rw[Sn y p kn,ck];rw[AM hx,Cm kn hy];rw[show Mt.sprout (y::rv pO)=(O1&&(match(rv pO).P8 (λ y=>BR)with|y::_=>y.pict|[]=>false))from rfl];(refine gb ff tB (Zl A hS ad ap O hx) (eE (gd (x_ A hS ad oK o5 hy) ac A.g.WL)) h1 io;.cases Fu:I! with|false=>rfl|bE=>rw[Fu]at h1;(have:O1=false:=by rw[A1 h1 aox]);rw[qE]);(rw[L5];(have h2:lk I!:=by simpa using xu);have h3:as O1:=by have:=tS;rw[qp,d7 az0]);rw[Gh h2 h3 ep,c2 dX (bI 3 PN.nd) em (dl p - 2) oK,p9 HI k GH [il,qD,bd p,m4 hV] (k<p) ((sW).P8 (λ y=>BR)=(rv pO).P8 (λ y=>BR)) (pO - b) (rL pO (by rw[c3 ((dl p - 2)=bD pO - 1) aw0 o5];rfl) Kt kn cd atx o5 O O)];rintro m a0 H1 s1⟨k,rfl,k1,k2,rfl,k3⟩;by_cases hk:b<k;(.rw[KX z alF k2];have fU:as bH (hV>=qR):=rP M9 hk;rw[Cm hk hz]at k3;refine(aZ _ ds GM sY eW (x_ A zs ad aF cI hz) A.g.SM bt bt);(. (rw[wr];have n9:as UM:=by have:=iq;rw[qp,d7 NN]);refine v8 (k7 3) PN.nd Lk Ps k2 ?_;(.rw[l0 [_,_,_,wP hV] cI]);.rw[<-k3,Gu List.dropWhile_cons_of_pos y BR]);.rw[Gc fU];(have n9:¬(as UM):=by simp at hx⊢;exact ajJ hx);rw[iV cc Io aF (bZ (Zl A zs ad aF cI hz))];rw[<-k3,Gu List.dropWhile_cons_of_neg y BR,fU];rfl);.rw[RB DW k1 hk];rw[_W.Oe]at k3;rw[p4 GM fU ?_,iV (Ip Io aF fU)];rw[<-k3];rfl
asN(A:Y):G3 (ef "indicator_joins") p ((BI).cls==6&&_W.B0 (I? I b p)):=ni A.aod NM λ q e H hr hp U hU=>by((rw[Fg p kn a_];obtain⟨x,hx⟩:=dJ a_;rw[ck];rw[AM hx];refine gb nw (x_ A hS ad ap O hx) A.g.Ll h1 io;. (have:(gl==6)=false:=by rw[A1 h1 Si]);rw[qE]);have cn:as (gl==6):=by rw[A1 h1 ae6]);rw[M3 cn,c2 dX (bI 3 NM.nd) em zT oK];(have done:∀(k:R)(H1:Hp),b<=k->k<=p->A! sW=[]->p - k+a6 A! sW=a6 A! E9->nC (((zT - hV)%2)=1) (_W.B0 (I? I b p)):=λ k H1 k1 k2 k3 k4=>by rw[k3]at k4;unfold _W.B0 Mt.odd;rw[<-k4,q!,dW,gk];simp only[P_,Nat.add_zero];exact afS k2);rw[p9 HI k GH [il,qD,bd p,m4 hV] (k<=p) (p - k+a6 A! sW=a6 A! E9) (p - b) (rL p O nl kn fz O jA alE)];rintro m a0 H1 s1⟨k,rfl,k1,k2,rfl,k3⟩;by_cases hk:b<k;(.rw[KX z aaj k2];have fU:as bH (hV>=qR):=rP M9 hk;refine(aZ _ ds GM sY eW (x_ A zs ad aF cI hz) A.g.Ll bt bt);(. (rw[wr];have n9:as (uF==6):=by have:=iq;rw[qp,d7 ae6]);refine v8 (k7 3) NM.nd Lk Gb k2 ?_;(.rw[l0 [_,_,_,wP hV] cI]);.rw[<-k3,Cm hk hz,Gu Ve y (uE==6),mB];exact aCB cI k2);.rw[Gc fU];(have n9:¬(as (uF==6)):=by simp at hx⊢;exact Si hx);rw[iV z! (iu vS (aW cX oK aF) ai bQ),done k H1 k1 k2 (by rw[Cm hk hz,Gu Vf y (uE==6)]) k3]);.rw[RB DW k1 hk,p4 GM fU ?_,iV z! (iu vS (aW cX oK aF) ai bQ),done k H1 k1 k2 (by rw[_W.Oe];rfl) k3]
avo(A:Y):G3 (cB "is_joined") p zt:=ni A.aIT My λ q e H hr hp U hU=>by rw[Fg p kn a_];(have hx:I[p]?=tk I.getD p _W.no:=by rw[ET F6 a_]);rw[Sn y p kn];(have hh:nF ((E9).headD #[0,0,false])=uE:=by rw[Cm kn hy];rfl);rw[od nZ sX (jZ c.k_ H1 a I/\b<p/\p<I.length) (λ H1 s1=>#[zs,kn,a_])];unfold _W.jR _W.jn;rw[hh];dsimp only;refine kZ (bI 3 My.nd) uE (x_ A hS ad oK o5 hy) (kZ (bI 4 My.nd) nF BI (x_ A hS ad ap O hx) ?_);(refine gb ds (Du (m:=1) aF ac A.g.ML) sY (Du (m:=2)) a! A.g.ND h1 io;.rw[h1];rfl);rw[AV h1];unfold Mt.one;(refine gb ff (n6 [1,2,3] aF pZ A.g.ML A.g.ND A.g.S3) (eE (n6 [1,2,3] a! pZ A.g.ML A.g.ND A.g.S3)) h2 BT;.rw[h2];rfl);rw[h2,P',ep];(refine gb ff gx vp aoV (uE,nF BI) bC aF a! (dr (n6 [4,5,8] a! pZ A.g.SM A.g.WL A.g.aE5) cL (eE (Du (m:=7) aF ac A.g.aue))) h3 O5;.rw[h3];rfl);rw[AV h3,<-gb ff gx r? ajk ((a,I),b,p) nZ (eE (bO r? apc ((a,I),b,p) nZ)) h4 λ h4=>h' r? asN ((a,I),b,p) nZ];(.dsimp only at h4⊢;rw[<-Vg,h4];rfl);.rw[e,<-Vg];dsimp only at h4⊢;rw[AV h4]
OQ{lo:R}{t:pH V}{g:tn}:∀{n:R},(∀k,k<n->t (.int Ng)=g (lo+k))->rR lo n t id=jK KT (P! lo n) g|0,_=>rfl|n+1,h=>by rw[KN,OQ (n:=n) (λ k hk=>h k cd r9 hk),List.range'_concat,List.filter_append,rg,h n HZ];congr 1;rw[qz (lo+1*n=lo+n) apg];by_cases hg:(as (g (lo+n)));(.rw[ip hg,List.filter_cons_of_pos hg];show[e5 _]=[e5 _];congr 1);.rw[ii hg,List.filter_cons_of_neg hg];rfl
p7.1(g:tn):(pH V)|em z=>g C1|_=>false
R7(g:tn)(lo k:R):p7 g fZ Ng=g (lo+k):=by show g kp Ng=_;congr 1
UH(A:Y):ie "cluster_ends" (RQ bi ((a5×nv)×ks) EV bA (td gr dY/\a?<=b!/\b!<=oJ/\oJ<=1000) fl ln Bo Di dY):=k9 A.azc abG dt b3 be λ q f aK A' cx s H0 H E hr hp U hU=>by obtain⟨⟨a,I⟩,b,e⟩:=q;rw[cr dq λ hS eG eU hI=>?_];dsimp only at hS eG eU hI;have nd:=abG.nd;have ed:na ["signs","begin","end","ends","place"] FT ("place",4):=jC (mQ (cw FT));(have hn:kp (dl e - ze)=e - b - 1:=by exact amu);(have aGn:rR ze kp (dl e - ze) MS id=jK ((P! xz UT).CK λ p=>!zt):=by rw[hn];have:=OQ (lo:=b+1) (t:=MS) (g:=λ p=>!zt) (n:=e - b - 1) tL k aN R7 _;rw[<-az];rfl);rw[ck,on fd (agC 4 3 O nd ed q_ m2 (cz nd O D8 D9)) (iy dw (cJ (lG (Ku Vh Vj ug tX (iG (pv 2) fH)))) dh) ox tX n p,EJ pW,<-aCl 4 (lo:=qR+1) (hi:=bB e) (f:=id) (t:=MS) bC NZ ap (by exact ap9 eG eU hI) be (by rw[hn];rw[n7 (show B! by exact anm eU hI)]) (λ s' dE C cl fp k hk=>?_) (λ s' dE C cl fp k hk ht=>a!) H1 s1 _ λ l H2 hl s2 hL=>?_];(. (have hp:qR+1+jz=bD (xz+k):=by exact aIj);refine(Te.of dw λ H3 s3 Q q=>(cA tB (aT (avo A) hr ((a,I),b,b+1+k) hQ ad Z eV a! rr v _ BZ hp p3 #[(hS.later s3).later s4,qC (b<b+1+k) Cf,show b+1+k<I.length by exact arj hk eU]) λ H4 s4=>q H4 s4)));.rw[aGn]at hL;refine cA Nq p? H3 s3 bt;(.rw[Gd d5 (b<e)];have Tc:=aN s3 hL;refine #[_,rfl,.inl Bq Tc,_,rfl,l,_,_,rfl,rfl,Tc,?_,?_];(.rw[ew];have h1:=U5 Cl (!zt) (P! xz UT);rw[List.length_range']at h1;rw[n7 (show B! by exact afH h1 eU hI)]);.refine cA O (p _ _ OB λ H4 s4=>op l s4 ?_);(.rw[iY hl vJ hb]);.rw[aY];unfold Di;rw[ip d5,rg];rfl);. (have d5:¬b<e:=by rw[rU]);refine Fr L3;rw[hL];unfold Di;rw[ii d5,Dk]
wo.1(l:OF)(i:R):Scope:=match l[i]? with|an (.Assign _ H? _)=>sc|_=>FD
GQ{H:Hp}{a:a5}{o:HO}{fs:Bk}(h1:H a=an o)(h2:mc H z C)(h3:∀C dx fs,o≠.ins C dx fs):a≠z:=λ e=>by subst e;rw[a7 h1 h2 h2,h3 _ _ _ O]
v_(g:Ck)(t:aD):(y2).map (λ x=>g (eQ x))=Pb:=by rw[hE];rw[L1 n];show g (eQ (vN n))=g n;rw[g_]
CS:Cd z C dx ns i3 oG qn H q xs:=λ v H fs gC hz _ h=>ah h λ q e hq=>k8 q (by rw[aV (GQ hq hz λ _ _ _ h=>nomatch h)];exact hq)
arw(A:Y):A3 5 "Signs" c.k_ bi (BK×V×aD) [f7,a?] bA (qf/\ba H a? b!/\wE b!/\Hd b!) fl oG td q JZ h? q6 Br:=by refine Ij A.k_ A.md.init Uh dt b3 be Df ["kinds","conjuncts","pictures"] λ a e z dx H hr hp=>?_;obtain⟨⟨b,d,kk⟩,v,t⟩:=a;have hr:b7 4 (e.A.deeper Tl (envOfC "Signs.__init__") aw rW):=hr;rw[cr dq λ hR aS bJ a3=>lv av hv gn];rw[f6];dsimp only at hv gn bJ a3⊢;rw[gc hv Uh.nd];(have hsz:Aw:=by rw[zS]);have b1:Lf rW:=jC (B8 rW 0);have b2:Lf rW:=jC (B8 rW 1);have b3:Lf rW:=jC (B8 rW 2);have hs:L6 k n t:=eT Md _;((refine #[_,.p P7 KW (vN nF MQ) b1 (λ s' dE C cl fp k x hk=>?_) CS (.p A.md.aab KW (vN (MQ).conj) b2 (λ s' dE C cl fp k x hk=>?_) CS (.p A.md.Wt KW (bN (MQ).pict) b3 (λ s' dE C cl fp k x hk=>?_) CS tV)),rfl,λ H2 s2 v1 h1 v2 h2 v3 h3 hz=>?_];(.rw[Rr ahJ aF xt]);.rw[Rr amd aF xt]);.rw[EZ aU aU (aT (aBm A) hr (gH,m) bC Z aF d! #[KO,xt])];rfl);refine ah h1 λ k1 e1 cI=>ah h2 λ k2 e2 nG=>ah h3 ax k3 e3 jQ;subst e1 e2 e3;(refine #[z,rfl,dx,_,k1,k2,k3,hz,rfl,rfl,rfl,?_,?_,?_];(.rw[AJ cI (v_ tM (vN nF Nv))]);.rw[AJ nG (v_ tM (vN (Nv).conj))]);.rw[AJ jQ (v_ tM (bN (Nv).pict))]
aHQ(n:R):n|||16255=16255↔O_/\T3:=by constructor;(.intro h;have h1:n<=n|||16255:=Nat.left_le_or;refine #[f5 aBl h1 h,?_];have h2:=ro tM (Nat.testBit m 7) h;simp only[Vk]at h2;(have h3:(Un).testBit 7=false:=by decide);rw[h3,uC]at h2;exact h2);.rintro⟨h1,h2⟩;apply Nat.eq_of_testBit_eq;intro i;rw[Vk];by_cases hi:i<14;(.by_cases h7:i=7;(.rw[h7,h2,jc]);. (have:∀j,j<14->j≠7->as ((Un).testBit j):=by decide);rw[az i hi h7,Jb]);.have:rh i=false:=Nat.testBit_lt_two_pow (Vl h1 (show 16384<=2^i from Nat.pow_le_pow_right (n:=2) bQ S5 (14<=i) hi));rw[AV az]
EC(n:R):Vm hK 3=bD (n%4):=by have:=rz (zY.UQ (x:=hK) 2) tu;rw[zp ((O'^2 - 1)=3)]at az;rw[fI az ahg]
}
section
variable{X:Cx}{σ:ei}{H:Hp}{e b:dk}{ct p:ej}
def z:={
vR(A:c')(hr:Ct)(n k:R)(h1:mh e n)(h2:lg b jz)(hg:vQ (x? "has_bit"))(he:ng [e,b] hH e [b])(Lm:ng [b] hH b [])(a_:e7 En [b] any):kr qx (jB "has_bit" p) [e,b] rh k:=iO (aT (mC A) hr (lm,jz) (ae h1 (ae h2 ao Lm) he) lT KC hg bQ he a_) rr v _ (by rw[e];exact j0 bN (ja n k))
}
section z
def z:={
aAh(A:Y):cB "is_ways" (RQ qJ [vN n] oZ yv n (.bl o1 (Dn n))):=wg A.aAZ aFi λ n f aK A' cx s H0 H E hr hp=>by(have e1:bH (Builtin.bitOr hK 16255=16255)=bH (n<16384/\T3):=by rw[zY.aMe jA tu bQ,Pu];congr 1;rw[<-aHQ];simp only[eq_iff_iff];constructor;(.intro h;exact_mod_cast h);.intro h;exact_mod_cast h);unfold Dn;refine gb ff nw (aW aIJ ad ac A.g.VY) A.g.VY (eE (bP gJ HW ad ac A.g.VG)) h1 bG h1 (iT (cp (tA 2 ad ac A.g.SE) cL (bZ (tA 3 ad ac A.g.Vi)))) k0;(.rw[e1,EC]at h1;rw[gj];(.rfl);.rw[Sr dW not_and Bool.not_eq_false];by_cases h:O_;(.rcases h1 with h1|h1;(.exact .inr (.inr (.inl (h1 h))));.exact eA .inl aJz h1);.exact .inr (.inr (.inr To h)));.rw[e1,EC]at h1;rw[R? rc dW h1,<-bq h1 λ aS h4=>bq aS cS h2 h3];by_cases hb:as Op/\as Os;(.rw[ip (.inr (.inl hb)),hb.1,hb.2];rfl);.rw[da];(.show as _;rw[rb,PM];by_cases h5:(as Op);(.right;by_cases h6:(as Os);(.rw[kw #[h5,h6] hb]);.simpa using h6);.left;simpa using h5);.rintro(h|h|h|h);((.exact aHk h h4);.exact hb h);(.rw[a7 h3 h h]);.exact aiC h h2
aHP(n:R):Vm (lm/2^Ow) 63=bD (n/256%64):=by(have e:(lm/2^Ow)=bD (n/256):=by rw[zp (Ow=8),sb ((2:bF)^8=256)];exact aL0);rw[e];have:=rz (zY.UQ (x:=bD (n/256)) 6) amw;rw[zp ((O'^6 - 1)=63),sb ((O'^6)=64)]at az;rw[fI az aBr]
Mm(A:Y):A3 2 "Ways" c.Ways bi (R×j4) [vN dR] tL a (Dn dR=an dd) fl oG vB q dd:=by refine Ij A.Ways A.e9.init aAE dt b2 be C' ["strict","loose","break_all","keep_all","by_words","eastern","splits","tab"] λ a e z dx H hr hp=>?_;obtain⟨n,y⟩:=a;have nH:Dn n=an y:=hp;(have hy:y=#[n%4,Op,Os,rh 4,rh 5,rh 6,n/256]/\O_:=by unfold Dn at nH;split at nH;(.cases nH);.rename_i h;cases nH;refine #[rfl,?_];have h4:¬2^14<=n:=λ e=>h (.inr (.inr (.inr e)));omega);obtain⟨rfl,a8⟩:=hy;(refine #[_,.v A.e9.Ut (d3 HW Z ac A.g.az5) (.v A.e9.Z5 (d3 HW Z ac A.g.VG) (.v P3 th (tA 2) A.g.SE (.v A.e9.Qp th (tA 3) A.g.Vi (.v A.e9.Qc th (tA 4) A.g.aqw (.v PV th (tA 5) A.g.aBG (.v A.e9.abn th (tA 6) A.g.al4 (.v A.e9.w_ HW (iu Ej Z ai bQ) tV))))))),rfl,λ H2 s2 hz=>#[z,rfl,dx,_,hz,?_,?_,rfl,rfl,rfl,rfl,?_,rfl]];(.rw[l0 i1 _ EC,D! (λ b=>i1 b),z6];dsimp only;rw[Mq]);.rw[l0 i1 _ EC,D! (λ b=>i1 b),z6];dsimp only;exact aoF);.rw[l0 El _ aHP,D! (λ m:R=>bd m)];show n/256%64=n/256;exact aFI a8
}
structure kb(c:Cs)(H:Hp)(a:a5)(bk:BK)(y:j4)(t:aD):Prop where
 sc:KL t.all
 len:db<=64
 hb:d8 mJ bk H
 ex:∃dx fs ta sg wl al,mc H a c.zU/\jT ("book":a4) ci bk.1/\jT ("text":a4) ci ta/\jT ("tab":a4) bd up/\jT ("signs":a4) ci sg/\jT ("widths":a4) ci wl/\jT ("alone":a4) ci al/\fa H ta jh/\td sg JZ jh Ia/\sI wl jh tN (vN (xO Ia y n))/\sI al jh tN MY bN Ia n
def z:={
kb.later{H H':Hp}{a:a5}{bk:BK}{y:j4}{t:aD}(h:kb c H a bk y t)(s:tE):kb c H' a bk y t:=by refine wx kH λ dx fs ta sg wl al h1 h2 h3 h4 h5 h6 h7 h8 h9 fb eD=>?_;exact #[h.sc,h.len,bz.later h.hb s,dx,fs,ta,sg,wl,al,Ig,h2,h3,h4,h5,h6,h7,pB h8,Qa s,pB fb,pB eD]
jZ.keep{D:a5}{H:Hp}{a:a5}{I:nv}{fs:Bk}{o:HO}(h:jZ C H a I)(hz:mc H z D)(hl:f8 (uc G9)):jZ C (upd H z o) a I:=by refine zF h λ fc gC k1 k2 k3 h1 h2 h3 h4 h5 h6 h7=>?_;(have e0:a≠z:=λ e=>by subst e;rw[a7 h1 hz hz,a7 h2 hl hl]);have e1:k1≠z:=Oc h5 _ h;have e2:k2≠z:=Oc h6 _ h;have e3:k3≠z:=Oc h7 _ h;exact(qM fc gC k1 k2 k3 (by rw[aV e0];exact h1) h2 h3 h4 (by rw[aV e1];exact h5) (by rw[aV e2];exact h6) (by rw[aV e3];exact h7))
awd{D:a5}{I:nv}(h0:G9∉ns):Cd z C dx ns i3 oG (jZ D H q I):=λ v H fs gC hz hf h=>ah h λ q e hq=>k8 q (hq.keep hz (by cases g:uc G9 with|aH=>rfl|c! x=>rw[kw aN hf g h0]))
atO(A:Y):A3 7 "Sheet" c.zU bi (BK×E5×sd) [f7,dp lr,br] bA (qf/\AO/\AQ/\wE bm/\tf bm) fl oG (kb c H q dR eR bm):=by refine Ij A.zU A.fE.init Y9 dt b4 be Qb ["book","text","tab","signs","widths","alone"] λ a e z dx H hr hp=>?_;obtain⟨⟨b,d,kk⟩,⟨wa,y⟩,v,t⟩:=a;have hr:b7 6 (e.A.deeper Tl (envOfC "Sheet.__init__") aw vn):=hr;rw[cr gE λ hR hW aS bJ a3=>lv av hv gn];rw[f6];have tG:vB wa y:=hW;dsimp only at hv gn bJ a3⊢;rw[gc hv Y9.nd];(have hsz:Aw:=by rw[zS]);have b1:Se vn:=jC (B8 vn 4);have b2:Se vn:=jC (B8 vn 5);have hs:L6 k n t:=eT Md _;obtain⟨wdx,wfs,hw,_,_,_,_,_,_,aIX,_⟩:=tG;(refine #[_,.v A.fE.zA Z (.v A.fE.abL aF (.v A.fE.w_ (kZ cQ up ap p3 (b9 _ wdx wfs Cb hw C' A.e9.w_ aIX)) (.p Je (sj (arw A) hr (gH,dp av,t) bC Z aF Cg (fQ (fO s5) op av s5 gn bJ (o8 a3 bQ))) nT awd (.p A.fE.Y4 vC (pd 4 (f:=dV SN xv) O nd b1 aF) pi H6 s6 k8 av d' qX gn (λ s' dE C cl fp k x hk=>?_) CS (.p A.fE.VA vC (pd 4 (f:=dV MY bN eo xv) O nd b2 aF) pi H6 s6 k8 av d' qX gn (λ s' dE C cl fp k x hk=>?_) CS tV))))),rfl,λ H2 s2 v1 h1 v2 h2 v3 h3 hz=>?_];(.rw[EZ a9 a9 (aT (aJ1 A) d0 (gH,(wa,y),m) hQ Z ap a! (λ H6 s6=>#[fO s6,PU hW s6,xt]))]);.rw[EZ bU bU vp YY nF MG m d1 (aT (Tg A) d0 (gH,(wa,y),m) kP Z ap d1 a! (λ H7 s7=>#[fO s7,PU hW s7,xt]))];rfl);.refine ah h1 λ sg e1 hsg=>ah h2 λ k1 e2 cI=>ah h3 ax k2 e3 nG;subst e1 e2 e3;refine #[z,rfl,bJ,a3,KO,dx,_,av,sg,k1,k2,hz,rfl,rfl,rfl,rfl,rfl,rfl,e? gn,hsg,?_,?_];(.rw[cI,v_ tM SN m]);.rw[nG,v_ tM MY bN eo m]
}
section _P
namespace _M
open yc ye yf _L
def z:={
P6{X:Cx}{σ:ei}{H:Hp}{k:R}{m:a4}{e o:dk}{es:HT}{ct apos:ej}{C b:a5}{α:Type}{args:α->g'}{pre:α->my Hp}{post:α->V->my Hp}{P:V->my Hp}{PL:g'->my Hp}{pl:Sem cs}(c:dS X.K C)(F:e8 X.prog X.w X.K uB X.base k C m (RQ args pre post))(hr:b7 k X.A)(ho:n1 o b)(hi:sX (∃dx fs,mc H1 b C/\f8 (uc m)))(ha:iv fF Cy PL)(hp:∀vs H1,yJ->bc (PL vs) H1->∃a,dp b::vs=args a/\pre a H1/\∀v H2,l_->post a v H2->P v H2)(bw:ng Cy hH e es)(a_:e7 En es any)(ht:e7 (hH qx (.Dd o m apos) Cy=(do let ov<-hH o;standAt apos.atName;let(f,first)<-holding [ov] (getMethod ov m pl);callWith ct f first J5 backTo Jd Cy J5 backToKw keywordEach []))):iv Ev qx (.Dd o m apos) Cy P:=Kf c F hr ho hi ha (λ us H1 s1 e1=>by refine bL (hp us H1 s1 e1) λ a e2 h1 h2=>?_;exact cA (aZ a e2 h1 O) h2) bw a_ ht
}
section _M
namespace _P
open yc ye yf _L _M
variable{P:Qe}{w:World}{K:Qf}{mg:NQ}{t2:Heap}{c:Cs}
variable{H H':Hp}{b J x0 e z i mu n:R}{ke kl:fC}{l m:aD}{X:Cx}{a:dk}{ot:Tr}
def z:={
xm{α:Type}(g:Ck){t:aD}(h:b<=e)(he:m' e):gT Pb an qR an bB e=gu ga g:=by unfold gT rk;rw[_H.vI,_H.vI,i',eA Jf Z8 he,Jf (by exact o8 h he),Vp,I2]
X2{σ:ei}{b:dk}{ct:ej}(hu:X.A.units+64<cLine)(ha:iv Ev a qr l)(hb:iv Ev b qr m)(hm:z1):mk i0 Eq [b] (l==m):=Te.of (tZ (OV hu) aI aI hm) λ H1 s1 Q q=>it Up λ u H2 s2 hu=>it TB λ v H3 s3 hv=>by refine ah (hu H3 s3) ax q1 e1 h1;refine ah kM ax q2 e2 h2;subst e1 e2;refine #[.list (dN l),.list (dN m),.lst d' h1 (wB l),.lst d' h2 (wB m),ab6 l,ab6 m,_,rfl,?_];rw[PyData.eqv,GZ];exact q H3 zb
count_map{f:R->R}{k:R}:(o_ λ n=>bD (f n)).count jz=a6 (l.filter dV (f x==k)):=by rw[List.count,List.countP_map,List.countP_eq_length_filter];congr 1;apply List.filter_congr;intro x _;show(mj (f x)==jz)=(f x==k);rw[Et gk gk,Vq]
azI(A:Y):cB "cluster_width" (RQ bi ((a5×Tv BK)×R×ks) [f7,iN,we,vN bm] bA (kb c H gr fe gv iM/\a?<br/\br<=r_) dL (vN (Vr yE fe.2.1 gv bm (rk iM a? br)))):=bp A.aH0 W1 dt b4 be λ q e H hr hp U hU=>by obtain⟨⟨a,⟨bb,d,kk⟩,y,t⟩,b,e,col⟩:=q;rw[pE hS eG eU];dsimp only at hS eG eU;rw[po hR bb hS.hb,<-wx hS.ex λ dx fs ta sg wl al h1 h2 h3 h4 h5 h6 h7 h8 h9 fb eD=>?_];have nd:=W1.nd;rw[ck];rw[_W.azl hR.de];have z9:a6 ga=e - b:=_W.o3 eU;refine gI 4 nd NB qr ga (qv ta ad Ln A.fE.abL h3) Sv ta h8 (by rw[aY,HP vN nl eG eU]) λ cv H1 s1 qO=>?_;have ij:∀H2,l_->ba H2 cv ga:=λ H2 s2=>qO H2 s2;(refine aX ds (X2 (l:=ga) (m:=[9]) (AU hr) (eV a! λ v H2 s2 ev=>by rw[ev];exact ij H2 s2) (eV (nY (ae ac A.g.TAB ao)) λ v H2 s2 bx=>A_ bx q e2)) (c5 (bP gJ KZ ai)) bt bt;.rw[eh,gk,dW]at hx;(have ht:up≠0:=by have:=iq;omega);rw[tc #[hx.1,ht],gt (aW cX KZ (iu vS aF KZ (by have:=iq;omega))) mX];have:=Nat.mod_lt col (show 0<up by omega);rw[d7 apt]);rw[kA (λ h=>by(have:as (ga==[9]&&bH ((dl up)>0)):=by rw[eh,gk,dW];exact #[h.1,by have:=h.2;rw[d7 asr]]);rw[a7 az hx hx]),c2 dX (bI 5 nd) (f? (kS mO 2 ga)) (P6 I0 (V7 A) hr y? qv bb A.fE.zA h2 ju (hR.later s1).cu Bs ac A.g.aLI (DQ (Po:=qr ga) (xs:=jK ga) A.g.zI (eV a! λ v H2 s2 ev=>by rw[ev];exact ij H2 s2) w? (by rw[FP q e2 e2])) (λ vs H2 s2 hv=>by(rw[xb pN λ v1 r1 aS aU v2 r2 a9 bu bU=>ah bu ax q cH hq];subst aS aU a9 bU cH);exact(kB (tl,2,dp q,ga) #[y7 hR.later,sb ((2:R)<3),eH q hq] λ v H3 s3 h=>h)))];(refine aX zf ch bG cn ch eb BU;.rw[st wu cn];unfold mO at wu⊢;cases Ar:M2 t e with|aH=>rw[Ar]at wu;exact CD wu bQ|c! l=>rfl);rw[p0 wu cn];(have Ar:f8 M2 t e:=by unfold mO at wu;cases Ar:M2 t e with|aH=>rfl|c! l=>rw[Ar]at wu;rw[kw (by dsimp only;exact tu) wu]);rw[Ar];dsimp only;refine zF h9 λ sdx sfs k1 k2 k3 g1 g2 g3 g4 g5 g6 g7=>?_;(have zC:gT ((oc).map dV O8) an qR an bB e=gu K5 e5:=by rw[AJ hE HP ((λ x=>O8)∘kS Dl) nl eG eU]);have WC:(K5).count (6:bF)=a6 ((ga).CK dV (Gi xa x==6)):=count_map (f:=tN nF Kw) (k:=6);(refine aX (eW (aqD (ns:=gu ga tN bD (Kw).cls) (k:=6) (NB pA v oG sI q h? K5 e5 (qv k1 y? qv sg Je h5 d! (b9 _ sdx sfs lh g1 Df P7 g2)) w? E8 k1 d' lh g5 λ p H3 s3=>op p s3 (by rw[aY,zC])) ac A.g.Ll w? (by rw[FP q e2 e2])) ai) bG BV ai eb j! BV;.rw[st za BV];rw[gj];(.rfl);.rw[WC]at za;exact Dj za);rw[p0 za BV];rw[WC]at za;rw[kA (λ h=>by rw[h]at za;exact za O),<-dX aG em _ (amC (ns:=gu ga tN bD FR) O A.g.LJ (NB pA v oG sI q h? lD ga n bD FR e5 y? qv wl A.fE.Y4 h6 w? E8 wl d' lh fb λ p H3 s3=>op p s3 (by rw[AJ aY HP (λ n=>vN FR) nl eG eU])) w? (by rw[FP q e2 e2]) (by rw[ww z9,Nat.zero_lt_sub_of_lt eG]) (λ k hk jb=>?_)) fh];(rw[ce (ah (t? hk) ax n hn dA) dA]);have:=_W.aKO (l:=ga) (f:=jp xO y) (m:=FR) M? BS n hn (λ z hz=>by(rw[ce (ah (t? hz) ax n' u0 ee) ee]);have:=jb _ (PK BS n' u0);rw[d7 aEp]);rw[az]
oC.2:=a5×Tv BK
uA.2(c:Cs)(a:oC)(H:Hp):Prop:=kb c H dR a? br bm
oC.B.2(a:oC):g?:=yE eR.1
Qg{k:R}(h:gy k z):IO el=O7++[z]:=by rw[IR,h];rfl
aIF{k:R}(hp:l.Pairwise (· < ·))(hb:∀x∈l,b<x)(h:gy k z):b<=No O7 b/\No O7 b<z:=by cases k with|zero=>rw[im List.take_zero #[fz,nf hb z h]]|succ k=>rw[m8 hl hz h];have hk:gy k l[k]:=Lx uK hl;rw[Qg hk,Qi];show b<=l[k]/\l[k]<z;have h1:=hb l[k] (Vs _);have h2:=yg hp k el cd uK hl hl HZ;exact apN h1 h2 hz
N6(A:Y):RZ (jH "row_width") oC (vN (Vt r3 gv Bo rk iM)):=ni A.an0 Ws λ q e H hr hp U hU=>by obtain⟨⟨a,⟨bb,d,kk⟩,y,t⟩,b,e⟩:=q;rw[pE hS eG eU,p2];dsimp only at eG eU;have nd:=Ws.nd;rw[ck,kt tL v (v=vN jv Vt y ga)];rw[_W.axO eU];rw[<-wx gh.ex λ dx fs ta sg wl al h1 h2 h3 h4 h5 h6 h7 h8 h9 fb eD=>?_,Gt a3 rN (_W.aee oc b e)];have fu:∀x∈SF,b<x/\x<=e:=λ x hx=>_W.AN hx;have hL:sX (jZ c.k_ H1 sg oc/\b<=e/\e<=a6 oc/\Hd oc):=λ H1 s1=>(fQ (Qa s1) eG (by rw[ew,eU]) (by rw[ew,abl a3]));refine bI 3 nd ai (bI 4 nd Z ?_);generalize N9:SF=L at rN fu;refine Sq (GB 5) tw (∃p,a0=[il,qD,w5,bd Ni,an (vN ((Ik).Qh b)),p]) (aT (UH A) hr ((sg,oc),b,e) hQ (qv sg ad Ln Je h5) Z ap hL) qW bx A_ bx q (c? (by rw[e2,<-N9])) lT #[_,rfl] ?_ ?_;(.intro k x a0 H2 s2 hk j;obtain⟨p,rfl⟩:=j.now;(rw[ce (ah (eJ hk) ax z hz aS) aS]);obtain⟨l1,l2⟩:=aIF rN (λ x hx=>(fu x hx).1) hz;have hze:=(nf fu z hz).2;refine k7 3 o9 nd O (k:=mx (Vr eo y Ni (rk t ((Ik).Qh b) z))) (aT (azI A) d0 (ol,No Ik b,z,Ni) kP ad a! bC ch aF (λ H3 s3=>#[Em yh s3,l2,show(m' z)by exact o8 hze eU])) (bI 4 nd ch (c6 λ H3 s3=>#[bd z,?_]));rw[Qg hz,_W.XG,Qi];rfl);.intro a0 H2 s2 j;obtain⟨p,rfl⟩:=j.now;rw[ww Do,aG aF fh]
Kl(A:Y):RZ (gp 5 "line_measure") oC (vN (Qk r3 gv iM a? b!)):=ni A.aty abJ λ q e H hr hp U hU=>by obtain⟨⟨a,⟨bb,d,kk⟩,y,t⟩,b,e⟩:=q;rw[pE hS eG eU,p2];dsimp only at eG eU;have nd:=abJ.nd;rw[ck,kt tL v (v=vN Ab),<-wx gh.ex λ dx fs ta sg wl al h1 h2 h3 h4 h5 h6 h7 h8 h9 fb eD=>?_,p9 ts k GH [il,qD,w3] (k<=e) (rs t b k=Ab) (e - b) (rL e O eG fz O O)];rintro m a0 H1 s1⟨k,rfl,k1,k2,rfl,k3⟩;by_cases hk:b<k;(.obtain⟨n,hn⟩:=n? l t n! (by exact aj3 k2 eU hk);(have cI:(hV)=bD iU:=by exact xP hk);refine(aZ _ ds Nq o0 (ny cO jv Vn y n y? qv al A.fE.VA h7 oK d! qs lh eD (aLg cd aDY cI (by rw[nm hn]))) bt bt);(.rw[wr,<-v8 (k7 2) nd Lk Gb k2 ?_];(.rw[l0 [_,_,El hV] cI]);.rw[<-k3];have:=G5 Bb _W.amR B y t t L0 hn iq;rw[FY n! k cI,this.symm]);.have a8:as bH (dl b<jz):=rP BN hk;rw[Gc a8,gt r? N6 (ol,b,k) d! #[Mv,k1,show(m' k)by exact o8 k2 eU] Ga];rw[<-k3];have:=G5 Bb _W.aLw B y t t L0 hn hx;rw[FY n! k cI,this.symm]);. (have xQ:k=b:=by exact DW k1 hk);rw[p4 Nq Au Tq hk (aG r? N6 (ol,b,k) d! #[Mv,k1,show(m' k)by exact ahV eU eG hk] Ga)];rw[<-k3];exact(_W.aGw S5 (k<=b) hk).symm
FI.1(l:OF)(i:R):Scope:=match l[i]? with|tk .Return an H? _=>sc|tk .Return an (.Call _ [H?] _ _) _=>sc|_=>FD
FF(g:tn)(t:aD):(y2).map MZ=gu Pb bN:=by rw[v_ (λ n=>bN (g n)),hE];rfl
Px(A:Y):cB "all_scalars" (RQ bi sd [a.1] bA (adu H dR dd/\a6 dd<=10000) dL (i7 (a.2.all i!))):=k9 A.ayg WG dt b1 be λ a f aK A' cx s H0 H E hr hp U hU=>by obtain⟨v,t⟩:=a;rw[y3 hv a3];dsimp only at hv a3;have nd:=WG.nd;have ed:na ["numbers","number"] GS ("number",1):=jC (FI (cw GS) 0);((have hsz:Aw:=by rw[zS]);have fin:(Nf).all id=t.all i!:=by rw[CX];rfl);rw[ck];rcases hv with⟨q,rfl,hq⟩|⟨q,rfl,hq⟩;(.refine m0 eL mw wy Nf xL eV vC (pd 1 (f:=dV Ty) O nd ed ad) FA q hq (λ s' dE C cl fp k x hk=>?_) h! bx bx (c? (by rw[h,FF])) pq u e BZ fin;(rw[LX m aS aS]);refine iO os um ld Z nV;rw[e,g_];exact j0 bN (oN m));.refine m0 eL mw wy Nf xL eV vC (z3 1 (f:=dV Ty) O nd ed ad) J' q hq (λ s' dE C cl fp k x hk=>?_) h! cy cy (c? (by rw[h,FF])) pq u e BZ fin;(rw[LX m aU aU]);refine iO os um ld Z nV;rw[e,g_];exact j0 bN (oN m)
aIu.1(l:OF)(i j:R):Scope:=match l[i]? with|an (.If (.BoolOp _ es _) _ _ _)=>(match es[j]? with|an (.Call _ [H?] _ _)=>sc|_=>FD)|_=>FD
aDe(A:Y):ef "are_marks" (RQ bi (HB×sd) [mA,a?] bA (ba H gr dY/\ba H a? b!/\oJ<=10000) dL (i7 (Vu b! dY))):=fx A.aDl adX λ a e H hr hp U hU=>by obtain⟨⟨mv,m⟩,tv,t⟩:=a;rw[cr bX λ a9 bu a3=>ah a9 λ qm kR dQ=>ah bu ax qt ft dI];dsimp only at kR dQ ft dI a3;subst kR ft;have nd:=adX.nd;(have ed:na ["marks","text","mark"] Ep ("mark",2):=jC (aIu (cw Ep) 0 1);have hsz:yZ a6 UO:=by rw[zS]);have vg:RX H1 qm fL:=vV H1 s1 ED qm e Ko;have Dr:RX H1 qt db:=vV H1 s1 ED qt e BP;rw[Am Vu];(refine gb ff (gd Ld n3 db Z m1 pK Dr H1 s1) (eE (bO eL mw zd (Dp λ(n:R)=>bH (lm>2)) CR eV vC (pd 2 (f:=dV (bN (IY ((mj xv)>2)))) O nd ed ad) FA qm dQ (λ s' dE C cl fp k x hk=>?_) h! dz dz (c? (by rw[h,FF (λ(n:R)=>bH (lm>2))])))) h1 io;(. (rw[nk n bU bU]);refine iO (gF gJ ap OM) nV;rw[e,g_]);.rw[Aj];intro h;simp only[eh,gk,xJ,dW]at h;rw[Sr List.any_eq_true List.mem_map id_eq];rcases h1 with h1|⟨_,⟨n,hn,rfl⟩,h2⟩;(.exact h1 (by rw[h.1]));.have:=h.2.1 n hn;rw[st Dq h2,ky awu Dq]);. (rw[L5];(have e1:as (fL==db):=by have:=xu;rw[qp,d7 AW]);have e2:as (m.all dV bH (x<=2)):=by rw[xJ];intro n hn;have h3:=tS;rw[xK,Vw]at h3;have:=h3 n hn;rw[qp,d7 aup]);rw[Gh e1 e2 ep];cases hm:m with|nil=>refine ny aG bE eV (fP (y:=bE) z! Ld m3 (by rw[a7 hm hx hx])) rr v _ BZ Jb fh|i? x r=>(have dm:kL UO (-1)=an T9 (by rw[hm];simp):=by((have h0:m≠[]:=by rw[hm];simp);have h1:Dp vN=m.dropLast.map vN++[T9 h0]:=by rw[SS]);rw[h1];exact aaZ _ _);rw[<-hm];rw[iV (fP z! Ld m3 (bZ (pj (m:=2) (cO ad tO bn mW c? dQ dm) OM)))];((have bf:m≠[]:=by rw[hm];simp);have e3:m.isEmpty=false:=by rw[hm];rfl);have e4:wd (dl fL=0):=xD (by rw[hm,mB];exact Rz);rw[e3,e4,jc,jc,Vy bf];rfl
mkD.2:=HB×ks
ahF(A:Y):ef "first_must" (RQ (λ a:mkD=>[mA,iN]) bA (ba H gr dY/\Bo _W.lH dY) dL (vN (q6+1))):=fx A.aEE Qr λ a e H hr hp U hU=>by obtain⟨⟨mv,m⟩,b,q⟩:=a;rw[cr bq λ cH hM=>ah cH ax qm kR dQ];dsimp only at kR dQ hM;rw[gc kR Qr.nd,ck,<-i5 nd Z ?_,c2 (lN n5 z ts k (a0=[sK,qD,w3]/\b<=k/\k<=q/\z=q - k) (λ _ _ _ _ _ h=>h) (q - b) kF) (fB b O fz hM.le O)];rintro z a0 H1 s1⟨k,rfl,k1,k2,rfl⟩;(have hk:dg m k yS k:=by rw[ET (CH (by have:=hM.lt;rw[ky xF k2]))]);refine(aZ _ nw (oQ yS k ad ap d! qs lh dQ (cb (by rw[nm hk]))) Jh bt bt);(. (have bf:k≠q:=λ e=>by subst e;rw[hM.is]at hx;simp at hx);exact k7 2 o9 nd O ai yP (Bw (q - el) f5 apE bf k2 el O cd Vz k1 f5 aCA bf k2 O));. (have heq:k=q:=by by_cases e:k=q;(.exact e);.have:=hM.no k k1 Q9 k2;rw[rc,dW]at hx;rw[ky aj5 hx]);subst heq;exact aG E! fh
Yc(A:Y):cB "chances_behind" (RQ (λ a:mkD=>[mA,iN]) bA (ba H gr dY/\Bo _W.lH dY/\oJ<=64) fl ln (_W.d6 dY a? b!)):=fx A.ah0 Tt λ a e H hr hp U hU=>by obtain⟨⟨mv,m⟩,b,q⟩:=a;rw[cr bX λ dA hM a3=>ah dA ax qm kR dQ];dsimp only at kR dQ hM a3;rw[gc kR Tt.nd];have hle:=hM.le;have a8:=hM.lt;have ed:na ["marks","begin","must","place"] GR ("place",3):=jC (FI (cw GR) 1);(have hn:kp (mj nu+1 - ze)=q+1 - b:=by exact ajj);rw[ck,c2 kZ (i5 nd) nu (aT (ahF A) hr ((eu qm,m),b,q) bC ad Z bn #[eH qm Ko,hM]),<-m0 (Yb 3 (lo:=qR+1) (hi:=bD nu+1) (f:=id) (t:=p7 λ p=>HD) O nd ed q_ bC NZ E! (by exact auz hle a8 a3) be (by rw[hn];rw[n7 (show B! by exact ahE a8 a3)]) (λ s' dE C cl fp k hk=>?_) (λ s' dE C cl fp k hk ht=>aF) Fq) h! eP eP ?_];(. (have cj:m[b+k]?=an Om:=by rw[Sk aIz hk a8]);(have hz:Gx - 1=bD (b+k):=by exact aqX);(have ht:p7 Cl HD fZ Gx=!bH (pp Om=0):=by show(yS ((Gx).toNat - 1)!=0)=_;rw[qz (kp Gx - 1=b+k) aws,q!];simp);rw[ht];exact gd (oQ Om ad NV d! qs e? dQ (by rw[im hz (cb (by rw[nm cj]))])) UE);.rw[h,hn];have:=OQ (lo:=b+1) (t:=p7 λ p=>HD) (g:=λ p=>HD) (n:=q+1 - b) tL k aN R7 _;unfold _W.d6;rw[<-az];rfl
}
structure Dv(L:aD)(b n:R):Prop where
 rise:AX
 yd:∀p∈L,b<p/\p<=n
def z:={
Mr:∀{L:aD}{b n:R},b<=n->AX->(∀p∈L,b<p/\p<=n)->hG<=n - b|[],b,n,_,_,_=>KC|x::r,b,n,h0,h1,h2=>by have hx:=h2 x r7;rw[List.pairwise_cons]at h1;have:=Mr (L:=r) (b:=x) (n:=n) iq tS (λ p hp=>#[h1.1 p hp,(h2 p (by simp[hp])).2]);rw[mB];rw[ky aJM hx]
pX.1(o:HJ):bF:=match o with|an p=>tD|aH=> -1
atP{L:aD}{p:R}(hp:AX)(h:L.getLast?=an p):p∈L/\∀y∈L,y<=p:=by refine #[List.mem_of_getLast? h,cS y hy];obtain⟨i,hi,rfl⟩:=U4 hy;rw[Qs]at h;rw[m8 hl e h];by_cases hz:i=vM;(.subst hz;rw[e];exact x4 _);.have:=yg hp i tg hi hl f5 ae5 hi hz;exact Oo az e
aaq(A:Y):gp 6 "farthest_fit" (RQ bi (oC×R×A?) [f7,iN,we,mn] bA (se/\ba H mn oU/\Dv oU br r_/\br<=r_) dL (f? (pX (Dw r3 gv a? iM br oU)))):=k9 A.aki WR dt b4 be λ q f aK A' cx s H0 H E hr hp U hU=>by obtain⟨⟨a,⟨bb,d,kk⟩,y,t⟩,n,b,iF,L⟩:=q;rw[cr dq λ hS aS hP rG=>lv qL cC mP];rw[p2];dsimp only at cC mP hP rG;rw[gc cC WR.nd,Gt a3 j7 (Mr rG hP.rise hP.yd)];have ed:na ["sheet","columns","begin","places","fits","place"] FC ("place",5):=jC (mQ (cw FC));((have hsz:yZ a6 tw:=by rw[ew,n7 (show _<=64 by exact agy j7 a3)]);have jW:((tw).CK (p7 λ p=>bH yR p)).map id=gu lD zX p iz rY p e5:=by rw[U1,Py,hE];rfl);rw[ck,<-aGj 5 4 (f:=id) (t:=p7 λ p=>bH yR p) O nd ed aF FA qL mP be hsz (λ s' dE C cl fp k x hk=>?_) (λ s' dE C cl fp k x hk ht=>ch) Fq (λ l H1 s1 hl=>?_)];(. (rw[ce (ah (eJ hk) ax p hp aU) aU]);have Fu:=nf hP.yd p hp;(have ht:p7 Cl bH yR p (vN p)=bH (mj rs t b p<=hK):=by show nC yR kp dl p _;rw[Lj Pu dW ax8]);rw[ht];exact bP eg Sd p ch #[Ok,Fa (b<=p) abd Fu,Fu.2] Z);.rw[jW]at hl;rw[gt (awq (ns:=gu zX λ p=>iz rY p) (m:=pX (lc Dw b L)) O A.g.LJ a! ac Jj w? (af l j1 d' e? hl) j! e (λ k hk jb=>?_)) fh];(. (have e':zX=[]:=by simpa using e);rw[Bj Dw e']);.unfold Dw;have rN:Ot zX:=hP.rise.filter _;(rw[ce (ah (t? hk) ax z hz a9) a9]);cases hg:(zX).getLast? with|aH=>rw[List.getLast?_eq_none_iff]at hg;rw[a7 hg hz hz]|c! p=>obtain⟨h1,h2⟩:=atP rN hg;have h3:=h2 z hz;have h4:=jb _ (PK BS p h1);show iz rY z=tD;exact aFC h4 h3
Wo{o:HJ}:(pX o= -1)↔o=aH:=by cases o with|aH=>simp[pX]|c! p=>simp[pX]
ahc(A:Y):gp 7 "line_end" (RQ bi (oC×R×A?) [f7,iN,.bl T6,we,mn] bA (se/\ba H mn oU/\Dv oU br r_/\oU≠[]) dL (vN (_W.oj r3 gv a? iM br oU))):=bp A.aK5 ade dt b5 be λ q e H hr hp U hU=>by obtain⟨⟨a,⟨bb,d,kk⟩,y,t⟩,n,b,iF,L⟩:=q;rw[cr dq λ hS bu hP bf=>ah bu ax qL cC mP];rw[p2];dsimp only at cC mP hP bf;rw[gc cC ade.nd];have a3:=gh.len;rw[ck,kt tL v (v=vN (lc _W.oj b L))];(obtain⟨x,r,hL⟩:∃x r,L=x::r:=by cases L with|nil=>rw[kw O bf]|i? x r=>exact(dZ x r O));have hx:=hP.yd x (by rw[hL];simp);((have F5:L.headD 0=x:=by rw[hL];rfl);have rG:m' b:=by exact aIV hx);unfold _W.oj;rw[c2 dX (bI 5 nd) (f? (pX Gk b L)) (aT (aaq A) hr (ol,n,b,dp qL,L) kP ad Z bC aF a! bn (fQ Ok eH qL dT mP hP rG))];cases hf:Gk b L with|c! p=>refine aX nw ch Jj bG h1 ch fh io;(have:yF pX p= -1:=by simpa using h1);rw[a7 Wo az az]|aH=>refine aX nw ch Jj (λ h1=>by simp[pX]at h1) io;dsimp only;rw[F5];(refine aX tB ap bG h2 (oQ x a! ai bn mW c? mP (by rw[hL];exact tC O)) eb BT;.rw[gj (by simpa using h2)]);(have jJ:¬C8=false:=by have:(!C8)=false:=h2;simp at az;simp[az]);rw[kA jJ,<-wx gh.ex λ dx fs ta sg wl al h1 h2 h3 h4 h5 h6 h7 h8 h9 fb eD=>?_];have Ym:Mh x≠[]:=_W.Lu _ hx.1;refine gI 6 nd (P1:=qr Mh x) (aT (UH A) d0 ((sg,oc),b,x) hQ (qv sg ad Ln Je h5) aF (oQ x a! ai bn mW c? mP (by rw[hL];exact tC O)) bn (fQ (Qa s1) c3 (b<=x) abd hx (by rw[ew,iq]) (by rw[ew,abl a3]))) λ bv H1 s1 ud=>?_;(rw[ce (ah ud.now ax qB bU Ly) bU]);generalize hB:Mh x=B at Ly Ym⊢;have hPB:Dv B b db:=#[by rw[<-hB];exact aN _W.aee _,λ p hp=>by rw[<-hB]at hp;have:=_W.AN hp;exact agv az hx];rw[c2 dX (bI 5 nd) (f? (pX Gk b B)) (aT (aaq A) hr (ol,n,b,dp qB,B) kP ad Z bC aF g! d! (fQ Mv eH qB e? Ly hPB rG))];(obtain⟨z,r',hB0⟩:∃z r',B=z::r':=by cases B with|nil=>rw[kw O Ym]|i? z r'=>exact(dZ z r' O));refine h' (kJ (eW ch ac Jj) cL (oQ z g! ai d! qs e? Ly (by rw[hB0];exact tC O)) cL ch);rw[e];cases hf2:Gk b B with|c! p=>have:bH (yF pX p= -1)=false:=xD (λ h=>by rw[a7 Wo h h]);rw[qE]|aH=>rw[hB0];rfl
UR(l:oB)(x:ks):Qt (l++[x])=ru l++[x.1,x.2]:=by unfold Qt;rw[List.flatMap_append];simp
Dy(l:oB):a6 ru l=2*i9:=by induction l with|nil=>rfl|i? x l ih=>show a6 ([x.1,x.2]++ru l)=_;rw[IT,ih,mB];simp;exact axG
X6{q:R}(h:_W.lH m b q)(hn:fL<=n):Dv (_W.d6 m b q) b n:=#[aN _W.ajf _,λ p hp=>by have:=_W.Hr hp;have:=h.lt;omega]
BE.1(m t:aD):Prop:=fL=db/\(m≠[]->m.getLast?=c! 2)
BE.must{t:aD}(h:BE m t)(hb:b<fL):m.getLast?=c! 2/\∃q,_W.lH m b q:=by have h1:=h.2 (λ e=>by rw[e]at hb;simp at hb);exact #[h1,_W.acK h1 _ b O hb]
atv(A:Y):gp 8 "filled_lines" (RQ bi (oC×A?) [f7,iN,.bl T6,br] bA (se/\AQ/\BE bm iM) fl (ln FJ VB bm/\Bp FJ VB bm)):=bp A.arC VD dt b4 be λ q e H hr hp U hU=>by obtain⟨⟨a,⟨bb,d,kk⟩,y,t⟩,n,mv,m⟩:=q;rw[cr bX λ hS aS aR=>lv qm kR dQ];rw[p2];dsimp only at kR dQ aR;rw[gc kR VD.nd,Gt a3 hZ aR.1,ck,Ro RJ E6 s_ fr ou t0 (∃(k:R)(e':g0)(dn:oB),Ru [il,jO,fo .bl C8,sK,qq,w3,e'] _W.rM _W.rM) (KB AF aH ([]) O lQ O IG aY O fz)];rintro z a0 H'⟨k,e',dn,rfl,hk,rfl,s2,hL,l8,qy⟩;have vg:r8 qQ qm fL:=Fi s3 qm F7;refine cA qT ch n3 fL aF Go vg p? H3 s3 bt;(. (have mG:k<fL:=by rw[np hx,d7 uQ]);obtain⟨YB,q,hM⟩:=aR.must mG;have GC:=Bb _W.V9 B y (n:=n) (t:=t) hM;have fX:=hM.lt;have bw:=Bb _W.avp B y (n:=n) hZ YB hM;generalize he:lc _W.oj k pL=e at GC bw;have Nd:=yh AA;have je:fa H3 qm Dp:=F7;refine Sz db k (∃(k:R)(e':g0)(dn:oB),Rt [il,jO,fo .bl C8,sK,qq,w3,e'] _W.rM _W.rM);refine mi e (oF (ahc A) hr (cq ad (cq Z (cq ap Bs ch R6 Yc ((eu qm,m),k,q) SO je hM hZ))) (λ vs H4 s4 hv=>?_)) p3 ?_;(.obtain⟨_,_,rfl,rfl,_,_,rfl,rfl,_,_,rfl,rfl,_,_,rfl,rfl,cv,_,rfl,qO,rfl⟩:=kM;exact(kB (ol,n,k,cv,pL) (fQ (Nd.later s4) qO (X6 hM (by show TT;exact VE hZ)) (_W.P2 hM)) λ v H5 s5 h=>by rw[h,<-he]));.have A6:=M4;refine BD Co Bq A6 (it (nY (vs:=[vN k,wF]) bC ch g!) λ u H5 s5 hu=>?_);(rw[ce (ah j1 ax q5 aU j2) aU]);have sZ:=aN s5 A6;refine TE q5 sZ j2;(.rw[ww Dy,Aa (show B! by simp;exact afF qy mG hZ a3)]);. (refine #[_,rfl,db - e,by exact aHs GC mG hZ,e,_,dn++[(k,e)],rfl,by exact UZ GC fX hZ,rfl,ax b' o' hb,?_,?_,?_];(.rw[iY hl Bc s5 vJ hb]);.rw[aY,UR,rg];rfl);(.rw[<-l8,bw,Qu];rfl);.rw[LP aLo GC qy]);.rw[Gd mG (fL<=k)];rw[_W.aEo (by exact AB hZ mG),Dk]at l8;(have gw:Bp vH:=by rw[Dy];exact XJ qy hk a3);rw[l8]at gw;refine Fr #[L3,gw];rw[hL,l8];rfl
zM.1(x:pb):aD:=[x.over,x.lack,Qv]
mI.2(H:Hp)(v:V)(x:pb):Prop:=cU H v (zM x)
ajo(A:Y):gp 6 "line_badness" (RQ bi (oC×R×R×J?) [f7,iN,we,vN mn,.bl oU] bA (se/\br<=mn/\mn<=r_/\Of) fl o4 AZ a? (Qk r3 gv iM br mn) oU):=bp A.azG Tj dt b5 be λ q e H hr hp U hU=>by obtain⟨⟨a,⟨bb,d,kk⟩,y,t⟩,n,b,e,last⟩:=q;rw[cr dq λ hS eG eU hn=>?_];rw[p2];dsimp only at eG eU hn;have nd:=Tj.nd;rw[ck,kt i3 o4 AZ n Ab last,c2 dX (bI 5 nd) em (lm - mx Ab) (aW cX Z Sd e aF #[Ok,eG,eU])];generalize Ab=m;unfold VH;(refine aX (bP cM ch ai) tJ m0 (iR (vs:=[fZ (-oD),xn,f? 1]) (ae (oI ch) bC ai ai)) pq v bx A_ bx q ?_ tJ m0 (iR (vs:=[xw 0,if(lk last)then xn else em (oD*oD),f? 1]) (ae ai bC (kJ gx a! (λ _=>ai) cL (iu aj4 ch ch ?_)) ai)) pq v cy A_ cy q ?_;(.rw[st hX h1];rw[e2,l? agc hX];show GP [kE (-oD),Iu,e5 1]=GP [kE bD (m - n),_,_];rw[c3 (-oD=bD (m - n)) ayC hX];rfl);.rw[p0 hX h1];left;exact amg hn hX);.rw[p0 hX h1];rw[e2,ii c3 (¬n<m) aKz hX];cases last with|bE=>rfl|false=>show GP [Iu,kE (oD*oD),e5 1]=GP [_,kE bD ((n - m)^2),_];(have e3:oD*oD=bD ((n - m)^2):=by have:hK - ld=bD (n - m):=f4 aFP hX;rw[az,Nat.pow_two,Int.natCast_mul]);rw[e3];rfl
avj(A:Y):ef "summed" (RQ bi ((V×pb)×V×pb) [mA,a?] bA (mI H gr dY/\mI H a? b!) fl o4 (a.1.2.plus b!)):=fx A.aJs aCC λ q e H hr hp U hU=>by obtain⟨⟨v1,x⟩,v2,y⟩:=q;rw[cr iS λ aS q2 HX h2=>lv q1 T4 h1];dsimp only at T4 HX h1 h2;subst T4 HX;rw[od ix (∀(σ:ei)(i:R),True) (λ _ _=>trivial),<-m0 (iR (ae (aW bV k! f3 x.over ad h1 k! f3 y.over Z h2) bC (aW bV k! f3 x.lack ad h1 k! f3 y.lack Z h2) (aW bV k! f3 Qv ad h1 k! f3 y.lines Z h2))) pq v dz A_ dz q ?_];rw[e2];rfl
Sh(x y:pb):_E.lexLe lD (zM x) n G' lD (zM y) n G'=x.le y:=by unfold zM MtLine.Bad.le;simp only[U?,List.map_nil,_E.lexLe];rw[wC];simp only[t5,eh,dW,gk];by_cases h1:x.over=y.over;(.rw[l? C6 h1];by_cases h2:x.lack=y.lack;(.rw[l? C6 h2];by_cases h3:Qv=y.lines;(.rw[l? C6 h3];simp[h1,h2,h3]);.rw[F? ma FQ h3,aAF h1 h2]);.rw[F? ma FQ h2,aqi h1 h2]);.rw[F? ma FQ h1,aHl h1]
kN.2(n:R):Key:=.inl hK
DJ{a:R}(h:kN a=kN b):a=b:=by injection h with h;exact AW h
yO.2:=R->pb×oB
}
structure LE(H:Hp)(L:aD)(F:yO)(J:R)(kl ke:fC):Prop where
 hi:∀j x,J<=j->pS->∃v,rH x=an v/\o4 (F j).1
 lo:∀j x,j<J->pS->wL x
 en:∀j x,J<=j->S2 e x e
def z:={
LE.heap{L:aD}{F:yO}(h:lI (LE H L F J))(s:∀v l,cU H v l->cU H' v l):lI (LE H' L F J):=#[λ j x hj hx=>by refine ah Od hj ax v h1 h2;exact(af v h1 B3),nM,rl]
}
structure LI(H:Hp)(L:aD)(F:yO)(J x0:R)(ot:Tr)(kl ke:fC):Prop where
 hi:∀j x,J<j->pS->∃v,rH x=an v/\o4 (F j).1
 lo:∀j x,j<J->pS->wL x
 en:∀j x,J<j->S2 e x e
 no:ot=aH->wL x0
 yes:∀b,ot=xh->(∃v,rH x0=an v/\o4 b.1)/\pP x0=bd (Gq b.2 0)
def z:={
LI.heap{L:aD}{F:yO}(h:wN H F ot)(s:∀v l,cU H v l->cU H' v l):wN H' F ot:=#[λ j x hj hx=>by refine ah Od hj ax v h1 h2;exact(af v h1 B3),nM,rl,h.no,λ b hb=>by refine bq (h.yes b hb) λ aS h3=>lv v h1 h2;exact #[(af v h1 B3),h3]]
VX{L:aD}(hp:AX){j x:R}(h1:dg L i x)(h2:pS):i=j:=by rw[m8 l1 e1 h1,m8 l2 e2 h2];rcases Nat.lt_trichotomy i j with h|h|h;((.have:=yg hp i j l1 l2 h;exact Uj az e1 e2);.exact h);.have:=yg hp j i l2 l1 h;exact Uj az e2 e1
LI.put{L:aD}{F:yO}(h:wN H F ot)(hp:AX)(h0:dg L J x0){v:V}{x:pb}{k:R}(hv:o4 x)(he:(fv).getD k 0=e):LI H L F J x0 an (x,k) (rm kl (kN x0) v) rC x0 e:=by(have ne:∀{j y:R},j≠J->dg L j y->¬kN y=kN x0:=λ{j y}hj hy hk=>hj (VX hp hy (by rw[DJ hk];exact h0));refine #[λ j y hj hy=>?_,λ j y hj hy=>?_,λ j y hj hl hy=>?_,(λ hb=>OE),cS b hb];(.rw[kK,da (ne mm HK hy)];exact h.hi j y hj hy);.rw[kK,da (ne mm VJ hy)];exact nM j y hj hy);(.rw[kK,da (ne mm HK hy)];exact rl j y hj hl hy);.cases hb;rw[kK,pt,kK,pt,he];exact #[eH v hv,rfl]
LI.close{B:g?}{y:j4}{t:aD}{L:aD}{b:pb×R}(h:wN H (λ j=>Ha mu va j) xh)(h0:dg L J x0)(hl:KP J)(hb:_W.jt B y n t mu x0 fv a6 fv=an b)(a8:b.2<a6 fv):lI (LE H L (λ j=>Ha mu va j) J):=by rw[m8 uV e0 h0];(have hd:DA J=x0::fv:=by rw[KF uV,e0]);have Cw:=_W.asA B y n t mu hb;rw[<-hd,Qx]at Cw;refine bq (h.yes b O) λ aU zO=>ah aU ax v hv ud;rw[I1]at a8;refine #[λ j x hj hx=>?_,nM,λ j x hj hlj hx=>?_];(.by_cases e:J=j;(.subst e;rw[a7 h0 hx hx,<-(af v hv ?_)];show o4 (zJ Ha mu J).1;rw[fI Cw ud]);.exact h.hi j x FO hx);.by_cases e:J=j;(.subst e;rw[a7 h0 hx hx];(have hg:L[vc+b.2]?=an (Gq b.2 0):=by rw[PT,DH,Lx Qy a8];rfl);rw[<-(ji _ (vc+b.2) zO OH hg ?_),l0 (zJ Ha mu J).2 Cw]);.exact rl j x FO hlj hx
LE.open_{L:aD}{F:yO}(h:lI (LE H L F vc))(h0:dg L J x0):wN H F aH:=#[λ j x hj hx=>Od hj,λ j x hj hx=>nM j x mm r9 hx,λ j x hj hl hx=>rl j x hj hl hx,q4 (nM J x0 HZ h0),(λ b hb=>OE)]
Gz{q:a5}{aq kvs':fC}(hq:k? H q aq){v:V}(h:cU H v l):cU (upd H q (.dK kvs')) v l:=by refine ah h ax a e h;refine k8 a ?_;rw[aV (λ e=>by subst e;rw[a7 h hq hq])];exact h
N_{L:aD}(h:L[tg]?=an mu):kL tw (-1)=bd mu:=by(have h0:L≠[]:=λ e=>by rw[a7 e h h]);((have h1:L.map vN=L.dropLast.map vN++[vN (L.getLast h0)]:=by rw[SS]);have h2:L.getLast h0=mu:=by rw[<-Qs,Vy h0]at h;exact Qz h);rw[h1,h2];exact aaZ _ _
aEX{L:aD}(h:i<=hG):gT tw an bB i aH=jK va i:=by unfold gT;rw[_H.vI,_H.ar8,i',Jf h,VL (by rw[I1,i'];exact x4 _),I2]
Rq{σ:ei}{b:dk}{rest:HT}{ct:ej}{x:cs}(ha:mk a x)(hx:lk x):iv Tw (.BoolOp .Or (a::b::rest) ct) bE:=by(have h:=dr (y:=bE) (b:=b) (rest:=rest) (ct:=ct) ha λ e=>by rw[a7 hx e e]);rw[Jb]at h;exact h
aqS(A:Y):gp 7 "least_ends" (RQ bi (oC×R×HB×R) [f7,iN,br.1] bA (se/\ba H br.1 w'/\Of/\Ot w'/\(∀p∈w',p<=r_)/\a6 w'<=65/\w'[xd q6.1.2 - 1]?=an bm) fl F0 qe qe lI (LE H w' (λ j=>_W.lb r3 gv a? iM bm (q6.1.2.jl j)) 0)):=Fv A.aAg aaW λ q f aK A' cx s H0 H E hr hp=>by obtain⟨⟨a,⟨bb,d,kk⟩,y,t⟩,n,⟨iF,L⟩,mu⟩:=q;rw[cr wO λ hS aS hn rN jo j7 y4=>lv qL cC mP];rw[p2];dsimp only at cC mP hn rN jo j7 y4⊢;rw[gc cC aaW.nd];have hU:=j9 hr;(have hL1:1<=hG:=by have:=gA y4;rw[d7 Nat.one_le_of_lt]);rw[kt i3 F0 qe qe lI (LE H L Ft 0),on fd kc O! i fr zl i (X0 (Ug aI aI aaM) O O bQ bQ) fd fr ou AY Fj Dm Ew cz (aP kc Ir (cJ Kk (mD aI) (cz (i:=8)) Lt O? i zr B_ s_ (pv 7) (pv 9) B_ xA (pv 7) Eh dh)) ox xA n' p];have af2:r8 (aj H H2) qL hG:=Fi s3 qL Ca mP;refine mi mu (cO ap tO d! qs lh mP (N_ y4)) cS H2 s2;intro l1 fk;refine mi mu aF λ H3 s3=>it (iR (vs:=[xw 0,xn,xn]) (ae ai bC ai ai)) λ v0 H4 s4 hv0=>?_;have Mi:k? H4 l1 []:=rJ aY;refine(MR Mi ([(kN mu,v0)]) O r7 IA l2 f_);(rw[ce (ah hv0.now ax q0 aU NY) aU]);((have n0:q0≠l1:=λ e=>by subst e;rw[a7 NY Mi Mi]);have lJ:l2≠l1:=λ e=>by subst e;rw[a7 aY f_ f_]);have WZ:iB H4:=λ b' o' hb=>rJ (by rw[aV (c8 e? hb fk)];exact e? hb);have f1:f8 (H1 l1):=s2.free fk;(have f2:f8 (H1 l2):=by rw[aV lJ]at f_;exact WZ.free f_);((have uM:Bh o oi iB B4 l1:=λ sx b' o' hb=>by rw[iY f1 aN sx hb]);have B7:Bh o oi iB B4 l2:=λ sx b' o' hb=>by rw[iY f2 aN sx hb]);have Hb:iB yz vq H4 (nQ [] [(kN mu,dp q0)]) l2 []:=B7 (uM WZ);(have tj:kp (Nj - -1)=vM:=by exact asa);(refine(cA hQ ps wz hG pi H6 s6 pK af2 H6 (q9 (Hb.trans s6)) tO tO λ vs H6 s6 ev=>(qA Nj (-1) (-1) ((Nj - -1).toNat) Jl (nD.neg jA arS cd aH1 j7 bQ bQ) (C3 wj i H' (∃(x6 x7 x8 x9:g0)(kl ke:fC),RT [il,jO,GX,Hs,ql,qj,x6,x7,x8,x9] H' lI (LE H' L Ft (tg - i))) ?_ ?_ ?_)));.refine #[aH,aH,aH,aH,_,_,rfl,Us,qX (by rw[G! aV lJ aY]),qX aY,?_,fz,fz];(have BW:mI H6 eu q0 #[0,0,0]:=op q0 s6 (by rw[aV (λ e=>by subst e;rw[aV n0]at f_;rw[a7 NY f_ f_]),aV n0];exact NY);have wU:DA tg=[mu]:=by rw[Sf h1 h2 y4]);refine #[λ j x hj hx=>?_,λ j x hj hx=>?_,λ j x hj hl hx=>by exact(awG hj hl).elim];(. (have jx:HF:=by have:=gA hx;rw[ky aqC hj]);subst jx;rw[a7 y4 hx hx,<-(af eu q0 (lF O) ?_)];rw[wU,_W.Yv];exact BW);.show f8 (b8 [(kN mu,yk q0)] (kN x));rw[lX (λ e=>by have:=VX rN hx (by rw[<-DJ e];exact y4);rw[ky aoY hj])];rfl);(.rintro i a0 H' hi⟨x6,x7,x8,x9,kl,ke,rfl,sH,cI,nG,xg,c_,gR⟩;rw[tj]at hi;obtain⟨J,hJ⟩:∃J,vM - i=J+1:=#[hG - 2 - i,f4 aII hi];(have dm:bB hG - 2+Is*(iz (-1))=bB J:=by exact aCh hJ);rw[hJ]at xg;obtain⟨x0,Bv⟩:=eA rD L i J akD dm;have UB:ti H2 (l_->Av H2 qL):=λ sx=>aN sx dT mP;rw[dm];refine mi x0 (cO ap g! (λ H7 s7=>qs v7 (UB sH) (cb (by rw[nm Bv])))) cS H7 s7;refine it (SQ (P:=qr fv) (i:=bB J+1) ap kh g! (vt H8 s8 E8 qL d' dv s8 s7 (UB sH) λ q H9 s9=>op q s9 (by rw[aY,show gT tw an D? J aH=jK fv from eA (aEX (i:=J+1)) auP dm]))) λ u H8 s8 hu=>?_;(rw[ce (ah j1 ax qS a9 Fc) a9]);have sH8:=uO (s7.trans s8);have Bm:=dv s8 s7 cI;have Ho:=dv s8 s7 nG;have hLI:=(xg.heap Gr (s7.trans s8)).open_ Bv;refine kB qS #[_,d' Fc] (t_ (xs:=jK fv) (λ k cZ H2=>∃(x8 x9:g0)(kl ke:fC),cZ=[il,jO,GX,Hs,ql,qj,wD,bd x0,x8,x9]/\l_/\fa H2 qS h? fv/\R0 H2 wN H2 Ft Kd k (rQ+k)) #[x8,x9,kl,ke,rfl,sH8,Fc,Bm,Ho,hLI,c_,gR] (λ k cZ H2 _ bx=>Y5 bx λ _ _ _ _ _ _ hq _=>d' hq) ?_ ?_);(.rintro k x cZ H2 hk⟨y8,y9,kl,ke,rfl,lA,yj,fk,vT,hI,c_,gR⟩;(rw[ce (ah (eJ hk) ax e he bu) bu]);((have pG:L[Cv]?=an e:=by rw[DH]at he;exact he);have zG:k<64:=by have:=gA pG;exact au2 az j7);(have Nw:x0<e:=by rw[m8 a1 a2 Bv,m8 b1 b2 pG];have:=yg rN J Cv a1 b1 OH;exact abu az a2 b2);have eU:=nf jo e pG;refine ah (hI.hi Cv e OH pG) ax ve w9 eG;(have hgd:(fv).getD k 0=e:=AM he;have Oq:(AZ n rs t x0 e (e==mu)).plus (zJ yU mu Cv).1=(AZ n rs t x0 (Gq k 0) (Gq k 0==mu)).plus (lc _W.lb mu ((fv).jl k)).1:=by rw[hgd,Qx]);generalize gW:(AZ n rs t x0 e (e==mu)).plus (zJ yU mu Cv).1=iW at Oq;refine it (P:=pA v o4 iW) (oF (avj A) d0 Bs (aT (ajo A) hr (ol,n,x0,e,e==mu) kP ad Z hQ i2 CA (pj (m:=mu) CA aF) (λ H9 s9=>(fQ EP yh yl s9 c3 (x0<=e) Dh Nw eU hn))) (uT (P:=λ v _=>v=ve) hU a! CA zW z H9 s9) (λ vs H9 s9 hv=>?_)) λ bv H9 s9 ud=>?_;((.rw[wp,(aE l1 ve O (by rw[<-w9];exact dM.k (k:=kN e) aN s9 fk) fh)]);. (rw[xb pN λ v1 _ bU h1 v2 _ cH dA ee=>?_];subst bU cH dA ee);exact(kB ((v1,_),v2,_) #[h1,pk gD s9 eG] λ v mf dF h=>by rw[<-gW];exact h));.have pI:=aN s9 fk;have wJ:=aN s9 vT;have Fe:=hI.heap Gr s9;have hb9:=ud.now;have A5:=yl s9;have XY:=aN s9 yj;(have go:ti H' (aj H9 H'->Fm=an xi->∃(x8 x9:g0)(wW wV:fC),[fo yk a,jO,GX,Hs,ql,qj,wD,bd x0,w5,an bv]=[il,jO,GX,Hs,ql,qj,wD,bd x0,x8,x9]/\iB zE/\fa zE qS h? fv/\Tx zE zE (LI zE L Ft J x0 Fm wW wV)):=λ{H'}sx hb=>by have g1:=aN sx pI;have g2:=aN sx wJ;have gq:=aN sx XY;((have nq1:qS≠l1:=λ e=>by subst e;rw[a7 gq g1 g1]);have nq2:qS≠l2:=λ e=>by subst e;rw[a7 gq g2 g2]);(have c1:j? vq H' Ex l2:=by rw[aV lJ];exact g2);(refine #[_,_,Ex,rC x0 e,rfl,B7 (uM (Jm sx)),by rw[aV nq2,aV nq1];exact gq,by rw[G! aV lJ aY],aY,?_,?_,?_];(.rw[hb];have hI':=Fe.heap (λ v l h=>Gz (kvs':=rC x0 e) c1 (Gz (kvs':=Ex) g1 (pk gD sx h)));exact hI'.put rN Bv (Gz c1 (Gz g1 (pk gD sx hb9))) hgd);.exact o8 B9 cd W4 c_);.exact o8 B9 cd ad7 gR);have DI:∀{m:R},m<=10000->m<CQ:=eT lR h;(have aNh:i<64:=by exact agA dm j7);cases om:Kd k with|aH=>have gB:=Fe.no om;(have kz:Fm=an xi:=by rw[_W.jt,om,Oq]);refine(af bE rq Rq (I_ (z:=false) hU i2 a! zW z mf dF) O (λ mf dF=>iZ ?_));(.rw[wp,(aE l1 aH O (by rw[<-gB];exact dM.k (k:=kN x0) tp) O)]);.rw[or eL p! _ l1 _ (oL x0 tp (DI (by exact Qo dm c_ j7 zG))) ?_ eL p! _ l2 _ (oL x0 (by rw[aV lJ];exact H!) (DI (by exact YL dm gR j7 zG))) ?_,go dF kz]|c! b=>refine bq (Fe.yes b om) λ fJ zO=>ah fJ ax vb yN Pk;(have kz:Fm=if(as (iW.le b.1))then an xi else xh:=by rw[_W.jt,om,Oq]);(refine cA ff (I_ (z:=bE) hU i2 a! zW z mf dF) (eE (Xc (aDd (uK hU)) (ns:=gu (zM iW) tN G') (ms:=gu (zM b.1) tN G') t1 (uT (P:=λ v _=>v=vb) hU a! i2 zW z mf dF) vt mf dF ?_ vt mf dF ?_)) p? mf dF bt;(.rw[wp,(aE l1 B? O (by rw[<-yN];exact dM.k (k:=kN x0) tp) O)]);.rw[wp,(aE l1 vb O (by rw[<-yN];exact dM.k (k:=kN x0) tp) fh)]);((.have e1:=j1;subst e1;refine ah (ud mf dF) ax qb e2 h2;exact(af qb e2 (jY (by rw[MK h2]))));.have e1:=j1;subst e1;refine ah (pk gD dF Pk) ax qb e2 h2;exact(af qb e2 (jY (by rw[MK h2]))));(.rw[Sh,VP,jc]at hx;rw[ip hx]at kz;rw[or eL p! _ l1 _ (oL x0 tp (DI (by exact Qo dm c_ j7 zG))) ?_ eL p! _ l2 _ (oL x0 (by rw[aV lJ];exact H!) (DI (by exact YL dm gR j7 zG))) ?_,go dF kz]);.rw[Sh,VP,jc]at hx;rw[ii hx]at kz;refine #[_,_,kl,ke,rfl,Jm dF,aN dF XY,tp,H!,?_,Tk c_,Tk gR];rw[kz,<-om];exact Fe.heap Gr dF);.rintro cZ H2⟨y8,y9,kl,ke,rfl,lA,yj,fk,vT,hI,c_,gR⟩;rw[i']at hI c_ gR;obtain⟨m,hm⟩:∃m,a6 fv=m+1:=#[xd fv - 1,by rw[Mc aKJ dm]];refine ah (lc _W.awW mu x0 fv m) ax b hb a8;rw[<-hm]at hb a8;(have aeR:tf fv:=by rw[Mc aoS j7]);rw[hb]at hI;refine #[_,_,y8,y9,kl,ke,rfl,lA,fk,vT,?_,tq amI c_ aeR,tq agp gR aeR];rw[c3 (vM - q8=J) aEz dm];exact hI.close Bv cd ak9 dm hb a8);.rintro a0 H'⟨x6,x7,x8,x9,kl,ke,rfl,sH,cI,nG,xg,c_,gR⟩;rw[tj,qC (vM - tg=0) awH]at xg;exact Ml sH H7 (lO l2 kl ke O OK (xg.heap Gr s7))
asI(A:Y):gp 8 "ragged_lines" (RQ bi (oC×A?) [f7,iN,br] bA (se/\AQ/\BE bm iM/\Of) fl (ln FJ QA bm/\Bp FJ QA bm)):=Fv A.ago ae2 λ q f aK A' cx s H0 H E hr hp=>by obtain⟨⟨a,⟨bb,d,kk⟩,y,t⟩,n,mv,m⟩:=q;rw[cr dq λ hS aS aR hn=>lv qm kR dQ];rw[p2];dsimp only at kR dQ aR hn⊢;rw[gc kR ae2.nd];have hU:=j9 hr;rw[Gt a3 hZ aR.1,kt i3 (ln SZ/\Bp SZ)];rw[_W.aLx];rw[on (aP fr O! i (mV fH) fd fr zl i kf zv fd fr ou (B5 T7 (mV (iG s_ fH)) aI) kc z5 (cJ (oa kF dw RJ E6 tX LT)) ox tX) n' p,<-#[lQ,λ l hl=>#[wj z H' (∃(k:R)(x5 x6:g0)(dn:oB),Ru [il,jO,sK,qq,w3,x5,x6] ym ym),(KB qM aH aH ([]) O lQ O IG aY O (x4 _)),?_]]];rintro z a0 H'⟨k,x5,x6,dn,rfl,hk,rfl,s2,hL,l8,qy⟩;have vg:r8 qQ qm fL:=Fi s3 qm F7;refine #[_,qT a! wz fL Go vg,λ H3 s3=>fA bt bt];(. (have mG:k<fL:=by rw[np hx,d7 uQ]);obtain⟨YB,q,hM⟩:=aR.must mG;have fX:=hM.lt;have bw:=vA _W.aJ3 t hM;have Nd:=yh AA;have je:fa H3 qm Dp:=F7;have Ak:=X6 hM c3 TT VE hZ;(have Hn:Ot Bl:=List.pairwise_cons.mpr #[λ p hp=>Uy.1,Ak.rise];have Ma:∀p∈k::pL,(m' p):=λ p hp=>by rcases List.mem_cons.mp hp with rfl|hp;(.exact Oo mG hZ);.exact Uy.2);((have j7:a6 Bl<=65:=by have:=Mr (show(m' k)by exact Oo mG hZ) Ak.rise Ak.yd;rw[mB];exact aHC az a3);have xy:Bl[xd Bl - 1]?=an nu:=by rw[<-Qs,_W.Ce hM,<-List.cons_append,Qi];rfl);have F5:Bl[0]?=an k:=rfl;(have ij:tf pL:=by rw[mB]at j7;exact Nat.le_of_lt_succ j7);generalize N9:k::pL=L at bw Hn Ma j7 xy F5;rw[or #[λ cZ H2=>∃z',z'<db - k/\∃(k:R)(x5 x6:g0)(dn:oB),Rt [il,jO,sK,qq,w3,x5,x6] ym ym,ws,?_] BD Tf λ p1 o5=>it (aT (Yc A) d0 ((eu qm,m),k,q) bC ap a! p3 SO (cT o5 _ _ je) hM hZ) λ cv H4 s4 qO=>?_];(rw[ce (ah qO.now ax qc aU yb) aU]);refine(AE p1 qc _ _ O O Cb aY yb (by rw[ew,Aa (show _<=100 by simp;exact aHm ij)]) IA qP JX);(have RH:aj H3 H4:=(cT o5).trans s4;have WY:Av G_ H4 qP ([vN k]++jK pL) qP:=by rw[aY,<-N9];rfl);(have OL:aj H3 G_ H4 qP ([vN k]++jK pL):=RH.trans (cT JX);have nP:qP≠l:=λ e=>by subst e;rw[dv RH s3 hL]at JX;cases JX);refine it (aT (aqS A) hr (ol,n,(eu qP,L),q+1) hQ ad Z ch Cg #[Nd.later (OL.trans s5),op qP s5 WY,hn,Hn,Ma,j7,xy]) λ ev H5 s5 zO=>?_;(rw[ce (gN zO.now λ qe kl ke a9 Ee xg=>?_) a9]);have ayS:lI (LE H5 L (λ j=>yU nu va j) 0):=xg;have hkq:=hM.le;have aHT:=aN s5 WY;have sZ:fa H5 l h? vH:=aN s5 dv OL s3 hL;have xl:=CE Rm OL.trans;(have nE:qe≠l:=λ e=>by subst e;rw[a7 Ee sZ sZ]);refine #[λ z2 cZ H2=>∃(j x:R)(dn:oB),cZ=[il,jO,sK,qq,bd x,ci qP,GT]/\pS/\z2=hG - j/\l_/\R3 Av H2 qP H2 H2,#[hG,0,k,dn,rfl,F5,rfl,xl,aHT,Ee,sZ,by rw[Pp,<-bw];exact l8,qy],?_];rintro z2 cZ H2⟨j,x,ON,rfl,qg,rfl,lA,FL,WH,f_,K4,O2⟩;have hxt:=nf Ma x qg;refine(cA qT a! (oQ nu ch tO (λ H6 s6=>qs qX FL (N_ xy))) λ H6 s6=>fA BU BU);(. ((have Fz:x<q+1:=by rw[np cn,d7 ajL]);have hj:KP j:=by have h1:=gA qg;by_cases e:HF;(.subst e;rw[a7 xy qg qg,asK Fz]);.exact aHK h1 e);refine fR (ayS.en j x lQ hj qg) λ e j' w9 U7 Kj Cw=>?_;(have hex:x<e:=by rw[Rp Kj j' U7,abu az a2 b2]);(have get:ti H7 (aj H6 H7->dM H7 qe fZ bB x w5):=λ s7=>by rw[<-w9];exact BM (kN x) dv s7 s6 WH);refine #[λ σ3 H3=>∃z',z'<hG - j/\∃(j x:R)(dn:oB),σ3=[il,jO,sK,qq,bd x,ci qP,GT]/\pS/\z'=hG - j/\iB H3/\R3 Av H3 qP H3 H3,ws,?_];(have hl6:=aN s6 f_;refine BD Co Bq hl6 (it (nY (vs:=[vN x,wF]) bC a! SD z7 H7 s7) λ u H7 s7 hu=>?_);.rw[wp,wS qe (get s7) fh]);(rw[ce (ah j1 ax q7 bu uL) bu]);(have hl7:=aN s7 hl6;refine TE q7 hl7 uL;.rw[ww Dy,Aa (show B! by simp;exact aKj O2 Fz fX hZ a3)]);(have TN:j? G_ H7 l ((ru ON).map vN++[vN x,wF]) qe:=by rw[aV nE];exact dv s7 s6 WH);refine mi e SD z8 H8 s8 cS H8 s8;(.rw[wp,wS qe (by rw[<-w9];exact BM (kN x) xe TN) fh]);have hjl:=gA Kj;(refine #[hG - j',tq akn hjl U7,j',e,ON++[(x,e)],rfl,Kj,rfl,λ b' o' hb=>xe ?_,xe (by rw[aV nP];exact dv s7 s6 FL),xe TN,xe ?_,?_,?_];(.rw[iY hl aN s7 dv s6 lA hb]);.rw[aY,UR,rg];rfl);(.rw[<-K4,Cw,Qu];rfl);.rw[LP aAi O2 hex]);.have Fz:¬x<q+1:=eT (cn (x! cd aGf h));(have hj:HF:=by have h1:=gA qg;by_cases e:HF;(.exact e);.rw[Rp xy tg f5 ae5 a1 e,aAw az a2 b2 Fz]);subst hj;(have Nw:x=q+1:=by rw[a7 xy qg qg];rfl);subst Nw;(have wU:DA tg=[nu]:=by rw[Sf h1 h2 xy]);rw[wU,_W.Yv]at K4;exact #[db - nu,by exact aDo fX hkq hZ,q+1,_,_,ON,rfl,tq le_of_le_of_eq fX hZ,rfl,yl s6,qX f_,K4,O2]);.rw[Gd mG (fL<=k)];rw[vA _W.aIE t cd Z8 mG,Dk]at l8;(have gw:Bp vH:=by rw[Dy];exact XJ qy hk a3);rw[l8]at gw;refine Fr #[L3,gw];rw[hL,l8]
UF.1(fs:Bk)(k:bF)(b e:R)(j sp ea ini fin ri so un:cs):Prop:=uc Uk=fo .int k/\jT ("begin":a4) qD/\jT ("end":a4) w5/\gM ("joined":a4) j/\gM ("spaceless":a4) sp/\gM ("east":a4) ea/\gM ("initial":a4) ini/\gM ("final":a4) fin/\gM ("ring":a4) ri/\gM ("soft":a4) so/\gM ("unassigned":a4) un
VO(A:Y):A3 1 "Unit" gm bi (bF×ks) [fZ dR,iN,EG] oZ fl (∃q dx fs,rA/\mc H q gm/\QB<=11/\UF fs dR a? b! hA hA hA hA hA hA hA hA):=Ij A.Unit A.du.init ajq dt b4 be Jr ["kind","begin","end","joined","spaceless","east","initial","final","ring","soft","unassigned"] λ a e z dx H hr hp=>#[_,(.v QC Z (.v A.du.V2 ap (.v QD aF G2 QE Jt G2 QF QG G2 QH QI G2 QJ QK tV))),rfl,λ H2 s2 hz=>#[z,dx,_,rfl,hz,Tf,rfl,rfl,rfl,rfl,rfl,rfl,rfl,rfl,rfl,rfl,rfl]]
kI.1:ec->bF|xf=>la fS|aH=> -1
vX.1(o:ec):cs:=(o.map λ u=>u.is.sa).getD hA
lx.1(C:a5)(H:Hp)(v:V)(o:ec)(b e:R):Prop:=∃q dx fs,rA/\mc H q C/\UF fs (kI o) b e (Ch.zk o) (vX o) (Ju o) (Ch.uR o) (Ch.wA o) (yn o) (Ch.z4 o) (Ch.zm o)
lx.later{C:a5}{v:V}{o:ec}(h:lx C H v o b e)(s:tE):lx C H' v o b e:=by refine gN h OT dx fs h1;exact(lO q dx fs h1 B3 h3)
aMf(A:Y):ie "no_unit" (RQ (λ _:Unit=>[]) oZ (λ _ v H=>m5 lx v aH 0 0)):=c7 A.aqZ asU dt b0 be λ a f aK A' cx s H0 H E hr hp=>by refine m0 (sj (VO A) d0 (-1,0,0) hQ ac Jw ai ai vd) pq v bx (gP bx λ q dx fs e1 e2 _ e3=>(lO q dx fs e1 e2 e3))
aL7(A:Y):ie "is_east" (RQ bi (BK×ks) EV bA (qf/\qd b!) dL (.bl (pr (Pn Br 7 b!) [2,3,4]&&!QM a?))):=ni A.aEO asO λ a e H hr hp U hU=>by obtain⟨⟨b,d,kk⟩,k,n⟩:=a;rw[y3 hR hs,f6,G8,ck,<-h' cc (Rx [9,15,30,31] Z dy x2 re cm uz x3) (bZ (zo [2,3,4] v6 (sl 7) A.g.afv ap pZ A.g.aAz A.g.Wa A.g.Zb))];rw[e,DL];rfl
ahr(A:Y):cB "unit_end" (RQ bi ((V×v9)×TF R) [mA,iN] bA (ba H gr Ky a.1.2/\(dY).jl a?=br::bm) dL (vN (a.2.1+DR br bm))):=fx A.ao4 adK λ a e H hr hp U hU=>by obtain⟨⟨kv,S⟩,b,x,r⟩:=a;rw[cr bq λ aS hd=>lv qk kY tP];dsimp only at kY tP hd;rw[gc kY adK.nd];have hS:∀i,Pj[i]?=S[b+i]?:=Tb hd;have hb:dg S b x:=(hS 0).symm;(have a3:Jx=b+(uP+1):=by have:=ro List.length hd;rw[I1,mB]at az;have h2:=gA hb;rw[d7 aq8]);rw[od dm Td i z dg S i z (λ{H1 i z}s1 hz=>mW c? tP (cb (by rw[nI,nI,hz];rfl))),<-i5 nd NZ ?_];unfold DR;(refine aX gx os YY gl (oQ gl ad Z bn (dm s1 hb)) bG h1 ap eb io;.rw[wQ h1]);rw[da (by rw[h1];simp)];rw[p9 ts j (a0=[ci qk,qD,bd (xz+j)]/\j<=uP/\m=uP - j/\Ch.ig r=j+Ch.ig (r.drop j)) uP (fB 0 O lQ O (by rw[Pp,VR]))];rintro m a0 H1 s1⟨j,rfl,hj,rfl,hm⟩;have X1:r8 l_ qk Jx:=vV H2 s3 (aE qk _ e (.inl (c? Ca dT tP)) (by rw[ww i']));by_cases a8:j<uP;(.obtain⟨z,hz⟩:=dJ a8;(have hSz:S[xz+j]?=an z:=by rw[qz (b+1+j=b+pJ) yY,<-hS pJ,List.getElem?_cons_succ];exact hz);obtain⟨_,ez⟩:=JQ hz;rw[KF a8,ez,Ch.Gy]at hm;refine(aZ _ ds qT ap n3 Jx ad rV pK X1 H2 s2 (c5 (n6 [13,47] (oQ uF ad ap d! (dm HE hSz)) cm I6 Jz)) bt bt);(. (rw[wr];have vD:TO uF:=by have:=iq;rw[MV];simpa using az);rw[ip vD]at hm;refine k7 2 o9 nd O ai yP (Bw (uP - pJ) cd pw a8 pJ ?_ cd JA a8 O cd Nb hm);show[_,_,El (mj (xz+j)+1)]=_;rfl);.rw[x! (by exact ayL a8 a3),ep]at hx;(have vD:¬(TO uF):=by rw[MV,rU]);rw[ii vD]at hm;rw[gt ap Ga,aGT hm]);. (have hjr:j=uP:=by exact uN hj a8);rw[p4 qT ap n3 Jx ad rV pK X1 H2 s2 (xD (by exact ayo a3 a8)) (aG ap Ga)];rw[hjr,List.drop_length]at hm;have:Ch.ig ([]:v9)=0:=rfl;exact ajg hj hm az a8
}
section _P
namespace _M
open yc ye yf _L
def z:={
sf{X:Cx}{σ:ei}{e:dk}{P:V->my Hp}{C:a5}(j:R){t:TS}{g:a4}{D:Ends}{H':Hp}{z dx:a5}{fs:Bk}(hc:dS X.K C)(hn:cf X.K C g)(hl:QB<1000)(he:Ev X σ H' e P)(hr:∀v H2,qQ->bc (P v) H2->mc H2 z C->t D σ (upd H2 z (.ins C dx (bK g v fs))))(hz:mc H' z C)(ho:dg σ j ci z):pW (GV X.K (sG j) (aL X e) g) t D σ H':=by refine it he λ v H2 s2 hv=>#[_,ho,z,C,dx,fs,rfl,e? hz,hc,hn,hl,?_];exact hr v H2 s2 hv e? hz
}
section _M
namespace _P
open yc ye yf _L _M
variable{P:Qe}{w:World}{K:Qf}{mg:NQ}{t2:Heap}{c:Cs}
variable{b J bh m:R}{ke kl:fC}{g x:a4}{C:a5}{z:jm×aD}{s:JB}
def z:={
DS.2(bk:BK)(y:j4)(t:aD):v9:=JY jh Ia y
F1(s:DM):QN s.cls=rI [13,47] s.cls:=by rw[MV];rw[I5,I5,VS,uC]
asj(A:Y):jH "make_unit" (RQ bi (Q8 BK×HB×V×TF R) [Ff,lr,br,vN mn,vN (q6.2.1+DR HA Hx)] bA (Gw/\ba H lr eR/\wE eR/\ba H br Ky (DS gr dY eR)/\(DS gr dY eR).jl mn=HA::Hx) fl (lx gm H v tk Ch.ib HA Hx mn (q6.2.1+DR HA Hx))):=bp A.aLl afd dt b5 be λ a e H hr hp U hU=>by obtain⟨⟨⟨bb,d,kk⟩,y⟩,⟨tv,t⟩,kv,b,x,r⟩:=a;rw[cr gE λ hR aS bJ aU hd=>ah aS λ qt ft dI=>ah aU ax qk kY tP];rw[po aQ bb hR];dsimp only at ft dI bJ kY tP hd;subst ft kY;have N4:fa H qk h? Lo:=tP;have jM:(lw).jl b=x::r:=hd;have nd:=afd.nd;have f9:=Ch.HU x r;have Vv:=Ch.Ub x r;rw[ck];generalize hu:H_=ul at f9 Vv;have hS:∀i,Pj[i]?=lw[b+i]?:=Tb jM;have ya:lw[b]?=an x:=(hS 0).symm;(obtain⟨n,hn,wY⟩:∃n,dg t b n/\x=TC:=by rw[nI]at ya;cases e:t[b]? with|aH=>rw[a7 e ya ya]|c! n=>rw[e]at ya;exact eH n (Qz ya).symm);have qU:EA:=m? bJ n Mo;obtain⟨lz,TJ⟩:∃lz,Pj[Pe]?=an lz:=dJ (by rw[mB];exact ar0 Vv);((have hlc:lz.cls=Ch.xI x r Pe:=by unfold Ch.xI;rw[AM TJ]);have hlS:lw[b+ul - 1]?=an lz:=by rw[c3 (b+ul - 1=b+Pe) azX f9,<-hS];exact TJ);refine gP (NE VO P w A) λ f' fd' ps' hmU M hbU G=>?_;have TY:Td i z (lw[i]?=an z):=λ{H1 i z}s1 hz=>mW c? N4 (cb (by rw[nI,nI,hz];rfl));rw[on fd kc ou kc z5 fd kc Ir fr (bY (i:=8)) (Z2 M G d0 O hmU hbU tV m6 dU) (aP kc O? i fd qH qH fd qH qH fd qH qH fd qH qH ox Eh) n' p,<-mi gl (cO ap aF d! (TY HE ya)) cS H2 s2,<-mi n (cO Z aF (λ H3 s3=>qs vJ BP (cb (by rw[nm hn])))) cS H3 s3,<-dX mL (i7 ([13,47].uw gl)) (zo [13,47] ch cm I6 Jz) cS H4 s4,<-(cA (dX ae GO wv (f? 3) em bB gl rK gx i2 pa cL ch bC aF a!) λ vs H5 s5 hvs z dx hz n_ bf=>?_)];(have LZ:Nl wv (e5 3) kE bB gl=e5 (kI (c! mq)):=by show _=kE iz (mq).is.cls;rw[Ch.sU,Ch.K6,F1];rw[w4]);refine(AF (yF kI mq,b,b+ul) z dx H5 (by rw[hvs.now,Dk,LZ]) O hz n_ bf trivial (λ H6 s6 jL=>#[rfl,?_]));refine gP jL.now λ q fc fs e1 xE uV hUF=>?_;cases e1;(have sA:aj H H5:=SH;have free:Bh o (aj H5 H') (aj H5 B4 z):=λ s' b' o' hb=>by rw[iY hz aN s' hb]);have lp:∀{f:a4}{v:V}{fs:Bk}{m:R},QB<=m->a6 (bK f v fs)<=m+1:=eT (o8 aN Ge _ (Nat.succ_le_succ h));have cl:=Jr;refine dX mL (vN (kT 1 n)) (EH 1 n TK s6 bQ qU ad ac A.g.Jg g!) cS H7 s7;have t7:=s6.trans s7;refine sf 8 cl QE lR uV (pj (m:=47) (oQ lz.cls ap NX (λ H8 s8=>by refine ah (TY (JC (t7.trans s8)) hlS) ax xs h1 h2;exact(af xs h1 (by rw[c3 (bD (b+ul) - 1=bD (b+ul - 1)) awr f9];exact h2)))) ac Jz) qY H8 s8 hz8 v7 xE O;cases kM;have t8:=AR o (bK "joined" e! Eg fs) (t7.trans s8);have l1:=ny (lp (f:="joined")) Eg uV;refine sf 8 cl Jt lR l1 (pj (m:=39) (aT (UL A) hr (tl,n) bC ad g! (λ H9 s9=>#[fO (JC (t8.trans s9)),qU])) ac A.g.SA) qY H9 s9 hz9 aY O;cases kM;have t9:=AR o J9 (t8.trans s9);have l2:=ny (lp (f:="spaceless")) J6 l1;refine sf 8 cl QF lR l2 (aT (aL7 A) hr (tl,gl,n) kP ad ch d1 g! (λ mf dF=>#[fO (JC (t9.trans dF)),qU])) qY mf dF Qj aY O;cases kM;have t10:=AR o (bK "east" e! J8 J9) (t9.trans dF);have l3:=ny (lp (f:="east")) J8 l2;refine sf 8 cl QG lR l3 (pj (m:=16) t1 ac A.g.PI) qY Ui yD aM1 aY O;cases kM;have t11:=t10.trans yD;have l4:=ny (lp (f:="initial")) Q7 l3;refine sf 8 cl QH lR l4 (pj (m:=17) t1 ac A.g.PF) qY Zc j_ aMA aY O;cases kM;have l5:=ny (lp (f:="final")) AC l4;have t12:=MO zy t11 j_;refine sf 8 cl QI lR l5 cc (pj (m:=9676) g! ac A.g.alK) (bZ (Rx [9,15,30,31,13,47] ch Rh re I6 Jz)) qY H13 rB De aY O;cases kM;have l6:=ny (lp (f:="ring")) FG l5;have t13:=MO (HS e! AC zy) t12 rB;refine sf 8 cl QJ lR l6 cc (pj (m:=8208) g! ac A.g.aC1) tI i2 qY H14 s14 aMv aY O;cases kM;have l7:=ny (lp (f:="soft")) LS l6;have t14:=MO (O3 e! FG (HS e! AC zy)) t13 s14;have SI:=AR o (bK "soft" e! LS (O3 e! FG (HS e! AC zy))) t14;refine sf 8 cl QK lR l7 cc (pj (m:=0) t1 ac A.g.CN) cc (Cn A hr 12 n TK SI qU ad UI g!) tI i2 qY H15 s15 aMP aY O;cases kM;have t15:=AR o (bK "unassigned" e! (lf==0&&(yH n&&!Rb)) (bK "soft" e! LS (O3 e! FG (HS e! AC zy)))) (SI.trans s15);have sB:iB H5:=F! CE;obtain⟨u1,u2,u3,u4,u5,u6,u7,u8,u9,u10,u11⟩:=hUF;(have DD:∀(g:pH DM),(∀k,g {x with cls:=3,ring:=false,soft:=false,open_:=false}=g x)->g (mq).is=g x:=λ g hg=>by rw[FM];split;(.exact hg 0);.rfl);(refine cA O (p _ _ (sB.trans t15) λ H16 s16=>#[z,fc,_,rfl,aN s16 aY,?_,?_,?_,?_,?_,?_,?_,?_,?_,?_,?_]);(. (rw[lY]);exact u1);. (rw[lY]);exact u2);(. (rw[lY]);exact u3);((. (rw[lY]);show i1 Eg=i1 (Ch.xI x r (H_ - 1)==47);rw[hlc,hu]);. (rw[lY]);show i1 J6=i1 (mq).is.sa;rw[DD (·.sa) be,wY];rfl);(((. (rw[lY]);show _=i1 (mq).is.east;rw[DD (·.east) be,wY];rfl);. (rw[lY]);show _=i1 (mq).is.initial;rw[DD (·.initial) be,wY];rfl);(. (rw[lY]);show _=i1 (mq).is.final;rw[DD (·.final) be,wY];rfl);. (rw[lY]);show _=i1 (mq).is.ring;rw[FM];rw[F1];((have aD5:x.ring=(n==9676&&!J7):=by rw[wY];rfl);have hc:[9,15,30,31,13,47].uw gl=(J7||wv):=by unfold QM xU;rw[F_,(TQ TQ or_assoc).symm]);rw[hc];cases hm:wv with|bE=>simp|false=>rw[uC,GJ,aD5]);(. ((rw[lY]);show _=i1 (mq).is.soft;rw[FM];rw[F1];have aun:x.soft=Rg:=by rw[wY];rfl);cases hm:wv with|bE=>simp|false=>rw[GJ,aun,P',IX]);. ((rw[lY]);show _=i1 (mq).is.open_;rw[FM];rw[F1];have OZ:x.open_=(yH n&&lf==0):=by rw[wY];rfl);cases hm:wv with|bE=>simp|false=>rw[GJ,OZ,P',IX,DL]
jS.1(C:a5)(H:Hp)(vs:g')(us:ca)(n:R):Prop:=uq=n/\∀i v,dg vs i v->∃u,dg us i u/\lx C H v xf gU (mS us q8)
iQ.1(C:a5)(H:Hp)(v:V)(us:ca):Prop:=∃q vs,rA/\qn H q vs/\ty C vs b?
jS.later{C:a5}{H H':Hp}{vs:g'}{us:ca}{n:R}(h:ty C vs n)(s:tE):jS C H' vs us n:=#[h.1,λ i v hv=>by rw[Sw h u (h2.later s)]]
iQ.later{C:a5}{H H':Hp}{v:V}{us:ca}(h:iQ C H v us)(s:tE):iQ C H' v us:=by refine aO h λ q vs h1 h2 h3=>?_;exact(aE q vs h1 B3 (h3.later s))
apI{H:Hp}{v:V}{o:ec}{e:R}{l:a5}{xs:g'}{ob:HO}(h:lx C H v o b e)(hl:qn H l xs):lx C (upd H l ob) v o b e:=by refine gN h OT dx fs h1;refine(lO q dx fs h1 ?_ h3);rw[aV (λ e=>by subst e;rw[a7 h2 hl hl])];exact h2
jS.upd{C:a5}{H:Hp}{vs:g'}{us:ca}{n:R}{l:a5}{xs:g'}{ob:HO}(h:ty C vs n)(hl:qn H l xs):jS C (_L.upd H l ob) vs us n:=#[h.1,λ i v hv=>by rw[Sw h u (apI h2 hl)]]
jS.snoc{H:Hp}{vs:g'}{us:ca}{n:R}{u:jm}{v:V}(h:ty C vs n)(hu:dg us n u)(hv:lx C H v xf pn n (mS us IM)):ty C (vs++[v]) IM:=by refine #[by rw[IT,h.1];rfl,ax i z hz];by_cases hi:i<uq;(.rw[List.getElem?_append_left hi]at hz;exact h.2 i z hz);.rw[eA List.getElem?_append_right P? hi]at hz;(have:i - uq=0:=by by_cases e:i - uq=0;(.exact e);.rw[VT (by simp;exact Xd e)]at hz;cases hz);rw[a7 az hz hz];(have jo:i=n:=by have:=h.1;omega);subst jo;exact(af u hu hv)
HM(us:ca)(i:R):gU<=Rd:=by by_cases h:(oP i);(.unfold mS;rw[Do];(conv=>rhs;rw[<-List.take_append_drop i us]);rw[rg,VU];exact vo);.unfold mS;rw[eA VL Nat.le_of_not_ge h,Do];exact x4 _
Lw{l:v9}:∀i,i<=a6 wR->i<=mS wR i|0,_=>lQ|i+1,h=>by obtain⟨u,hu⟩:=eA (dJ (l:=wR) (i:=i)) Pq h;have:=Lw (l:=l) i nl h;have h2:=nf (Ch.B1 _ l O).1 u hu;rw[Ch.yr hu];exact Nat.add_le_add az h2
ahv(A:Y):RY (gp 6 "units_of") (qf/\AO/\AQ/\wE bm/\tf bm) m5 iQ v (DT (DS dR eR bm)):=k9 A.ai2 ace dt b3 be λ a f aK A' cx s H0 H E hr hp U hU=>by obtain⟨⟨bb,d,kk⟩,⟨wa,y⟩,tv,t⟩:=a;rw[cr gE λ hR hW aS bJ a3=>Bg];rw[po aQ bb hR];have tG:vB wa y:=hW;dsimp only at ft dI bJ a3;rw[gc ft ace.nd];(have hs:L6 k n t:=eT Md _;have hsz:Aw:=by rw[zS]);rw[od ed na ["book","ways","text","kinds","units","begin","end","scalar"] Eo ("scalar",7) jC (mQ (cw Eo)),kt i3 m5 iQ v L2,<-XQ 7 3 (f:=dV (vN nF MG xv)) O nd ed ap FA qt dI be hsz (λ s' dE C cl fp k x hk=>?_) Fq (λ qk Hk sk tP=>?_)];(. (rw[LX m aU aU]);refine iO (aT (Tg A) hr (tl,(wa,y),m) hQ ad Z i2 bn #[nc,Oj,xt]) nV;rw[e,g_]);(have N4:fa Hk qk h? Lo:=by rw[tP,v_ tM (vN nF MG m),hE,hE];rfl);generalize ir:L2=us;(have b_:M0:=by rw[<-ir,Ch.Pw,i']);rw[Ro RI ug s_ fr ou t0 (∃(i:R)(e':g0)(vs:g'),a0=[ly,GY,km,ci qk,qq,bd gU,e',aH]/\oP i/\z=b? - i/\oi/\qn H' l vs/\jS gm H' vs us i) (AF b? 0 aH ([]) (by rw[Ch.PD];rfl) lQ O IG aY O (λ i v hv=>by simp at hv))];rintro z a0 H'⟨i,e',vs,rfl,hi,rfl,s2,hL,hU⟩;have acM:ti H2 (qQ->fa H2 qt jh):=λ sx=>dv sx s2 dT aN sk dI;have Y2:ti H2 (qQ->fa H2 qk h? Lo):=λ sx=>dv sx s2 dT N4;have Dr:r8 qQ qt db:=vV H2 s3 (aE qt _ e Co (c? (acM s3)) J1);refine cA qT ch wz db Go Dr p? H3 s3 bt;(. ((have a8:gU<db:=by rw[np hx,d7 uQ]);have Ht:Hy:=by by_cases e:i=b?;(.subst e;exact akm a8 b_);.exact Ql hi e);(obtain⟨x,r,hd⟩:∃x r,fq (lw).jl mS i=x::r:=by rw[Qw (by rw[ew,a8])];exact oR);(have GN:us[i]?=tk Ch.ib x r:=by have:=Ch.QX (l:=lw) (i:=i) (s:=x) (r:=r) (by rw[ir];exact Dh Ht) (by rw[fI ir hd]);rw[ir]at az;exact az);have Ys:pn q8=gU+H_:=Ch.yr GN;refine Sz b? i (∃(i:R)(e':g0)(vs:g'),cZ=[ly,GY,km,ci qk,qq,bd gU,e',aH]/\oP i/\NF i/\l_/\qn H2 l vs/\jS gm H2 vs us i);refine mi (gU+H_) R6 ahr ((eu qk,lw),gU,x,r) #[eH qk Uc Y2,hd] cS H4 s4;have A6:=M4;refine BD Co Bq A6 (it (aT (asj A) d0 ((tl,y),(eu qt,t),dp qk,gU,x,r) (ae ad kP ap aF bC ch g!) Cg (j3 KM sk.trans SH w8 F! acM bJ eH qk F! Y2 hd)) λ u H5 s5 hu=>?_);have sZ:=aN s5 A6;have hvl:uq=i:=hU.1;have YK:=Lw (l:=lw) i (by rw[ir];exact Dh Ht);rw[ir]at YK;refine(pf l _ u O O sZ lR (show _<=64 by exact agZ hvl YK a8 a3) ?_);refine #[_,rfl,b? - q8,f4 pw Ht,i+1,_,vs++[u],by rw[Ys];rfl,Mf Ht,rfl,ax b' o' hb,aY,?_];(.rw[iY hl Bc s5 vJ hb]);.rw[<-jS.upd (jS.snoc F! QO GN ?_) sZ,fI Ys j1]);. ((have fU:db<=gU:=by rw[FN (¬iz gU<bB db) hx,d7 zH]);have fg:EE i:=by by_cases e:i=b?;(.exact e);.exfalso;obtain⟨u,hu⟩:=wc i (by exact Ql hi e);have h2:=(Ch.B1 _ lw O).1 u (by rw[ir];exact CO hu);have h3:=HM us q8;rw[Ch.yr hu,b_]at h3;exact aEq h2 h3 fU);subst fg;exact Fr (aE l vs O M4 Uc QO)
F8(o:ec)(l:aD):ia By (o_ vN)=oq:=by cases o with|c! u=>exact C5 fS l|aH=>show ia fZ (-1) (o_ vN)=false;unfold ia;rw[Vw];intro x hx;(rw[ce (ah (t? hx) λ n _ aS=>?_) aS]);show¬((lm== -1)=bE);rw[fI gk aC8]
axz(o:ec)(l:aD):ia By (fZ (-1)::ls)=T8:=by rw[<-F8 o l];show(rT fZ (-1) By||ia By (o_ vN))=_;congr 1;cases o with|c! u=>show(pp (-1)==bB fS)=false;rw[fI U9 akq]|aH=>rfl
}
section
variable{X:Cx}{σ:ei}{H:Hp}{a:dk}{es:HT}{ct jd:ej}{o:ec}{x1:R}{vs:g'}
def z:={
pM(l:aD)(ha:sq)(hb:s?)(hv:wi)(hf:sm)(hl:sw)(hm:zL):mk i0 In sC oq:=by rw[sQ F8 o tW]
oO(l:aD)(ha:sq)(hb:s?)(hv:wi)(hf:sm)(hl:sw)(hm:zL):jI i0 In sC oq:=by rw[sQ F8 o A2]
LH(l:aD)(ha:sq)(hb:s?)(hv:e7 (vs=em (-1)::ls))(hf:sm)(hl:sw)(hm:zL):jI i0 In sC T8:=by rw[sQ axz o A2]
ao9(l:aD)(ha:sq)(hb:s?)(hv:wi)(hf:sm)(hl:sw)(hm:e7 D_ .xW Ea):jI i0 xW sC (!oq):=by rw[sQ F8 o Yy]
Lg(o:ec)(m:R):nC (kI o=ld) GK:=by cases o with|c! u=>show nC (dl fS=ld) rI [m] fS;rw[F_,Vq]|aH=>show bH (pp (-1)=ld)=false;exact Es aGV
gK{b:dk}(m:R){k:bF}(ha:sq)(hb:lg b k)(hk:z? k)(hm:z1):mk i0 Eq [b] GK:=by rw[<-Lg,<-hk];exact eW ha hb hm
dH{b:dk}(m:R){k:bF}(ha:sq)(hb:lg b k)(hk:z? k)(hm:z1):jI i0 Eq [b] GK:=by rw[<-Lg,<-hk];exact d3 ha hb hm
UN{b:dk}(m:R){k:bF}(ha:sq)(hb:lg b k)(hk:z? k)(hm:yQ NotEq b):mk i0 NotEq [b] (!GK):=by rw[<-Lg,<-hk];exact gd ha hb hm
Xk(A:c'){v:V}{u:ec}{e:R}(hn:Ns)(ho:iv Ev a pA v M7 u)(hg:∀fs,SK (UF fs (kI u) b e) vX yn->mb g v)(hb:Lq a a a):M8 a g v:=MW ho (λ w H1 s1 hw=>by refine gN hw.now λ q dx fs e1 e2 e3=>?_;exact(lq q gm dx fs v e1 e2 Jr hn (hg fs e3) fh)) hb
}
section z
def z:={
BY(A:Y):jH "unit_at" (RQ bi ((V×ca)×bF) [mA,em dd] bA wG fl (∃b e,M7 (uS dY dd))):=wh A.aER aG5 λ q f aK A' cx s H0 H E hr hp=>by rw[Sx z g9 uS,<-aX (tT eg cM ai Z K9) io io];(.rw[eh,dW,dW]at h1;rw[tc xu];obtain⟨v,hv⟩:=rD vs i C1 (by exact aBM h1 hl);rw[MH v u hu];rw[hu];refine aG (v:=v) (cO ad Z bn (af vs (c? dT eN) ?_)) λ H1 s1=>Ec (QQ s1);rw[c3 (z=iz rY C1) aqR h1];exact cb hv);. (have hn:f8 Re (0<=z) (us[C1]?):=by split;(.rename_i h0;rw[x! h0,ep,xG]at h1;exact eA VT aL4 h1);.rfl);rw[im hn m0 (LN (aMf A) hr (bn cA kB () trivial O λ v H2 _ h=>h)) pq v h (dZ 0 0 h)]
aFb{us:ca}{n:R}{u:jm}(h:dg us n u):vi uU IM=if fS==41 then vi uU n else y1 IM:=by unfold uU;rw[uW h,List.dropWhile_cons]
sh(u:jm)(m:R):e6 xf [m]=(fS==m):=by show[m].uw fS=_;rw[I5,VS,uC]
}
section
variable{X:Cx}{σ:ei}{H:Hp}{o e:dk}{ct jd:ej}{q:a5}{vs:g'}{us:ca}{i:bF}{j n:R}{u:jm}
def z:={
CG(A:c')(hq:sX qn H1 q vs)(hU:ty gm vs n)(hn:EE n)(ho:n1 o q)(hi:l!)(hj:qG)(hu:dg us j u)(hs:si)(hb:Q4 (P4 (.P5 o e jd) "kind") sJ sJ):lg Ux (.Dd sJ) nB kI:=by(have hl:E1:=by rw[hU.1,hn]);obtain⟨v,hv⟩:=rD vs i j (by have:=gA hu;exact AG az hl);rw[MH v u' eB,a7 hu eB eB,Xk A QC (eV (cO (v:=v) ho hi bn (af vs (c? (hq H1 s1)) (by rw[hj];exact cb hv)) hs) λ w H1 s1 e=>by rw[e];exact QQ s1) Ci h.1 hb]
}
section z
def z:={
aye(A:Y):ef "last_no_space" (RQ bi F9 [mA,Cj] bA (wG/\dd<oJ) (λ a v _=>ts n (v=em oS/\n<=dd+1/\uU (pc dY (a.2+1))=pc dY n))):=wh A.apP QL λ q f aK A' cx s H0 H E hr hp=>by rw[L9 vs hU QL.nd,p9 ts n (a0=[G1,m4 oS]/\n<=p+1/\m=n - 0/\lP uU=vi uU n) eK #[eK,by rw[qz ((mj eK - 1)=tD) Kb];rfl,fz,rfl,rfl]];rintro m a0 H1 s1⟨n,rfl,hn,hm,hz⟩;by_cases h0:0<n;(.rw[RN Th hn hp];have bw:=aFb hu;rw[c3 (AT+1=n) xT iE]at bw;refine(aZ _ ds Hm sY (gK 41) K2 rf bt bt);(.rw[eh,sh]at hx;rw[ip iq]at bw;rw[Ry (k7 1) (by rw[hz,bw]) [_,wP oS]]);.rw[FS,ep,sh]at hx;rw[da (by rw[hx];simp)]at bw;exact aG Z nO kB n hn (by rw[hz,bw]));.rw[L4 n8 (n=0) n8,p4 Hm FU (aG Z nO eL (aZ 0) hn (by rw[hz];rfl))]
Ai{z D dx:a5}{ns:O4}{u:ec}(h0:Uk∉ns):Cd z C dx ns i3 (∃b e,lx D H v u b e):=λ v H fs gC hz hf h=>by refine gG h λ b e h=>gN h OT fc fs1 h1;(have n:q≠z:=λ e=>by subst e;rw[a7 h2 hz hz,h0 aN hf h3.1]);exact dZ b e (lO q fc fs1 h1 (by rw[aV n];exact h2) h3)
}
structure cP(c:Cs)(H:Hp)(a:a5)(us:ca)(p:R)(c0:cs):Prop where
 lt:N! p
 ex:∃dx fs uv xx x y yy jX z zz,mc H a QR/\mb ("units":a4) uv/\jT ("place":a4) bd p/\gM ("is_cut":a4) c0/\mb ("xx":a4) xx/\mb ("x":a4) x/\mb ("y":a4) y/\mb ("yy":a4) yy/\mb ("yyy":a4) jX/\mb ("z":a4) z/\mb ("zz":a4) zz/\m5 iQ uv us/\∀q∈[(xx,lP Ch.rF),(x,lP pe),(y,w2 pg eK),(yy,w2 DU eK),(jX,w2 Ch.Ax eK),(z,lP DV),(zz,lP Ch.yV)],∃b e,lx gm H q.1 q.2 b e
def z:={
cP.later{H H':Hp}{a:a5}{us:ca}{p:R}{c0:cs}(h:jq)(s:tE):cP c H' a us p c0:=by obtain⟨dx,fs,uv,xx,x,y,yy,jX,z,zz,h1,h2,h3,h4,h5,h6,h7,h8,h9,fb,eD,mK,fY⟩:=kH;exact #[h.lt,dx,fs,uv,xx,x,y,yy,jX,z,zz,Ig,h2,h3,h4,h5,h6,h7,h8,h9,fb,eD,mK.later s,λ q hq=>by refine gG (fY q hq) ax b e h;exact(dZ b e (DY s))]
aKU(A:Y):A3 5 "Place" QR bi ((V×ca)×J?) [mA,iN,.bl b!] bA (wG/\a?+1<oJ) fl oG (cP c H q dY a? b!):=by refine Bi A.Place A.eC.init Yx dt b4 be λ a f aK A' cx s E z dx H1 hr hz n_ bf hp=>?_;obtain⟨⟨uv,us⟩,p,c0⟩:=a;rw[y3 jD a8];have vf:iQ gm H1 uv us:=jD;refine aO jD zR g9 eN hU;dsimp only at g9 eN hU a8⊢;rw[gc g9 Yx.nd];have a3:E1:=hU.1;refine cA (aP LT (ar9 Cl (pv 0) HQ (.i? HQ (.i? HQ HQ tV)))) IA D nn;have s0:=C9 (o:=.own z) (o':=.ins QR dx []) hz n_;obtain⟨vx,hvx⟩:=rD vs i p (by exact aj8 a8 a3);obtain⟨vy,hvy⟩:=n? l vs (p+1) (by exact Qn a8 a3);refine ah (hU.2 p vx hvx) ax ux hux hOx;refine ah (hU.2 eK vy hvy) ax uy huy hOy;refine it (aT (aye A) d0 ((eu qu,us),p) bC Z ap d! #[QS (s0.trans s2),S0 a8]) λ ns H2 s2 qU=>?_;(rw[ce (bL qU.now λ n aS hn uI=>?_) aS]);have uI:lP uU=Oy:=uI;have hn:n<=p+1:=hn;(have eXX:lP Ch.rF=uS us zT:=by unfold Ch.rF;rw[S4 Ch.TX a8];congr 1;exact aAx);((have eX:lP pe=an ux:=by unfold pe;rw[uW hux];rfl);have eY:w2 pg eK=an uy:=by unfold pg;rw[VV,huy]);(have eYY:w2 DU eK=uS us (dl p+2):=by unfold DU;rw[Ch.aac];congr 1);(have af5:w2 Ch.Ax eK=uS us (dl p+3):=by unfold Ch.Ax;rw[Ch.aac];congr 1);(have eZ:lP DV=uS us oS:=by unfold DV;rw[uI,Ch.U3 (by omega)]);(have eZZ:lP Ch.yV=uS us (oS - 1):=by unfold Ch.yV;rw[uI,Ch.TX (by omega)];congr 1;exact aGY);rw[or (nX.go (ns:=["units","place","is_cut","xx","x","y","yy","yyy","z","zz"]) (λ H=>∃q,yk z=dp q/\cP c H q us p c0) Cl (pv 0) A.eC.cl hz (.v A.eC.ZU Z (.v A.eC.abk ap (.v A.eC.Xs aF (.p A.eC.abB EQ (tD - 1) oK E_ H6 s6 s6 nT Ai (.v A.eC.YI (cO (v:=vx) Z ap (λ H7 s7=>(af vs d' v7 eN (cb hvx)))) (.v A.eC.YV (cO (v:=vy) Z E! (λ H8 s8=>(af vs d' xe eN (cb (j:=p+1) hvy)))) Rv A.eC.Z0 (tD+2) Rv A.eC.acH (tD+3) (.p A.eC.Qq EQ zV a! E_ H6 s6 s6 nT Ai (.p A.eC.aa8 EQ (zV - 1) NX E_ H6 s6 s6 nT Ai tV)))))))) (s0.trans s2) e? aY (λ H3 s3 vxx vv vyy IQ atl agN vz hvz vzz avE e=>?_) (λ H3 s3 q=>nn _ _ s3 q)) #[z,rfl,a8,dx,_,dp qu,vxx,vx,vy,vyy,atl,vz,vzz,e,rfl,rfl,rfl,rfl,rfl,rfl,rfl,rfl,rfl,rfl,QS s3,?_]];rw[eXX,eX,eY,eYY,af5,eZ,eZZ];exact fm vv (fm Ec (hOx.later s3) (fm Ec (hOy.later s3) (fm IQ (fm agN (fm hvz (fm avE fm0))))))
}
section
variable{X:Cx}{σ:ei}{H:Hp}{o:dk}{ct:ej}{a:a5}{us:ca}{p:R}{c0:cs}{u:ec}
def z:={
OU.2(c:Cs)(u:ec):V->my Hp:=pA v (∃b e,M7 u)
qw(A:c'){v:V}(hn:Ns)(ho:nq)(hg:∀fs b e,SK (UF fs (kI u) b e) vX yn->mb g v)(hb:Lq o o o):M8 o g v:=MW ho (λ w H1 s1 hw=>by obtain⟨b,e,q,dx,fs,e1,e2,e3⟩:=hw.now;exact(lq q gm dx fs v e1 e2 Jr hn (hg fs b e e3) fh)) hb
uk(A:c')(ho:nq)(hb:eq (er "kind")):j6 Ux et (.int (kI u)):=oY A QC h.1
uj(A:c')(ho:nq)(hb:eq (er "joined")):kr fn (et "joined") Ch.zk u:=oY A QE It.1
us_(A:c')(ho:nq)(hb:eq (er "spaceless")):kr fn (et "spaceless") vX u:=oY A Jt It.2.1
ue(A:c')(ho:nq)(hb:eq (er "east")):kr fn (et "east") Ju u:=oY A QF Bu.1
ui(A:c')(ho:nq)(hb:eq (er "initial")):kr fn (et "initial") Ch.uR u:=oY A QG Bu.2.1
uf(A:c')(ho:nq)(hb:eq (er "final")):kr fn (et "final") Ch.wA u:=oY A QH Bu.2.2.1
ur(A:c')(ho:nq)(hb:eq (er "ring")):kr fn (et "ring") yn u:=oY A QI It.2.2.2.2.2.1
uo(A:c')(ho:nq)(hb:eq (er "soft")):kr fn (et "soft") Ch.z4 u:=oY A QJ Bu.2.2.2.2.1
uu(A:c')(ho:nq)(hb:eq (er "unassigned")):kr fn (et "unassigned") Ch.zm u:=oY A QK Bu.2.2.2.2.2
Bf.2(us:ca)(p:R):=y1 eK
Af.2(us:ca)(p:R):=Ih eK
EF(A:c')(h:jq)(ho:jE)(hb:eq (er "xx")):n4 fn (et "xx") fq Ch.rF Bf p:=by obtain⟨dx,fs,uv,xx,x,y,yy,jX,z,zz,h1,h2,h3,h4,h5,h6,h7,h8,h9,fb,eD,mK,fY⟩:=kH;exact(pQ xx A.eC.abB h5).imp λ v H1 s1 e=>by rw[r! (fY (xx,_) Ke) e e]
px(A:c')(h:jq)(ho:jE)(hb:eq (er "x")):n4 fn (et "x") fq pe Bf p:=by obtain⟨dx,fs,uv,xx,x,y,yy,jX,z,zz,h1,h2,h3,h4,h5,h6,h7,h8,h9,fb,eD,mK,fY⟩:=kH;exact(pQ x A.eC.YI h6).imp λ v H1 s1 e=>by rw[r! (fY (x,_) (n2 _ Ke)) e e]
py(A:c')(h:jq)(ho:jE)(hb:eq (er "y")):n4 fn (et "y") fq pg Af p:=by obtain⟨dx,fs,uv,xx,x,y,yy,jX,z,zz,h1,h2,h3,h4,h5,h6,h7,h8,h9,fb,eD,mK,fY⟩:=kH;exact(pQ y A.eC.YV h7).imp λ v H1 s1 e=>by rw[r! (fY (y,_) Kv) e e]
zN(A:c')(h:jq)(ho:jE)(hb:eq (er "yy")):n4 fn (et "yy") fq DU Af p:=by obtain⟨dx,fs,uv,xx,x,y,yy,jX,z,zz,h1,h2,h3,h4,h5,h6,h7,h8,h9,fb,eD,mK,fY⟩:=kH;exact(pQ yy A.eC.Z0 h8).imp λ v H1 s1 e=>by rw[r! (fY (yy,_) (n2 _ Kv)) e e]
aGx(A:c')(h:jq)(ho:jE)(hb:eq (er "yyy")):n4 fn (et "yyy") fq Ch.Ax Af p:=by obtain⟨dx,fs,uv,xx,x,y,yy,jX,z,zz,h1,h2,h3,h4,h5,h6,h7,h8,h9,fb,eD,mK,fY⟩:=kH;exact(pQ jX A.eC.acH h9).imp λ v H1 s1 e=>by rw[r! (fY (jX,_) Lh) e e]
pz(A:c')(h:jq)(ho:jE)(hb:eq (er "z")):n4 fn (et "z") fq DV Bf p:=by obtain⟨dx,fs,uv,xx,x,y,yy,jX,z,zz,h1,h2,h3,h4,h5,h6,h7,h8,h9,fb,eD,mK,fY⟩:=kH;exact(pQ z A.eC.Qq fb).imp λ v H1 s1 e=>by rw[r! (fY (z,_) (n2 _ Lh)) e e]
pzz(A:c')(h:jq)(ho:jE)(hb:eq (er "zz")):n4 fn (et "zz") fq Ch.yV Bf p:=by obtain⟨dx,fs,uv,xx,x,y,yy,jX,z,zz,h1,h2,h3,h4,h5,h6,h7,h8,h9,fb,eD,mK,fY⟩:=kH;exact(pQ zz A.eC.aa8 eD).imp λ v H1 s1 e=>by rw[r! (fY (zz,_) (n2 _ (n2 _ Lh))) e e]
}
section z
def z:={
amy(A:Y):ef "none_if" (RQ (λ b:cs=>[e! b]) oZ yv b em TV):=wg A.axA aK0 λ b f aK A' cx s H0 H E hr hp=>by rw[gt rK gx ad Dt rt uX eb];cases b<;>rfl
gQ{X:Cx}{σ:ei}{H:Hp}{e:dk}{p ct:ej}{b:cs}(A:c')(hr:Ct)(he:jI e b)(hg:vQ (x? "none_if"))(bw:ng [e] hH e [])(a_:zD):lg qx (jB "none_if" p) [e] TV:=aT (amy A) hr b (ae he ao bw) vd hg bQ bw a_
wq:o2 [] (-1):=rfl
kQ(b:cs)(s:JB)(l:MX):o2 ((b,s)::l) (if wk then Nx else yo l):=Bn b
iK{b:cs}{l:MX}(h:b=false):o2 ((b,s)::l) (yo l):=by rw[kQ,h,GJ]
oM{b:cs}{l:MX}(h:wk):o2 ((b,s)::l) Nx:=by rw[kQ,xc]
iI(b:cs):o2 [(b,.aH)] (if wk then 0 else -1):=Bn b
e_.2(c:Cs)(k:R):RP:=RQ bi (a5×E0) [KS] bA KK dL (f? (yo Bx (Bf a? br) (Af a? br) aH))
auS(A:Y):ef "rule_1" (dP 1):=cV A.aso aH7 λ q e H hr hp U hU=>by rw[d2,<-aX fy (gK 9) x2 bG h1 ac Jh eb tJ (aX ds fy (gK 15) re sY (gK 30) gf uz bG h2 ac Dt eb v' h2 rK (pM [15,30,31] nt pZ re uz x3) Jh rt uX)];all_goals rw[dB];simp only[kQ,wq,h1];first|rfl|(simp only[h2];first|rfl|(cases iL [15,30,31]<;>rfl))
azQ(A:Y):cB "rule_2" (dP 2):=cV A.ard axi λ q e H hr hp U hU=>by rw[d2,lM (oO [9,15,30,31,41,46] gf RE)]
akz(A:Y):ef "rule_3" (dP 3):=cV A.alQ agf λ q e H hr hp U hU=>by rw[d2,gt EU pm (gK 46) pz Db uX eb,dB];rw[kQ];rw[tb e6 fq DV Bf p [46]]
aBs(A:Y):cB "rule_4" (dP 4):=cV A.aB1 agh λ q e H hr hp U hU=>by rw[d2,lM rp uj px]
aLy(A:Y):cB "rule_5" (dP 5):=cV A.aAU aLO λ q e H hr hp U hU=>by rw[d2,lM ml fy (dH 45) A.g.WJ (bZ (dH 45 gf ac A.g.WJ))]
PX(o:ec)(l:aD):MtLine.isNot o l=!oq:=Bn o
aos(A:Y):cB "rule_6" (dP 6):=cV A.ant aB5 λ q e H hr hp U hU=>by rw[d2,gt li ml fy (dH 19) D1 (bZ (cp m_ (dH 19) D1 cL (bZ (ao9 [41,7,23] nt dy rf A.g.BA d1 ac D2)))) mX,dB];rw[kQ,iI,PX];rw[tb iL [19]]
at6(A:Y):cB "rule_7" (dP 7):=cV A.aB7 aiM λ q e H hr hp U hU=>by rw[d2,lM (oO [12,14,18,42] gf dy JF D3 cm A.g.EX JG)]
alk(A:Y):cB "rule_8" (dP 8):=cV A.aGv aGE λ q e H hr hp U hU=>by rw[d2,lM pm (dH 34) pz JI]
aof(A:Y):cB "rule_9" (dP 9):=cV A.aLd aa5 λ q e H hr hp U hU=>by rw[d2,<-bI 1 aa5.nd (LH [9,15,30,31,34,37,19,41,46] kX pzz dy Jw x2 dy re uz dy x3 JI dy yp D1 cm rf Db) ?_,lM cc pm IK pz yp cc rp ui pz (bZ Z)]
ayN(A:Y):cB "rule_10" (dP 10):=cV A.awg adY λ q e H hr hp U hU=>by rw[d2,<-bI 1 adY.nd (LH [41,19,45,12,37,14,18,26,42,9,15,30,31,46] kX zN yM Jw dy rf D1 dy A.g.WJ JF dy yp D3 dy A.g.EX yq yM JG dy x2 re pZ uz x3 Db) ?_,lM cc LD IK cc wI uf (bZ Z)]
aA3(A:Y):ef "rule_11" (dP 11):=cV A.ahs aCZ λ q e H hr hp U hU=>by rw[d2,<-R5 m_ (UN 26) yq h1 ds fy (gK 41) rf sY (gK 33) kX zN nK];(.rw[dB];rw[rb]at h1;simp only[kQ,wq,h1];rfl);.rw[dB];rw[rc]at h1;simp only[kQ,wq,h1,ep];rw[tb (iL [41]&&e6 fq DU Af p [33])]
afK(A:Y):cB "rule_12" (dP 12):=cV A.apG aiT λ q e H hr hp U hU=>by rw[d2,<-kq ds m_ (gK 32) I7 (c5 (pM [12,14] kX pz cm JF D3)) h1 pY h1 li cc m_ (dH 6) A.g.B2 (bZ (dH 6 kX pz ac A.g.B2))];(.rw[dB];rw[oM h1];rfl);.rw[dB];rw[o7,iI]
aKS(A:Y):ef "rule_13" (dP 13):=cV A.ax5 aFT λ q e H hr hp U hU=>by rw[d2,gt EU fy (gK 41) rf uX eb,dB];rw[kQ];rw[tb iL [41]]
aqg(A:Y):cB "rule_14" (dP 14):=cV A.aoo afP λ q e H hr hp U hU=>by rw[d2,<-kq ds LD (gK 37) (c5 (dG (bO wI ui))) h1 pY h1 li cc fy IK yp tI rp uf px];(.rw[dB];rw[oM h1];rfl);.rw[dB];rw[o7,iI]
aGb(A:Y):cB "rule_15" (dP 15):=cV A.aIW apC λ q e H hr hp U hU=>by rw[d2,<-kq ds LD (gK 37) (c5 (dG (CI (cF (bO (ue A wZ)) cL o0 rp ue zN)))) h1 pY h1 li cc fy IK yp tI cc wI ue (bZ (ue A nR EF))];(.rw[dB];rw[JK]at h1;rw[oM h1];rfl);.rw[dB];rw[JK]at h1⊢;rw[o7,iI]
ahG(A:Y):ef "rule_16" (dP 16):=cV A.az9 awS λ q e H hr hp U hU=>by rw[d2,gt EU ff fy (gK 10) A.g.CB (eE (gK 10 gf ac A.g.CB)) uX eb,dB];rw[kQ];rw[tb (iL [10]||nW [10])]
tR(o:ec)(l m:aD):e6 o (l++m)=(oq||e6 o m):=by cases o with|aH=>rfl|c! u=>show(l++m).uw fS=(I4 fS||m.contains fS);rw[F_]
Ez.2(l:aD):RP:=RQ (λ o:ec=>[By]) oZ yv o (i7 (MtLine.is o l))
wK(A:Y):ef "is_letter" (Ez [3,22]):=wg A.ath aIG λ q f aK A' cx s H0 H E hr hp=>Mw (oO [3,22] ad cm pa C!)
UK(A:Y):ef "is_ideograph" (Ez [24,16,17]):=wg A.aLK aHE λ q f aK A' cx s H0 H E hr hp=>Mw (oO [24,16,17] ad dy xX A.g.EB d1 ac A.g.EM)
adH(A:Y):ef "is_korean" (Ez [27,29,28,20,21]):=wg A.ahu aFd λ q f aK A' cx s H0 H E hr hp=>Mw (oO [27,29,28,20,21] ad yM I' dy C? Da cm I8 I9)
og{X:Cx}{σ:ei}{H:Hp}{e:dk}{p ct:ej}{l:aD}{o:ec}(F:aM X.prog X.w X.K uB X.base 1 x (Ez l))(hr:Ct)(he:j6 e (.int (kI o)))(hg:Le)(d_:L! x a4)(bw:ng [e] hH e [])(a_:zD):jI qx (jB x p) [e] oq:=aT F hr o (ae he ao bw) vd hg d_ bw a_
MT.1(x y:ec):cs:=(e6 x [27]&&e6 y [27,29,20,21])||((e6 x [29,20]&&e6 y [29,28])||(e6 x [28,21]&&e6 y [28]))
ES{o:ec}{l m:aD}(h:as oq)(hd:∀k∈l,m.contains k=false):e6 o m=false:=by cases o with|aH=>rfl|c! u=>exact hd fS (by have:as (I4 fS):=h;simpa using az)
as9(A:Y):ef "syllable_goes_on" (RQ bi (ec×ec) [.int (kI dR),f? (kI dd)] oZ dL (i7 (MT dR dd))):=fx A.aGH axZ λ q e H hr hp U hU=>by obtain⟨x,y⟩:=q;rw[Am MT];(refine aX (gK 27 ad ac I') bG h1 (oO [27,29,20,21] Z dy I' C? cm I8 I9) k0 tJ (aX (pM [29,20] ad cm C? I8) bG h2 (oO [29,28] Z cm C? Da) k0 bG h2 cc (oO [28,21] ad cm Da I9) (bZ (dH 28 Z ac Da)) k0);(.rw[h1,ES (m:=[29,20]) h1 bQ,ES (m:=[28,21]) h1 bQ];simp);.rw[h1,h2,ES (m:=[28,21]) h2 bQ];simp);.rw[h1,h2];simp
aH4(o:ec):QT o=(e6 o [2,5]||yn o):=Bn o
aGQ(A:Y):ef "is_kernel" (RQ bi (V×ec) [a.1] bA (OU c dd dR H) dL (i7 (QT dd))):=cV A.aCW ajZ λ q e H hr hp U hU=>by obtain⟨v,o⟩:=q;have ho:OU c o v H:=hp;rw[c2 hU _,gt ml (oO [2,5] (uk A (eV ad λ w H1 s1 e=>by rw[e];refine gG ho ax b e' h;exact(dZ b e' (DY s1)))) cm A.g.AK A.g.AS) (bZ (ur A (eV ad λ w H1 s1 e=>by rw[e];refine gG ho ax b e' h;exact(dZ b e' (DY s1))))) D' bN (aH4 o)]
BO{X:Cx}{σ:ei}{H:Hp}{e:dk}{p ct:ej}{u:ec}(A:c')(hr:Ct)(he:n4 e u)(hg:vQ (x? "is_kernel"))(bw:ng [e] hH e [])(a_:zD):kr qx (jB "is_kernel" p) [e] QT u:=oF (aGQ A) hr (cq he ao bw) (λ vs H1 s1 hv=>by(rw[ce (ah (ua hv) ax v aS HX) aS]);exact kB (v,u) HX.now IE) hg bQ bw a_
}
section
variable{X:Cx}{σ:ei}{H:Hp}{o:dk}{ct:ej}{a:a5}{us:ca}{p:R}{c0:cs}
def z:={
Ey(A:c')(h:jq)(ho:jE)(hb:eq (er "units")):iv Ev fn (et "units") i3 m5 iQ v us:=by obtain⟨dx,fs,uv,xx,x,y,yy,jX,z,zz,h1,h2,h3,h4,h5,h6,h7,h8,h9,fb,eD,mK,fY⟩:=kH;exact(pQ uv A.eC.ZU h2).imp λ v H1 s1 e=>by rw[e];exact mK.later s1
DC(A:c')(h:jq)(ho:jE)(hb:eq (er "place")):mh fn (et "place") p:=by obtain⟨dx,fs,uv,xx,x,y,yy,jX,z,zz,h1,h2,h3,h4,h5,h6,h7,h8,h9,fb,eD,mK,fY⟩:=kH;exact cQ ho J2 A.eC.abk h3 hb
ai5(A:c')(h:jq)(ho:jE)(hb:eq (er "is_cut")):jI fn (et "is_cut") c0:=by obtain⟨dx,fs,uv,xx,x,y,yy,jX,z,zz,h1,h2,h3,h4,h5,h6,h7,h8,h9,fb,eD,mK,fY⟩:=kH;exact cQ ho J2 A.eC.Xs h4 hb
}
section z
def z:={
azH(A:Y):ef "digits_before" (RQ bi F9 [mA,em (pp a.2 - 1)] bA (wG/\dd<=oJ) dL (i7 (rn (pc dY dd)))):=wh A.asn aa7 λ q f aK A' cx s H0 H E hr hp=>by rw[L9 vs hU aa7.nd,p9 ts n (a0=[G1,m4 oS]/\n<=p/\m=n - 0/\Ta=fq rn pc p) p #[p,rfl,fz,rfl,rfl]];rintro m a0 H1 s1⟨n,rfl,hn,hm,hz⟩;by_cases h0:0<n;(.obtain⟨u,hu⟩:=n? l us AT (by exact ar2 h0 hn hp);(have iE:zV=bD r5:=by exact Ds h0);(have bw:Ta=(fS==33||(MJ&&vi rn r5)):=by have:=uW hu;rw[FY AT n iE,qE]);refine(aZ _ ds Hm (c5 (pM [42,26] K2 cm JG yq)) bt bt);(.rw[wr];have h33:e6 xf [33]=false:=ES iq bQ;rw[sh]at h33;have jo:as MJ:=iq;rw[h33,jo,jc,ep]at bw;rw[<-v8 (k7 1) nd (Bw r5 f5 Jq iE hm r5 ?_ cd Gb hn O (by rw[<-hz,bw])),l0 [_,wP oS] iE]);.rw[FS,ep]at hx;have jo:MJ=false:=hx;rw[jo,rd,uC]at bw;rw[iV cc (gF eO Z ai) (bZ (Cz K2 ac nK))];rw[FS,ep,sh,<-hz,bw]);.rw[L4 n8 (n=0) n8,p4 Hm FU (aG (Ip (gF eO Z ai) FU) k0)];rw[<-hz];rfl
LQ{X:Cx}{σ:ei}{H:Hp}{e o:dk}{p ct:ej}{us:ca}{n:R}{i:bF}(A:c')(hr:Ct)(ho:iv Ev o i3 m5 iQ v us)(he:l!)(hi:i=zV)(hn:oP n)(hg:vQ (x? "digits_before"))(bw:ng [o,e] hH o [e])(DO:ng [e] hH e [])(a_:e7 En [e] any):kr qx (jB "digits_before" p) [o,e] rn Oy:=oF (azH A) hr (cq ho (cq he ao DO) bw) (λ vs H1 s1 hv=>by(rw[xb pN λ v r aU h1 w r2 a9 bu bU=>?_];subst aU a9 bu bU);exact(aZ ((v,us),n) (by rw[hi]) #[h1,hn] IE)) hg bQ bw a_
aKM(A:Y):RU (cB "digits_end") a5 (.bl (rn (Bf a? br)||(e6 (pe (Bf a? br)) [12,14]&&rn ((Bf a? br).jl 1)))):=cV A.aDN at5 λ q e H hr hp U hU=>by rw[yu a p q];have a8:=h.lt;rw[ck,<-gb (bO (LQ (n:=p+1) A hr He Hg Uw nl a8)) h1 bG h1 cc (oO [12,14] nt cm JF D3) (bZ (LQ (n:=p) A hr He ps Hg O cd aiX a8)) k0];(.rw[h1];rfl);.rw[h1,jc,S4 Ch.Xw a8];rfl
aIm(A:Y):ef "indicators_up_to" (RQ bi F9 [mA,Cj] bA (wG/\dd<oJ) dL (vN a6 Km (Bf dY dd) u)):=wh A.alW S6 λ q f aK A' cx s H0 H E hr hp=>by rw[L9 vs hU S6.nd,<-i5 nd Z ?_,p9 ts n (a0=[G1,bd p,m4 oS]/\n<=p+1/\m=n - 0/\(eK - n)+a6 Km Oy u=a6 FB) eK #[eK,by rw[qz ((mj eK - 1)=tD) Kb];rfl,fz,rfl,by rw[QV,VR]]];rintro m a0 H1 s1⟨n,rfl,hn,hm,hz⟩;by_cases h0:0<n;(.rw[RN Th hn hp];have qV:=uW hu;rw[c3 (AT+1=n) xT iE]at qV;refine(aZ _ ds zf ap sY (gK 38) Q? eN ap iE A.g.ad4 bt bt);(.rw[eh,sh]at hx;rw[qV,Ve (p:=λ u:jm=>vu) iq,mB]at hz;rw[Ry (k7 2) (by exact azV hz iE hn) [_,_,wP oS]]);.rw[FS,ep,sh]at hx;rw[qV,SW p (λ u:jm=>vu) (by rw[hx];simp),P_]at hz;rw[gt (aW cX Z ap) mX,arT hz hn]);.rw[L4 n8 (n=0) n8];rw[show(pc us 0).P9 (λ u=>vu)=[]from rfl,P_]at hz;rw[p4 zf ap FU (aG (aW cX Z ap) mX),arQ hz]
aL1(A:Y):cB "rule_17" (dP 17):=cV A.aBN Ja λ q e H hr hp U hU=>by rw[d2,<-bI 1 Ja.nd ml fy (dH 23) D2 (bZ (uo A wZ)) (i5 Ja.nd (LH [9,15,30,31,41,46,10,19] kX EF yM Jw dy x2 re dy uz x3 dy rf Db cm A.g.CB D1) ?_),lM cc Z cc ap (bZ (dH 3 gf ac pa))]
aDA(A:Y):cB "rule_18" (dP 18):=cV A.akN acT λ q e H hr hp U hU=>by rw[d2];(refine kq ff (pM [7,23,32] gf dy A.g.BA D2 d1 ac I7) (eE (gK 8 nt ac A.g.BB)) h1 io;.rw[dB];cases hb:nW [7,23,32]with|bE=>rfl|false=>rw[hb,jc]at h1;rw[iK O,oM h1];rfl);rw[L5,<-bI 1 acT.nd ml fy (dH 23) D2 (bZ (cp fy (dH 7) A.g.BA cL tI rp ue px)) ?_,<-kq ds pm (gK 22) EF C! (cF m_ (UN 22) C! cL o0 Z) h2 pY h2 li cc fy (dH 42) JG (bZ (dH 22 gf ac C!))];(.rw[dB];rw[iK xu,iK tS,oM (by rw[PX,DL (iL [23]||_)];exact h2)];rfl);.rw[dB];rw[iK xu,iK tS,iK (by rw[PX,DL (iL [23]||_)];exact h2),iI]
aix(A:Y):cB "rule_19" (dP 19):=cV A.aBc an7 λ q e H hr hp U hU=>by rw[d2,lM m_ (dH 25) A.g.IN]
avv(A:Y):cB "rule_20" (dP 20):=cV A.ahy Ls λ q e H hr hp U hU=>by rw[d2,<-bI 1 Ls.nd nt (i5 Ls.nd gf ?_),<-kq ff ds (bO (og Pi hr Z)) (c5 (pM [33,36,35] ap pZ nK uY u_)) (eE (CI (cF (pM [33,36,35] Z dy nK uY d1 ac u_) cL o0 G? ap))) h1 pY h1 li ml cc th (dH 36) uY (bZ (og (UK A) hr ap)) (bZ (cp (og (UK A) hr Z) cL (bZ (dH 35 ap ac u_))))];(.rw[RO b4 (iL [24,16,17]&&nW [35]) b6];revert b0 b1 b2 b3 b4 b5 b6;decide+kernel);.rw[RO b4 (iL [24,16,17]&&nW [35]) b6];revert b0 b1 b2 b3 b4 b5 b6;decide+kernel
ahY(A:Y):ie "rule_21" (dP 21):=cV A.apZ F3 λ q e H hr hp U hU=>by rw[yu a p q];have a8:=h.lt;have mF:b7 1 _:=d0;rw[c2 hU _,<-bI 1 F3.nd nt (i5 F3.nd gf ?_)];(refine kq ds (pM [35,36] ap cm u_ uY) o0 (aT (aKM A) hr (a,us,p,c0) d1 ad bn (DY s1)) h1 io;.rw[dB];rw[oM h1];rfl);refine bI 3 F3.nd ml pm Cz zN nK (bZ (cp pm (dH 26) zN yq cL (bZ (Cz kX aGx ac nK)))) ?_;refine kq ds (pM [35,36] Z cm u_ uY) (cF (gK 34 ap ac JI) cL o0 aF) h2 pY h2 (gQ A mF cc (Cz ap ac nK) (bZ (fP (oO [35,36,23,26] Z dy u_ uY cm D2 yq) cL (bZ (LQ (n:=p+1) A mF He Hg Uw nl a8)))));(.rw[dB];rw[o7,oM h2];rfl);.rw[dB];rw[o7,iK h2,kQ,kQ,wq];first|(rw[LA So KE SU])|(rw[GI So KE SU]<;>rfl)
aI4(A:Y):cB "rule_22" (dP 22):=cV A.aCP M5 λ q e H hr hp U hU=>by rw[d2,<-bI 1 M5.nd nt (i5 M5.nd gf ?_),gt li ml (aT (as9 A) hr (NH Bf,fq pg Af p) bC Z ap vd) ml cc (og (adH A) hr Z) (bZ (dH 35 ap ac u_)) (bZ (cp th (dH 36) uY cL (bZ (og (adH A) hr ap)))) mX];(conv in JR=>whnf);simp only[kQ,wq];unfold MT;first|(generalize RS=b0;generalize R1=b1;rw[EY R2 RR b3];revert b0 b1 b2 b3;decide)|(rw[GI RS R1 R2]<;>cases RR<;>rfl)
xN.1(us:ca)(p:R)(c0:cs):bF:=GO vl [3,22] [3,22] (if(as Uq)then 1 else 0) (-1)
axW(A:Y):RU (cB "rule_23") a5 em (xN a? br bm):=cV A.arB aKG λ q e H hr hp U hU=>by rw[yu a p q,Am xN,<-R5 ff tB G? nt (eE (dG (bO G? gf))) h1 ds gx nR ai5 o0 wI us_];(.rw[<-JK,rb]at h1;rw[h1];rfl);.rw[<-JK,rc]at h1;rw[h1,ip (rfl:lk bE)];rw[tb Uq]
aCs(A:Y):cB "rule_24" (dP 24):=cV A.aGD az2 λ q e H hr hp U hU=>by(rw[d2,<-kq ds fy (gK 4) A.g.AP o0 BX nR py h1 tJ kq ds gx BX wZ (c5 (pM [43,44] gf cm A.g.VF A.g.VI)) h2 λ h2=>kq ds gx BX nR EF (cF fy (gK 44) A.g.VI cL (c5 (CI (dr m_ (gK 2) A.g.AK cL (eE (bO wI ur)))))) h3 pY h3 li cc BX wZ cc BX nR py (bZ (dH 43 kX zN ac A.g.VF))];(.rw[dB];rw[oM h1];rfl);.rw[dB];rw[o7,oM h2];rfl);(.rw[dB];rw[o7,iK h2,oM h3];rfl);.rw[dB];rw[o7,iK h2,iK h3,iI]
aAS(A:Y):cB "rule_25" (dP 25):=cV A.ami apk λ q e H hr hp U hU=>by rw[d2,lM cc fy (dH 26) yq (bZ (og Pi hr gf))]
ayk(A:Y):cB "rule_26" (dP 26):=cV A.ajX aKh λ q e H hr hp U hU=>by rw[d2,<-kq ds ff (bO (og Pi hr nt)) (eE (gK 33 nt ac nK)) (cF m_ (gK 34) JI cL (c5 (dG (bO wI ue)))) h1 pY h1 li cc fy (dH 14) D3 cc (iT (ue A wZ)) (bZ (fP G? gf cL (bZ (Cz gf ac nK))))];(.rw[dB];rw[E? ([3,22,33]:aD) ([3,22]++[33]),tR,tR,oM h1];rfl);.rw[dB];rw[E? ([3,22,33]:aD) ([3,22]++[33]),tR,tR,o7,iI]
aIH(A:Y):cB "rule_27" (dP 27):=cV A.agq avO λ q e H hr hp U hU=>by rw[yu a p q];have a8:=h.lt;rw[c2 hU _,gt li cc m_ (dH 38) A.g.ad4 (bZ (d3 (iu vS (oF (P:=λ v _=>v=vN a6 FB) (aIm A) hr Bs He Hg (λ vs H1 s1 hv=>by(rw[xb pN λ v r aS h1 w r2 aU a9 bu=>?_];subst aS aU a9 bu);exact kB ((v,us),p) #[h1,S0 a8] IE)) ai bQ) ai)) mX,dB];rw[iI];rw[R! u hu a8];(have hx:NH Bf=an u:=by unfold pe Bf;rw[uW hu];rfl);(have qV:vP=u::pc us p:=uW hu;have amm:nC ((mj xd FB)%2=1) ((xd FB)%2==1):=by rw[z6,awt]);rw[amm,hx,sh];cases h38:vu with|bE=>rw[ep]|false=>rw[qV,SW p (λ u:jm=>vu) (by rw[h38];simp)];rw[tb nW [38]]
aoZ(A:Y):cB "rule_28" (dP 28):=cV A.azi au4 λ q e H hr hp U hU=>by rw[d2,lM cc ml fy (dH 16) A.g.EB (bZ (uu A wZ)) (bZ (dH 17 gf ac A.g.EM))]
sv.1(us:ca)(p:R)(c0:cs)(k:R):bF:=if k=23 then xN us p c0 else yo Bx vP z_ aH
Ac.2(c:Cs)(k:R):RP:=RQ bi (a5×E0) [KS] bA KK dL em (sv a? br bm k)
fK{k:R}(h:aM P w K mg t2 m x (e_ c k))(hk:k≠23)(hm:m<=3):∃f,mg x=ci f/\GD 3 f (Ac c k):=by refine ah h.at_ ax f h1 h2;refine(af f h1 ?_);(have e:Ac c k=e_ c k:=by unfold Ac e_ sv;simp only[ii hk]);rw[e];exact h2.mono hm
qc{F:a4->my R}{k:R}{x:a4}{l:O4}(h:F x k)(r:∀i n,gy i n->F n (el+i)):∀i n,(x::l)[i]?=an n->F n (k+i)|0,n,e=>by cases e;exact h|i+1,n,e=>by have:=r i n e;rwa[Nat.add_right_comm]at az
aCI(A:Y):∀(i:R)(n:a4),dg Be i n->∃f,mg n=ci f/\GD 3 f (Ac c (1+i)):=by have q:=λ{k:R}{x:a4}{l:O4}=>@qc (λ n k=>∃f,mg n=ci f/\GD 3 f (Ac c k)) k x l;(have r23:∃f,mg "rule_23"=ci f/\GD 3 f (Ac c 23):=by refine ah ((NE axW P w A).at_) ax f h1 h2;exact(af f h1 nT h2.mono));exact q yw auS kj azQ akz kj aBs aLy kj aos at6 kj alk aof kj ayN aA3 kj afK aKS (q yw aqg kj aGb ahG kj aL1 aDA kj aix avv kj ahY aI4 (q r23 (q yw aCs kj aAS ayk kj aIH aoZ (λ i n h=>by cases h))))
aBb(bef bM:ca)(word:Oh){k:R}(h:k≠23):Bx bef bM word=Bx bef bM aH:=by(iterate 23 rcases k with _|k;.rfl);(rcases k with _|k;.rw[kw O h]);(iterate 8 rcases k with _|k;.rfl);rfl
aIv(A:Y)(T:Ts K mg):jH "verdict" (RQ bi ((a5×E0)×Oh) [f7] bA (cP c H gr fe gv iM/\o2 (D0 (Bf fe gv) (Af fe gv) dd 23) (xN fe gv iM)) dL (vN (DZ (QW (Bf fe gv) (Af fe gv) dd)))):=cV A.verdict aeh λ q e H hr hp U hU=>by obtain⟨⟨a,us,p,c0⟩,word⟩:=q;rw[y3 hP E3];have h:jq:=hP;dsimp only at E3;have nd:=aeh.nd;rw[<-fR T.rules λ ra fs hm hS hl mE=>?_,od Vx (∀k,sv us p c0 k=yo Bx vP z_ word) (λ k=>by unfold sv;split;(.rename_i e;rw[e,E3]);.rename_i e;rw[aBb _ _ word e]),<-Sq (MB 1) (fs.map yk) ((∃x y,a0=[il,x,y])/\∀j,j<k->o2 (D0 vP z_ word (1+j)) (-1)) (lU hm) m1 k8 ra (hS H1) lT #[oR,λ j hj=>f4 anO hj] ?_ ?_];(.intro k x a0 H2 s2 hk j;(rw[nb (λ aS hj=>gG aS ax x' y' aU) aU]);(obtain⟨f0,HC,rfl⟩:∃f0,dg fs k f0/\yk f0=x:=by rw[nI]at hk;cases e:fs[k]? with|aH=>rw[a7 e hk hk]|c! f0=>rw[e]at hk;exact eH f0 (Qz hk));(have Ho:k<28:=by have:=gA HC;exact Nat.lt_of_lt_of_eq az hl);obtain⟨n,hn⟩:=rD Be i k Ho;refine ah (NE aCI P w A k n hn) ax f1 DP hC;(have hff:f1=f0:=by have:=mE k f0 n HC hn;rw[a7 DP az az];rfl);subst hff;rw[c2 dX (i5 nd) em (sv us p c0 (1+k)) (JJ 1 hC hr O d1 ad (λ vs H3 s3 hv=>cA (aZ (a,us,p,c0) kM Em DY s3 O) IE)),<-aX nw ap uX bG hx ap mX m3 (c6 λ H3 s3=>#[oR,cS j' jx])];(.rw[Vx]at hx⊢;rw[Ch.agt Ho hj (by rw[rU])]);.by_cases e:j'=k;(.subst e;rw[Vx]at hx;rw[rU]);.exact hj j' f5 oT jx e);.intro a0 H2 s2 j;(rw[nb (λ a9 hj=>gG a9 ax x' y' bu) bu]);rw[i',hl]at hj;rw[gt ac A.g.zw eb];rw[Ch.aDi hj];rfl
kx.1(us:ca)(n:R):cs:=match us[n]? with|xf=>u.sa|aH=>false
}
section
variable{X:Cx}{σ:ei}{H:Hp}{o e:dk}{ct jd:ej}{q:a5}{vs:g'}{us:ca}{i:bF}{j n:R}{u:jm}
def z:={
FW(A:c'){w:V}(u0:Ns)(hq:sX qn H1 q vs)(hU:ty gm vs n)(hn:EE n)(ho:n1 o q)(hi:l!)(hj:qG)(hu:dg us j u)(hg:∀fs,UF fs nB kI pn j w0 nB Ch.zk nB vX nB Ju nB Ch.uR nB Ch.wA nB yn nB Ch.z4 nB Ch.zm->mb g w)(hs:si)(hb:Lq sJ sJ sJ):M8 sJ g w:=by(have hl:E1:=by rw[hU.1,hn]);obtain⟨v,hv⟩:=rD vs i j (by have:=gA hu;exact AG az hl);rw[MH v u' eB,a7 hu eB eB,Xk A u0 (eV (cO (v:=v) ho hi bn (af vs (c? (hq H1 s1)) (by rw[hj];exact cb hv)) hs) λ w H1 s1 e=>by rw[e];exact QQ s1) hg hb]
}
section z
def z:={
aJ2(A:Y):ef "in_row" (RQ bi F9 [mA,Cj] bA wG dL (i7 (kx dY dd))):=wh A.axD ai7 λ q f aK A' cx s H0 H E hr hp=>by rw[Sx n g9 kx];cases hn:us[n]? with|c! u=>rw[iV cc (gF cM Z K9) cc (dH 3 (CG A bn Ka hU O ad Z O hn) ac pa) (bZ (LG Jt ad Z hn Ci It.2.1))];have:=gA hn;rw[rP BN az,ep,sh,DL];rfl|aH=>have:=List.getElem?_eq_none_iff.mp hn;exact aG (Ip (gF cM Z K9) Au ay3 az) fh
IW.1(o:HJ):bF:=match o with|Iw=>bB x|aH=> -1
aDB{B:g?}(F:Pa)(n:R)(t:aD):IW MM n t=if 0<=mO B 1 t then mO B 1 t else if n=1 then 65536 else -1:=by unfold JN mO;cases h:C2 B 1 t with|aH=>dsimp only;rw[kA Nz ((0:bF)<= -1),w4]|c! l=>have hf:=_W.afq F bQ h;have h1:=hf.pos;have h2:=hf.LW;dsimp only at h1 h2;(have h5:i9=1:=by have:Mt.toMost 1=1:=rfl;exact YD h1 h2 az);match l,h5 with|[x],_=>dsimp only;rw[gj (by simp)];rfl
tx.2(t:aD)(us:ca):=MtLine.cutText t us
Og.1(us:ca)(t:aD):Prop:=M0
alq(A:Y):cB "piece_cost" (RQ bi ((BK×sd)×(V×ca)×ks) [Ff,fe,lr,we,vN bm] bA (Gw/\ba H fe mU/\m5 iQ lr eR/\Og eR mU/\br<=bm/\bm<a6 eR) dL (f? (IW (JN G7 (q6.2 - br+1) Ib iA M_ br (q6.2+1))))):=c7 A.aLM W5 dt b5 be λ q f aK A' cx s H0 H E hr hp=>by obtain⟨⟨⟨bb,d,kk⟩,tv,t⟩,⟨uv,us⟩,i,j⟩:=q;rw[cr lK λ hR aS aU hW tQ hj=>ah aS λ qt ft dI=>aO aU zR g9 eN hU];rw[po aQ bb hR];dsimp only at ft dI g9 eN hU tQ hj hW⊢;subst ft g9;have nd:=W5.nd;obtain⟨ui',GN⟩:=wc i (by exact xF tQ hj);obtain⟨uj',huj⟩:=wc j hj;((have h1:gU<=w0:=by unfold mS;rw[c3 (j+1=i+Pd) aKx tQ,List.take_add,rg,VU];exact vo);have h2:w0<=db:=by rw[<-hW];exact HM us pJ);have jW:=Ch.Ze us t i Pd f5 agr tQ hj;rw[c3 (i+Pd=j+1) acj tQ]at jW;rw[aDB aQ.de,jW];have xV:(fq t.drop mS i).take (w0 - gU)=rk t gU w0:=rfl;rw[xV];generalize pF:rk t gU w0=c4;rw[c2 dX (bI 5 nd) (f? (kS mO 1 c4)) (P6 I0 (V7 A) hr ad ju CY Bs ac A.g.aBq (DQ (Po:=qr c4) (xs:=c4.map vN) A.g.zI (tF (P:=qr c4) Z (LG A.du.V2 ap aF GN Ci h.2.1) (LG QD ap a! huj Ci h.2.2.1) Sv qt dI (by rw[aY,HP vN h1 h2,pF])) vt H1 s1 (by rw[FP q e2 e2])) (λ vs' H1 s1 hv=>by(rw[xb pN λ v1 r1 a9 bu v2 r2 bU cH dA=>ah cH ax q ee hq];subst a9 bu bU dA ee);exact(kB (tl,1,dp q,c4) #[nc,sb ((1:R)<3),eH q hq] λ v H3 s3 h=>h)))];(refine aX zf ch bG hx ch eb bt;.rw[gj (by rw[np hx,d7 Int.le_of_sub_one_lt])]);rw[da (by rw[Mg hx,d7 ajR])];refine aX (eW aF a!) bG cn ac A.g.apb eb v' cn ac A.g.IP;(.rw[gj (by rw[np cn,d7 aHi])]);.rw[da (by rw[Mg cn,ky aJo tQ])]
}
structure WE(B:g?)(l:oy)(bh J:R)(kl ke:fC):Prop where
 hi:∀j,J<=j->IJ->rH j=bd EN.1
 lo:∀j,j<J->wL j
 en:SJ (J<=j) e j
structure WI(B:g?)(l:oy)(bh J:R)(ot:ph (R×R))(kl ke:fC):Prop where
 hi:∀j,J<j->IJ->rH j=bd EN.1
 lo:∀j,j<J->wL j
 en:SJ (J<j) e j
 no:ot=aH->wL J
 yes:∀b,ot=xh->rH J=bd b.1/\pP J=bd (J+b.2)
def z:={
xM{a:R}(h:a≠b):¬kN a=kN b:=λ e=>h (DJ e)
WI.put{B:g?}{l:oy}{ot:ph (R×R)}(h:w1 ot kl ke)(x k:R):w1 an (x,k) (rm kl (kN J) (vN x)) rC J (J+k):=by(refine #[λ j hj hb=>?_,cS j hj,ax j hj hb,(λ e=>nomatch e),cS b hb];.rw[kK,da (xM mm HK)];exact h.hi j hj hb);((.rw[kK,da (xM mm VJ)];exact nM j hj);.rw[kK,da (xM mm HK)];exact rl j hj hb);.cases hb;rw[kK,pt,kK,pt];exact #[rfl,rfl]
WE.open_{B:g?}{l:oy}(h:G4 B l vc):w1 aH kl ke:=#[λ j hj hb=>h.hi j hj hb,λ j hj=>nM j mm r9,λ j hj hb=>rl j hj hb,q4 (nM J HZ),(λ b hb=>OE)]
arq{l:oy}{a k:R}(h:a+k<=b):(iA l a b).take k=iA l a Pm:=by unfold D4;rw[<-Vp,List.take_take,eA Jf Nat.le_sub_of_add_le' h,qC (a+k - a=k) L_]
ad5{l:oy}{a k:R}:(iA l a b).jl k=iA l Pm b:=by unfold D4;rw[<-I2,List.drop_take,Qx,qC (b - a - k=b - Pm) avg]
WI.close{B:g?}{l:oy}{b:ks}(h:w1 xh kl ke)(hJ:J<bh)(hb:yT xB J=an b)(hl:bh<=i9):lI (WE B l bh J):=by have a3:a6 rx=bh - J:=Ch.L' hl;have a8:=Ch.E7 hb;have hc:=Ch.aaz (B:=B) (row:=rx) (b:=b) (by rw[fI a3 hb]);rw[ad5]at hc;obtain⟨h1,h2⟩:=h.yes b O;refine #[λ j hj m9=>?_,nM,ax j hj m9];(.by_cases e:J=j;(.subst e;rw[h1,hc]);.exact h.hi j FO m9);.by_cases e:J=j;(.subst e;refine(fB (J+b.2) h2 jA vo cd Qy a8 ?_);rw[hc,qC (J+b.2 - J+1=b.2+1) V_,qC (J+(b.2+1)=J+b.2+1) Jn]);.exact rl j FO m9
}
section
variable{X:Cx}{σ:ei}{H:Hp}{o e:dk}{ct:ej}{l:a5}{aq:fC}{i:bF}{n:R}{v:V}
def z:={
xS(hu:N5)(ho:n1 o l)(he:l!)(hi:i=la n)(hl:k? H l aq)(hv:Pc=an v)(hs:Q6 (Fl e)):j6 wM o v:=uT (P:=λ u _=>u=v) hu ho he (λ u z H1 s1 h1 h2=>by have e1:=h1.now;have e2:=h2.now;subst e1 e2 hi;exact(aE l v O (by rw[<-hv];exact BM (kN n) dT hl) fh)) hs
Mz(hu:N5)(ho:n1 o l)(he:l!)(hi:i=la n)(hl:k? H l aq)(h1:yQ xW o):mk JU e .xW [o] (!(Pc).isSome):=I_ hu he ho (λ u z H1 s1 h1 h2=>by have e1:=h1.now;have e2:=h2.now;subst e1 e2 hi;rw[wS l (BM (kN n) dT hl) O]) h1
aDG(hu:N5)(ho:n1 o l)(he:l!)(hi:i=la n)(hl:k? H l aq)(h1:yQ In o):jI JU e .In [o] o1 Pc:=adt hu he ho (λ u z H1 s1 h1 h2=>by have e1:=h1.now;have e2:=h2.now;subst e1 e2 hi;rw[wS l (BM (kN n) dT hl) O]) h1
}
section z
def z:={
i4(h:m<=10000):m<CQ:=lR h
ad8{X:Cx}{σ:ei}{H:Hp}{e:dk}{x y:cs}(h:mk e x)(hx:x=y):mk e y:=hx▸h
eS{X:Cx}{σ:ei}{H:Hp}{e:dk}{x y:V}(h:j6 e x)(hx:x=y):j6 e y:=hx▸h
WD.2:=(BK×sd)×(V×ca)×ks
Xf.1(c:Cs)(a:WD)(H:Hp):Prop:=Gw/\ba H fe mU/\m5 iQ lr eR/\Og eR mU/\br<=bm/\bm<=a6 eR/\tf eR
apV(A:Y):RM (ie "least_pieces") (Xf c) F0 qe qe lI (WE G7 M_ bm br):=c7 A.ayt Qm dt b5 be λ q f aK A' cx s H0 H E hr hp=>by obtain⟨⟨⟨bb,d,kk⟩,tv,t⟩,⟨uv,us⟩,fi,bh⟩:=q;rw[T0 (λ hR aS jD hW jr jN f9=>Bg) jD jr,gc ft Qm.nd];have hU:=j9 hr;rw[kt i3 F0 qe qe G4 eo d? fi];generalize hB:eo=B;have rE:OA a6 d?:=Ch.Ap us t;generalize hl:d?=l at rE;rw[on (aP fr ou (X0 (Ug s_ kf aaM) O O bQ bQ) fd fr z5 AY Fj Dm (cz (i:=7)) (cJ Fj CV (cz (i:=8)) Lt O? i Lt (bY (i:=10)) zr B_ xA (pv 7) (pv 10) B_ t0 (pv 7) Eh dh dh) ox t0) n' p];intro l1 fk;refine yK (MR aY ([(kN bh,xn)]) O r7 IA l2 f_);((have lJ:l2≠l1:=λ e=>by subst e;rw[a7 aY f_ f_]);have f2:f8 (H1 l2):=by rw[aV lJ,aV lJ]at f_;exact f_);((have uM:Bh o oi iB B4 l1:=λ sx b' o' hb=>by rw[iY fk aN sx hb]);have B7:Bh o oi iB B4 l2:=λ sx b' o' hb=>by rw[iY f2 aN sx hb]);have Hb:iB yz vq vq H1 [] (nQ [] [(kN bh,xn)]) l2 []:=B7 (uM (uM (aj.refl _)));(have tj:kp (Ou - Ov)=bh - fi:=by exact aAO);(refine(cA hQ NX NV tO λ vs H6 s6 ev=>(qA Ou Ov (-1) ((Ou - Ov).toNat) Jl (nD.neg OG f5 at1 jN f9 OG (by exact aLh jr jN f9)) (C3 wj i H' (∃(x7 x8 x9 sO:g0)(kl ke:fC),RT [ly,km,mt,wT,wX,ql,qj,x7,x8,x9,sO] H' G4 B l xB i) ?_ ?_ ?_)));(.refine #[aH,aH,aH,aH,_,_,rfl,Us,qX (by rw[G! aV lJ aY]),qX aY,?_,fz,fz];refine #[λ j hj m9=>?_,cS j hj,λ j hj m9=>by exact(az4 hj m9).elim];(. (have jx:j=bh:=by exact Nat.le_antisymm m9 hj);subst jx;show b8 [(kN j,Iu)] (kN j)=_;rw[lF O,show iA l j j=[]by rw[Bj D4 QV]];rfl);.show f8 (b8 [(kN bh,Iu)] (kN j));rw[lX (xM mm avd)];rfl);.rintro i a0 H' hi⟨x7,x8,x9,sO,kl,ke,rfl,sH,cI,nG,xq,c_,gR⟩;rw[tj]at hi;obtain⟨J,hJ⟩:∃J,bh - i=J+1:=#[xB i - 1,f4 awI hi];(have dm:bB bh - 1+Is*(iz (-1))=bB J:=by exact air hJ);rw[hJ]at xq;rw[dm];have hWI:=xq.open_;refine(cA bC i2 a! λ vs H7 s7 ev=>(aE bB J bB bh Jl (by exact aCu dm jN f9) (E' (λ k cZ H2=>∃(x8 x9 sO:g0)(kl ke:fC),cZ=[ly,km,mt,wT,wX,ql,qj,wD,x8,x9,sO]/\l_/\R0 H2 w1 yT k kl ke (rQ+k)) (qM x8 x9 sO kl ke O (uO s7) v7 cI OK hWI c_ gR) ?_ ?_)));(.rintro k cZ H2 hk⟨y8,y9,Zs,kl,ke,rfl,lA,LC,vT,hI,c_,gR⟩;(have cj:J+k<bh:=by exact azn hk);(have KU:(dl J+vj)=bD (J+k):=by exact Lv);rw[KU];refine mL (aT (alq A) hr ((#[bb,d,kk],Cc,t),(uv,us),J,J+k) Lr Z i2 CA (λ H9 s9=>(Hw EP fO yl s9 w8 dv s9 lA BP Mp yl s9 hW qz (J<=J+k) vo (show J+k<b? by exact Vl cj jN)))) cS H9 s9;show pW _ _ _ _ _;(have an4:jv JN (J+k - J+1) Ib iA d? J Cq=MM el Ib ((rx).take el):=by rw[eA arq JA cj,hB,hl,qC (J+k - J+1=k+1) V_,qC (J+k+1=J+el) aDX]);dsimp only;rw[an4];have pI:=aN s9 LC;have wJ:=aN s9 vT;have A5:=yl s9;(have hdr:(rx).jl el=iA l Cq bh:=by rw[ad5];rfl);cases N3:MM el Ib ((rx).take el)with|aH=>(have kz:Ah=yT k:=by rw[Ch.gS,N3]);rw[or (af hA (ad8 nw t1 A.g.IP O) (λ mf dF=>j8 ?_)) S1 (Jm dF) tp H!,fI kz hI]|c! x=>(have sP:iz rY x≠ -1:=by exact as2);refine(af bE (ad8 nw t1 A.g.IP (by show as (!bH (pp rY x= -1));rw[xD sP];rfl)) (λ mf dF=>iZ ?_));have ads:=aN dF pI;have ak8:=aN dF wJ;have ayJ:=Jm dF;have yi:=hI.hi Cq jA aoD cd JA cj;generalize Ae:x+(yI Cq).1=iW;refine mi iW (eS (aW bV (i:=bB x) (j:=mx (yI Cq).1) t1 (xS (n:=J+k+1) hU ch kh CA jA apm ads yi)) (j0 e5 cd aCG Ae)) cS Ui yD;have zg:=aN yD ads;have Ji:=aN yD ak8;have UY:=ayJ.trans yD;have go:ti H' (aj Ui H'->Ah=an xi->∃(x8 x9 sO:g0)(wW wV:fC),[fo yk bb,km,mt,wT,wX,ql,qj,wD,m4 bD (J+k),m4 yF IW x,bd iW]=[ly,km,mt,wT,wX,ql,qj,wD,x8,x9,sO]/\iB KY/\Tx KY KY w1 Ah wW wV):=λ{H'}sx hb=>(qM _ _ _ (rm kl (kN J) (vN iW)) rC J (J+k) O (B7 (uM (UY.trans sx))) (by rw[G! aV lJ aY]) aY (by rw[hb];exact hI.put _ _) Nu B9 cd W4 c_ Nu B9 cd ad7 gR);cases om:yT k with|aH=>(have kz:Ah=an xi:=by rw[Ch.gS,N3,om,hdr,<-Ae]);rw[or (af bE rq Rq (Mz (n:=J) hU ch i2 O zg) (by rw[hI.no om];rfl) (λ Zc j_=>iZ ?_)) eL p! _ l1 _ (oL J OR (i4 (by exact Rw dm cj c_ jN f9))) ?_,<-eL p! _ l2 _ (oL J (by rw[aV lJ];exact OS) (i4 (by exact ZH dm cj gR jN f9))) ?_,go j_ kz]|c! b=>obtain⟨yN,_⟩:=hI.yes b om;(have kz:Ah=if iW<=b.1 then an xi else xh:=by rw[Ch.gS,N3,om,hdr,<-Ae]);refine cA ff (Mz (n:=J) hU ch i2 O zg) (eE (bP eg (aa 10) Ob J zg yN)) p? Zc j_ bt;(.rw[yN]at hx;rw[Gd cn (iW<=b.1)];rw[ip cn]at kz;rw[or eL p! _ l1 _ (oL J OR (i4 (by exact Rw dm cj c_ jN f9))) ?_ eL p! _ l2 _ (oL J (by rw[aV lJ];exact OS) (i4 (by exact ZH dm cj gR jN f9))) ?_,go j_ kz]);.rw[yN]at hx;(have cn:¬iW<=b.1:=by rw[rU]);rw[ii cn]at kz;refine S1 (UY.trans j_) OR OS;rw[kz,<-om];exact hI);.rintro cZ H2⟨y8,y9,Zs,kl,ke,rfl,lA,LC,vT,hI,c_,gR⟩;rw[Int.toNat_sub]at hI c_ gR;obtain⟨b,hb⟩:=Ch.L7 B rx xB J cd aiN dm;rw[hb]at hI;refine #[_,y8,y9,Zs,kl,ke,rfl,lA,LC,vT,?_,by exact aEC c_ jN f9,by exact avH gR jN f9];rw[c3 (bh - q8=J) aF3 dm];exact hI.close cd aHH dm hb f5 GG jN rE);.rintro a0 H'⟨x7,x8,x9,sO,kl,ke,rfl,sH,cI,nG,xq,c_,gR⟩;rw[tj,Fa (bh - xB fi=fi) Nat.sub_sub_self jr]at xq;exact Ml sH H7 (lO l2 kl ke O OK xq)
aHy(l:oy)(j:R):iA l j j=[]:=by rw[Bj D4 QV]
aK1(A:Y):RM (jH "row_cuts") (Xf c) ln vw br (Ch.cst G7 iA M_ br bm).2:=c7 A.arP aeI dt b5 be λ q f aK A' cx s H0 H E hr hp=>by have qi:=hp;obtain⟨⟨⟨bb,d,kk⟩,tv,t⟩,⟨uv,us⟩,fi,bh⟩:=q;rw[T0 (λ hR aS jD hW jr jN f9=>Bg) jD jr,gc ft aeI.nd];have hU:=j9 hr;rw[kt i3 ln vw fi (Kg fi bh).2,on fd kc ou fr z5 (mV fH) fd fr Ir tX zv RI ug t0 kc Ir ox t0 n' p,<-it (aT (apV A) hr ((#[bb,d,kk],Cc,t),(uv,us),fi,bh) Lr Z aF a! d! #[y7 fO,w8 lh dI,y7 JO,hW,jr,jN,f9]) λ ev H2 s2 zO=>?_];(rw[ce (gN zO.now λ qe kl ke aU Ee xq=>?_) aU]);have JH:G4 eo d? fi:=xq;generalize hl:d?=l at JH;generalize hB:eo=B at JH;rw[hl,hB]at p;refine #[lQ,λ r fG=>#[_,rfl,λ z a0 H'=>∃(j:R)(dn:aD),a0=[ly,km,mt,wT,wX,GT,v4,bd j]/\fi<=j/\IJ/\SC (z=bh - j) H' H',#[xB fi,fi,[],rfl,fz,jr,rfl,cT fG,aY,rfl,lQ],?_]];rintro z a0 H'⟨j,dn,rfl,UA,hj2,rfl,sH,mF,l8,qy⟩;refine cA qT i2 a! p? H3 s3 bt;(. (have m9:j<bh:=by rw[np hx,d7 uQ]);refine wH (JH.en j UA m9) λ e w9 h1 h2 h3=>?_;have zq:=aN s3 mF;have je:=dv s3 sH Ee;rw[or #[λ cZ rZ=>∃z',z'<bh - j/\∃(j:R)(dn:aD),cZ=[ly,km,mt,wT,wX,GT,v4,bd j]/\fi<=j/\IJ/\SC (z'=bh - j) rZ rZ,ws,?_] BD Co Bq zq (mi e Ob j je w9 cS H4 s4)];have vF:=aN s4 zq;refine(pf r _ wF O O vF (i4 (by rw[ew,azr qy m9 jN f9])) ?_);(have j2:j? G_ H4 r (dn.map vN++[wF]) qe:=by rw[aV (λ e=>by subst e;rw[Cb je]at vF;cases vF)];exact Cb je);refine mi K? (eS (aW bV (i:=bB e) (j:=1) Ob j j2 w9 ai) O) cS H5 s5;(refine #[bh - K?,tq aET h2 h1,e+1,dn++[e],rfl,tq aGS UA h1,Mf h2,rfl,λ b' o' hb=>aN s5 ?_,aN s5 ?_,?_,by rw[LP amY qy h1]];(.rw[iY fG aN s4 dv s3 sH hb]);.rw[aY,rg];rfl);.rw[<-l8,h3,Ch.g8,show j+(e - j+1) - 1=e by exact alS h1,show j+(e - j+1)=e+1 by exact ax7 h1,Qu];rfl);. (have m9:j=bh:=by rw[FN (¬bB j<bB bh) hx,ky Na hj2]);subst m9;rw[aHy,Ch.R4,Ch.g8,Dk]at l8;refine Kh (CE (uO s3)) H4 eH r rJ ?_;rw[mF,l8]
qo.1(ke:fC)(Q:my R):Prop:=∀i,as o1 pP i↔Q i
qo.put{Q:my R}(h:qo ke Q)(u:R)(v:V):qo (rm ke (kN u) v) p_ (Q i\/i=u):=λ i=>by rw[kK];by_cases e:i=u;(.subst e;rw[pt];exact #[cL (.inr O),λ _=>rfl]);.rw[da (xM e),h i];exact #[xr (.inl h),eT (h.resolve_right e)]
run_eq:∀(k:R)(l:oy),(∀j,j<k->∃z,gy j z/\as IB)->(∀z,gy k z->IB=false)->Ch.lB l=k|0,[],_,_=>rfl|0,z::l,_,h=>by rw[Ch.An,h z O];rfl|k+1,[],h,_=>by refine ah rz (h 0) E2 λ z hz _=>?_;cases hz|k+1,z::l,h,h2=>by refine ah rz (h 0) E2 ax z' hz hs;cases hz;rw[Ch.An,ip hs,run_eq k l (λ j hj=>h pJ mm Nn) h2]
Gg{t:aD}{us:ca}{i:R}{u:jm}(h:dg us i u):∃s,d?[i]?=an (u,s):=#[_,Ch.Im us t i u h]
aBn{t:aD}{us:ca}{i:R}(h:d?[i]?=an z):dg us i z.1:=by have:=j0 (λ l:ca=>l[i]?) (Ch.aDR us t);rw[<-az,nI,h];rfl
ayb{t:aD}{us:ca}{i:R}(h:as oA i):∃z,d?[i]?=an z/\as IB:=by unfold kx at h;split at h;(.rename_i u hu;rw[Gj s hs hu,cA hs h]);.cases h
MA{t:aD}{us:ca}{i:R}(h:oA i=false)(hz:d?[i]?=an z):IB=false:=by have:=aBn hz;unfold kx at h;rw[az]at h;exact h
arN{us:ca}{i:R}(h:as oA i):Hy:=by unfold kx at h;split at h;(.rename_i u hu;exact gA hu);.cases h
Wm:∀(ns:aD)(a:R),(∀k∈ns,0<k)->a6 vw a ns<=ns.sum|[],_,_=>fz|n::r,a,h=>by have h1:=Wm r (a+n) (λ k hk=>h k (by simp[hk]));have h2:=h n r7;rw[Ch.g8,mB,List.sum_cons];exact WM h2 h1
aEk(A:Y):gp 5 "word_cuts" (RQ bi ((BK×sd)×V×ca) [Ff,fe,a?] bA (Gw/\ba H fe mU/\m5 iQ a? b!/\Og b! mU/\tf b!) fl (∃q ke,rA/\j? H q/\qo ke p_ (i<a6 b!/\Ch.m7 G7 (tx mU b!) i))):=Fv A.anq YM λ q f aK A' cx s H0 H E hr hp=>by obtain⟨⟨⟨bb,d,kk⟩,tv,t⟩,uv,us⟩:=q;rw[cr gE λ hR aS jD hW f9=>Bg];rw[po aQ bb hR];dsimp only at ft dI jD hW f9⊢;rw[gc ft YM.nd];have hU:=j9 hr;rw[kt i3 (∃q ke,rA/\j? H q/\qo ke p_ (Hy/\zx i))];have rE:OA a6 d?:=Ch.Ap us t;rw[on fd fr O! i AY fr zl i kf (aP zv fd fr ou s_ zv Ix (Fw (i:=5) nd O JP kf o9) zr Kk (mD aI) Ew cz Ix B_ tX t0 C_ LT ox tX) n' p,<-λ r fG=>#[wj z H' (∃(a:R)(x5 x6:g0)(ke:fC),a0=[ly,km,mt,v4,bd a,x5,x6]/\oP a/\z=b? - a/\R' oi H' a),#[b?,0,aH,aH,[],rfl,lQ,rfl,cT fG,aY,.inl (.inl O),p_ #[xr (nomatch h),eT (CD h.1 (Nat.not_lt_zero _))],fz],?_]];rintro z a0 H'⟨a,x5,x6,ke,rfl,ha,rfl,sH,mF,xV,zC,c_⟩;(have Z9:ti H2 (qQ->iQ gm H2 uv us):=λ sx=>Mp uO sx;have Jv:∀(H2:Hp)(u:V),qQ->u=uv->Ed (aC K H2 q xs) (aJ K H2 q xs) b?:=λ H2 u s3 e=>by refine aO (Z9 s3) zR h1 h2 h3;exact(aE qu vs (by rw[e,h1]) Kx h2 h3.1));refine cA qT a! wz b? Go Jv p? H3 s3 bt;(. (have vU:a<b?:=by rw[np hx,d7 uQ]);rw[or #[λ cZ rZ=>∃z',z'<b? - a/\∃(a:R)(x5 x6:g0)(ke:fC),cZ=[ly,km,mt,v4,bd a,x5,x6]/\oP a/\NF a/\R' iB rZ rZ a,ws,?_] #[_,rfl,λ z2 cZ H2=>HI m (cZ=Mu mt bd m x6/\a<=m/\oP m/\z2=b? - m/\aj H3 H2/\∀i,a<=i->i<m->as oA i),(Ba (b? - a) a O fz ha O (aj.refl _) (λ i h1 h2=>by exact(Dx h2 h1).elim)),?_]];rintro z2 cZ H2⟨m,rfl,p8,nA,rfl,sM,hM⟩;refine(cA gx (aT (aJ2 A) d0 ((uv,us),m) bC ap ch p3 (Z9 (DK (QY s4)))) λ H4 s4=>fA BU BU);(.have jo:as oA m:=cn;have hZ:=arN jo;exact #[λ σ3 H3'=>∃z',z'<b? - m/\HI m (σ3=Mu mt bd m x6/\a<=m/\oP m/\NF m/\aj H3 H3'/\∀i,a<=i->i<m->as oA i),ws,_,rfl,_,_,rfl,rfl,b? - (m+1),f4 pw hZ,m+1,rfl,f4 Vz p8,Mf hZ,rfl,QY s4,λ i h1 h2=>by by_cases e:i=m;(.rw[e];exact jo);.exact hM i h1 f5 oT h2 e]);. ((have gB:oA m=false:=by cases h:oA m with|false=>rfl|bE=>rw[kw h cn]);have DG:m=a+Ch.lB ((d?).jl a):=by have:=run_eq (m - a) ((d?).jl a) (λ j hj=>by rw[DH];exact ayb (hM (a+j) jA vo mm Qy)) (λ z hz=>by rw[DH,Fa (a+(m - a)=m) Nat.add_sub_of_le p8]at hz;exact MA gB hz);rw[ky ah5 p8]);obtain⟨vG,jf⟩:=Ch.J0 eo _ iA d? a m O;rw[Ch.L' (by exact GG nA rE)]at vG;have eU:=Wm (Kg a m).2 a jf;have aGU:a<m->Ch.iD d? a:=eT (xV.resolve_right (by rw[hM a fz h];decide));have Pl:∀i,a<=i->i<m->(zx i↔i∈Fk):=λ i h1 h2=>Ch.aK4 (aGU (by exact xF h1 h2)) DG f5 GG nA rE h1 h2;have Ss:∀i,i∈Fk->a<=i/\i<m:=λ i hi=>#[Ch.Jc _ _ jf _ hi,by have:=Ch.acn _ _ jf _ hi;exact atV az DG vG];have vF:=aN s4 dv sM s3 mF;have Dz:=uO (DK (QY s4));refine it (aT (aK1 A) hr ((#[bb,d,kk],Cc,t),(uv,us),a,m) Lr Z a! ch Cg #[EP fO QZ s5,w8 dv s5 Dz BP,Mp QZ s5,hW,p8,nA,f9]) λ cv H5 s5 qO=>?_;(rw[ce (ah qO.now ax qc aU yb) aU]);dsimp only at yb;have Eu:fa H5 qc h? Fk:=yb;generalize Fk=L at Eu eU Pl Ss;have mz:=aN s5 vF;(have nr:qc≠r:=λ e=>by subst e;rw[a7 Eu mz mz]);refine kB qc #[_,d' Eu] (t_ (xs:=tw) (λ k cZ H2=>∃(x6:g0)(ke:fC),cZ=Mu mt bd m x6/\l_/\Av H2 qc/\j? H2 r/\qo ke p_ ((i<a/\zx i)\/i∈Ik)/\KA (a+k)) (Ba x6 ke O (QZ s5) Eu mz (λ i=>by rw[zC i];simp) c_) (λ k cZ H2 _ bx=>fR bx λ _ _ _ _ hq _=>d' hq) ?_ ?_);(.rintro k x cZ H6 hk⟨y6,ke,rfl,tU,B6,A8,BL,As⟩;(rw[ce (ah (eJ hk) ax e he a9) a9]);have aBI:=gA he;refine #[_,rfl,_,rfl,r,_,rfl,oL e A8 (i4 (by exact apf f9 nA vG eU As aBI)),?_];(refine(Ba _ (rm ke (kN e) e! bE) O OB ?_ aY ?_ Nu B9 cd aA5 As);(.rw[iY fG aN tU hb]);.rw[aV nr];exact B6);.intro i;rw[BL.put e _ i,IR,he];simp[or_assoc]);.rintro cZ H6⟨y6,ke,rfl,tU,B6,A8,BL,As⟩;rw[i']at As BL;rw[Do]at BL;(have hmx:(if OJ>ld then OJ else ld)=bD IC:=by by_cases q:OJ>ld;(.rw[tc q,aGI q]);.rw[kA q,ao6 q]);refine dX mL (vN (max m (a+1))) (eS (awe O A.g.LJ ch kh a!) (j0 e5 hmx)) cS H7 s7;refine #[b? - IC,f4 ayW vU,IC,_,_,ke,rfl,tq Nat.max_le_of_le_of_le nA vU,rfl,tU.trans s7,v7 A8,?_,?_,by exact ax2 As eU vG];(.by_cases e:a<m;(.rw[c3 (IC=m) Nat.max_eq_left e];exact .inr gB);. (have hma:m=a:=by exact atY DG e);subst hma;rw[qz (max m (m+1)=m+1) Nat.max_add_right_self];obtain⟨u,hu⟩:=wc m vU;rw[Gj s' pV hu,.inl (.inr cA pV (MA gB pV))]);.intro i;rw[BL i];constructor;(.rintro(⟨h1,h2⟩|h);(.exact #[cd aJp h1,h2]);.obtain⟨h1,h2⟩:=Ss i h;exact #[cd aIr h2,(Pl i h1 h2).mpr h]);.rintro⟨h1,h2⟩;by_cases e:i<a;(.exact .inl #[e,h2]);.by_cases e2:i<m;(.exact .inr ((Pl i To e e2).mp h2));.exfalso;(have him:i=m:=by exact axa h1 DG e2);subst him;refine bL h2 λ z ko fV _=>?_;rw[MA gB ko]at fV;cases fV);. (have hae:a=b?:=by rw[FN (¬bB a<bB b?) hx,ky Na ha]);subst hae;exact Kh (uO s3) H4 (aE r ke O rJ mF zC)
}
section _P
namespace _M
open yc ye yf _L
section
variable{X:Cx}{σ:ei}{H:Hp}{elt iter:dk}{nJ:Scope}{own:nU a4 R}{y:a4}{ct jd:ej}
def z:={
aLP(i:R){Po:V->my Hp}{xs:g'}{f:V->V}(ho:iv Ev iter Po)(hx:∀u H1,yJ->Po u H1->∃a,u=dp a/\aC X.K H1 a xs)(hw:∀x,Hj ((Hj σ).set i Iw)=Hj σ)(hl:xs.length<CQ)(he:∀(s:Shared)(H0:Hp)(C:a5)(cl:nU a4 a5)(fp:fW a5)(k:R)(x:V),dg xs k x->aB (X.cD s H0 nJ (compEnvC nJ cl C mR) fp) ((Hj σ).set i Iw) H elt (f x)):sX (∀Q:VK,(∀D H2,f8 (H1 D)->l_->H2 D=an (.lst (xs.map f))->Q eu D H2)->TG X H1 Q):=by intro H1 s1 Q q;refine it (ho.later s1) λ u H2 s2 hu=>?_;(rw[ce (ah (hx u H2 HE j1) ax a aS fk) aS]);(have d4:∀H3,aj H2 H3->aC X.K H3 a xs:=λ H3 s3=>by refine ah (hx _ H3 AA (hu H3 s3)) ax a' e h;cases e;exact h);refine(kB a #[xs,fk] λ D hD=>ER (xs:=xs) (g:=dC i) (tt:=kO) (te:=j5 X nJ elt) (vs:=Q1 (·.2)) (σ:=σ) (Qd:=λ H'=>Q eu D H') (λ k H'=>aj H2 H'/\H' D=an (.lst (h? (xs.take k) f))) #[cT hD,aY] (λ k H' _ bx=>bq bx λ s3 _=>d4 H' s3) ?_ ?_);(.rintro k x H' hk⟨s3,e⟩;refine #[hw x,?_];(refine(af (f x) (λ s H0 C cl fp=>(he s H0 C cl fp k x hk).later AA) p3 (fB _ Cb e ?_ ?_ ?_));(.rw[ww List.length_take,xF (Nat.min_le_right _ _) hl]);.exact λ b o hb=>by rw[iY hD rJ hb]);.rw[aY,IR,hk];simp);.rintro H'⟨s3,e⟩;rw[Do]at e;exact q _ H' (s2.free hD) zb e
aor(i j:R){z:a4}{pz jg:ej}(hc:lk X.calm)(hN:X.N.Nodup)(ok:df X.N X.env.scope nJ own)(hg:∀(s:Shared)(H:Hp)(C:a5)(cl:nU a4 a5)(fp:fW a5),PG (X.cD s H nJ (compEnvC nJ cl C mR) fp) (jB y jd) (dC i))(hz:e7 (X.N[j]?=an z))(oE:e7 (X.env.scope.names.lookup z=an .local))(lS:e7 (swapsWith TP elt iter [] tk jB z pz jg.line mR=pure bE))(hs:u! (∀x,foldedSetIterable iter mR x=pure x) gs._auto_1):PS X (.Assign [jB z pz] TP elt iter [] jg) (λ D σ H=>TG X H λ x H2=>D.nx (σ.set j Iw) H2):=yt (i:=j) hc hN hz oE lS (mD aI) ok hg (λ _ _ _ _ _=>pD) pR hs
}
section z
section _M
namespace _P
open yc ye yf _L _M
variable{P:Qe}{w:World}{K:Qf}{mg:NQ}{t2:Heap}{c:Cs}
variable{x y n:R}{u:jm}{b:cs}
def z:={
aDW{l:v9}{i:R}(h:wR[i]?=an u):∃s∈l,u.is=(JD s).is:=by have hi:=gA h;have h1:=HM wR q8;rw[Ch.Pw,Ch.yr h]at h1;have h2:=nf (Ch.B1 _ l O).1 u h;(have a8:mS wR i<i9:=by exact aBh h2 h1);have hd:=Qw a8;have:=Ch.QX nl hi hd;rw[a7 h az az,cA (Vs a8) (Ch.sU _ _)]
aAd{B:g?}{y:j4}{t:aD}{i:R}(h:(Tp y)[i]?=an u)(hs:lk u.is.sa):fS=3\/fS=24:=by refine ah (aDW h) ax s hm e;(rw[ce (ah (t? hm) λ n _ aU=>?_) aU]);(have e1:(JD (ut B y n)).is.sa=(ut B y n).sa:=by rw[EJ JD,w4]);rw[e,e1]at hs;rw[e,Ch.K6];rcases Ch.aoN hs with h|h|h<;>rw[h]<;>decide
aLQ(b:cs)(s:JB):o2 [(b,s)] (if wk then Nx else -1):=Bn b
amc{B:g?}{y:j4}{t:aD}{us:ca}{p:R}{c0 m:cs}(ir:Tp y=us)(hp:N! p)(hk:lk C7->y.keep=false)(hm:(Q2 B [] d?)[eK]?=an m)(hc:lk c0↔as UD/\Ch.m7 B d? p):o2 (D0 vP z_ Me 23) (xN us p c0):=by rw[R! ux hx hp];obtain⟨uy,hy⟩:=n? l us (p+1) hp;((have eX:NH Bf=an ux:=by unfold pe;show(y1 eK).head?=_;rw[uW hx];rfl);have eY:fq pg Af p=an uy:=by unfold pg;show(Ih eK).head?=_;rw[VV,hy]);unfold xN;rw[dB];rw[eX,eY];rw[aLQ];show Nl L? _ _=GO L? _ _;by_cases qF:(as L?);(.rw[ip qF,ip qF];rw[Mx qF];obtain⟨hcx,NW⟩:=qF;show bD (DZ Nl (ux.sa&&uy.sa) _ _)=if(as (c0&&Q3))then 1 else 0;cases hw:uh with|false=>(have:c0=false:=by cases c0 with|false=>rfl|bE=>have:=hc.mp O;rw[hw]at az;rw[kw az.1 r7]);rw[az];simp only[rd,ii Nz (false=bE),ii Nz ((aH:Oh)=an bE)];rw[w4]|bE=>cases ha:C7 with|bE=>exfalso;have:=Ch.azT _ JY jh B y O (λ s hs hm=>by(rw[ce (ah (t? hs) λ n _ a9=>?_) a9]);exact Ch.auD ha (hk ha)) p ux uy (by rw[fI ir hx]) (by rw[fI ir hy]) NW;rw[Ch.aHp az]at hcx;cases hcx|false=>rw[hw,ha]at hc;(have sN:lk c0↔Ch.m7 B d? p:=by rw[hc];simp);rw[Gj sx lZ hx,Gj sy hsy hy];(have IQ:uy.sa=Q3:=by unfold MtLine.Unit_.sa;cases h:Q3 with|false=>rfl|bE=>rcases aAd (by rw[fI ir hy]) h with h|h;(.rw[h];rfl);.rw[a7 h NW NW]);rw[pt,<-IQ];cases h1:uy.sa with|false=>simp;rfl|bE=>cases h2:ux.sa with|false=>(have:c0=false:=by cases c0 with|false=>rfl|bE=>rw[<-bL (sN.mp O) λ z e1 e2 _=>?_,a7 lZ e1 e1,a7 h2 e2 e2]);rw[qE]|bE=>have:=Ch.ak2 (B:=B) lZ hsy h2 h1;rw[<-sN,hm]at az;cases m<;>cases c0<;>rw[qp]<;>rfl);.rw[ii qF,ii qF]
ai1{X:Cx}{σ:ei}{H:Hp}{ct:ej}:iv Ev (.Dict [] [] ct) i3 oG k? H q []:=Ev.of AY λ H1 s1 Q q=>λ l hl=>q eu l _ IG d! eH l e? aY
Gm.2(B:g?)(y:j4)(t:aD):aD:=MtLine.marked db (MtLine.chances B y t)
aCv{j:R}{i:bF}(h:qG)(hj:j<n):mZ n i=an j:=by subst h;unfold mZ;rw[rz gj tu,l? BN hj];rfl
aiP(A:Y)(T:Ts K mg):RY (gp 7 "marks_of") (qf/\AO/\(a.2.1.2.all=bE->(eR).keep=false)/\AQ/\wE bm/\tf bm) ln (Gm Br eR bm):=Fv A.aGm aae λ q f aK A' cx s H0 H E hr hp=>by obtain⟨⟨bb,d,kk⟩,⟨wa,y⟩,tv,t⟩:=q;rw[cr lK λ hR hW nN aS bJ a3=>Bg];rw[po aQ bb hR];have tG:vB wa y:=hW;dsimp only at ft dI bJ a3 nN⊢;rw[gc ft aae.nd];have hU:=j9 hr;rw[kt i3 ln NG,<-gI 3 nd r? ahv (tl,(wa,y),Cc,t) bn (j3 nc Oj w8 BP bJ a3) (λ uv Hu su g9=>?_)];have jD:=g9.now;dsimp only at jD;generalize ir:DT (DS (bb,d,kk) y t)=us at jD;have Er:L2=us:=ir;((have b_:M0:=by rw[<-Er,Ch.Pw,i']);have fU:∀i,oP i->i<=gU:=by rw[<-Er];exact Lw);(have f9:b?<=64:=by have:=fU b? (x4 _);exact aJl az b_ a3);(have ed:na ["book","ways","text","units","cuts","marks","place","scalar"] Gf ("scalar",7):=jC (mQ ((cw Gf).jl 2));have hZ:OA a6 Ti [] d?:=by rw[Ch.Iz,Ch.Ap];simp);obtain⟨dx,fs,UX,_,_,GF,_,ava,_⟩:=tG;(refine gI (P1:=pA v (∃q ke,rA/\j? H q/\qo ke p_ (as UD/\Hy/\zx i))) 4 nd (GW ds zQ Su UX A.e9.Qc ava (c5 (dG (bO (cQ Z Su UX P3 GF)))) bt bt) (λ cv Hc sc qO=>?_);(.refine iO (aT (aEk A) d0 ((#[bb,d,kk],Cc,t),uv,us) kP ad ap d1 aF d! (j3 (fO (su.trans s2)) w8 dv s2 su dI (JO s2) b_ f9)) λ v H2 s2 h=>?_;refine aO h λ q ke h1 h2 h3=>?_;exact(aE q ke h1 h2 (λ i=>by rw[h3 i];exact #[xr #[hx,h],eT h.2])));.refine ai1.imp λ v H2 s2 h=>?_;refine ah h ax q h1 h2;exact(aE q ([]) h1 h2 p_ #[xr (nomatch h),eT (by rw[hx]at h;exact CD h.1 bQ)]));(rw[ce (aO qO.now λ qc ke aU yb zC=>?_) aU]);have avy:=JO sc;refine aO avy zR atw eN OW;subst atw;have hRc:=KM su.trans sc;have R_:=dv sc su dI;(have DB:∀(h0:Uv),∃u,us[0]?=an u/\NG=Ch.kW uh Mn (pc us 1) (mS us 1) ((us.zip (Q2 eo [] d?)).jl 1):=λ h0=>by have:=Bb Ch.aEI B y h0;rw[Er]at az;exact az);generalize hF:NG=F at DB;generalize kd:Ti [] d?=ms at hZ DB;have Jv:r8 (aj Hc H2) qu b?:=vV H2 s3 (aE qu vs e Kx Ca eN OW.1);have Dr:r8 (aj Hc H2) qt db:=Fi s3 qt Ca R_;(have hsz:Aw:=by rw[ew,eA i4 aCx a3]);rw[on (aP (aor 7 5 O nd ed Fq) fd Fj CT Ew cz Ix (VM aI (afn xA aI set_list)) (iy dw Ix (VM aI (afn xA aI set_list)) dh) ox xA) n' p,EJ pW,<-aLP 7 (xs:=y2) (f:=q4 (vN 0)) ap rV k8 qt d' e? R_ be hsz (λ s' dE C cl fp k x hk=>UE) H1 s1 _ λ r H2 fG s2 oe=>?_];(have aEM:(y2).map cL (vN 0)=jK Mn:=by rw[hE,List.map_replicate];exact List.map_const');rw[aEM]at oe;(have tj:kp TU=Uo:=by exact aD3);refine(cA d1 ps n3 b? aF pi H3 s3 pK Jv H3 AA λ vs' H3 s3 ev=>(fB TU Jl OG cd ahm f9 (E' wj k H' (∃(x6:g0)(acc:aD),a0=[ly,GY,km,G1,ci qc,v4,x6,aH]/\oi/\fa H' r acc.map/\acc.length=db/\(0<db->Ch.kW uh acc N2 pn el ((us.zip ms).jl el)=F)) (fM aH Mn O zb Ca oe List.length_replicate (λ h0=>(DB h0).choose_spec.2.symm)) ?_ ?_)));(.rintro k a0 H' hk⟨x6,acc,rfl,sH,gL,xR,Fy⟩;rw[tj]at hk;(have cI:N! k:=by exact Nat.add_lt_of_lt_sub hk);obtain⟨uk,huk⟩:=eA wc k uK cI;obtain⟨uk1,auG⟩:=n? l us (k+1) cI;obtain⟨m,hm⟩:=n? l ms (k+1) (by exact Qn cI hZ);(have jU:(0:bF)+vj=jz:=by exact aiD);rw[jU];have vZ:=q9 sH;have V3:=fU el nl cI;have DO:=HM us el;rw[b_]at DO;have E3:=amc (c0:=o1 pP k) Er cI nN (by rw[fI kd hm]) (by rw[zC k];exact #[xr #[h.1,h.2.2],eT #[h.1,f4 uK cI,h.2]]);refine dX mL (vN (DZ (QW N2 Ih el Me))) (oF (aIv A T) d0 (cq (sj (aKU A) hr ((eu qu,us),k,o1 pP k) hQ aF g! (aDG (n:=k) hU a! g! O aN vZ yb) p3 #[(aE qu vs O dv s4 vZ eN Ua),cI]) ao) (λ vs4 H4 s4 hv=>by(rw[xb aO λ v1 r1 a9 bu bU=>ah bu ax q cH hP];subst a9 bU cH);exact(kB ((q,us,k,o1 pP k),if Rf then an m else aH) #[hP,E3] λ v H5 s5 h=>h))) cS H4 s4;refine yK (mL ps (FW A QD Cg aN s5 dv s4 vZ eN Ua O aF g! O huk Ci h.2.2.1) cS H5 s5);have mz:=Bc s5 gL;refine(BC r _ _ T2 O O mz (aCv cd aBe V3 (by rw[ew,aLt V3 DO xR])) ?_);(refine(fM _ (acc.set T2 (DZ (QW N2 Ih el Me))) O OB ?_ (by rw[fI List.length_set xR]) j! h0);(.rw[iY fG aN s5 dv s4 sH hb]);.rw[aY,VZ]);.rw[<-Fy h0,Ch.aLN uh acc us ms k cd axg hZ auG hm]);.rintro a0 H'⟨x6,acc,rfl,sH,gL,xR,Fy⟩;rw[tj]at Fy;have vZ:=q9 sH;refine cA (bP gJ wz db pi H3 s3 pK Dr H3 (vZ.trans s3) ai) p? H4 s4 bt;(. ((have h0:Uv:=by rw[np hx,d7 XT]);have hu0:0<b?:=by refine ah (DB h0) λ u hu _=>?_;exact gA hu);refine mL OM λ H5 s5=>yK (mL tO cS H6 s6);(have A8:=aN s6 Bc s5 gL;refine(BC r _ _ (db - 1) O O A8 ?_ ?_);.unfold mZ;rw[i',xR,nT da,l? aip h0];congr 1;exact ajz);have hf:=Fy h0;rw[c3 (Uo+1=b?) Nat.sub_add_cancel hu0,b_,VN (by rw[fI List.length_zip aDs]),Ch.kW]at hf;refine cA O (p _ _ ?_ λ H7 s7=>op r s7 ?_);(.exact λ b' o' hb=>by rw[iY fG dv s6 s5 dv s4 sH hb]);.rw[aY,<-hf,VZ];rfl);. (have h0:db=0:=by rw[FN (¬(O9<bB db)) hx,d7 K7]);(have ht:t=[]:=V0 h0;have hF0:F=[]:=by rw[<-hF,ht];rfl);have qI:acc=[]:=V0 (by exact asS xR h0);refine Ml (uO s4) H7 eH r Bc s7 ?_;rw[gL,hF0,qI]
}
section
variable{X:Cx}{σ:ei}{H:Hp}{o e:dk}{ct:ej}{q:a5}{l:aD}{i:bF}{j k:R}
def z:={
J_{l:aD}{j:R}(h:Ox):gy j O6:=by rw[ET S?]
c9(hq:fa H q o_)(ho:n1 o q)(hi:l!)(hj:qG)(hl:Ox)(hk:O6=k)(hs:si):mh wM o k:=cO ho hi FE hq (by rw[im hj (cb (by rw[nI,J_ hl,hk];rfl))]) hs
h_(hm:f8 (uB "len")){p:ej}(hq:fa H q o_)(ho:n1 o q)(hg:vQ (x? "len"))(he:ng [o] hH o [])(a_:zD):lg qx (jB "len" p) [o] T?:=di (m:=i9) hm ho m1 ED q t4 dT hq hg he a_
CW{x:a4}{p:ej}(hT:sR X.K uB x l)(hi:l!)(hj:qG)(hl:Ox)(hk:O6=k)(hg:Le)(hd:L! x a4)(hs:si):mh wM (jB x p) k:=by refine ah hT ax a h1 h2;exact bW (lU h1 hg hd) hi bn cA (h2 H1) (by rw[im hj (cb (by rw[nI,J_ hl,hk];rfl))]) hs
MI(hm:f8 (uB "len")){x:a4}{p p':ej}(hT:sR X.K uB x l)(hg:Le)(hd:L! x a4)(hg':e7 (Gl X "len"))(he:ng [Oz] hH Oz [])(a_:zD):lg (.Call (jB "len" p) [Oz] [] ct) T?:=by refine ah hT ax a h1 h2;exact di (m:=i9) hm (lU h1 hg hd) m1 KD a h2 H1 hg' he a_
}
section z
def z:={
jk{l:nU cs R}(h:b=false):D5 ((b,n)::l)=n:=by rw[D5,h];rfl
jj{l:nU cs R}(h:wk):D5 ((b,n)::l)=D5 l:=by rw[D5,xc]
Nt.1(a b:bF):cs:=bH (b=a+1)||(bH (a=55296 - 1)&&bH (b=57343+1))
aE9(A:Y):ef "touch" (RQ bi (bF×bF) [fZ dR,em dd] oZ dL (i7 (Nt dR dd))):=wh A.aht aDn λ a f aK A' cx s H0 H E hr hp=>f4 bg (fP (d3 Z kh ad) q4 (bZ (cp (d3 ad ps ac A.g.aeq) q4 (bZ (d3 Z kh ac A.g.Zi)))))
aci{a b:R}(h:qd b):Nt a b=(Mt.next a==b):=by unfold Nt Mt.next;(have:¬(55296<=b/\b<=57343):=λ hh=>by unfold i! at h;simp at h;exact awQ hh h);rw[F_];by_cases q:a=55295;(.rw[tc q,ky aDf q]);.rw[kA q,ky alr q]
HH:nC (dl x<=y) (!bH (y<x)):=by rw[<-decide_not];exact PC (Int.ofNat_le.trans Nat.not_lt.symm)
Hi:nC (dl x<y) (!bH (y<=x)):=by rw[<-decide_not];exact PC (Int.ofNat_lt.trans Nat.not_le.symm)
X_{t:R}:nC (O9<bD (4*t)) (!(t==0)):=by cases t with|zero=>rfl|succ t=>exact x! (Int.ofNat_lt.mpr (Nat.mul_pos bQ (Nat.succ_pos t)))
}
end
mutual section
def z:={
Hr:=decide
cm:=Int
S_:=decide_eq_decide.mpr
S!:=Int.ofNat_le
fm:=Bool
c2:=true
dg:=base
Y:=Nat
r!:=_B.jB
jH:=A.g.cg
lc:=of_decide_eq_true
gy:=if_pos
a6:=this
i1:=p.length
ld:=of_decide_eq_false
lf:=if_neg
O:=rfl
NA:=Nat.lt_of_add_right_lt
li:=Tw.te
x8:=Nat.lt_of_succ_lt
r?:=congrArg
sb:=V.bl
ux:=Bool.eq_iff_iff
x9:=Mt.scalar
B?:=Nat.lt_of_succ_le
fE:=inr
f?:=inl
hE:=PySem
hF:=PySem.Spec
hG:=PyProof.Rows
S?:=Builtin.Range.rangeFitsLong
e7:=Bool.and_eq_true
pj:=decide_eq_true_eq
Ta:=Builtin.Range.rangeSize
eo:=_L.St
bi:=pos
d6:=Pos
jN:=rest
po:=body
bt:=Str
d':=Expr
x_:=X.prog
ma:=X.env
NB:=X.N.Nodup
pq:=X.mg
ac:=none
f7:=int
a!:=σ'
gV:=some
d!:=σ2
Cb:=X.env.kindOf
NC:=starEach
Hs:=X.env.scope
Tb:=X.env.scope.names.lookup
pt:=Name
ND:=ha.later
pu:=e.now
ga:=s1.trans
mb:=s3.trans
gX:=Program
gY:=World
h?:=PySem.W.Frag
ia:=Value
ib:=Heap
NE:=Mt.Fault
uy:=error
ap:=hlen
x!:=PassesOwn.never
x?:=A.g.gO
ya:=hJ.now
mc:=V.int
pw:=_B.jK
md:=hu.now
yb:=aC.of
uA:=MtLine.row
px:=_B.dB
e_:=l.length
py:=absurd
Tc:=Nat.not_lt_zero
uD:=zero
yc:=Nat.le_refl
Td:=List.getD_eq_getElem?_getD
Ht:=List.getElem?_eq_getElem
yd:=decide_eq_true
NG:=Bool.not_eq_true
NI:=Mt.mapFine
NK:=hr.mono
uF:=Bool.true_and
Hu:=List.all_eq_true.mp
yg:=List.mem_of_getElem?
pA:=_B.jY
bd:=bef
d?:=m.length
yh:=_B.pB
yn:=_B.lh
NL:=Bool.or_eq_true
uG:=Bool.or_eq_false_iff
Hv:=Bool.not_true
NM:=Bool.false_or
Hy:=c4.length
Cc:=List.length_take
Cd:=List.length_drop
dV:=hv.now
Ce:=Mt.before
NO:=Mt.toMost
uI:=take
Te:=List.drop_eq_getElem_cons
pI:=_B.j6
sd:=V.ref
nC:=List.map_map
ak:=Addr
hH:=rule
Hz:=Mt.mapsIn
HA:=h.fault
yr:=Mt.seqsIn
NP:=s.heap.get?
HE:=s.toks
i2:=wpAny_bind
nE:=wpAny_pure
NS:=Nat.add_zero
lj:=aq.length
iE:=pins
Tg:=F.slot_dict_len
NT:=wpAny_holding
NU:=sizeLine_eq
Cf:=Mt.Range
se:=l.map
el:=List.length_map
NW:=Nat.min_eq_left
NY:=List.map_take
Th:=List.map_drop
N0:=List.take_of_length_le
em:=outer
uJ:=Scope
N2:=ListComp
bM:=kind
N3:=_B.isName
lm:=scope
HF:=z.length
Ch:=aJ.of
Cj:=Ev.of
eT:=aL.p
kB:=s2.trans
Tj:=PySem.boot_len
uM:=keyOf
N4:=hv.contains
Cl:=hv.length
yv:=_B.kr
N7:=Bool.not_eq_true'
N8:=Mt.namesIn
pK:=ns.length
yx:=n.length
jR:=trans
HI:=A.g.zI
uN:=sH.trans
Cm:=s4.trans
uO:=List.length_append
Cn:=Nat.le_of_not_lt
Tk:=List.mem_cons_of_mem
HK:=List.mem_cons_self
HL:=_B.gone
nG:=_B.iL
yy:=Constant
HM:=hj.now
N9:=t3.trans
N':=qs.Nodup
HN:=own.map
N!:=qs.length
Tl:=Nat.zero_le
sf:=Ne.symm
HT:=Nat.lt_of_le_of_lt
yC:=List.map_append
Tm:=List.nodup_append
Tn:=List.mem_singleton
Tp:=List.mem_append.mp
ln:=Shared
N?:=vs.length
Co:=Tuple
hI:=Nat.le_trans
uR:=h.at_
Oa:=List.getElem?_eq_some_iff.mp
Tq:=List.pairwise_iff_getElem.mp
Tt:=Paired.snoc
fK:=cons
yD:=List.getElem?_map
pM:=_B.eL
Tv:=Nat.lt_of_lt_of_eq
sg:=later
HU:=hB.same
me:=aL.v
Cr:=hB.later
HV:=xs.length
nK:=_B.cV
Ty:=Option.some.inj
Tz:=List.length_zipIdx
Ob:=List.length_range
nL:=Mt.Row
HX:=hM.next
Cu:=hM.num
Od:=hM.done
yH:=Mt.Seq
HY:=s5.trans
Oe:=s7.trans
sh:=prog
H9:=Around
Of:=h'.DictOfH
lw:=more
Og:=more.foldl
gc:=acc
Cv:=storedH
mf:=items
Oh:=items.size
yI:=rest.length
uT:=sizeLine
uY:=s.heap
TA:=List.toArray
TD:=codeAny_builtin
TG:=Around.under_plainId
sk:=List.length_cons
yJ:=fO.extBut
H!:=holding
Ok:=Value.ref
TH:=wpAny_typeOf
Cw:=dY.extBut
On:=prs.length
i3:=s.heap.objs.size
TI:=s.heap.push
TJ:=Builtin.Dict.updateFrom
TL:=h1.objs.size
Cy:=Heap.lt_size
yM:=Nat.ne_of_lt
Oo:=Nat.lt_trans
TM:=Nat.ne_of_gt
H?:=Nat.zero_add
TN:=List.length_nil
u0:=putK
TO:=Paired.length
Op:=ho.later
yN:=List.take_add_one
Oq:=List.take_length
Cz:=Nodup
u3:=List.map_cons
Ib:=List.append_assoc
CB:=List.mem_map_of_mem
i6:=r.scalar
u4:=r.to
Os:=List.Nodup
Ic:=List.pairwise_map
sl:=Mt.Book
u5:=rows
Ot:=Mt.flag
i':=c.Book
CC:=_B.pick
CD:=aQ.later
sm:=A.bj.cl
Ov:=A.g.MAPS
Id:=fj.later
eq:=d.ms
pN:=_B.m_
hO:=d.book
TP:=Nat.lt_of_lt_of_le
yO:=Mt.byKind
nP:=Mt.MAPS
TQ:=Nat.le_add_right_of_le
kC:=d.ps
hV:=d.ss
Ie:=d.ns.length
Ox:=d.book.maps
TS:=List.map_congr_left
Oy:=d.book.seqs
yV:=Mt.SEQS
u6:=d.book.maps.getD
If:=d.book.seqs.getD
pP:=apos
c3:=args
cr:=pre
e!:=post
Ig:=Attribute
TT:=apos.atName
CE:=lookup
mi:=free
Oz:=A.bj.vw
OC:=s0.trans
CF:=rp.length
yW:=rm.length
yX:=rs.length
TW:=Mt.canonRows
ge:=stp
pR:=qual
OH:=FuncData
OI:=us.length
Ii:=List.append_nil
Ij:=hS.later
y4:=_B.gg
TX:=List.flatMap_cons
CG:=l.take
u7:=_B.eV
CH:=hR.later
CJ:=Bool.not_eq_false'
OJ:=BM.later
CK:=bz.later
TY:=List.mem_map.mp
fN:=prev
jS:=Clause
OK:=MtLine.Ways
Il:=h.elim
OL:=Mt.shortK
Im:=Mt.STEPS
OM:=jc.book
ON:=jc.later
nQ:=aj.trans
OP:=flatMap
OQ:=lg.later
T0:=List.flatMap_append
OU:=Mt.foldOnce
Ip:=Mt.foldTwice
T1:=List.all_append
OW:=ni.later
lx:=part
u8:=cl.part
u9:=cl.kind
u!:=cl.nm
y5:=cS.of
Is:=cS.raw
OX:=d.book.props.getD
It:=Mt.PROPS
OZ:=h4.de.row
O0:=h1.book
T4:=r.to.length
Iu:=Mt.full
O2:=Mt.prop
Iv:=Mt.ccc
O7:=r.first
sn:=List.range
Ix:=r.value
u?:=r.value.testBit
CL:=hD.de
y6:=hf.sc
Iy:=hf.most
T6:=Nat.le_antisymm
CM:=find?
so:=cl.rule
Iz:=Mt.countOf
T7:=Mt.beforeOf
T8:=List.getElem?_of_mem
T9:=Nat.add_sub_cancel
CN:=Nat.add_sub_cancel_left
T_:=Mt.agreements
T':=knd.contains
T!:=List.mem_cons.mp
CP:=cls.take
vb:=cls.drop
O8:=reverse
O':=trivial
nV:=t.length
CQ:=MtLine.waysOf
T?:=MtLines.marksFine
pU:=c.jT
y7:=A.gv.cl
O!:=A.gv.zA
Ub:=MtLines.Answer
y8:=MtLines.asks
CR:=false
O?:=MtLines.says
vc:=MtLines.TEXT
Uc:=YfNeutral.numbers
IA:=MtLines.gives
ID:=YfNeutral.ints
IF:=MtLine.marked
Ue:=MtLine.chances
Uf:=MtLine.width
Ug:=MtLine.measure
Uh:=MtLines.COLUMNS
Ui:=MtLines.pairs
Pa:=MtLine.linesBy
Uj:=MtLine.unmarked
Pb:=MtLine.raggedBy
Ul:=I.base.free
Um:=List.mem_append_left
Un:=List.mem_append_right
IH:=bz.ins
nW:=c.Reader
pV:=dy.of
CS:=dy.upd
CV:=dy.at_
nX:=A.fW.cl
II:=A.fW.Ga
IJ:=nl.length
CX:=nl.drop
IL:=Mt.judge
ve:=MtLines.step
IM:=rn.length
CY:=qY.later
IN:=tU.trans
C0:=textCall
Uq:=MtLines.Call
Pc:=hD.keep
Pd:=mR.later
y9:=YfNeutral.natsOf
C1:=x.length
vf:=YfNeutral.step
Pf:=rh.later
y!:=PyFlat.told
Ut:=PyYqmtfa.answers_asked
Uw:=PyFlat.calls
Uy:=PyYqmtfa.shape
Pg:=cs.length
Uz:=PyYqmtfa.answers
UA:=PyFlat.played
c1 a:=List a
a7 a b:=a _ _ b
ab:=by decide
cd:=a.2
Z a:=gV a
bm:=a.1
et a b:=gV (a b)
al:=c1 Y
ad a b c:=λ a b c=>?_
az:=aa 0
dH a:=λ hx=>a
aN a:=.ref a
au:=aa 1
lz a:=a O
a5:=aa 2
ce a b:=af _ a b
b! a:=a _ _ _ _
c! a:=.ref a
bN a:=(a).length
cP a:=by exact a a6
bT:=cd.1
cv a:=et .ref a
cx a b c:=by rw[a]at b;cases c
bh a:=a=c2
dl a b:=by refine a;subst b
cA a b:=λ a b=>?_
gZ a:=a7 s1 a
ck:=λ _=>rfl
ml a b:=a->b->Prop
e?:=cd.2.2
gf:=dH ?_
pX a b:=autoParam a b
pY a b c:=ae a (ae b c)
a?:=Fs K mg c
ic a b c:=a X σ H b c
sp a b:=λ a H=>b
jX a:=Option a
f8 a b:=af a O b
mn a b:=a P b K mg dg
dX a:=a (by kernel_rfl)
g6 a b:=a hO b
eU:=x.2
dZ a b:=pY a b ao
dn a b:=by exact a b
ig a b:=by refine a b ?_
dp:=NK ab
su a:=a hO
IO:=lz Or.inl
bn a b c:=λ a b h=>c
sv a:=(a).book
fT a:=m.getD a 0
vg a:=ml a Hp
y? a:=.pure a
b6:=aa 3
i! a:=pX a aA._auto_1
eX a b:=a b O
gh a b:=by refine bq a b
b? a:=lf a
ch:=cd.2
g7:=bm.2
za a:=by dsimp only;rw[a]
ci b:=sp a b
kH a:=p.getD a 0
gG a:=by rw[a]at hR
cY b c:=λ a:b=>c
ey a:=yb a
d1:=cd.2.1
pZ a:=aW bV a ai
dF a b:=a nd O IO b
cL:=by rw[za h]
ii a:=λ H1 s1=>a
c? a b:=ba H a b
dL a:=Hr a
lA:=y? ?_
gi a:=a7 s3 a
im a b:=a (v:=b)
IP a:=NC a ma
dt a:=(a:cm)
ez a:=ae a ao
db a:=a7 s4 a
fu a b c:=Paired a b c
c0 a b c:=aZ a O b c
dR b:=λ a v H=>b
i? a:=λ _=>a
f9 a:=eval a ma
vh:=by decide+kernel
eY a b c:=aP a (aP b c)
lB a b c:=λ a H2 s2 b=>c
gq:=by rw[ig hU _];dsimp only
gr a b c:=cG a cA b c
hY:=bm.1
sw a b:=.ins a dx b
eC a:=λ d r=>a
mq:=mn aM w
jZ:=c1 Key
j0 a b c:=a (by exact b c)
n0 a b c:=a hO b c
du:=aa 4
d2 a:=ag a
gt a:=λ x=>a
iI a:=a7 s2 a
mt a:=a P w K mg
f_ a b d:=dW c K a b d
fx a:=λ H3 s3=>a
g8:=c1 V
eH:=aG ai lA
eZ a:=a=ac
zc a b c:=a (b A) ab ab λ d r hD hh hm hf=>c
kI a:=a (by rw[vh])
fy a b:=H a=Z b
io a b:=ic aB a b
lD a:=br H a
iK a b:=by refine ce a b
fz a b:=by refine aX a dH b gf
gK b:=b m a bd
n1:=gZ hq
eN a:=λ H2 s2=>a
jb a:=cJ (dD a)
ff a:=eh _ _ _ _ a
sx a b:=c9 (a:=b)
vk a:=Y×a
g9 a:=λ e=>a
g! a b c:=a O b c
p7 a b:=by subst a;have nd:=b
iO a b:=λ a _=>b
p9 a b:=h_ jH a b
f' a b c:=by subst e;rw[cx a b c]
fl:=gm S
fY a b:=by rw[a];exact b
zd a:=c1 (Y×a)
g? a:=by rw[gG a];rw[<-hR];rfl
C2 a b:=zc cS.row a b
j1 a:=Ch a
vl a:=nK k a
gu a:=λ h=>a
mu a b c:=sx j a b az pZ c O
j5 a b d:=BM a i' b d
gx a:=et vN a
iQ a b c:=a (b:=λ v H=>c)
mx a b:=bP a b ai
gQ a:=ba H v a
gR:=c1 jS
gS a:=by rw[lf a]
lF a:=a _ _
n2 a b:=af a e b
n3 a b d:=a i' b d
p! a:=sw i' a
vn:=su Mt.map
kJ a b c:=i! (IP a=(false,b)::IP c)
sy a:=ak×a
n5 a:=a7 s a
jl a b:=by refine a hp b
my a b c:=aj a (br b c)
hZ:=bt->jX ia
ze:=bm.2.2
iT a:=by exact a
hA a:=gy a
vp:=dk.2
n6:=lz gy
h! a b:=by rw[a];exact b
iU a:=Y×a
lH:=e::es
IQ:=by simpa using hx
mA a:=((a:Y):cm)
sz a b c:=λ a b c=>?_
mF a:=aj H1 a
kL:=gZ bQ
kM:=by decide
kP a:=show a by decide
jn a b:=by have a:b:=by rw[IQ]
ip:=aa 5
p?:=a+1
kQ:=n+1
qc a b:=ce a lz b
jo:=jX Y
mH a b:=im a c! b
iW a:=.f7 a
j7:=q.2.1
it:=Ts K mg
jp:=mq 1
vq:=f8 q n1
qe:=nomatch e
iY:=jX V
iv:=.nil
kR a:=a==[]
jq a b c:=by rw[dl (aO a b) c]
vr a:=p9 a az
kS a:=a7 a hb
jt a b:=by exact py a b
zg a:=bN a<=8192
n7 a:=ah a ad qp cC bQ
lJ a b:=.Call a b [] bi
j! a:=λ H4 s4=>a
mI a b:=bg (a b)
n! a b c:=λ u a b e=>c
zi:=by(repeat(first|exact List.Mem.head _|apply List.Mem.tail))
iB a:=id a
n?:=e?.2.2
j?:=V×al
sA:=V×al
mJ a:=by exact .f? a
Ph a:=n0 Mt.compat a n
og a b c:=by exact a b c
IR a:=Uc a
zj:=.ins
lK a:=a A T
kT a:=by have:=ld hx;rw[cP a]
sB a b d:=bz i' a b d kk
jC a:=(a).length
sC a b:=upd H a b
qg:=aj H H1
kU b:=λ a v _=>v=b
oi a:=(a).isSome
oj:=vn 5
mK:=sv vp.2.1
sE a b:=(a).uI b
i0:=aa 6
kW a b c:=show a by exact b c
kc:=vg α
mM:=by have:=lc hx
ke a b c:=by rw[a]at b;cases c
C4:=sy ia
kX a b:=by have a:=lc b
jD a b:=(a).map b
kh:=ak->Prop
zk a:=backTo bi (NC a ma)
ki:=c1 ak
kl:=c1 d'
sF:=Ph k
km:=by unfold br
kn a b c:=a b c ?_ ?_
kZ a b c:=by generalize a:b=c at hR
sG a:=g6 a i6
sJ a b c:=by rw[gh hp λ a b=>c]
kw:=aj H H'
k4 a b:=H a=et .lst b
mO a b:=f8 a iI b
k5:=α->vg V
lP a:=by rw[p7 cC a]
qn a:=(a:Y)
k_:=(ra,ca,nl)
kx a:=λ H4 s4=>a
zl a:=a nd O IO
k!:=c1 (bt×V)
mP a b c:=a dn b h4 c
sK a b c:=l_ a b (λ _ _ c h=>nomatch h)
kz a:=a k []
qo a:=k8 H v IR a
k?:=α->g8
om a b:=cE a _ b O
lR a b c:=by rw[iK a sz b c n']
lX a b:=a (o:=n3 zj dx b)
vu a b d:=mt a dg c b d
mU a b:=ic Ev a sp v b
sL a b:=λ a a! H'=>b
lZ a b:=io a aN b
l6:=α->vg Hp
kA:=k+1
sM:=pv 0
vx a b c:=b! gM (a b) c
mW:=(b,d,kk)
on:=(ra,ca,nl)
l7:=cv qp
sO:=su O2
l8:=cv b
vy a:=λ _ _=>a
qq a:=λ y=>a
mY:=a.1.1
mZ:=c1 (jZ×C4)
oo a:=.lst (a vN)
lb a:=(a).imp
qu a:=g6 a m
op:=fT a
vz a b:=lB a e b
m0:=sv ze.1
zm a:=pX a bS._auto_1
m7:=bY (i:=2)
m9 a b c:=a ac b=.ok c
l! a b:=λ a b _=>?_
Pi:=lf ab
sQ:=mn e8 w
m? a:=(a:cm)
sR:=c! q
vE:=a.2.2.2.1
sS:=λ _ _ _ _ _=>cz nd O (.f? O) (.fE O)
sU:=CC 0 eq
sY a:=O? a
l? a:=#[_,a]
vH:=aw st
oq a b c:=bp a b dX b1 ck c
or a:=by have:=lc hx;rw[cP a]
na:=su _B.dj
ot:=sv bm.2.1
vK:=fA gf gf
qw:=bN g7
ou a b:=by have:=lc a;rw[cP b]
qy a:=(Oa a).1
nc:=by simp at hx⊢
ow:=Mt.propsIn 0
nf a b c:=gk a _ _ _ _ b c
vL:=vk nL
qB a b c:=upd a b (.lst c)
ng a:=(a).map
qC a b c:=by rw[gh a iO b gr c dx h1]
sZ:=jb aI
vO:=bd=Z b
nh a:=by unfold a at h
C5:=bK "parts"
nj:=e?.1
C! a b c:=a (b:=c) (w:=w) (dg:=dg)
ox:=by(repeat(first|rw[cW,n6]|rw[cW,Pi]))
Pk a b c:=iC x! O a b c
C? a:=List (List a)
nn a b c:=fa a (fa b c)
np:=v=c! q
nr a:=dG (bO a)
qE:=a+2
oy a b:=gA a _ _ _ _ _ p! b _
zn a b:=bW a ai b
nw a b c:=λ v a b c=>?_
oz a:=my lD kk a kk
oC a b:=li (dr a i? b)
Da:=vr bQ
nz a b:=a (cw b)
vR a b c:=λ v a b e=>c
qF a b:=C2 a #[b,rfl]
qG a b c:=ae a dZ b c
oD a b c:=eS a (r? b c)
oK a b:=H a=et .tup b
oL a b:=by rw[pu];exact a b
vS a:=by rw[cx a a6 a6]
Db:=.type
vT:=su Ot
oM a b:=H a=et .b aq
qH a b:=aW bV pZ a b
qI a b c:=Pk a zl b c
oO:=by dsimp only at hx
qK:=yc _
IS a:=.lst (a mc)
oP b:=[aN hY,b]
oQ a b c:=fu (a H) b c
qL a b c:=by rw[dl (ah (TY a) ad x hx b) c]
zo:=λ _ _=>trivial
qO a b:=by refine a;refine b
De:=a'.1
vU:=iV h
vW a b c:=∀v H2,a->b->c
oR a:=a<=d?
vX a:=by exact(a).symm
qP:=dL (fS bd>=0)
oU:=c1 (jZ×V)
oV:=fI c bm H
oW a b:=by unfold a;rw[b]
o0:=a<d?
qS:=d? - a
s9:=e?.2
vY b c d:=aE a b e c d
o1 a:=a i6
o! a b c:=ah a λ b e h=>c
s? a b:=eW a (ag b)
qT:=by exact a6
qU:=bI 3
Pl a b c:=lu PySem.F.plainAttrs_list a b c
zp a:=i! ((a).any (·.1)=false)
qW a:=kI (d9 (lm:=a))
o? a b:=a=false->b
qZ a:=_B.kj _ a
vZ:=cl.g d u
ta:=bT.2
q5 a:=eX eS a
tb a b:=.List a b
tc a b c:=λ a H1 _ b=>c
pb a:=a7 s5 a
IT a:=by rw[el,a]
pc a b:=λ a b=>?_
v4:=z.2.to
Dh a b:=cK y7 (a A) hr b
q6 a b c:=show a<=8192 by exact b c
q7 b c d:=by obtain⟨b,c,d⟩:=a
q8 a:=b! (gA a _ _ _)
q9 a b:=(a).imp b
pd:=r.2.1
v5 a:=.f? a
q!:=q.2.2
zu:=zg cd
q? a:=lf (by exact a)
td a:=Ty a
rc:=kH (4*k+1)
rd:=kH (4*k+2)
re a:=a (ga s2)
ri:=cv r
rj a:=ey gi a
rk a b:=(vl a).map b
ro:=g9 qe
zv:=i7 d u8 u9
pe:=cZ 23
pg:=rg S
tg a b:=ii #[a,b]
th a b:=cq a (cq b ao)
ti b c:=[b,vN bT,c]
rz a:=by rw[gy a]
rF:=d1.2.2
rH:=kH (4*k)
tj a b c:=aE a _ O b c
Dk:=e! a v H2
rI:=[f.rule,f.place]
rM:=Hp->ml V α
rN a:=dn a hk
zw a b:=lB a hv b
rO:=(eU).scalar
Do:=ge a H H2
rR a b:=by refine a;show b
pi:=pv 1
tm a b c:=bp a b dX b2 ck c
rS a:=by simp;exact a
tn:=TK sh w
rT:=v=c! a
rU:=mF H'
v6:=bY (i:=3)
v8 a:=l.getD a 0
rW:=c1 α
tq:=bT.1
tr:=i? ?_
zx a:=sE a k
v9 a b c:=λ a s1 b q=>c
rX a:=(a:Y)
ts:=vN cd
v_:=kt.2.1
r4 a b:=a (vs:=b)
IV a:=λ a=>?_
IW a:=T? t a
r5 b:=λ a=>b
r7 a b:=λ _ a=>b
zy a b:=iy dw a b
v! a:=mB a t
tu a b c:=by dsimp only[a,i7]at b c⊢
zB b c d:=b (cl:=c _) (d A) ab (λ a H hp=>?_)
IY:=IS tt.map
tw a b c:=mt a dg k b c
tx:=zd yH
ty:=zd nL
tz:=sB H b d
tA:=j5 S0 bm H
IZ a b c:={cls:=a,data:=.b (TA c)}
I0 a b c:=bK "map_rows" a (C5 b c)
tB:=mn mN w
v?:=sA×Y
r8:=cZ 39
we a:=yd a
tC:=mA (4*k)
tG a:=bh (x9 a)
tI:=ik sM aI O
Dp a b:=a c3 b ge e!
tL a:=by unfold br at a⊢
tO a:=∀H1,qg->a
tP a b c:=∀{a:b}{o:HO},c
I3 a:=wipe a (HN (·.2))
Dq:=sw C fs
wf a b:=zc cS.gU a #[b,rfl]
r9:=a+3
r':=pv 3
wg a b c:=eX mu a b a5 og c h4 hk
tQ a b:=ic a es b
tR a:=f_ a n H
tV:=fT p?
wh a b c:=by rw[sJ a ap n7 b];dsimp only at cC bQ c
tZ a:=by rw[a]at a6
t7 a:=by rw[a]at a6
zC b:=b g7 cd
t8 a:=a cr ge e!
wi:=gi aY
zE:=ez au
t9 a b c:=cG a λ b h=>c
t!:=λ h1 h2 h3 h4 h5=>?_
wj a b:=.tup (a b)
Dr a b c:=gj (λ _ _ a=>b) c
zF a:=n! H1 s1 a
t? a b:=by exact a b
wl a:=rD 2 nX (a A) dp
zJ:=oi n0 OL Im i6
ua a b:=b8 aq (a b)
wp:=c! qm
zK:=(eU).key
ue b:=n2 a b
uf:=n5 h
ui a:=a7 s8 a
uj a b c:=λ a b _ c=>?_
uk a b:=eS (a:=b)
ul:=by simp
un a:=brk d a
uo a:=br a kk
up:=mw S H
wq a b:=λ H3 a=>b
wr a:=by rw[gq];unfold a
Pm:=sG Ip
ws:=by have:=ld hx
wt:=bN sF
zL:=sK hz h _
wu a:=by have:=ld a
ww a:=vu cS fN a
ur a b:=λ _ a=>b
ut:=eU.1
uu:=a.2.1
I4:=kI hR.cu
Ds:=Hz (d?+1) 0
Du a b:=cK sm (a A) hr b
wx a b c:=by rw[dl (a dV b) c]
wz:=by rw[ux]
wA:=[eb]
uv a:=a H2 s2
wC a b:=a (yd b)
zM a b:=by obtain⟨iF,a⟩:=b
wD:=mq 3
wE a b:=j0 lf a b
wJ b c:=by obtain⟨b,c⟩:=a
wK a b c:=_B.jw a (show b<c from hk)
wP a:=a hH bM nm g'
zN:=Z .globalImplicit
uw:=i+1
wS a:=mH me a
Dw a b:=.Subscript o a b
I5 a:=.Ig o a pP
I6 a:=a (kB s3)
Dz a b c:=(a b).OP (c hO)
wT a b c:=by refine Bd.of a λ H1 s1 D b c=>?_
wV:=Tl _
zO a b c:=aE a _ pu b c
wW:=n?.1
wY:=vE+1+1
zS a:=kJ lH f9 a es
zU a:=show a by decide
w0 a b:=OL a Im b
w1:=aW cX au ai
DA:=λ vs H1 s1 hv=>?_
w2 a b:=by refine a;unfold b
DB a:=by simpa using a
zV a:=.Ig a
w3:=e?.2.1
w4:=vk yH
w5:=vg V
zW:=bd=Z b0
zX:=.pt y pos'
w7:=mb s4
zY:=sv bk.2.1
w9:=r! p k=0
w_ a b c:=a eg eg ai b c
w':=tf kQ ks j
DC a b c:=Pl PySem.F.slot_list_append PySem.F.type_list_append a b (iG c fH)
DD:=e_ - 1
w! a b c:=aB X σ a b c
w? a:=sL k a
xa a:=vz u a
xb a:=zn au a
xc:=by rename_i e
xd a b c:=aZ a b c O
z1 a:=((a:Y):cm)
xf:=sC z o
z2 a:=C2 a #[y6,rfl]
I7:=#[_,rfl]
xg:=c1 cm
xi:=(b,d,kk)
xn:=bY (i:=4)
xo:=IV cn
I8 a:=cb (a:=2)
xp a:=.uy a
xq:=bm.2.1
xu:=qn k
xv:=r.2.2.2
xx:=r.2.2.1
xy a:=λ H5 s5=>a
xz a:=λ a=>?_
xA a b:=(a).drop b
xG:=b7 k X.A
xI:=(eU).to
xL:=lF eh
DE:=c3 a
xN a:=a7 a e
DG:=Z x
z4 a:=by unfold a;rw[IT Ob]
I9 a:=IZ (Db "dict") dict a
z7 a b c:=bp a b dX b3 ck c
z8:=I0 aN am aN pa []
z! a b c:=by rw[h2];refine aX mx cM a i? mI qD b dH (py h1 (ld c))
z? a b c:=aT (a A) hr b ez c zo
Ps a b c:=callWith bi a first zk b (backToKw bi (keywordEach c ma))
I_:=(Pm).all gt kR (oj x)
xP a:=λ n=>a
DH:=.pt
Ab a:=HT a ab
I':=ii vq
I! a b c:=by rw[h2];refine aX mx cM a dH (py (lc hx) b) c
Ac a:=lK C! a P P
Ae a:=qc j1 a (cb (j:=1))
DL a:=zm (a=false)
Af:=bh IW m
Ag a b:=hI (a b) ab
Ai a b c:=a x_ X.w X.K pq X.base k b c
xQ:=k<15
xT:=hx.1
xW:=k<=8
xX:=pL++pJ
xY:=zr d
xZ:=i<=a
I?:=I3 σ
Ak a:=by rw[yD]at a
Al a b c:=by rw[dl (ah a ad b a9 c) a9]
An:=by rw[<-NG]
Ao a:=by rw[ig hI a]
Ap a b:=eX (c9 a az a5 O) b
DN a:=b! b! Ci hz a
Pt a b c:=a (UA vf b c)
Ar a b:=iQ eT P (a H v b)
DO a b c:=i! (f9 a=(do let ov<-f9 o;standAt TT;let(f,first)<-b;Ps f c []))
Ja a:=g6 T7 a
x7:=bI 4
As a:=g6 Iz a
At a b c:=(Mt.inside a).all λ b=>c
Au:=("__debug__":bt)
Av a:=by rw[mJ #[a,rfl]]
Jc a b c:=X.cD s a lm (compEnvC lm b c ma) fp
Ax:=c1 (bt×ak)
Ay a:=by refine tN dV a
Az a b c:=vR a s1 n2 b c
AB a b c:=i2 (a b c)
DR a b:=!Mt.isSyllable a&&!Mt.isJamo b
AC:=sO 2 c
AF a:=dZ az a
AH:=kH (4*k+3)
AI:=zd α
AK a b:=(yO a b).getD
AL a b:=ii ce a b
DT:=BK×V×vL
AM:=g6 u7 n
Jd a:=by dsimp only at hv a
DW a b:=p v a O' b
AN:=(TK sh w).is
AP a:=iu uh a ai #[ab,kM]
AQ a:=by rw[cP a]
DX a:=im me (vN a)
AS:=Pr m a i bd
Pu:=.pt "range"
Je:=r? sb ?_
AT a:=wpAny _ _ a _
DZ a b:=kB (a b)
Jg:=CF+yW+yX+IM
AX a b:=show a by exact b
A0:=r.to.headD 0
A1 a:=f8 a O
A3 a b c:=a (b:=λ d! H2=>c)
A4 a b c:=a b O c O az
D3:=ND s1
A5 a b c:=br a kk b=Z c
D5 a b c:=a (w:=wn) (b:=c)
A6 a:=wpAny _ A.in1 a _
A7 a:=by unfold a at hR
A8:=[so,u.num]
A!:=Fs X.K pq c
A?:=z.2.scalar
Ba:=aN hY
D6:=gZ h1
Be b c d:=b (K:=c) (a:=d)
Bf:=px m a
Bg a b:=a (.pure b)
Bh a:=λ u H1 s1 hu=>a
Bk b c d:=bL b λ a e g c=>d
Bq a b:=a bd=dt b
Br:=vk Y
Bu:=n5 h1
Bv b:=a.2.map b
Bw:=cz (i:=2)
Bz:=.pt x p
BA:=bY (i:=1)
BB:=Y->Y
BC a b c:=λ a a! H' _ b=>c
D8:=zp zk es
BD:=(0:cm)
BF:=[v0,v1,v2,v3]
BH:=pM 15
BI:=bM<15
BJ a:=Mt.map a
BL a b c:=λ v H1 a b=>c
BN a:=(a).scalar
BO a b:=by rw[a,b]
BS a:=λ x hx=>a
BT a:=a7 s6 a
D9 a:=C2 a #[trivial,rfl]
D_ a b c:=by refine g! (fM (on,n,a) ra O om dx h1) #[hR,b] c
Pv a b c:=Dh EU a az lz hD.cu dZ au b O ii (j3 (hD.later s1) c vq bJ iN)
BU:=pM 3
BY b c:=λ a:b=>c
B0 a:=#[dx,a]
B1 a b c:=vA a pa b c p1 p2
D':=lF BZ
B2:=en m a
B3:=zR hk h
B4 a:=cq a ao
B7:=lD k
B9 a b c:=λ a H3 s3 b=>c
B_ a:=λ _ _=>a
B':=Sem fm
D!:=zf s3
B!:=bg ?_
D?:=lU hm
Eb:=lJ I5 m lH
Ji:=by rw[<-NG,e7];rintro⟨h1,h2⟩
Ec:=n0 oG zx sU v4
Ee a b c:=by have:=j0 Od a b;rw[vS h];rw[Cu];have:=hM.le;exact hI c a6
Ei a b c:=iw a b dX b3 ck c
Ej a b c:=vC a b dX b2 ck c
Ek:=al×al×al×al
Eo a b:=by obtain⟨_,a,b⟩:=Option.bind_eq_some_iff.mp h
Jj a b:=cK sm (a A) dp b
Ep a:=qc j1 a I8 j
Er a b c:=by rw[dl (ah (eJ a) ad m hm b) c]
Es a b c:=by obtain⟨a,hR⟩:∃b,c:=I7
Jk a b:=if a then sY (-6)else b
Eu:=upd H6 tl IY
Ew a b c:=by(have oA:a:=by exact Ct hk);have b:c:=by exact DV
Ey a b c:=a b (yg c)
Ez a:=by rw[gy (by rw[cP a])]
EA a:=vx rB.trans s4 a
EB:=vf sv AO.2.1 cc
EC a b c:=by obtain⟨⟨iF,a⟩,b⟩:=c
EF a b c:=by rw[jl bX a];dsimp only at cC bQ b c
EG a b c:=by refine ah (vt a) ad b hk c
EH a b c:=mt ej dg a b c fd ps Dp Ea cr
EI a b c:=H! [ov] (getMethod a b c)
EK:=sQ 10 pU
EL:=(zv).CM λ u=>!vZ
EM a:=v5 g! ll _ ey a
EN:=I6 ga
EO a b c:=by refine gI 1 nd a lB b oJ (c6 fx f8 b2 (c H3 s3))
EP:=GJ hf ab ab
EQ:=vc<d?
ES a:=by rw[el]at a
EX:=fy z Dq
E1 a b c:=by unfold a;rw[lf (no hx)];exact b c s2
E2:=by rw[e7]
Jl a b:=by rw[a,uF]at b
E3 a b:=CQ a=Z b
E4 a b c:=show a<=10000 by exact b c
E5:=b! wF _ _ ha t
E7:=zy sZ dh
Pw a b c:=a mK b n c (Uj m)
E_ a:=Tp a
E' a:=j0 gy a hk
E!:=ms.length<=d?
Jm a:=yd (e4.mpr a)
Jo a:=j0 nD.four a ap
Jp a b c:=IsTup a b (TA [aN j7,c])
E? a b:=a=y9 b
Fa:=_B.jv m a i bd fq
Fe:=_B.jy m a i bd fq
Fh b:=b g7 bT ch
Fl a b c:=i9 a H1 b r qs (c fq)
Fn a b:=by obtain⟨a,hb⟩:=b
Fo a b:=by obtain⟨a,b⟩:=hp
Py a:=IA (Ui a)
Fp a b c:=y8 a t b c
Fr:=c9 bQ az au O
Fu:=mn sT w
Fv a b:=a ma (eval b ma)
Fx:=vT 15
Fy a b c:=c9 (a:=b0) (b:=fT b0) c az a5 vU.2.1
Fz a b:=(CX a).uI b
FA:=eZ (fs.lookup m)
FB a:=i2 (a ?_)
FC:=by dsimp only at a6
FH:=HV<=8192
FK a b c:=∃a,d!=[cv q,Z b]/\ba H2 v c
FM:=C? cm
FO:=C? Y
FS a:=E9 sm A.bj.C8 a az O
FT a b c:=λ v H8 a hv=>p v H8 b c
FU a:=by unfold a;dsimp only
FV a:=attributeBase a
FW a b c:=aE a _ md b c
FX a b c:=by have h5:=a h2 b0 (b c).1
FY a:=r.to.all gt a
FZ:=b! gM s3 eB
F0 a b:=Cr a (mb b)
F1 a:=b! gM s a
F2:=sv De.2.1
F3:=lD ze
F4:=vl eq
F5:=vl hV
F6:=pZ a5
F8:=se (·.2)
F_:=4*k<i1
F' a b:=∀{a:fm},b
F!:=64<nV
F? a:=a<=IJ
Gb:=kB s3
Gc:=kH p?
Gd a b c:=aO a λ b y e h t=>c
Gf:=fT qE
Gg a b:=a (k:=uM b)
Gi:=X.calm=c2
Gj a b c:=FN (a b) H v (c 18)
Gm a:=a+1<d?
Gn:=i1/4
Go a b:=show¬a from b
Gp:=vy True
Gq a b:=CK a b
Gs:=(g7).getD
Gt a b c:=by intro iE s σ a b c zz
Gv:=y? O
Gw:=aj.refl _
Gx:=iI C7
Gy:=pw m a
Gz a:=λ u H3 s3 hu=>a
GA:=(qk,d,kk)
GB a:=ce O a
GC:=λ _ _ _ h=>h
GE a:=by simp[a]
GG a b c:=by intro a b bd fq hz c hi
GH a:=cJ (lG a)
GK:=by cases h
GL:=cz (i:=3)
GM a b c:=λ a H1 b c=>?_
GN a b c:=HS a (λ o e=>b) c
GO:=c1 β
GP a b c:=λ v H4 a b=>c
GQ:=(wn,co)
GR a:=cr a H1
GS a:=(a).map vN
GT:=[ea,eb,ec]
GU a:=(a).Cz
GV:=by simp
Jq a b c:=by obtain⟨dk,wn,tv,a⟩:=b;rw[<-iS hp λ hD q hv hq=>?_,Jd hq,p7 hv c,gq,ig im (qU nd) (.f7 v! wn) (aT (Fg A) dp (wn,sR,t) dZ au a5 I')]
GY a b c:=λ _ _ _ a b=>c
G0:=[e1,e2]
G_ a:=(a).book
G!:=PL vs H
G?:=cl::l
Hb:=.fK
Hc:=mD aI
Js a b c:=by refine a nd mP mu b bQ au B? c ?_
Hd:=cZ 21
Hg:=dk.2
Hj:=jr h
Hk:=kN n
Ju b c d:=b (RQ cY c [a.1] ci (c? bm cd/\zu) dR d)
Jv a:=a "folding_settles" eC I_
Jy a b c:=Pl PySem.F.slot_list_extend PySem.F.type_list_extend a b (iG c fH)
Jz a b c:=by exact a ab (λ hh b=>c (D0:="canonical_row_without_hangul") (HG:="scalar_is_no_hangul") (D1:="ends_by_k") (Gr:="ends_by_k") zi zi zi zi n) hp
JA b c:=zB Is (b "folding_settles") c
Pz a:=Pt y! YfNeutral.start a
JC a b c:=eY dF v6 a (oa x! dw b) jb c
JH a:=by rw[el];exact HT a ab
Hn:=pv 2
Ho:=mV fH
JK a b c:=eY (a O nd ed x? sS) b c
JL a:=(TI I9 []).a
JM a:=by rw[mM,g? (jk (decide_eq_false a))]
JO b d e:=b (RQ d (El c) dR qo (y8 bT e? CR qq e))
JQ:=Jc H0 cl C
JS:=sj (Mm A) dp (wn,y) zE vy hy
JT:=Dw (.Slice Z ea Z eb ac p1) p2
JU a b c:=eX mu a bQ au dn b c
JV:=mx cM (aW cX Da au)
JW:=aW cX (aW cX Da au) ai
JX:=iz a0 (jE (Ds ac m))
JZ:=Mt.ROWS<Jg
J0 a:=by rw[el,Oq]at a
J3:=vW (ge a H1 H2) Dk (Q v H2)
J4 a b c:=by refine ah (hj a b) ad v c h;cases e;exact h
J5:=j! vK
J!:=fx vK
J? a b c:=by rw[cx e eB eB,<-#[?_,a i eU (getD_at b hk e)]];show x.1=Ja c+i;unfold T7
Ka:=iz a1 (jE (yr (sq.length+1) 0 ac sq))
Kc b c d:=b7 k (A.deeper (envOfC b vH i3 c d))->cr a H->∃t,il (iq eK P w K mg dg N pR vH f aK A em s H E).jh (cw st) t/\∀D:Ends,(∀v H2,Do->Dk->D.rt v H2)->(∀a! H2,Do->e! a .cB H2->D.nx a! H2)->t D (start N (c3 a)) H
Kd c f g:=by exact(Du c ((b,d),bM) ho I4 (ae h1 (ae h2 ao dY) fO) O ii #[(CH s1).parts,hk] fO a_ ht).imp tc v f (aO g λ a xs e h p=>vY xs h (Pn p))
PA c d e:=c? hY c/\zg g7/\bT<qw/\∀b,ch=Z d->e
Ke:=Dz c4.take k u7
Kf a:=by simp only[e7]at a
Kh:=C! O1 P P A
Ki a b c:=a b (Tk _ c)
Kj a b c:=by refine a (λ v b s2 hv c=>?_) aY O
Kk a b:=py a (Tc b)
Km:=upd H6 z p! f5
Kp a b c:=by rw[gh a λ b h2=>gr c dx h1]
Kr a b c:=by obtain⟨⟨a,b,kk⟩,n⟩:=c
Ku b c d:=by obtain⟨⟨iF,b⟩,a,c⟩:=d
Kw a:=by rw[yD,a];rfl
Ky:=(I?).set i DG
KB a:=vx OC s2 a
KD a:=a (kB (mb s4))
KF a b:=a "scalar_is_cased" eC b
KH:=Mt.agree hO (T_ hO)
KI a b c:=Uw Uy a b=Z c
KJ a b c:=by refine dq (wd a) λ b e0 l0 c=>?_
KK a b c:=by refine aO kS a λ xs b hl c ie=>?_
KM b c d:=by refine aO h λ a y e b c=>?_;exact d
KN a b:=by dsimp only at a⊢;have nd:=b
KO:=mg u!=cv f
KQ:=y? Je
KR a b c:=pX (∀a,foldedSetIterable b ma c=pure x) gs._auto_1
KS:=mO qp jV
KU:=Ad [] (jO.map gt (x.1,eU.2))
KV a b c:=λ d a=>match b with|.c x=>g d eU|_=>c2
KW:=NP b=Z o
KX:=bh (t.all x9)
K2:=by rcases cj with rfl|rfl
K3 a b c:=by obtain⟨g1,a⟩:=b _ eU h4 h5 hm c
K4:=by rw[el]
K5 a b c:=cF a gu (c5 (bP cM b c))
K6:=by exact yc _
K8:=bR->Cf->fm
K_:=v8 DD
K!:=plainId_quiet pE _
K?:=qB H1 r []
La a b c:=fu (λ v a=>b) vs c
Lb:=bK "sequence_rows"
Lc a b:=yM (Oo a b)
Le:=f8 qp kL
Lf:=f8 qm gZ dQ
Lg:=bN DE=ps.length
Lh a b:=HL (nG a b)
Li:=al->Y->Prop
Lj:=bR->nL->fm
Ll:=bR->yH->fm
Lm a b c:=by congr 1;rw[vX (a b k c (Nat.le_of_lt hk))]
Lq:=sC a (.lst ys)
Lr a b c:=∀d a,yF d->uz d fN->r∈b bM []->c (bM,r)->cr d r/\g d r=g' d r
Ls:=bh (x9 x)
Lt a:=yJ _ o a e
Lu:=j1 n1
Lv:=c1 (bt×Y)
Lw:=ey kL
Lx:=oo se
Ly:=s? a5 A.g.Pj
LA a b c:=CK a (b _ c)
LB:=zC px
LC a b c:=∀a,h.get? b=Z o->h'.get? c=Z o
LE a b:=yb (by rw[a,b])
LF:=by simpa using a6
LG:=bK "name_count"
LH a:=ml a ln
LI:=qu _B.dO
PB:=mi (OC s2)
LJ:=zw vs ?_
LK a b c:=xm (α:=Y) a iT b c
LO:=("parts":bt)
LQ:=λ v' H2 e=>e.trans (r? sb g2)
LT:=nE ?_
LU a b c:=λ v H5 s5 wG=>p v a b c
LV:=DB e
LX:=vc<nV
LY a b c:=.Call (Pu a) b [] c
LZ a b c:=λ a a! H1 s1 b c=>?_
L0 a:=by simpa using a
L2 a b:=if a then b else[]
L3:=by assumption
L4 a b:=Cm (a b)
L5:=_B.jy.zero m
L6:=_B.jv.zero m
L7:=yO n l
L8 a b:=a (Cm b)
L_:=ps.map sd
L':=64<d?
L!:=c1 nL
L?:=eI.later s3
Ma:=OQ s4
Mb:=RQ c3 cr e!
Md:=Db "list"
Mh a b c:=by refine gN F λ a fd ps hm b c=>?_
Mi:=iz a2 (oZ n)
Mk a b c:=D4 d (a hH k nm b) (hH,c,f)
Ml a:=a<=e_
Mn:=i1%4
Mo:=!l.isEmpty
Mp a:=a=ps.length
Mq a:=Except NE a
Mr:=c1 ia
Ms a b c:=dJ (l:=qs) (i:=a) (by exact b c fX)
Mw:=t.all x9
Mx a:=tup_ne ha a
My:=gK rl
MA:=1<=n/\n<=65535
MB:=nomatch hx
MC:=n<1114112
ME:=λ _:Unit=>[]
MF:=c1 Stmt
MG:=gi Aa
MJ:=db zq
MK:=vl l
ML:=_B.si m a
MM:=_B.jm p k
MN:=nG p k
MP:=i9.new hN fX
MQ:=c1 bt
MT:=c1 Env
MY a b c:=by refine a (ae (ag b) ao) ab ck H1 s1 _ λ c qs H2 fX hN=>?_
M1 a b c:=λ a b h1 h2 c=>?_
M2:=gy h
M5:=cE a _ e h
M7:=uM zK
M8:=se vN
M9:=z.drop 1
M_:=pM 14
M':=a7 s7 wQ
M!:=aN ra
M?:=aN qv
Na:=iU (Y->fm)
Nc:=λ i=>!f i
Nd a:=λ h2=>a
Nf:=λ _ _ _ _ _=>pD
Nk:=a6.1
Nl a b c:=λ H H' v x a b=>c
Nn:=lD l
No:=aN D
Np a:=λ h1=>a
Nq:=t !=0&&k==k'
Nr:=cT qi
Nt:=cb hi
Nw:=te+1
Nx:=pv 4
Nz:=zs nl
PC a b c:=by rw[I! b6 h1 i? mI qD a,<-oF b dp (cq Pv (dk,(wn,y),sR,t) a5 hy th c p9 hq a5) DA]
PD a b c:=by rw[I! ip h1 tr];generalize hL:Ui Pw a y t=L;refine iQ (gI 6 nd) P1 (gQ L/\L.length<=200) (oF (b A) dp (cq Pv (dk,(wn,y),sR,t) b6 hy (cq a5 c)) DA) λ v H1 s1 hv=>?_
PF c d e:=c (RQ cY (sA×iU jo) ti mY (.f7 (fS ch)) ci PA g7 b d kU (vN e))
PH a c e:=Jj a (mW,5,c) az I4 dZ d2 A.g.Cp e O tg (CH s1) zU (5<15)
PI a b c:=by rw[qC h a b,cQ ho ii (b9 _ dx _ D6 nX c O) hb]
PJ b c d:=b (RQ cY v? [mY,ts] ci (c? hY g7/\c) kU (vN d))
PK a c d:=a[j]?=Z q->∃(b:ak),c/\Jp uY b q!/\d
PN a b c:=D5 QC n a (t:=t) (m:=b) (f:=qq Py Pw c y t)
PO b c d:=b (RQ cY j? [a.1] ci (c? bm cd/\zu/\∃c,m9 ow cd ps) dR d)
PP a b c:=Dh a (dk,wn,c! qt,t) az lz mR.cu dZ b c O fx D!
PQ a b c:=by rw[Ji];rw[a,Hv,NM,e7]at b;rw[hx.1,Hv,NM]at c
PR a b c:=a (λ k a! _=>b) x! O nd x? qG ai Da ai Jo DY y? c
PT a b d:=fI c (da,bk) (br a tl)/\f_ k_ n (br b tl)/\d tl=Z IY/\tt++Pt y! zY jN=Pz cs/\tt.length+301*yI<=120400
PV a:=zc cS.gU a #[trivial,rfl]
PW a b c:=aT (TZ A) dp ((aN qp,m),a) dZ az b c
PX b c d:=by refine #[λ d! rZ=>∃z',z'<qS/\b,λ _ _ h=>h,?_];have je:=gi o7;refine DX c q5 qH a5 d cA H4 s4;have pH:=db je
PY e f g:=by rcases e with _|⟨a,_|⟨b,_|⟨c,_|⟨d,_|⟨f,g⟩⟩⟩⟩⟩
PZ a:=DL (x==("__classdict__":a))
P0:=zm (Cb "range"=zN)
P2 a b c:=di (a:=3) jH D? zF zO b (.fE (hs c)) O
P3 a b c:=fu (λ a b=>aJ X.K H c [aN v_,kt.2.2]/\fy v_ wj ng kt.1 kV) ps jO
P4 a:=a "ends_by_k" eC zJ
P6 a b c:=by have:=qy a;rw[b,el]at a6;unfold pM at a6;rw[el,Ob]at c;rw[qT]
P8 b c d:=aO b λ a c e h p=>vY d zL Dr q #[q.1,DN q.2] p
P9 a c d:=by have bb:∃b0:Y,(a/\c)\/zW:=by cases bd with|ac=>exact #[0,.f? #[rfl,rfl]]|gV b=>exact #[d,.fE O]
P_ a b c:=by obtain⟨a,b⟩:=Oa c
P! a b c:=a b (ae d2 c dZ d2 A.g.Nv d2 A.g.ae1)
P? b d e:=∃a':DT,xH a=[aN De.1,a'.2.1]/\b/\vW (nB De H H2) (j5 S0 De H2/\d) (nB bm H H2/\Bb c e a v H2)
Qa:=by have:=vU.2.2;rw[cP x8]
Qb c d e:=(gK yh=c2↔(∀b,vO->fT b<=op))/\(gK yn=c2↔∃b,vO/\op=fT b)/\(gK c=c2↔(∀b,vO->d))/\(0<=fS bd↔∃e,vO)
Qc:=by rw[TX,uO,sk]
Qe a c d:=aO a λ c aq e h p=>(aE b aq e d Dr q #[q.1,b! wF _ _ ha q.2] p)
Qf a c d:=by rintro⟨b,h1,h2⟩;have h3:bh qP:=Jm #[b,h1];have h4:=(a c).1;rw[cx h1 h4 h4,#[h3,j0 yd d h2]]
Qg a b c:=by rw[a,yD,qZ b]at xw;rw[vX td c]
Qi:=DR i6 i6
Qj a b c:=mU (.BinOp tb a p1 b e bi) c
Qk:=by rw[IT el]
Ql a b c:=by show yO a b=_;rw[_B.Ca];unfold pM;rw[nC];exact TS iO k (pN k c).symm
Qm a b c:=by rcases h with h|⟨o,a⟩;(.exact .f? (.f? b));.exact .f? (.fE #[o,c])
Qn:={bM:=.function,names:=[],isGenerator:=false,isCoroutine:=false}
Qo a b c:=Dr a #[b.1,b! gD ((cT qi).jR c) h.2] e3
Qp a b c:=kI (d9 (N:=a) (sc:=aw b) (own:=[c]))
Qq a b c:=a b _ (List.contains_iff_mem.mp c)
Qr a b:=by simp only[a,pj]at b
Qs a b:=a tn i3 b
Qv a:=kW (yW<=8192) a hle
Qw a b c:=by rw[zM a q];obtain⟨⟨qp,b,bQ⟩,ap,ps,uE⟩:=hp;dsimp only at cC bQ ap uE;rw[lP c];obtain⟨h4,_⟩:=H_ uE
Qy a:=by rw[a,uG]at hx
Qz:=lF List.length_filterMap_le
QA a b c:=a b (Un _ c)
QD b c d:=by generalize gK yh=b at hR c;generalize hfo:gK yn=d at hR e2
QE a b c:=by dsimp only at a hq b ap c;rw[p7 hv Fj.nd];have rq:=iX hp
QF a:=N0 (i:=a)
QG a b c:=key d? 0 0 ac a iT b c qK
QK a:=Q aN i3 a
QL a c d:=by rw[Hv,NM];refine e3.mpr cA b iA;have a:=hx.2;rw[Jl c d]
QO a:=by exact yg a
QP a:=dn Nat.le_of_succ_le a
QQ a:=Heap.get?_push_of_some _ a
QU a:=a (j_.trans (mb s4))
QV:=.N2 tb [] lp [#[zX,.Call (Pu p1) wA [] p2,[],0]] lm bi
QW a b c:=by rw[qO a tj b c ?_];rw[aY,acv hm,yC];unfold _B.lW
QX a b c:=[.yy iW a j p1,DH p p2,DH k p3,.pt b c]
QZ a b c:=Cj a v9 H1 Q (eT (b s1) λ u H2 s2 hu=>c)
Q0 a b c:=by obtain⟨lw,hm⟩:=a b ps h1;exact #[lw,c]
Q1:=by rw[e7]at hx
Q2 a b c:=by refine uZ uR a;refine(wN f h1 fd ps h2 b q9 (h4.mono hk) c)
Q4:=Ul b o h1 h2 h3
Q5:=mi ((PB).jR s3)
Q7 a:=List.find?_eq_none.mpr a
Q8:=by rcases cj with rfl|rfl|rfl
Q9:=yr (d?+1) 0
Q_ a b c:=by rw[jl a b];dsimp only at hv hq tS dQ;subst hv tS;have nd:=c;rw[gq,ig im (bI 5 nd) (.f7 (tE wn n t m)) (aT (ac1 A) dp ((wn,n),(aN q,t),wp,m) pY au a5 dZ b6 du ii (eM vq qm O gZ dQ))]
Q' a b c:=a (R:=b) (ls:=l) O nd ed az zF n2 q ey n1 ck (i4 (by exact aeD c ap)) rq
Q! a b c:=pf a xs b O O c j0 i4 Ck Am ?_
Q? a:=a d.book.scripts.length
Rb a:=Heap.get?_push_size _ a
Rc a:=a (lc h)
Rd:=Uc (IA l)
Re:=u7 ot cd
Rf:=Str.ofString "__len__"
Rg a:=pX (a Hs x) zb._auto_1
Ri a:=Mt.elementsFine ac a
Rk a:=lf (by rw[cP a])
Rl a:=we (show a by omega)
Rm:=zV o "records"
Rn:=z1 lj
Ro b d e:=∀b H,yQ c fN cl a H->∃a',xH a=d/\cr a' H/\e
Rp a:=if(bh (a&&!false))then 1 else 0
Rq:=S_ S!
Rs a b c:=hI D' (hI (a b) c)
Rt a b c:=aE vy False sp v a ?_ (λ _ _ _ h=>h.now.elim) (λ v H3 s3 hv=>DW H3 #[b s3,c,dV])
Rw:=by unfold Os at*
Rx a b c:=Cj (a dU) v9 H1 Q (af PL D3 zw vs #[hI (b c H2 dV) ab,λ p hp=>q _ _ DZ cT hp wq s3 (aE p vs O wi (hv H3 ((cT hp).jR s3)))])
Ry b d e:=b (RQ Qu (Jw c) dR qo Jk (vc<bN s9) (y8 tq d1.2 (yf ta d1.2 s9) qq Py (d m0 y ta d1.2 (Uj e))))
Rz:=_B.jw eq kP (0<nP)
RA a b c:=bindArgs (PySem.W.fnOf a pR (jA st) (cw st) vH .ac kV doc b an aK ct) #[us,[]]=pure (ps.zip c)
RB:=(mW,i6)
RE:=h4.mono ab
RF:=kP (1<1000)
RH:=kP (2<1000)
RJ a b c:=eY dF a aI (lG DC ug aI aI) eY dF m7 b (Fw (i:=3) nd O IO kf c) dh
RK:=((sa,vp,y,t),0,nV)
RL:=y9 r
RM a b c:=(OZ bM eU hk (a hk b)).c
RN a:=a<i3
RO a:=("numbers",c! a)
RP:=sc.names.lookup x
RT a:=PySem.W.keepIn K a
RV:=qu Mt.agree
RY:=jO.map gt (x.1,eU.2)
R4:=g6 Mt.canon x
R7:=h1.IsList l mf
R_:=OK->Ub
R!:=hB.same.trans s3
R?:=h'.get? b=Z o
Sa:=g6 Iu n
Sc a b c:=by exact(a).u_ (λ _ _ _ q=>q) (λ b' h1=>b) (λ b' ys h1=>c)
Sf:=g6 Iu x
Sh a:=gH (· = Dl) a v l
Si:=N?<=100
Sk:=bK "known_by_k"
Sl:=dt e_
Sm:=.lst (qs.map sd)
Sn a:=(a).all x9
So:=m? HF
Sq a b c:=a (vs:=HN (·.2)) (σ:=σ) (Qd:=λ H'=>Q aN b c)
Ss a:=gH (· = r) a v l
Su:=A.handled=ac
Sw:=bK "composing"
Sx a:=if a then 0 else -1
SA:=c1 Mt.Bytes
SB:=vk Cf
SC:=kS L.same
SE a:=_B.mX.getD t a
SF:=nV<=64
SG a:=eZ (a "range")
SI:=model sh w
SJ:=_B.jm.zero p
SK:=Mt.mapMost k
SL:=N8 0
SM:=sn 4
SN:=ga s3
SP:=ON s1
SQ:=QJ.later s4
SR:=nK 0 eq
ST:=d?<=a
SV:=xU.later s5
SW:=nJ.later s5
SX:=ga s2
SY:=NO k
SZ:=N!=n
S1:=i1/4
S2:=[i6]
S3:=i1+3
S4:=z.headD 0
S5:=.type "dict"
S6:=_B.oX _
S7:=e! S
S8:=e! a
S9:=cm×bt×bt×bt
d1L:Hr ((1:cm)<=x)=dL (0<x):=Rq
dP:Hr (m? x<=y)=dL (x<=y):=Rq
nT:F' x (bh (!x)->x=false):=kM
nF:F' x o? (!x) (x=c2):=kM
bG:∀s p:fm,bh (!s||!p)->(s&&p)=false:=kM
bH:∀s p:fm,o? (!s||!p) bh (s&&p):=kM
bA:∀a b c:fm,bh (!a||!b&&!c)->(a&&(b||c))=false:=kM
bB:∀a b c:fm,o? (!a||!b&&!c) bh (a&&(b||c)):=kM
bC:∀a b c:fm,o? (!a||!b&&!c) (a=c2):=kM
bD:∀s f p:fm,bh (!s||f&&!p)->(s&&(!f||p))=false:=kM
bE:∀s f p:fm,o? (!s||f&&!p) bh (s&&(!f||p)):=kM
bF:∀s f p:fm,o? (!s||f&&!p) (s=c2):=kM
asq(A:a?)(T:it):mq 2 "range_rule" (RQ cY v? [mY,vN (4*cd)] ci (c? hY g7/\4*cd<qw) kU (vN zC r!)):=tm A.aJS afo λ q e H hr hp U hU=>by rw[EC p t q,sJ aS a8 n7 aS];dsimp only at cC bQ a8;rw[lP afo.nd,gq];((rw[fz JV eH];.rw[mM];unfold r!;rw[Ez aBp];rfl);have h4:4*t+4<=i1:=by rw[kT ahU]);rw[Es R R (r! p t=R)];rw[hR];rw[A7 r!,gG wE aJP h4,A7 _B.Io,kZ hk kH (4*t) k,kZ hf kH (4*t+1) fi,kZ hl kH (4*t+2) la,kZ hv kH (4*t+3) va,kZ cj kH (4*t - 4) k',kZ d4 kH (4*t - 2) la',kZ ph kH (4*t - 1) va',<-bI 2 nd mP Fr NA hk ?_];(rw[fz oC (bP eO a5 (MI jH T.QI)) (eE (li K5 mx gJ au a5 mP (sx j (4*t - 4) bQ az w1 (by rw[ou h Sg])) TF cj)) eH];.rw[HH,X_,Hi]at hx;rw[g? (jk (bA dL (k<14) _ _ hx))]);rw[HH,X_,Hi]at hx;rw[gG (jj (bB dL (k<14) _ _ hx))];have yl:k<14:=lc (bC dL (k<14) _ _ hx);rw[<-qU nd mP mu (4*t+1) bQ au XH hf ?_,<-x7 nd mP mu (4*t+2) bQ au x8 hl ?_,ig im (bI 5 nd) (.bl Nq) oD (cp (gF gJ au ai) gu (bZ (d3 a5 (sx j (4*t - 4) bQ az w1 (by rw[ou h Sg]) dn TF h4 cj)))) sb (by rw[wz,rS aiI])];(have ht:bh Nq->0<t:=λ h=>by simp at h;exact aEF h);generalize Nq=fo at hR ht⊢;(rw[fz oC nr z? um dt fi b6 (eE (li (cF (bO ip) gu (c5 (bP eg b6 mP (sx j (4*t - 2) bQ az w1 (by have:=ht h;rw[cP TU])) afl d4))))) eH];.rw[oN,HH]at hx;rw[g? (jk (bD _ _ _ hx))]);rw[oN,HH]at hx;have Wu:tG fi:=bF _ _ _ hx;rw[gG (jj (bE _ _ _ hx))];(rw[fz oC nr z? um dt la du (eE (bP cM du b6)) eH];.rw[oN,Hi]at hx;rw[g? (jk a7 bG hx)]);rw[oN,Hi]at hx;rw[gG (jj a7 bH hx)];(rw[Js (bI 6) (4*t+3) hv,fz (dG w_ tT i0 (CW (k:=Mt.most k) T.QI a5 O yl O)) eH];.rw[d1L,dP]at hx;rw[g? (jk (nT hx))]);rw[d1L,dP]at hx;rw[gG (jj (nF hx)),<-aX (li (cF (bO ip) gu (cF (bO (aT (aE9 A) hr (m? la',dt fi) dZ mP (sx j (4*t - 2) bQ az w1 (by have:=ht h;rw[cP TU])) afl d4 b6 zo)) i? (c5 (eW i0 (sx j (4*t - 1) bQ az w1 (by have:=ht h;rw[cP aLe]) dn anw h4 ph)))))) dH eH dH eH];(.rw[oO];rw[aci Wu]at hx;rw[g? (jk (by rw[nc,#[hx.1,hx.2.1,by omega]]))]);.rw[oO];rw[aci Wu]at hx;rw[g? (jj (by cases fo<;>rw[nc];by_cases h1:Mt.next la'=fi;rw[.fE Nd (hx h1 dn aHI h2),mJ h1]))]
}
section _P
namespace _M
open hE hF hG _L
variable{n:Y}
def z:={
fits{x:cm}(h1: -(2^62)<=x)(h2:x<2^62):bh (S? x):=by unfold S?;rw[e7,pj,pj];exact arV h1 h2
nD.four(h:n<2^40):nD 0 qn n 4 ((n+3)/4):=by(have e:Ta 0 qn n 4=mA ((n+3)/4):=by unfold Ta;simp only[(kP ((4:cm)>0)),if_true];split<;>omega);rw[w2 (fQ ab ab ?_ e) Builtin.Range.small];rw[e,fits ab ab,fits iT adB dn awX h,fits ab ab,fits iT apA dn aAa h,gy ab,fits iT av5 dn ax6 h,Bool.or_true];rfl
}
section
variable{X:Cx}{σ:eo}{H:Hp}{bi pos' p1 p2:d6}{jN po:MF}{N:vg eo}{P:w5}{y:bt}
def z:={
aaK(i:Y){ea eb ec:d'}{lo hi st:cm}(J:Y->vg eo)(hp:PassesOwn (model x_ X.w) X.A ma X.xe)(rA:Gi)(hN:NB)(hm:SG pq)(ha:ic eF GT [iW lo,.f7 hi,.f7 st])(hn:nD lo hi st n)(h0:bc (J 0 σ) H)(hb:∀k a! H1,qg->k<n->bc (J k a!) H1->Bd X (σ'.set i et .f7 (lo+xu*st)) H1 po (λ d! H2=>J kA d! H2) P)(hr:∀a! H1,qg->bc (J n a!) H1->Bd X a! H1 jN N P)(hg:P0)(hs:kJ GT f9 ea [eb,ec])(a_:zp (backTo p2 (NC [eb,ec] ma)))(fg:i! (X.N[i]?=Z y))(hx:pX (Loc Hs y) ye._auto_1)(hf:pX (X.fn y=c2\/Tb y=Z .local) sX._auto_1)(mE:KR x LY p1 GT p2 x):Bd X σ H (.For zX LY p1 GT p2 po [] bi::jN) N P:=Bd.of (aP (iC hp rA (Dm hg hm dU hs a_) (cz (i:=i) hN fg hx hf) fL mE) fL) λ H1 s1 D n' p=>by refine ce D3 vz vs (qA lo hi st n pu hn kn C3 w? (rU/\bc (J k a!) H') #[s2,re h0.later]);(.rintro k a! H' hk⟨s3,j⟩;exact(aE _ _ (hb k a! H' SN hk j) (λ d! H4 s4 h=>#[w7,h]) GP s4 h (p v H4 w7 h)));.rintro a! H'⟨s3,j⟩;exact(aE _ _ (hr a! H' SN j) (λ d! H4 s4 h=>n' d! H4 w7 h) GP s4 h (p v H4 w7 h))
}
section z
section _M
namespace _P
open hE hF hG _L _M
variable{P:gX}{w:gY}{K:h?}{mg:hZ}{dg:ib}{c:Cs}
variable{α:Type}{H:Hp}{X:Cx}{r:Mq α}
def z:={
jE.1(r:Mq α):al:=match r with|xp f=>rI|.ok _=>[]
Mf{a b:Y}(h:r=xp #[a,b]):jE r=[a,b]:=by rw[h];rfl
Ou{x:α}(h:r=.ok x):jE r=[]:=by rw[h];rfl
yo{σ:eo}{a b:d'}{bi:d6}{i j:Y}(ha:io a (vN i))(hb:io b (vN j))(hs:kJ [a,b] f9 a [b])(dY:kJ [b] f9 b []):mU tb [a,b] bi gQ [i,j]:=(nY (ae ha (ae hb ao dY) hs)).imp λ v H1 s1 h=>h
qR{σ:eo}{bi:d6}:mU tb [] bi gQ []:=(nY ao).imp λ v H1 s1 h=>h
ajp(A:a?)(T:it):Ju (wD "broken_range") j? gQ (jE (ow ac cd)):=oq A.aCV aaP λ q e H hr hp U hU=>by rw[zM p q,wh aS aS ap,lP aaP.nd,gq,<-PR (aaK 1) (∃x1 x2,a!=[l7,x1,x2]/\MM) (cE ac ac O SJ) LZ k hk hJ GM a! s1 hJ];(. (rw[dl (dc ya λ x1 x2 aU hP=>?_) aU]);rw[Ew F_ dm (BD+xu*4=tC)];have jV:=kL;rw[dm];have o8:=hP.go oA;refine bI 2 nd (aT lK asq hr ((aN qp,p),k) AF au eN #[KS,oA]) ?_;refine aX mx gJ a5 dH B! dH Bg c6 (cE _ _ O ?_);(. (have h0:r! p k≠0:=by rw[mM,FC,cP R9]);rw[b? h0]at o8;rw[Mf o8];exact yo a5 oD AP au mc iT Hx);. (have h0:w9:=by rw[ws,FC,cP K7]);rw[hA h0]at o8;exact o8);. (rw[dl (dc ya λ x1 x2 a9 hP=>?_) a9]);rw[Ou (hP.done iT acU)];exact bg qR
atd(A:a?):PJ (jp "map_end") (cd+3<=qw) (a.2+3+Gs (a.2+2) 0):=tm A.aoL arl λ q e H hr hp U hU=>by rw[EC p a q,wh bu bu ap];subst cC;rw[gq,aG qH au JU (a+2) B? ap Gv]
TZ(A:a?):jp "key_at" (RQ cY v? [mY,ts] ci (c? hY g7/\cd+2+Gs (a.2+1) 0<=qw) dR gQ zC pw):=tm A.aJg aCm λ q e H hr hp U hU=>by rw[EC p a q,wh bU bU ap];subst cC;rw[gq,<-bg (iQ tF P gQ (pw p a) az eX uk y (vN qE) pZ au eX uk y (vN (qE+Gc)) qH au JU (a+1) auB ap (Bh FW qp Lw λ z H2 s2=>mO z ?_))];rw[aY,LK vN RU ap];unfold uA pw;rw[AX (a+2+Gc - qE=Gc) avK]
anh(A:a?):PJ (jp "sequence_end") (LB<qw) (LB+1+Gs LB 0):=tm A.akU adg λ q e H hr hp U hU=>by rw[EC p a q,wh cH cH ap];subst cC;have aIK:a+2+Gc<i1:=ap;rw[gq,ig im (bI 2 adg.nd) (vN (px p a)) q5 qH au JU (a+1) aA7 aIK,aG qH a5 Ap bQ ap Gv]
zP.2(l:al):fm:=Mt.rising (λ x y=>dL (x<y)) l
DM:∀l:al,(bh (zP l))↔∀i,i+1<e_->v8 i<l.getD (i+1) 0|[]=>#[λ _ i hi=>Kk hi _,λ _=>rfl]|[x]=>#[λ _ i hi=>Kk (Nat.lt_of_succ_lt_succ hi) _,λ _=>rfl]|x::y::r=>by show(bh (dL (x<y)&&zP (y::r)))↔_;rw[e7,pj,DM (y::r)];constructor;(.rintro⟨h1,h2⟩i hi;cases i with|uD=>exact h1|succ i=>exact h2 i DB hi);.intro h;exact #[h 0 (by simp),λ i hi=>h uw (by simpa using hi)]
anF{l:al}(h:bh (zP l))(h0:0<e_)(hl:K_<256):bh (l.all gt dL (x<256)):=by rw[List.all_eq_true];intro x hx;obtain⟨i,hi,e⟩:=List.mem_iff_getElem.mp hx;(have mono:∀d j,j+d<e_->v8 j<=v8 (j+d):=λ d=>by induction d with|uD=>exact iO j qK|succ d ih=>intro j hj;have h1:=ih j dn x8 hj;have h2:=(DM l).mp h (j+d) dn B? hj;rw[AX (j+(d+1)=j+d+1) Jn];exact ayY h1 h2);have:=mono (DD - i) i dn aJG hi;rw[tZ kW (i+(DD - i)=e_ - 1) apF hi];(have e2:v8 i=x:=by rw[Td,Ht hi,e];rfl);exact yd (by exact ayQ hl e2 a6)
azq(A:a?):Ju (jp "rises") j? (v=.bl (zP cd)):=oq A.ajA abV λ q e H hr hp U hU=>by rw[zM l q,wh aS aS ap,lP abV.nd,gq,<-JE 1 (lo:=1) (hi:=Sl) (λ k a! _=>∃x1,a!=[l7,x1]/\∀i,i<k->v8 i<l.getD (i+1) 0) x! O nd x? dZ ai Da dn axq ap (y? f8 ac λ i hi=>t? alV hi) LZ k hk hJ GM a! s1 hJ];(. (rw[dl (ah ya ad x1 aU hP) aU]);have jV:=kL;(have dm:(1:cm)+xu=mA kA:=by exact aey);rw[dm];refine aX (bP eg eX (c9 jV az au O) rN LP eX (c9 (j:=k) jV az w1 iT Kb) rN aJA) dH (aG cN lA) dH Bg c6 GB ?_;(.congr 1;symm;rw[<-NG,DM];intro h;have h1:=h k rN LP;rw[kX h2 hx,Tr h2 h1]);.intro i hi;have h2:=ld hx;by_cases e:i=k;(.subst e;exact ab4 h2);.exact hP i og oT hi e);. (rw[Al ya x1 hP]);refine aG cN KQ;symm;rw[h! DM λ i hi=>hP i dn aex hi]
aBd(A:a?):wD "row_fits" (RQ cY iU j? [vN bm,bT] ci (c? bT ch/\zg ch/\0<bN ch) dR (v=.bl (NI bm ch))):=tm A.aqm atA λ q e H hr hp U hU=>by obtain⟨k,iF,l⟩:=q;rw[EF (λ bu ap h0=>n7 bu) ap h0];subst cC;(rw[wr NI,fz s? az A.g.Kn (aG cN lA)];.rw[mM];rw[Rk ake,gy (by rw[cP XZ])]);(have eD:¬k=11:=by rw[kT XI]);have hg:l[DD]?=Z K_:=j0 J_ Nat.sub_one_lt_of_lt h0;refine aX s? az A.g.PU dH (aG (cp (aT (azq A) dp (aN qp,l) ez au ii #[Le,ap]) i? (bZ (gF cM (im cO (vN K_) au (oI ai) AL Lw (N_ hg)) d2 A.g.af1))) lA) dH B!;(.rw[mM,Ez auX];congr 1;dsimp only;show _=(zP l&&l.all gt dL (x<256));cases hr:zP l with|false=>rfl|c2=>rw[uF,uF,ux];constructor;(.intro h;have:=lc h;exact anF hr h0 AQ akE);.intro h;have:=Hu h _ (yg hg);have:=lc a6;exact yd AQ aFf);.rw[ws];rw[Rk ak5,b? eD];exact aT (Px A) hr (aN qp,l) ez au tg v5 Le E4 e_ Ck ap
fS.1:jo->cm|ac=> -1|Z b=>dt b
aLc(A:a?)(T:it):PF (mq 4 "map_rule") (b+1<qw) Fh pA:=z7 A.avX QH λ q e H hr hp U hU=>by(rw[Ku m bd q,jl dq λ bU ap a8 hb=>n7 bU];dsimp only at cC bQ ap a8 hb;rw[lP QH.nd,gq];(rw[fz JV eH];.rw[mM];unfold pA;rw[Ez auV];rfl);have h4:oR (a+3):=by rw[kT aJR]);rw[Es R R (gK pA=R)];rw[hR];rw[A7 pA,gG wE aDg h4];(rw[kZ pF ML c4];have rG:Qb _B.Aq (fT (b+1)<tV) b:=by cases bd with|ac=>simp[yh,yn,_B.Aq,fS]|gV b=>simp[yh,yn,_B.Aq,fS]);rw[<-dq rG λ e1 e2 e3 e4=>?_,QD bl e1 fo];generalize gK _B.Aq=b1 at hR e3;generalize hk:op=k at hR e1 e2;generalize bJ:tV=sc at hR e3;rw[kZ hn Gf n,<-qU nd mP Fr NA hk ?_];(have hbi:F' y (bh qP->∃b,vO/\Bq fS b/\Gm b):=λ{y}h=>by obtain⟨b,rfl⟩:=Rc e4.mp;exact c0 b O eX hb b);rw[P9 (bd=ac) (b0=0) b];obtain⟨b0,BW⟩:=bb;(have iV:bh qP->zW/\Bq fS b0/\Gm b0:=λ h=>by refine bL (hbi (y:=c2) h) λ b h1 h2 h3=>?_;rcases BW with⟨h4,_⟩|h4;(.rw[cx h4 h1 h1]);.rw[cx h1 h4 h4,#[h1,h2,h3]]);((have MO:o? qP (bd=ac):=λ h=>by cases bd with|ac=>rfl|gV b=>rw[jt (ld h) GE fS]);rw[fz oC (bP eO b6 (MI jH T.Y6)) (eE (li K5 mx eO a5 b6 eX Fy j k bQ (by rw[Qa]))) eH];.rw[g? (jk (by rw[Ji,kX h1 h1];rw[NL,e7]at hx;rcases hx with h|⟨h3,h4⟩;(.rw[kX h h];simp at h;exact anQ h h1);.rw[FX e1.mp iV h3,kX h4 h4,Wc h4 h5]))]);rw[uG]at hx;obtain⟨sP,cn⟩:=hx;(have z5:xQ:=by rw[wu sP];simp at a6;rw[cP aio]);rw[gG (jj (by rw[E2,<-#[we z5,e1.mpr cA b iA]];cases h:qP with|false=>rw[ke (MO h) iA iA]|c2=>rw[Jl h cn,wu cn];have h3:=vU.1;rw[cx iA h3 h3,cP zH])),<-x7 nd mP mu (a+1) bQ au x8 bJ ?_,ig im (bI 5 nd) (.bl fo) oD (cp (gF eO a5 ai) gu (bZ (d3 b6 (Fy j k bQ (by rw[Qa]) O)))) sb (by rw[ux,e2,e7];constructor;(.rintro⟨h1,h2⟩;exact(af b0 ((iV h1).1) (by rw[ou h2 AW])));.rw[Qf iV h3 C6])];((have jr:fo=c2->zW/\Bq fS b0/\Gm b0:=λ h=>by refine ah (e2.mp h) l! b h1;exact iV Jm #[b,h1]);rw[fz oC nr (aT (um A) dp dt sc ez du zo) (eE (li (cF (bO ip) gu (c5 (bP eg du eX (sx j (b0+1) (k:=fT (b0+1)) bQ az F6 (by rw[Hj.2.1];rfl)) Hj.2.2))))) eH];.rw[oN]at hx;rw[g? (jk (by rw[PQ h1 hx h2,FX e3.mp jr xT,kX h4 hx.2,Tr h4 h5]))]);rw[oN,uG]at hx;rw[gG (jj (by rw[E2,<-#[L0 xT,?_]];cases hf:fo with|false=>rfl|c2=>rw[QL h2 hf h2];have h2:=ld h2;have h3:=(jr hf).1;rw[cx iA h3 h3,ab4 h2])),Js (bI 6) (a+2) hn];((rw[fz (dG w_ tT i0 (CW (k:=Mt.mapMost k) T.Y6 b6 O z5 O)) eH];.rw[g? (jk (by rw[An,nc,Vy hx]))]);have n8:0<n:=by simp at hx;exact aBx hx);rw[gG (jj (by rw[nc,P7 hx]))];((rw[fz (bP cM JW i0) eH];.rw[JM og asV a6 h4]);have lQ:oR (a+3+n):=by rw[kT azz]);rw[gG wC jj dn Nat.le_sub_of_add_le' lQ];((have xV:uA m r9 (r9+n)=c4:=by rw[<-pF];unfold uA _B.si;rw[hn,show a+3+n - r9=n by exact Xi]);have z9:Hy=n:=by rw[<-xV];unfold uA;rw[Cc,Cd];exact aii lQ);refine gI 7 nd (iQ tF P gQ c4 az eX uk y (vN r9) pZ au eX uk y (vN (r9+n)) qH au i0 (Bh FW qp Lw λ z H2 s2=>mO z (by rw[aY,LK vN J1 lQ,xV]))) BL s1 hv ?_;(rw[dl (ah dV ad qr cH wc) cH]);(rw[fz nr (aT (aBd A) hr (k,c! qr,c4) dZ b6 (aa 7) eN #[mO qr wc,show Hy<=8192 by exact ag2 lQ z9 ap,show 0<Hy by exact Fk n8 z9]) eH];.rw[g? (jk (by rw[IQ]))]);rw[gG (jj (by rw[IQ])),<-aX (li (cF (gd b6 (ag A.g.PU)) i? (cF (gd b6 (ag A.g.Kn)) i? (c5 (X2 (m:=[sc]) hr.units q9 (aa 7) vR H2 s2 n2 qr iI wc (q9 (nY (ae du ao)) λ v H2 s2 h=>h)))))) dH eH dH eH];(.rw[g? (jk (by rw[nc,#[by omega,by omega,hx.2.2]]))]);.rw[g? (jj (by rw[nc];by_cases h1:k=10;rw[mJ h1];by_cases h2:k=11;exact .fE (.f? h2);exact .fE (.fE (hx dn aed h1 dn au7 h2))))]
M4:∀x y:al,_E.lexLe (x.map xP z1 n) (y.map xP z1 n)=!Ce y x|[],_=>by cases‹al›<;>rfl|x::xs,[]=>rfl|x::xs,y::ys=>by show _E.lexLe (m? x::xs.map _) (m? y::ys.map _)=!(dL (y<x)||(y==x&&Ce ys xs));rw[_E.MD,M4 xs ys];by_cases h:x=y;(.subst h;simp);.rw[wE FQ h,show(y==x)=false by simp;exact We h,Bool.false_and,Bool.or_false,ux];simp
aqJ(A:a?)(T:it):jp "comes_to_rule" (RQ cY (sA×Br) ti mY (vN ch) ci (c? hY g7/\bT<qw/\ch<3) kU (vN (_B.ku Fh _B.wM))):=z7 A.ai3 Uk λ q e H hr hp U hU=>by rw[Ku m k q,EF (λ aS a8 hk=>n7 aS) a8 hk,lP Uk.nd,Es R R (_B.ku (_B.wM m a k)=R),ig hU _,za hR,A7 _B.wM,kZ hn op n,<-qU nd (Fr a8 hn) ?_];((rw[fz (dG w_ tT b6 (CW (k:=NO k) T.aL3 a5 O hk O)) eH];.rw[g? (jk (by rw[An,nc,Vy hx]))]);have n8:0<n/\n<=SY:=by simp at hx;exact P7 hx);rw[gG (jj (by rw[nc,alb n8]))];((rw[fz (bP cM JW b6) eH];.rw[JM AQ aus]);have lQ:oR (a+1+n):=by rw[kT aKi]);rw[gG wC jj dn ash lQ];(have wU:0<k->sE (m.drop p?) n=[tV]:=λ h=>by(have h1:n=1:=by(have:SY=1:=by rcases(show k=1\/k=2 by exact aMq h hk)with rfl|rfl<;>rfl);exact awP n8 a6);rw[h1,Te (by exact Yk lQ h1)];show[m[p?]]=_;rw[Td,Ht (by exact Yk lQ h1)];rfl);generalize hz:tV=z at wU;refine aX (li (cF mx gJ a5 gu (c5 (bP eO (mu (a+1) bQ au og aoz n8 lQ hz) d2 A.g.aHU)))) dH eH dH eH;(.rw[Q1];(have h1:0<k:=by rw[ou xT XT]);rw[kX h2 hx.2];rw[wU h1,jk (by simp;exact afQ h1 h2)]at hR;rw[<-hR];rfl);.rw[Bool.and_eq_false_iff]at hx;rw[g? (jj (by by_cases h:k=0;(.rw[h];rfl);.rw[j0 wU Nat.zero_lt_of_ne_zero h];rcases hx with hx|hx;(.rw[ws,(aCw a6 h).elim]);.rw[ws];simp;rw[cP axB]))]
aC5(A:a?)(T:it):PF (wD "sequence_rule") (b+2+Gs (b+1) 0<=qw) Fh pI:=z7 A.ana adn λ q e H hr hp U hU=>by(rw[Ku m bd q,jl dq λ aU ap a8 hb=>n7 aU];dsimp only at cC bQ ap a8 hb;rw[lP adn.nd,gq];(rw[fz JV eH];.rw[mM];unfold pI;rw[Ez arG];rfl);have h4:oR (a+2):=by rw[kT ax4]);rw[Es R R (gK pI=R)];rw[hR];rw[A7 pI,gG wE apX h4];simp only[List.cons_append,List.nil_append]at hR;(rw[kZ sV Gy ky];have rG:Qb _B.AR bh (Ce (pw m b) ky) b:=by cases bd with|ac=>simp[yh,yn,_B.AR,fS]|gV b=>simp[yh,yn,_B.AR,fS,sV]);rw[<-dq rG λ e1 e2 e3 e4=>?_,QD bl e1 fo];generalize gK _B.AR=b1 at hR e3;generalize hk:op=k at hR e1 e2;rw[kZ hn tV n,<-qU nd mP Fr x8 hk ?_,P9 (bd=ac) (b0=0) b];obtain⟨b0,BW⟩:=bb;(have iV:bh qP->zW/\Bq fS b0/\oR (b0+2+fT (b0+1)):=λ h=>by obtain⟨b,eG⟩:=Rc e4.mp;rcases BW with⟨h4,_⟩|h4;(.rw[cx h4 eG eG]);.subst h4;exact #[rfl,rfl,eX hb b0]);((have MO:o? qP (bd=ac):=λ h=>by cases bd with|ac=>rfl|gV b=>rw[jt (ld h) GE fS]);rw[fz oC (bP eO b6 (MI jH T.afe)) (eE (li K5 mx eO a5 b6 eX Fy j k bQ (by have:=vU.2.2;rw[cP Xu]))) eH];.rw[g? (jk (by rw[Ji,kX h1 h1];rw[NL,e7]at hx;rcases hx with h|⟨h3,h4⟩;(.rw[kX h h];simp at h;exact anp h h1);.rw[FX e1.mp iV h3,kX h4 h4,Wc h4 h5]))]);rw[uG]at hx;obtain⟨sP,cn⟩:=hx;(have jQ:k<3:=by rw[wu sP];simp at a6;rw[cP aqy]);rw[gG (jj (by rw[E2,<-#[we jQ,e1.mpr cA b iA]];cases h:qP with|false=>rw[ke (MO h) iA iA]|c2=>rw[Jl h cn,wu cn];have h3:=vU.1;rw[cx iA h3 h3,cP zH]))];(rw[Js x7 (a+1) hn,fz (dG (tT eg eg (CW (k:=Mt.keyLeast k) T.ase b6 O jQ O) du (CW (k:=Mt.keyMost k) T.afe b6 O jQ O))) eH];.rw[g? (jk (by rw[An,nc,agJ hx]))]);rw[gG (jj (by rw[nc,aiZ hx]))];((rw[fz (bP cM JW pZ du) eH];.rw[JM AQ aMn]);have lQ:a+2+n<d?:=by rw[kT aIa]);rw[gG wC jj dn au9 lQ];(have c_:ky.length<=8192:=by rw[<-sV];unfold pw;rw[Cc,Cd];exact ahQ ap);refine gI 5 nd PW a au tg Le (by show oR (a+2+fT p?);exact aDH lQ hn) BL s1 hv ?_;(rw[Al dV qr wc]);rw[show pw (((sd qp,m),a):v?).1.2 (((sd qp,m),a):v?).2=ky from sV]at wc;have MV:=kL;rw[ig im (bI 6 nd) (.bl fo) oD (cp (gF eO a5 ai) gu (bZ (d3 b6 (Fy j k MV (by have:=vU.2.2;rw[cP Xu]) O)))) sb (by rw[ux,e2,e7];constructor;(.rintro⟨h1,h2⟩;exact(af b0 ((iV h1).1) (by rw[ou h2 AW])));.rw[Qf iV h3 C6])];((have jr:fo=c2->zW/\Bq fS b0/\oR (b0+2+fT (b0+1)):=λ h=>by refine ah (e2.mp h) l! b h1;exact iV Jm #[b,h1]);rw[fz oC nr (aT (Px A) hr (aN qr,ky) ez ip eN #[v5 mO qr wc,E4 ky.length Ck c_]) (eE (li (cF (bO i0) gu (c5 (Xc (awJ (x8 (j9 hr))) (ns:=ky.map xP z1 n) (ms:=jD (pw m b0) xP z1 n) ip PW b0 oD a5 mc Hj.2.1 eN #[mO qp MV,Hj.2.2] lB u hu (af qr md (yb (by rw[iI wc,nC];rfl))) lB u hu (by refine ah md ad q2 e5 e6;exact(af q2 e5 (yb (by rw[e6,nC];rfl))))))))) eH];.rw[M4]at hx;rw[oO,g? (jk (by rw[PQ h1 hx h2,FX e3.mp jr xT];rw[h5]at hx;rw[jt hx.2 ab]))]);rw[Qy M4,oO,gG (jj (by rw[E2,<-#[L0 xT,?_]];cases hf:fo with|false=>rfl|c2=>rw[QL h2 hf h2];have h3:=(jr hf).1;rw[cx iA h3 h3];simpa using h2))];rw[<-hR];(have uB:px m a=a+2+n:=by rw[oW px hn]);rw[uB];exact bg (aT lK aqJ dp ((aN qp,m),a+2+n,k) qG az q5 qH au du b6 eN #[mO qp MV,lQ,jQ])
}
structure O_(P:gX)(w:gY)(K:h?)(mg:hZ)(dg:ib)(fr fe:ak)(rl:al->Y->jo->Y)(en:al->BB)(res:al->al)(Fq:Li)(Ef:Li)(Pr:al->Y->Y->jo->Prop):Prop where
 hH:mn nS w 4 fr (RQ cY (sA×iU jo) ti mY (.f7 (fS ch)) ci PA g7 b (Fq g7 b) kU (vN Fh rl))
 fin:mn nS w 4 fe (RQ cY v? [mY,ts] ci (c? hY g7/\zC Ef) kU (vN zC en))
 uD:∀m,Pr m 0 0 ac
 le:∀m a i bd,AS->a<=d?/\∀b,vO->Fq m b
 bad:∀m a i bd,AS->o0->My≠0->res m=[My,i]
 next:∀m a i bd,AS->o0->gK rl=0->Ef m a/\a<B2/\Pr m B2 uw Z a
 done:∀m a i bd,AS->ST->res m=[]
def z:={
X4(A:a?){fr fe:ak}{rl:al->Y->jo->Y}{en:al->BB}{res:al->al}{Fq Ef:Li}{Pr:al->Y->Y->jo->Prop}(G:mt O_ dg fr fe rl en res Fq Ef Pr):mq 5 "broken_among" (RQ cY j? [a.1,c! fr,c! fe] ci (c? bm cd/\zu) dR gQ (res cd)):=z7 A.aAH abt λ q e H hr hp U hU=>by rw[zM m q,wh aS aS ap,lP abt.nd,gq,<-qU nd (oI ai) (x7 nd ai (bI 5 nd ai ?_)),<-lN (λ z a! _=>∃(a i:Y)(bd:jo)(x6:iY),a!=[l7,cv fr,cv fe,Z (.f7 (fS bd)),gx a,gx i,x6]/\AS/\z=qS) (λ _ _ _ _ _ h=>h) d? x! (qA 0 0 ac ac O (G.zero m) O) (λ z a! H1 s1 hJ=>?_)];(refine DS hJ λ a i bd x6 aU hP a9=>?_;subst aU a9);have jV:=kL;rw[Fn xR (G.le m a i bd hP),<-(aZ _ (bP cM du vr jV) gf gf)];(. (have ha:o0:=by rw[or uQ]);rw[ig im (bI 6 nd) (vN My) (JJ 1 G.rule hr O qG az du b6 zw vs ce xd ((aN qp,m),a,bd) dV (fQ KS ap ha hb) GC),fz mx gJ i0 B!];(.rw[G.bad m a i bd hP ha (by rw[or R9])];exact yo i0 ip);.refine bX (G.next m a i bd hP ha (by rw[kT K7])) ad h1 h2 h3;refine qU nd du (im (x7 nd) (vN B2) (JJ 2 G.fin hr O AF du zw vs ce xd ((aN qp,m),a) dV #[KS,h1] GC) (k7 5 o9 nd O ai Bg c6 #[d? - B2,by exact Nat.sub_lt_sub_left ha h2,B2,i+1,Z a,_,rfl,h3,rfl])));. (have ha:ST:=by rw[kT zH]);rw[G.done m a i bd hP ha];exact bg qR
ao1(A:a?)(T:it):∃fr fe,mg "map_rule"=cv fr/\mg "map_end"=cv fe/\mt O_ dg fr fe pA (λ m a=>a+3+fT qE) (λ m=>jE (Ds ac m)) (λ m b=>Gm b) (λ m a=>oR (a+3)) (λ m a i bd=>∃ms,_B.jv m a i bd ms):=by refine ah ((Ac aLc).at_) ad fr h1 h2;refine ah ((C! atd P P A).at_) ad fe h3 h4;refine #[fr,fe,h1,h3,h2,RE,λ m=>#[[],L6],λ m a i bd bx=>t9 bx ms #[h.le,λ b hb=>by have:=h.hb b hb;have:=h.le;omega],λ m a i bd cy ha hz=>t9 cy ms (Mf (HA ha hz)),λ m a i bd dz ha hz=>gr dz ms h,λ m a i bd eP ha=>t9 eP ms (Ou (h.done ha))];have:=_B.Kx hz;exact #[AQ KP,by exact agD,_,h.next ha hz]
aHO(A:a?)(T:it):∃fr fe,mg "sequence_rule"=cv fr/\mg "sequence_end"=cv fe/\mt O_ dg fr fe pI (λ m a=>Bf+1+fT Bf) (λ m=>jE (Q9 ac m)) (λ m b=>oR (b+2+fT (b+1))) (λ m a=>Bf<d?) (λ m a i bd=>∃ms,_B.jy m a i bd ms):=by refine ah ((Ac aC5).at_) ad fr h1 h2;refine ah ((C! anh P P A).at_) ad fe h3 h4;refine #[fr,fe,h1,h3,h2.mono ab,RE,λ m=>#[[],L5],λ m a i bd kq=>t9 kq ms #[h.le,λ b hb=>by have:=h.hb b hb;have:=h.le;omega],λ m a i bd lT ha hz=>t9 lT ms (Mf (HA ha hz)),λ m a i bd oB ha hz=>gr oB ms h,λ m a i bd xh ha=>t9 xh ms (Ou (h.done ha))];have:=_B.O9 hz;exact #[a6.2.2,by unfold px;exact ani,_,h.next ha hz]
}
section _P
namespace _M
open hE hF hG _L
def z:={
anc{Pr:gX}{w:gY}{q:ak}(h0:(q==sysModules)=false):MeetsIn Pr w (Builtin.«dict.__len__» #[[aN q],[]]) (λ _ R s=>∃(n:Y)(ob:Obj)(en:Array DictEntry)(x:_),NP q=Z ob/\ob.data=.dict en x/\en.size=n/\R (.ok (.ret (.f7 n HE))) {s with toks:=HE+1}):=.of_wp λ A R s bx=>Y5 bx λ n ob en x g1 g2 g3 r=>by show AT (dictSize q>>=_) _ s;unfold dictSize;apply i2;rw[rR (i2 (wpAny_dictEntries g1 g2 LT)) (AT (Builtin.Dict.pendingCount q>>=_) _ s)];apply i2;refine wpAny_pendingCount_other h0 (wpAny_ret_mkInt ?_);rw[NS,g3];exact r
ay0{X:Cx}:kF X (.builtin "len") (λ xs H Q=>∃a aq,xs=[sd a]/\oM a dT/\Q iW qn lj H):=by intro iE s σ H xs us Q I r h;(rw[jq h (λ a aq aS ha q=>?_) aS]);(rw[dl (ah (vals1 r) ad u aU ru) aU]);cases ru;refine iP (abK I.aR ha) λ z hd ys rel dd=>?_;have ap:lj=ys.length:=rel.length;have ht:=dd.typeIs (s:=s);(refine Ko dd λ ob en x g1 _ g2 g3 _=>?_;have hsz:en.size=lj:=by rw[ap];exact size_of_entries g3);rw[w2 (Calls.call_function_entry kind_len plain_len entry_len (args_len1 _) ?_) Builtin.«len»,qO (i2 (m:=oneArg "len" _) (nE ?_)) (i2 (m:=callSpecial? aN a Rf) (wpAny_callSpecial?_slot (name:=Rf) ht Tg (call_meetsIn Tg ht F.entry_dict_len (F.args_dict_len_1 _) (anc hd) #[lj,ob,en,x,g1,g2,hsz,?_])))];show b! wpAny _ {s with toks:=HE+1};refine i2 (NT (nE FB wpAny_letGo));rw[NU]at z;show lF AT (if Rn<0 then _ else if Rn>=2^63 then _ else _);rw[q? aaa,wE aCN z];exact i2 (wpAny_mkInt (nE (wN _ O iW lj H ((I.tok _).tok _) I7 q)))
}
section _M
namespace _P
open hE hF hG _L _M
variable{P:gX}{w:gY}{K:h?}{mg:hZ}{dg:ib}{c:Cs}
variable{H:Hp}{l:al}{ps:zd Cf}{q:ak}{X:Cx}
def z:={
Rj{b e:Y}(hb:Ml b)(h:b<=e):gT M8 Z dt b Z dt e=jD sE (l.drop b) (e - b) vN:=by unfold gT;rw[_H.vI,_H.vI,el,NW hb,NY,Th];by_cases he:(Ml e);(.rw[NW he]);.rw[j0 Nat.min_eq_right Nat.le_of_not_ge he,QF (e_ - b) (by rw[Cd,el];exact aJJ),QF (e - b) (by rw[Cd,el];exact awo he)]
aA2(A:a?):jp "is_capital" (RI xP (.bl (dL (65<=n)&&dL (n<=90)))):=c7 A.aLr aKf dX b1 ck λ a f aK A' em s H0 H E hr hp=>by exact bg w_ tJ az ai
aIe(A:a?):jp "is_small" (RI xP (.bl (dL (97<=n)&&dL (n<=122)))):=c7 A.amV aCf dX b1 ck λ a f aK A' em s H0 H E hr hp=>by exact bg w_ tJ az ai
M6.1(x:Y):fm:=dL (97<=x)&&dL (x<=122)
auq.1(l:MF)(i j:Y):uJ:=match l[i]? with|Z (.Return Z (.BoolOp _ es _) _)=>(match es[j]? with|Z (.Call _ [.N2 _ _ sc _] _ _)=>sc|_=>Qn)|_=>Qn
azm(A:a?):mq 2 "is_name" (RQ cY j? [a.1] ci (cU H bm cd) kU (.bl (N3 cd))):=k9 A.auJ afs dX b1 ck λ a f aK A' em s H0 H E hr hp U hU=>by rw[wJ v z,<-ah hp ad q hv hq,Jd hq,p7 hv afs.nd,wr N3];have ed:df ["name","letter"] (aw HR) _ [("letter",1)]:=qW (nz auq HR 0 2);(have h4:F' b (bh dL (So=4)->HF=4):=λ h=>by rw[ou h NN]);(refine mI lb (cp (d3 (di (m:=HF) jH az zF zO q (.fE (Ch n1)) K4) ai) gu (cp z? aA2 mA S4 (im bW (vN S4) az ai AL Lu ?_) i? (bZ (eS g! (wy (bs:=jD M9 M6)) A.g.w6 q9 (z3 1 (xs:=jD M9 vN) (f:=gt (sb (M6 (eQ x)))) O nd ed (iQ WN P (cU H v M9) (i:=1) az ai Bh (ji q _ md Lu ?_ (λ p H2 s2=>mO p ?_))) (λ u H1 s1 cy=>o! cy a ue (Ch h)) ck ?_ (λ s' dE C cl fp k x hk=>?_) sS) tc u dz o! dz a ue LE h FF O)))) tc u e ?_;(.rcases z with _|⟨a,z⟩;(.rw[jt (h4 (b:=c2) h) ab]);.exact cb (j:=0) O);.rw[el,h4 (b:=c2) h];decide);((.rw[aY];congr 2;have h5:=h4 (b:=c2) h;(rw[PY z e z];((.cases h5);.cases h5);(.cases h5);.cases h5);(.rfl);.cases h5);.rw[el,Cd,h4 (b:=c2) h];exact i4 ab);(. (rw[Er hk a9 a9]);refine(z? aIe dt m au).imp λ v _ _ e=>?_;rw[e,g_];exact r? sb (by rw[oW M6 ux,rS aFW]));.rw[e];congr 1;(have e1:(HF==4)=dL (So=4):=by rw[wz,rS aib]);rw[e1,List.all_map];congr 1;congr 1;rw[wz,rS aot]
aMj{σ:eo}{a b:d'}{bi:d6}{m:al}(hu:X.A.units+64<cLine)(ha:ic Ev a λ v H=>∃q,np/\aJ X.K H q M8)(hb:ic Ev b λ v H=>∃q,np/\aJ X.K H q (m.map vN))(hm:pX (behindInMarks .Eq b=false) _L.gz._auto_1):io (.Compare a [.Eq] [b] bi) (.bl (l==m)):=QZ (uq (OV hu) aI aI hm) ND (eT re hb.later λ v H3 s3 hv=>by refine ah (hu H3 s3) ad q1 e1 h1;refine ah dV ad q2 e2 h2;subst e1 e2;refine(fM (.tuple (dN l)) (.tuple (dN m)) (.tup h1 (wB l)) (.tup h2 (wB m)) (DI l) (DI m) (q _ H3 Gb KQ));rw[PyData.eqv,GZ])
abh{σ:eo}{o:d'}{p bi:d6}{aq:oU}{n:Y}(hm:eZ (pq "len"))(ho:lZ o q)(hq:oM q dT)(hn:lj=n)(hg:zm (Cb "len"=zN))(he:kJ [o] f9 o [])(a_:zp zk []):io lJ (.pt "len" p) [o] (vN n):=vM ay0 hm Tj (ae ho ao he) (λ vs H5 s5 wG Q q'=>(aE q aq wG.now pb hq (by rw[h! hn (q' _ H5 Gw Gv)]))) hg ab ab he a_
Bx.1(H:Hp)(q:ak)(hv:FO):Prop:=∃aq:oU,oM q dT/\(∀z,oi ua uM z=N4 z)/\lj=Cl
Bx.later{H':Hp}{hv:FO}(h:Bx H q hv)(s:kw):Bx H' q hv:=by refine ah h ad aq h1 h2;exact(af aq Bu h2)
aIS(A:a?)(T:it):wD "name_fits" (RQ cY (sA×iU (ak×FO)) ti mY c! d1 ci (cU H hY g7/\Bx H d1 e?) kU (.bl (yv g7 bT e?))):=z7 A.atG ajr λ a e H hr hp U hU=>by obtain⟨⟨v,z⟩,t,qd,hv⟩:=a;obtain⟨⟨q,Y7,hq⟩,aq,Wx,kY,c_⟩:=hp;dsimp only at Y7 hq Wx kY c_;subst Y7;rw[wr yv,fz oC nr (aT (azm A) hr (aN q,z) ez az I') (dr (aas (z:=N4 z) (j9 hr) az a5 (λ u y H1 s1 h1 h2=>?_)) i? (eE (bP eO au d2 A.g.aKT))) (aG cN KQ)];((.have e1:=h1.now;have e2:=h2.now;subst e1 e2;exact tj qd (Gg dM.t z gZ Wx (by rw[h! xk n1])) (kY z));.symm;rw[An];intro h;rw[Kf h,oO];rw[h.1,h.2.1|>(N7 _).mp]at hx;rw[kX h3 h.2.2.1];simp at hx;exact azW hx h3);.rw[Qy uG,<-bX hx ad sP cn BV];dsimp only at sP;((have hn:bh (N3 z):=by simpa using sP);have ht:t<64:=by have:=ld BV;rw[cP aAo]);rw[hn,cn,we ht];refine zt T.acs λ an t0 t1 t2 hm hs hs0 fO dY=>?_;refine mI lb (fP (gF eO au P2 m an H1) gu (bZ (aMj (m:=SE []) (AU hr) q9 az Az H1 q Lu (?_:Ev _ _ _ _ λ v H=>∃q,np/\aJ K H q GS SE [])))) (λ u H1 s1 e=>?_);(. (have ht3:t<3:=by have:=ld h;rw[cP aiF]);rcases kW (t=0\/t=1\/t=2) aMc ht3 with rfl|rfl|rfl;((.exact(mH bW t0 D? au ii qc (hs H1) (cb (j:=0))).imp Az H1 t0 (hs0 H1));.exact(mH bW t1 D? au ii qc (hs H1) (cb (j:=1))).imp Az H1 t1 (fO H1));.exact(mH bW t2 D? au ii qc (hs H1) I8 j).imp Az H1 t2 (dY H1));.rw[e];congr 1;rw[uF,Bool.not_false,uF,uF];congr 1;rw[wz,rS agi]
oZ.1(n:al):al:=match SL [] n with|xp f=>rI|.ok ns=>L2 (0<pK/\pK<3) [16,pK]
akO(A:a?)(T:it):Ju (mq 4 "broken_name") j? gQ (oZ cd):=c7 A.aG7 QM dX b1 ck λ q f aK A' em s H0 H E hr hp=>by rw[zM n q,sJ aU ap n7 aU];dsimp only at cC bQ ap⊢;rw[lP QM.nd];have hU:=j9 hr;rw[wT (aP dF BA R5 eY qI g! Dm x? dU Bw (aP dF v6 aI eY E7 (tY hU pi r' C_ O) dh) E7 sZ) n' p];intro r fG;have jV:=kL;have yj:(upd H1 r (.dT [])) qp=Z oo n.map:=cT fG _ _ jV;refine ce qG ai vr yj ai lB vs ev (qA 0 qn yx 4 ((yx+3)/4) ev.now Jo DY kn C3 w? (∃(x2 x3:iY)(hv:FO),a!=[l7,ri,x2,x3]/\rU/\Bx H' r hv/\_B.rb n k hv) (b9 ac ac ([]) O ((cT fG).jR s2) xd [] iI aY (λ z=>rfl) (_B.rb.zero n)));(.rintro k a! H' hk⟨x2,x3,hv,rfl,sH,hN,hT⟩;rw[Ew (4*k<yx) dm (BD+xu*4=tC)];rw[dm];have o7:=a7 sH jV;have o8:=hT.go oA;generalize hz:_B.n4 n k=z at o8;refine Ar cU z (iQ DQ Po gQ z (xs:=z.map vN) HI (iQ tF P gQ z az a5 eX uk y (vN (4*k+4)) F6 (Gz FW qp rj o7 λ p H4 s4=>f8 p db (by rw[aY,Rj QP oA iT arJ,<-hz];unfold _B.n4;rw[AX (4*k+4 - 4*k=4) atm]))) Gz (by refine ah md ad q e1 e2;exact(af q e1 ey e2))) λ nv H3 s3 hnv=>?_;(rw[Al hnv.now qz Tx]);have QJ:=hN.later s3;refine ce nr (aT lK aIS hr ((aN qz,z),k,r,hv) qG b6 oD AP a5 mc (by show tC/4=dt k;exact Hx) au j! #[f8 qz db Tx,SQ]) J5;(.rw[jn gB (¬bh (yv z k hv))];rw[b? gB]at o8;(have zD:oZ n=[16,k]:=by rw[oW oZ o8]);refine eT (yo (i:=16) (j:=k) ai oD AP a5 mc (by show tC/4=dt k;exact Hx)) LU H5 (uN (mb (Cm s5))) (by rw[fY zD wG]));.rw[jn aR bh (yv z k hv)];rw[hA aR]at o8;refine bL SQ λ aq vF kY c_=>?_;((have hc:N4 z=false:=by unfold yv at aR;rw[Kf aR];simpa using aR.2.1);have zG:k<64:=by unfold yv at aR;rw[Kf aR,lc aR.2.2.1]);have aKr:=hT.num;refine #[_,rfl,_,rfl,r,_,rfl,Gg i8.t z vF (by rw[h! xk db Tx]) (i4 (by exact apO c_ aKr zG)),?_];(have nk:eZ ua uM z:=by have:=kY z;rw[t7 hc,Option.isNone_iff_eq_none.mp (by rw[<-Option.not_isSome];rw[LF])]);(refine(b9 _ _ (z::hv) O sz b' o' hb (aZ _ aY IV y ?_) o8);(.rw[aV (c8 hb fG)];exact db gi kS sH);.rw[kK];by_cases e:y=z;(.subst e;rw[n6];simp);.rw[b? gu (e (G6 h)),kY y,List.contains_cons];simp[e]);.rw[GD _ nk,uO,List.length_singleton,c_];rfl);.rintro a! H'⟨x2,x3,hv,rfl,sH,⟨aq,gL,kY,c_⟩,hT⟩;obtain⟨hd1,hd2⟩:=hT.done (by exact acU);(have zD:oZ n=L2 (0<Cl/\Cl<3) [16,Cl]:=by rw[oW oZ hd1];dsimp only;rw[IT List.length_reverse]);refine DS T.acs λ an t0 t1 t2 hm hs _=>?_;refine ce (tT cM cM ai (abh jH au gL c_) P2 m an H1) J5;(.rw[Q1,kX h1 xT,kX h2 hx.2];rw[gy (by exact arA h2 h1)]at zD;exact eT (yo (i:=16) (j:=Cl) ai (abh jH au db gL c_)) LU H5 L8 uN s5 (by rw[fY zD wG]));.rw[lf (by simp at hx;exact aoR hx)]at zD;exact eT qR LU H5 L8 uN s5 (by rw[fY zD wG])
aih(A:a?):mq 2 "is_walked" (RQ cY Br [vN bm,ts] Gp kU (.bl (_B.wk bm cd))):=tm A.ag8 atN λ a e H hr hp U hU=>by rw[wJ k x,ig hU _,<-mI lb (fP (A2 az (ae d2 A.g.wm dZ d2 A.g.sD d2 A.g.G8)) i? (bZ (cp (d3 az (ag A.g.N5)) i? (bZ (aT (mC A) hr (m? x,(12:cm)) dZ au d2 A.g.yG B_ zU (BD<=12)))))) (λ u H1 s1 e=>?_)];rw[e];rw[FU _B.wk];rw[show iJ dt x 12=x.testBit 12 from ja _ 12];congr 2;(.rw[wz];show(bh ((_:cm)==(_:cm)||((_:cm)==(_:cm)||((_:cm)==(_:cm)||false))))↔_;rw[rS akv]);.congr 1;rw[wz,rS U1]
BG{p:al}(h:m9 ow p ps):∀k,4*k<i1+4->MM/\(4*k<i1->w9):=by(have step:∀k,MM->F_->w9:=λ k hP hk=>by have:=hP.go hk;by_cases e:w9;(.exact e);.rw[b? e,h]at a6;cases a6);intro k;induction k with|uD=>exact λ _=>#[SJ,step 0 (_B.jm.zero p)]|succ k ih=>intro hk;obtain⟨h1,h2⟩:=j0 ih NA hk;have:=j0 h1.go Ux hk;rw[tZ (gy (h2 rN Ux)),#[a6,step _ a6]]
JG{p:al}{k:Y}(h:w9):4*k+4<=i1/\rc<=rd:=by rw[nh r!];split at h;(.cases h);.refine #[dn Cn L3,?_];have:=_B.Bt lz _B.MU h _ Ki Tk _ HK;rw[Qr e7 a6,a6.2]
wb.2(p:al):Y:=Lh p Gn
By.1(p:al):al:=L2 (4096<wb p) [17,0]
H_{p:al}(h:m9 ow p ps):Mn=0/\ps=nG p Gn:=by(have h0:Mn=0:=by by_cases e:Mn=0;(.exact e);.have:=JG ((BG h Gn iT aav).2 dn aD2 e);rw[cP aA1]);have:=j0 (BG h Gn iT aav).1.done aBY h0;rw[t7 h,#[h0,Except.ok.inj a6]]
avb(A:a?):PO (wD "broken_walk") ps gQ (By cd):=oq A.aKl U6 λ q e H hr hp U hU=>by rw[Qw p cC U6.nd,gq,<-bI 1 nd ai ?_,<-PR (aaK 2) (∃x2,a!=[l7,Z (vN (HL MN)),x2]) #[ac,rfl] LZ k hk hJ GM a! s1 hJ];(.obtain⟨x2,rfl⟩:=ya;rw[Ew F_ dm (BD+xu*4=tC)];have jV:=kL;rw[dm];obtain⟨Kz,jW⟩:=JG ((BG uE k rN Mj).2 oA);(have yS:HL (nG p kA)=Lh p k+if(bh (_B.wk rH AH))then rd+1 - rc else 0:=by rw[_B.J6,_B.aBU];rfl);generalize Lh p k=G at yS⊢;refine A3 r6 N1 (∃x2,d!=[l7,Z (vN (HL (nG p kA))),x2]) (bO (aT (aih A) hr (rH,AH) dZ Ap jV rN Ct wg (4*k+3) jV ae4 zo)) gf dH Bg c6 #[gx (4*k),?_] lB d! h (c6 h);(.refine k7 1 o9 nd O pZ (aW cX wg (4*k+2) jV afc wg (4*k+1) jV abX) Bg c6 #[gx (4*k),?_];.rw[oO];rw[yS,hA hx];show[et sd qp,et mc (m? G+((rd:Y) - rX rc+1)),_]=_;rw[kW (dt G+(((rd:Y):cm) - mA rc+1)=mA (G+(rd+1 - rc))) aGX jW]);.rw[oO];rw[yS,lf (by rw[hx];decide)];rfl);.obtain⟨x2,rfl⟩:=ya;(have hn:S3/4=S1:=by exact acS h4);rw[hn];unfold By wb;refine aX (bP gJ au d2 A.g.axL) dH B! dH B!;(.rw[gy (by rw[or axE])];exact yo (i:=17) (j:=0) ai ai);.rw[lf (by rw[kT axN])];exact qR
wR.1(H:Hp)(v:V)(r:Ek):Prop:=∃q v0 v1 v2 v3,np/\k4 q BF/\c? v0 r.1/\c? v1 pd/\c? v2 xx/\c? v3 xv
iz.1(a b:al):al:=if a=[]then b else a
Bj.1(r:Ek):al:=iz (iz (iz (iz (jE (ow ac r.1)) (jE (Hz (jC r.2.1+1) 0 ac pd))) (jE (yr (jC r.2.2.1+1) 0 ac xx))) (oZ xv)) (By r.1)
LM{a b:al}(h:iz a b=[]):a=[]/\b=[]:=by rw[nh iz];split at h;(.exact #[L3,h]);.rw[jt h L3]
auf{α:Type}{r:Mq α}(h:jE r=[]):∃x,r=.ok x:=by cases r with|uy f=>cases h|ok x=>exact #[x,rfl]
s_{v:V}(h:gQ l):vJ K v H Mo:=by obtain⟨q,rfl,h⟩:=h;rw[mJ #[_,ey h,by rw[List.isEmpty_map]]]
aji(A:a?)(T:it):mq 6 "broken_record" (RQ cY (V×Ek) [a.1] ci (wR H bm cd/\bN bT+bN d1+bN nj+bN s9<=8192) dR gQ (Bj cd)):=oq A.ahK VN λ a e H hr hp U hU=>by obtain⟨v,p,m,sq,n⟩:=a;rw[sJ aU ap (zT aU λ q v0 v1 v2 v3 hv hq h0 h1 h2 h3=>?_)];dsimp only at hv hq h0 h1 h2 h3 ap;rw[p7 hv VN.nd];have row:∀{X:Cx}{H1:Hp}{σ:eo}{o:d'}{bi p2:d6}{j:Y}(i:Y)(v:V),X.K=K->qg->BF[i]?=Z v->w! H1 o aN q->w! H1 Dw (.yy iW dt i j p2) bi v:=λ{X}{H1}{σ}{o}{bi}{p2}{j}i v hK s1 hi ho=>cO ho ai eN ce ey iI n1 Nt;rw[<-aO Ac ao1 λ f1 g1 m1 m2 G1=>?_,<-aO Ac aHO λ f2 g2 m3 m4 G2=>?_,wr Bj];dsimp only;(have yes:∀{l:al},bh (!Mo)->l=[]:=λ h=>by simpa using h);(have no:∀{l:al},o? (!Mo) (l≠[]):=λ h=>by simpa using h);refine gI 1 nd (aT lK ajp dp (v0,p) ez A4 (row 0) v0 Gw tg (b! gM s1 h0) q6 i1 Jr ap) GM b1 s1 qJ;dsimp only at qJ;generalize ha:jE (ow ac p)=a0 at qJ;(refine A3 r6 N1 FK v v JX (dG (oH au xa (by rw[oL s_ uv qJ]))) gf dH (c6 eN f8 b1 (by rw[E1 iz qJ H2])) lB d! hj ?_;.rw[yes hx];rw[EO (aT (X4 A G1) hr (v1,m) qG A4 (row 1) v1 s1 (lU m1) (lU m2) eN #[vx ga s2 h1,q6 d? Ia ap]) b2 oJ]);((rw[dl (ah HM l! b2 a9) a9]);have oJ:bc (λ H=>c? b2 JX) H2:=λ H3 s3=>by rw[J4 H3 s3 e]);generalize nI:JX=a1 at oJ;(refine A3 r6 N1 FK v v Ka (dG (oH au xa (by rw[oL s_ uv oJ]))) gf dH (c6 eN f8 b2 (by rw[E1 iz oJ H2])) (λ d! H3 s3 hj=>?_);.rw[yes hx];rw[EO (aT (X4 A G2) hr (v2,sq) qG A4 (row 2) v2 SX (lU m3) (lU m4) fx #[b! gM EN h2,q6 sq.length Oc ap]) b2 oJ]);((rw[dl (ah HM l! b3 bu) bu]);have KZ:bc (λ H=>c? b3 Ka) H3:=λ H4 s4=>by rw[J4 H4 s4 e]);generalize yT:Ka=a2 at KZ;have t3:=ga (kB s3);(refine A3 r6 N1 FK v v Mi (dG (oH au xa (by rw[oL s_ uv KZ]))) gf dH (c6 eN f8 b3 (by rw[E1 iz KZ H2])) (λ d! H4 s4 hj=>?_);.rw[yes hx];rw[EO (aT lK akO dp (v3,n) ez A4 (row 3) v3 t3 j! #[vx N9 s4 h3,q6 yx Nat.le_of_add_left_le ap]) b2 oJ]);((rw[dl (ah HM l! b4 bU) bU]);have Nj:bc (λ H=>c? b4 Mi) H4:=λ H4 s4=>by rw[J4 H4 s4 e]);generalize Xo:Mi=a3 at Nj;have t4:=N9 s4;(refine A3 r6 N1 FK v v (iz a3 (By p)) (dG (oH au xa (by rw[oL s_ uv Nj]))) gf dH (c6 eN f8 b4 (by rw[E1 iz Nj H2])) (λ d! H5 s5 hj=>?_);.have e3:=yes hx;rw[e3];(have ok0:jE (ow ac p)=[]:=by rw[ha];rw[e3]at Xo;rw[(LM Xo).1]at yT;rw[(LM yT).1]at nI;exact(LM nI).1);rw[EO (aT (avb A) dp (v0,p) ez A4 (row 0) v0 t4 j! #[vx t4.trans s4 h0,q6 i1 Jr ap,auf ok0]) b2 oJ]);(rw[dl (ah HM l! b5 cH) cH]);exact mI lb au vR H6 s6 (by refine ah (hj H6 s6) ad v' e' h;cases e';rw[fY e h])
}
section _P
namespace _M
open hE hF hG _L
variable{eb:d'}
structure K0(H1 H':Hp)(D:ak)(qs:ki):Prop where
 at_:H' D=Z Sm
 nd:N'
 off:D∉qs
 d0:eZ (H1 D)
 q0:∀q∈qs,eZ (H1 q)/\H' q=et .lst []
 same:rU
section
variable{X:Cx}{σ:eo}{H:Hp}{lm:uJ}{own:Lv}{y:bt}{bi pos' p1 p2 lp:d6}
def z:={
L9(i:Y){n:Y}(ha:ic eF wA [iW qn n])(hn:n<=100)(hw:∀x,I3 Ky=I?):tO (∀Q:VK,(∀D qs H2,SZ->K0 H1 H2 D qs->Q No H2)->mo (Ow (Bc X wA)) (dC i) kO (EW uX) (HN (·.2)) σ H1 Q):=by intro H1 s1 Q q;refine ce D3 vz vs (fB qn n pu iT adB dn awh hn (λ D hD=>kn Sq (yw (g:=dC i) (tt:=kO) (te:=EW uX)) D H' (λ k H'=>∃qs:ki,N!=k/\K0 H2 H' D qs) #[[],rfl,aY,List.nodup_nil,ul,hD,ul,cT hD]));(.rintro k H' hk⟨qs,fX,L⟩;(have cj:k<n:=by exact B? hk);refine #[hw _,wV,cA r hr];(have O3:r≠D:=λ e=>by rw[f' L.at_ hr hr]);(have R8:r∉qs:=λ h=>by rw[ke (L.q0 r h).2 hr hr]);refine #[qs.map sd,by rw[aV (sf O3)];exact L.at_,by rw[JH (show _<=100 by exact aEV fX cj hn)],qs++[r],by rw[uO,fX];rfl,?_];(refine #[by rw[aY,yC];rfl,?_,?_,hD,?_,?_];(.rw[h! Tm #[L.nd,ul,λ a h1 b h2=>by simp at h2;subst h2;exact λ e=>R8 (e▸h1)]]);.simp only[List.mem_append,Tn];rintro(h|h);(.exact L.off h);.exact O3 h.symm);(.intro z hz;rcases E_ hz with hz|hz;(.have hzD:z≠D:=λ e=>L.off (e▸hz);have hzr:z≠r:=λ e=>R8 (e▸hz);exact #[(L.q0 z hz).1,by rw[aV hzD,aV hzr];exact(L.q0 z hz).2]);.rw[Tn]at hz;subst hz;exact #[L.same.free hr,by rw[aV O3,aY]]);.intro b o hb;rw[aV (c8 hb hD),aV (c8 SC hr)];exact SC);.rintro H'⟨qs,fX,L⟩;exact q D qs H' (by rw[fY fX au6]) #[L.at_,L.nd,L.off,s2.free hD,λ z hz=>#[s2.free (L.q0 z hz).1,(L.q0 z hz).2],kB L.same]
NX(i j:Y){z:bt}{pz jg:d6}(hc:Gi)(hN:NB)(ok:df X.N Hs lm own)(hm:SG pq)(hg:∀(s:ln)(H:Hp)(C:ak)(cl:Ax)(fp:ki),PG Jc H cl C zX (dC i))(rK:P0)(rJ:i! (IP wA=[(false,f9 eb)]))(hz:i! (X.N[j]?=Z z))(oE:i! (Tb z=Z .local))(lS:i! (swapsWith QV Z (.pt z pz) jg.line ma=pure c2))(hs:KR x LY p1 wA p2 x):PS X (.Assign [.pt z pz] QV jg) (λ D σ H=>mo (Ow (Bc X wA)) (dC i) kO (EW uX) (HN (·.2)) σ H λ x H2=>D.nx (σ.set j DG) H2):=yt (i:=j) hc hN hz oE lS (CT rK hm dU rJ) ok hg Nf (λ _ _ _ _ _=>Ho) hs
Bl{es:kl}{PL:g8->Hp->Prop}{x1}(ha:tQ fF PL)(hl:∀vs H,G!->Si):mU (.Co es x1 bi) (∃a vs,rT/\oK a vs/\G!):=Rx TB hl vs
}
section z
section _M
namespace _P
open hE hF hG _L _M
variable{P:gX}{w:gY}{K:h?}{mg:hZ}{dg:ib}{c:Cs}
variable{α:Type}{H H1:Hp}{qs:ki}{ls:C? α}{R:rM}{q:ak}
structure i9{α:Type}(R:rM)(H1 H:Hp)(D:ak)(qs:ki)(ls:C? α):Prop where
 at_:fy D Sm
 nd:N'
 off:D∉qs
 d0:eZ (H1 D)
 q0:∀q∈qs,eZ (H1 q)
 same:mF H
 len:N!=ls.length
 has:∀(i:Y)(q:ak),qs[i]?=Z q->∃xs l,ls[i]?=Z l/\k4 q xs/\oQ R xs l
def z:={
rf.1(R:rM):Prop:=∀(H:Hp)(a:ak)(xs ys:g8)(v:V)(x:α),k4 a xs->R H v x->R Lq v x
wF:rf cU:=λ H a xs ys v x ha bx=>o! bx q n2 q (by rw[aV g9 (by rw[f' h ha ha])];exact h)
ar5:rf mT:=λ H a xs ys v x ha cy=>o! cy q n2 q (by rw[aV g9 (by rw[f' h ha ha])];exact h)
aHY:rf ju:=λ H a xs ys v x ha dz=>Gd dz q (aE q y e (by rw[aV g9 (by rw[f' h ha ha])];exact h) E5)
ay1:rf lC:=λ H a xs ys v x ha eP=>gP eP λ q y z e h t u=>(b9 q y z e (by rw[aV g9 (by rw[f' h ha ha])];exact h) E5 (b! wF _ _ ha u))
i9.later(hu:Up R){H':Hp}{D:ak}(h:i9 R H1 H D qs ls)(s:kw):i9 R H1 H' D qs ls:=#[n5 uR,h.nd,h.off,h.d0,h.q0,h.same.trans s,h.len,λ i q hq=>by refine aO (h.has i q hq) M1 xs l h3;exact(aE xs l h1 n5 h2 (gj B_ (hu _ _ _ _ s) h3))]
axR(h:N'){i j:Y}(h1:qs[i]?=Z q)(h2:qs[j]?=Z q):i=j:=by obtain⟨a1,a2⟩:=Oa h1;rw[P_ b1 b2 h2];rcases Nat.lt_trichotomy i j with e|e|e;((.exact py (a2.trans b2.symm) (Tq h i j a1 b1 e));.exact e);.exact py (b2.trans a2.symm) (Tq h j i b1 a1 e)
i9.add(bw:rf R){D:ak}(h:i9 R H1 H D qs ls){k:Y}{xs:g8}{l:rW}{v:V}{x:α}(hq:qs[k]?=Z q)(hl:ls[k]?=Z l)(hx:k4 q xs)(hp:oQ R xs l)(hv:R H v x):i9 R H1 sC q (.lst (xs++[v])) D qs (ls.set k (l++[x])):=by have hm:=yg hq;have hD:D≠q:=λ e=>h.off (e▸hm);refine #[by rw[aV hD];exact uR,h.nd,h.off,h.d0,h.q0,ad b o hb,by rw[fY List.length_set h.len],ad i r hr];(.rw[aV (c8 hb (h.q0 q hm))];exact kS h.same);.have c_:=qy hl;by_cases e:i=k;(.rw[f' hq hr hr,<-(aE (xs++[v]) (l++[x]) (by rw[List.getElem?_set_self c_]) aY ?_),Tt (gj (λ a b pO=>b! bw _ _ hx pO) hp) (b! bw _ _ hx hv)]);.refine aO (h.has i r hr) λ ys m g1 g2 g3=>?_;refine(aE ys m (by rw[List.getElem?_set_ne (sf e)];exact g1) ?_ (gj (λ a b pO=>b! bw _ _ hx pO) g3));rw[aV (show r≠q from λ e2=>e (axR h.nd hr (by rw[fY e2 hq])))];exact g2
Vh{α β:Type}{F:ml α β}:∀(l:rW)(m:GO),e_=d?->(∀(i:Y)(a:α),l[i]?=Z a->∃b,m[i]?=Z b/\F a b)->fu F l m|[],[],_,_=>iv|[],_::_,h,_=>by simp at h|_::_,[],h,_=>by simp at h|a::l,b::m,h,g=>by refine ah eX (g 0) a ad b' e hf;cases e;exact Hb hf (Vh l m DB h λ i x hx=>g uw x hx)
i9.lst{D:ak}(h:i9 R H1 H D qs ls):eA (eA R) H No ls:=by rw[<-tj D uR (Vh _ _ (by rw[fY el h.len]) ad i v hv),Ak hv];cases hq:qs[i]? with|ac=>rw[cx hq hv hv]|gV q=>rw[cx hq hv hv,<-aO (h.has i q hq) M1 xs l h3,g! (wN l h1 q xs) h2 h3]
i9.new{R:Hp->V->vk α->Prop}{D:ak}{n:Y}(h:K0 H1 H D qs)(hn:SZ):i9 R H1 H D qs (pM n ([]:AI)):=#[uR,h.nd,h.off,h.d0,λ q hq=>(h.q0 q hq).1,h.same,by rw[oW pM hn];simp,λ i q hq=>(aE ([]) ([]) (by have:=qy hq;rw[qZ og Tv a6 hn];rfl) ((Ey h.q0 q hq).2) iv)]
axC{p:al}{k:Y}(h:w9):rH<14:=by rw[nh r!];split at h;(.cases h);.have:=_B.Bt lz _B.MU h _ HK;rw[Qr e7 a6,Nk]
aFu(A:a?):PO (jp "range_records") ps (eA (eA mT) H v (M_ (nG cd ((jC a.2)/4)))):=oq A.akh Qx λ q e H hr hp U hU=>by rw[Qw p cC Qx.nd];have ed:df ["numbers","records","at","kind"] (aw Dy) _ [("kind",3)]:=qW nz mQ Dy;rw[gq,wT JK (NX 3 1) qI g! Dm x? dU Bw GH DC ug aI aI jb pi n' pp,FU pW,MY (L9 3 (n:=14)) A.g.aov r];have yj:=a7 hN.same kL;refine ce pY ai vr yj ez ai B9 vs ev (qA 0 qn i1 4 ((i1+3)/4) ev.now Jo DY kn C3 w? (∃(x2:iY),a!=[l7,ri,x2,ac]/\i9 mT H1 H' r qs (M_ MN)) f8 ac ((MP).sg lV s3));(.rintro k a! H' hk⟨x2,rfl,hB⟩;rw[Ew F_ dm (BD+xu*4=tC)];rw[dm];obtain⟨Kz,jW⟩:=JG ((BG uE k rN Mj).2 oA);have yl:rH<14:=axC ((BG uE k rN Mj).2 oA);have o7:=a7 HU kL;rw[Fn b Ms rH ao2 yl,<-wS b (cO au Ap o7 oA j! ce ey db hB.at_ (cb (by rw[Kw hb]))) cA H4 s4];have Bo:=Cr lV s4;rw[KK Bo.has l hx];have NF:=db o7;refine #[EM hx,Ar mT (k,#[rc,rd,AH]) ((r4 iR [vN k,vN rc,vN rd,vN AH] pY oD AP a5 mc (by show tC/4=dt k;exact Hx) wg (4*k+1) NF abX dZ wg (4*k+2) NF afc wg (4*k+3) NF ae4).imp λ v H5 s5 h=>h) λ tv H5 s5 ft=>?_];have z6:=Bo.later lV s5;have Wy:=a7 s5 hx;(have Am:FH:=by rw[iX ie];(have:l=nK rH (nG p k):=by rw[qZ yl]at hl;rw[vX td hl]);rw[a6];rw[Ao Qz];rw[Tz];rw[z4 nG,akf hk ap]);refine #[b,xs,tv,rfl,rfl,Wy,j0 i4 Ck Am,_,rfl,?_];have:=z6.add ar5 hb hl Wy (gj B_ (lV _ _ _ _ s5) ie) ft.now;(have d4:l=nK rH (nG p k):=by rw[qZ yl]at hl;rw[vX td hl]);rw[_B.J6,show _B.Cq p k=(rH,#[rc,rd,AH])from rfl,a7 _B.KE yl,<-d4,show bN MN=k by rw[z4 nG]];rw[qT]);.rintro a! H'⟨x2,rfl,hB⟩;rw[kW (S3/4=S1) acS h4]at hB;exact ce O (pp _ _ HU kx (Cr lV s4).lst)
BZ(k:Y)(l:AI):bN MK<=e_:=by rw[Ao Qz];rw[Tz];exact yc _
OB{X:Cx}{σ:eo}{o ea eb:d'}{p1 p2 p3 bi:d6}{l:al}{a b:Y}{r:al}(hm:eZ (pq "tuple"))(hq:fy q Lx)(ho:lZ o q)(ha:io ea (vN a))(hb:io eb (vN b))(pO:a<=b)(hl:Ml b)(hr:(l.drop a).uI (b - a)=r)(hg:zm (Cb "tuple"=zN))(he:kJ [JT] f9 JT [])(a_:zp zk []):mU lJ (.pt "tuple" p3) [JT] (cU H v r):=iQ DQ Po gQ r (xs:=r.map vN) hm (iQ tF P gQ r ho ha hb (Gz FW q rj hq λ p H4 s4=>f8 p db (by rw[aY,Rj og hI pO hl pO,hr]))) Gz (by refine ah md ad q e1 e2;exact #[q,e1,ey e2]) (by rfl) hg he a_
alm(A:a?):jp "map_records" (RQ cY (V×al×ty) [a.1] ci (c? bm bT/\zg bT/\m9 (Hz (jC uu+1) 0) bT ch) dR (eA (eA ju) H v (BH ch))):=oq A.aoI Yp λ q e H hr hp U hU=>by obtain⟨iF,m,ms⟩:=q;rw[EF (λ aS ap kd=>n7 aS) ap kd,lP Yp.nd];have ed:df ["numbers","records","at","record","behind","kind"] (aw IB) _ [("kind",5)]:=qW nz mQ IB;rw[gq,wT JK (NX 5 1) dF m7 kf JC kf RJ xn Nx o9 pi n' pp,FU pW,MY (L9 5 (n:=15)) A.g.aLk r];(have gB:∀{a i bd fq},Fa->o0->gK pA=0:=λ{a i bd fq}h hl=>by by_cases e:gK pA=0;(.exact e);.have:=HA hl e;rw[vS kd]);refine #[sL z (∃(a i:Y)(bd:jo)(fq:ty)(x4:iY),a!=[l7,ri,gx a,gx i,x4,ac]/\Fa/\xZ/\z=qS/\Fl ju H' BH),#[d?,0,0,ac,[],ac,rfl,L6,qK,rfl,MP],?_];rintro z a! H'⟨a,i,bd,fq,x4,rfl,hM,Aw,rfl,hB⟩;have o7:=a7 HU kL;refine ce (bP cM a5 vr o7) J!;(. (have ha:o0:=by rw[or uQ]);have hz:=gB hM ha;refine bX (_B.Kx hz) ad ko fV uP;have yi:=HX ha hz;rw[PX (∃(a i:Y)(bd:jo)(fq:ty)(x4:iY),d!=[l7,ri,gx a,gx i,x4,ac]/\Fa/\xZ/\z'=qS/\Fl ju rZ BH) (r9+Gf) eX mu (a+2) je a5 dn aqk ko];have Bo:=F0 j4 s4;rw[Fn b Ms op aeM fV,<-wS b (cO au Ap pH ha xy ce ey pb Bo.at_ (cb (by rw[Kw hb]))) cA H5 s5];have z6:=Bo.later j4 s5;rw[KK z6.has l vv];have j2:=a7 s5 pH;refine #[EM vv,Ar ju (i,#[tV,ML]) (lb (Bl (cq b6 th eX mu (a+1) j2 a5 dn aon ko (OB (a:=a+3) (b:=a+3+fT qE) (r:=ML) HI j2 az q5 F6 du iT J1 ko (by unfold _B.si;rw[AX (a+3+fT qE - r9=Gf) Xi]))) bn vs H (by(refine tN h λ _ _ aU _ _ _ a9 _ _ _ bu _ bU=>?_;subst aU a9 bu bU);exact(ab:3<=100))) nw H6 s6 h) λ tv H6 s6 ft=>?_];(. (refine Bp h λ q _ e1 e2 _ _ cH dA _ _ ee fJ y _ iH hy jG=>?_;subst cH dA ee fJ iH jG);exact(aE q y e1 e2 hy));have tM:=z6.later j4 s6;(have Se:=a7 s6 vv;(have d4:l=nK op fq:=by rw[qZ fV]at hl;rw[vX td hl]);have Am:FH:=by rw[iX ie,d4];rw[Ao D'];rw[Cu];exact an9 ko Aw ap);refine Q! b tv Se;have:=tM.add aHY hb hl Se (gj B_ (j4 _ _ _ _ s6) ie) ft.now;refine #[_,rfl,_,rfl,_,_,rfl,rfl,d? - (r9+Gf),t? ave ko,_,i+1,_,_,_,rfl,yi,t? acx Aw,rfl,?_];rw[a7 _B.KE fV,<-d4,Cu];rw[qT]);.have hd:=Od (by have:¬dt a<dt d?:=λ h=>wC hx h;rw[cP zH]);rw[cx kd hd hd,#[_,rfl,pp _ _ R! kx (F0 j4 s4).lst]]
ays(A:a?):jp "sequence_records" (RQ cY (V×al×tx) [a.1] ci (c? bm bT/\zg bT/\m9 (yr (jC uu+1) 0) bT ch) dR (eA (eA lC) H v (BU ch))):=oq A.anB T3 λ q e H hr hp U hU=>by obtain⟨iF,m,ms⟩:=q;rw[EF (λ l9 ap kd=>n7 l9) ap kd,lP T3.nd];have ed:df ["numbers","records","at","record","key_end","behind","key","kind"] (aw EV) _ [("kind",7)]:=qW nz mQ EV;rw[gq,wT JK (NX 7 1) dF m7 kf JC kf eY dF xn aI dF (bY (i:=5)) aI RJ (bY (i:=6)) (pv 5) o9 pi n' pp,FU pW,MY (L9 7 (n:=3)) A.g.aDc r];(have gB:∀{a i bd fq},Fe->o0->gK pI=0:=λ{a i bd fq}h hl=>by by_cases e:gK pI=0;(.exact e);.have:=HA hl e;rw[vS kd]);refine #[sL z (∃(a i:Y)(bd:jo)(fq:tx)(x4 x5 x6:iY),a!=[l7,ri,gx a,gx i,x4,x5,x6,ac]/\Fe/\xZ/\z=qS/\Fl lC H' BU),#[d?,0,0,ac,[],ac,ac,ac,rfl,L5,qK,rfl,MP],?_];rintro z a! H'⟨a,i,bd,fq,x4,x5,x6,rfl,hM,Aw,rfl,hB⟩;have o7:=a7 HU kL;refine ce (bP cM a5 vr o7) J!;(. (have ha:o0:=by rw[or uQ]);have hz:=gB hM ha;refine bX (_B.O9 hz) ad ko fV uP;have yi:=HX ha hz;have uB:px m a=a+2+fT p?:=rfl;rw[PX (∃(a i:Y)(bd:jo)(fq:tx)(x4 x5 x6:iY),d!=[l7,ri,gx a,gx i,x4,x5,x6,ac]/\Fe/\xZ/\z'=qS/\Fl lC rZ BU) Bf eX mu (a+1) je a5 og agd uP uB];generalize hte:Bf=te at ko fV uP yi uB;refine DX (Nw+fT te) q5 qH du eX (c9 (j:=te) pH az du O) uP cA H5 s5;have j2:=a7 s5 pH;refine eT (OB (a:=a+2) (b:=te) (r:=Gy) HI j2 az q5 F6 du dn aLD uB QP uP (by unfold pw;rw[kW (te - qE=tV) ahT uB])) λ kv H6 s6 kY=>?_;have B6:=a7 s6 j2;have tM:=F0 m5 L4 HY s6;rw[Fn b Ms op Sb fV,<-wS b (cO au Ap B6 ha xy ce ey pb tM.at_ (cb (by rw[Kw hb]))) cA H7 s7];have hB7:=tM.later m5 s7;rw[KK hB7.has l vv];have uL:=a7 s7 B6;refine #[EM vv,Ar lC (i,#[Gy,_B.En m a]) (lb (Bl (cq b6 th (iQ lb i0 P' (cU H v Gy) vR H8 s8 (by rw[e];exact kY _ (Oe s8))) (OB (a:=te+1) (b:=te+1+fT te) (r:=_B.En m a) HI uL az q5 pZ du ip iT arL ko (by unfold _B.En;rw[hte,show te+1+fT te - Nw=fT te by exact aFL]))) bn vs H (by(refine tN h λ _ _ kg _ _ _ jF _ _ _ kD _ ka=>?_;subst kg jF kD ka);exact(ab:3<=100))) nw H8 s8 h) λ tv H8 s8 ft=>?_];(. (refine Bp h λ q _ e1 e2 _ _ lL nR y _ nM hy z _ qX hz oh=>?_;subst lL nR nM qX oh);exact(b9 q y z e1 e2 hy hz));have hB8:=hB7.later m5 s8;(have Yh:=a7 s8 vv;(have d4:l=nK op fq:=by rw[qZ fV]at hl;rw[vX td hl]);have Am:FH:=by rw[iX ie,d4];rw[Ao D'];rw[Cu];exact aDP Aw ha ap);refine Q! b tv Yh;have:=hB8.add ay1 hb hl Yh (gj B_ (m5 _ _ _ _ s8) ie) ft.now;refine #[_,rfl,_,rfl,_,_,rfl,rfl,d? - (Nw+fT te),by exact aFj ko uB,_,i+1,_,_,_,_,_,rfl,yi,by exact ajs Aw uB,rfl,?_];rw[a7 _B.KE fV,<-d4,Cu];rw[qT]);.have hd:=Od (by have:¬dt a<dt d?:=λ h=>wC hx h;rw[cP zH]);rw[cx kd hd hd,ce O (pp _ _ R! kx (F0 m5 s4).lst)]
}
section _P
namespace _L
open hE hF hG
section
variable{sh:gX}{w:gY}{A:H9}{E:LH ia}
variable{s:ln}{H:Hp}{h' h:ib}
def z:={
TK.2(sh:gX)(w:gY):=tupleKind (gb sh w)
Ff{k:jZ}{a:ak}(hk:AN h k a)(e:LC o a a):AN h' k a:=by refine mh hk λ o aF n h1 r=>?_;exact(tX o aF n (e _ h1) r)
HS{S:ak}{xs:mZ}(hm:h.DictOfH tn S xs)(hS:LC o S S)(hk:∀x∈xs,LC o ut ut):Of tn S xs:=by obtain⟨o,es,ep,ho,hc,hd,he,his,hn⟩:=hm;exact #[o,es,ep,hS _ ho,hc,hd,he,λ x hx=>Ff (his x hx) (hk x hx),hn]
EJ.1(xs lw:mZ):mZ:=Og (λ gc x=>Cv gc x.1 ut eU.2) xs
ahN(xs:mZ)(k:jZ)(a:ak)(v:ia):bN (Cv xs k a v)<=HV+1:=by unfold Cv;split;(.rw[fY el J9]);.rw[uO];exact yc _
Ve{R:LH Result}{S I l:ak}{mf:Array ia}{res:ia}(hu:A.units+1<cLine)(hh:Su)(w8:l≠I)(rV:S≠I)(Ah:S≠l):∀(jN:mZ)(i:Y)(gc:mZ)(ix:cm)(t:Tok)(s:ln),Oh=i+yI->acc.length+yI<=uT->(∀(j:Y)(q:jZ×C4),jN[j]?=Z q->∃(b:ak),mf[i+j]?=l8/\b≠S/\b≠I/\Jp uY b q!/\AN uY q.1 j7/\j7≠S/\j7≠I)->(∀x∈gc,ut≠S/\ut≠I)->s.heap.IsListIter I l i->s.heap.IsList l mf->s.heap.DictOfH tn S gc->(∀h' tk,Of tn S (EJ gc jN)->(∀b o,b≠S->b≠I->KW->R?)->R (.ok (.ret res)) {s with heap:=h',toks:=tk})->codeAny SI A (.builtin "dict.update.loop" #[[aN S,c! I,.f7 ix t,res],[]]) R s|[],i,gc,ix,t,s,hsz,lY,ht,jI,hit,hl,hm,hR=>by rw[ig TD Fm];rw[TG pE _];show A6 (pyNext (.ref I)>>=_) _ s;rw[rR (i2 (wpAny_pyNext_list_end (A:=A.in1) hh hit hl (by first|exact Array.getElem?_eq_none (Nat.le_of_eq hsz)|(simp at hsz;simp;omega)) cA h' he)) lF A6 (Builtin.Dict.addKeywords S []>>=_),<-i2 (nE (nE ?_)),hR h' HE (GN hm (he S o rV e) λ x hx o e=>he _ o (jI x hx).2 e) λ b o _ hb e=>he b o hb e]|q::jN,i,gc,ix,t,s,hsz,lY,ht,jI,hit,hl,hm,hR=>by obtain⟨b,hb,hbS,NJ,IE,hk,hkS,hkI⟩:=eX (ht 0) q;rw[sk]at hsz lY;rw[ig TD Fm];rw[TG pE _];show A6 (pyNext (.ref I)>>=_) _ s;refine i2 (wpAny_pyNext_list_item (x:=c! b) hit hl DB hb ad h1 JP fO);have Mv:Jp h1 b q!:=IE.extBut yJ NJ;have fk:R7:=hl.extBut yJ w8;have p8:h1.DictOfH tn S gc:=GN hm (yJ S o rV e) λ x hx o e=>Lt (jI x hx).2;have cI:AN h1 q.1 j7:=Ff hk λ o e=>Lt hkI;refine yk iB Mv λ o ho hc n hd=>?_;show lF A6 (H! [Ok b] _>>=_);rw[qO FB NT FB wpAny_tryCatch];unfold Builtin.Dict.pairItems;refine AB (TH (T:="tuple")) (af o ho hc) ?_;rw[gy (by first|decide|rfl|simp)];rw[rR (i2 (wpAny_seqItems ho hd LT)) lF A6 (H! [Ok j7,q!] (dictSet S aN j7 q!)),<-NT (wpAny_dictSet_heap (knd:=tn) (k:=q.1) (hsz:=t? Nat.le_of_add_right_le lY) (tupleKind_room_in1 hu) cI p8 sz h2 nA dY)];(refine nE #[K!,Ve (mf:=mf) hu hh w8 rV Ah jN uw (Cv gc q.1 j7 q!) (ix+1) 0 _ kW (Oh=i+1+yI) Nb hsz ?_ sz j q' e pc x hx ?_ ?_ nA λ h' tk jM k=>?_];(.have z:=ahN gc q.1 j7 q!;exact ZK lY z);.obtain⟨b',iA,Cg,Aj,Pe,cj,abp,adP⟩:=ht (j+1) q' LV;refine #[b',?_,Cg,Aj,(Pe.extBut yJ Aj).extBut Cw Cg,Ff cj λ o e=>Cw _ o abp Lt adP,abp,adP];rw[AX (i+1+j=i+(j+1)) yY];exact iA);((.rcases mem_storedH hx with⟨y,hy,_,e2⟩|⟨_,e2⟩;(.rw[e2];exact jI y hy);.rw[h! e2 #[hkS,hkI]]);.exact JP.at λ o' e=>Cw I o' (sf rV) e);(.exact fk.extBut Cw (sf Ah));.exact hR h' tk jM λ c oc h3 h4 e=>k c oc h3 h4 (Cw c oc h3 (yJ c oc h4 e))
alf{l:ak}{ol:Obj}{mf:Array ia}{n:Y}{prs:mZ}{Q:LH ia}(hu:A.units+2<cLine)(hh:Su)(hl:NP l=Z ol)(hc:ol.cls=Md)(hd:ol.dict=ac)(mS:ol.data=.seq mf n)(hsz:Oh=On)(lY:On<=uT)(ht:∀(j:Y)(q:jZ×C4),PK prs (mf[j]?=l8) (AN uY q.1 j7))(h:∀h' tk,Qs Of (EJ [] prs)->(∀b o,KW->R?)->QK {s with heap:=h',toks:=tk}):wpAny SI A (call S5 [aN l]) Q E s:=by refine callType_codes (Q₁:=λ obj s₁=>obj=c! i3/\s₁={s with heap:=TI I9 []}) PySem.F.kt_called_dict (PySem.F.kt_typeCall_dict_1 _) PySem.F.entry_dict_init (kt_code_dict_new _ #[rfl,rfl]) ?_;rintro obj s₁⟨rfl,rfl⟩;have vj:Qs JL DictOfH []:=Heap.DictOfH.new uY;have k0:∀b o,KW->JL get? b=Z o:=λ b o e=>QQ e;rw[w2 #[vj.typeIs,lF PySem.F.args_dict_init_2,?_] Builtin.«dict.__init__»,w2 (i2 ?_) Builtin.Dict.selfAndRest,rR AB wpAny_notOrdered_dict vj.typeIs ?_ lF AT (pure (i3,[Ok l])),rR LT lF AT (TJ "dict.__init__" i3 aN l [] .ac)];unfold TJ;refine AB (TH (T:="list")) (af ol a7 k0 hl hc) ?_;rw[gy (by first|decide|rfl|simp)];rw[<-AB (Y1 a7 k0 hl hc mS hd) hh ad h1 NH cI,rz (show bh (ac:jX ia).isNone from rfl),<-FB wpAny_rule];(have fk:R7:=(FP ol a7 cI a7 k0 hl hc n mS);have nt:i3<TL:=by have e:JL get? i3=Z I9 []:=Rb O;exact Cy xN cI);refine AB wpAny_pyIter_list fk ?_;have k2:∀b o,h1.get? b=Z o->(h1.push IZ (Db "list_iterator") fields [aN l,.f7 0 0]).get? b=Z o:=λ b o e=>QQ e;have a8:RN l:=Cy hl;have key:=Ve (sh:=sh) (w:=w) (A:=A.in1) (R:=wants (λ r s₂=>r=.ac/\QK s₂) E) (S:=i3) (I:=TL) (l:=l) (mf:=mf) (res:=Value.none) hu hh Lc a8 nt (yM nt) (TM a8) prs 0 [] 0 0 {s with heap:=h1.push IZ (Db "list_iterator") fields [aN l,.f7 0 0],toks:=NH} BO hsz H? (by rw[TN,H?];exact lY) (λ j q e=>by refine bL (ht j q e) λ b e1 e2 e3=>?_;have hb:RN b:=e2.lt;(have hk:j7<i3:=by refine mh e3 λ o _ _ g _=>?_;exact Cy g);exact #[b,by rw[fY H? e1],yM hb,Lc hb nt,e2.keeps λ c o z=>a7 k2 a7 cI a7 k0 z,Ff e3 λ o z=>a7 k2 a7 cI a7 k0 z,yM hk,Lc hk nt]) BS MB xd _ Rb O O (fk.at λ o e=>xN k2) (GN (GN vj xN cI λ x hx=>MB) xN k2 λ x hx=>MB) (λ h' tk jM k=>#[rfl,h h' tk jM λ b o e=>k b o (yM (Cy e)) (yM (Oo (Cy e) nt)) a7 k2 a7 cI xN k0]);first|exact nE #[K!,key]|exact i2 (nE (nE #[K!,key]))
}
section z
def z:={
Ad.1(aq lw:oU):oU:=Og (λ gc kv=>u0 gc kv.1 kv.2) aq
KT.merge{lw:oU}{rs:mZ}(m:KT H lw rs):∀{aq:oU}{vs:mZ},KT H aq vs->KT H (Ad aq lw) (EJ vs rs):=by induction m with|nil=>exact λ q=>q|@fK p q _ _ h t ih=>intro aq vs r0;(have e:KT H (u0 aq p.1 p.2) (Cv vs q.1 j7 q!):=by rw[<-h.1];exact r0.put p.1 h.2.1 h.2.2);exact ih e
T5:∀(lw aq:oU),bN (Ad aq lw)<=lj+more.length|[],aq=>by show lj<=lj+0;exact abf|p::r,aq=>by have h1:=T5 r (u0 aq p.1 p.2);have h2:=o6 aq p.1 p.2;show bN (Ad (u0 aq p.1 p.2) r)<=_;rw[sk];exact Xp h1 h2
}
section
variable{X:Cx}
def z:={
aHS{iE:c1 (ak×Obj)}{σ:St}(I:Inv X iE σ H s){ps:ki}{jO:c1 (jZ×sy V)}(p:P3 p kt p):∃prs:mZ,KT H RY prs/\Mp On/\∀(j:Y)(q:jZ×C4),PK prs (ps[j]?=Z b) ((TK x_ X.w).is uY q.1 j7):=by induction p with|nil=>exact #[[],iv,rfl,λ j q e=>by simp at e]|@fK p kt _ _ h t ih=>obtain⟨prs,r,hl,hp⟩:=ih;obtain⟨aF,rv,ht,_⟩:=I.tuple h.1;obtain⟨u,y,ei,ru,ry⟩:=vals2 rv;subst ei;cases ru;refine #[(kt.1,v_,y)::prs,.fK #[rfl,h.2,ry] r,by rw[sk,sk,hl],ad j q e];cases j with|uD=>have e':(kt.1,v_,y)=q:=td e;subst e';exact #[p,rfl,ht,wL I.aR h.2]|succ j=>obtain⟨b,e1,e2,e3⟩:=hp j q LV;exact #[b,by simpa using e1,e2,e3]
aAk(M0:Gi)(hu:X.A.units+2<cLine):kF X S5 (λ xs H Q=>∃(a:ak)(ps:ki)(jO:c1 (jZ×sy V)),xs=[aN a]/\aC X.K H a L_/\P3 p kt p/\∀p,eZ (H p)->Q aN p sC p (.dT KU)):=by intro iE s σ H xs us Q I r q;obtain⟨a,ps,jO,ex,hq,hp,q⟩:=q;subst ex;obtain⟨u,eu,rx⟩:=vals1 r;subst eu;cases rx;obtain⟨aF,rv,pl,hz⟩:=I.list hq;have ei:=KA rv;subst ei;rw[ES hz];obtain⟨prs,rel,hl,ie⟩:=aHS I hp;obtain⟨o,n,ho,hc,hd,mS⟩:=pl;refine alf (prs:=prs) hu (I.ok.hd M0) ho hc hd mS GE hl (by rw[fY hl hz]) sz j q' e λ h' tk jM k=>?_;(.obtain⟨b,e1,e2,e3⟩:=ie j q' e;exact #[b,by simp[e1],e2,e3]);. (have hm:(i3==sysModules)=false:=beq_eq_false_iff_ne.mpr (TM I.CI);have ap:bN KU<=uT:=by rw[Ao (T5 _ [])];rw[TN,H?,TO rel,hl];exact hz);obtain⟨q',es,ep,fD,h2,h3,h4,_,h5⟩:=jM;have hf:=I.aR.fresh (yc i3);refine #[aN i3,sC i3 (.dT KU),I.laid (t':=tk) k qK (show fC x_ X.w _ _ _ (.dT _)from#[ap,hm,EJ [] prs,(KT.merge rel iv).keeps ad c ys ec,q',es,ep,fD,h2,h3,h4,h5]),rfl,q _ hf];rw[aV g9 (by rw[f' hf ec ec])];exact ec
}
section z
section _L
namespace _M
open hE hF hG _L
section
variable{X:Cx}{σ:eo}{H:Hp}{elt iter:d'}{lm:uJ}{own:Lv}{y:bt}{bi pos':d6}
variable{α:Type}
def z:={
ZZ.1(X:Cx)(lm:uJ)(elt:d'):TE:=λ a! H' Q=>∃P:w5,(∀(s:ln)(H0:Hp)(C:ak)(cl:Ax)(fp:ki),Ev JQ a! H' elt P)/\vW (aj H' H2) (bc (P v) H2) (Q v H2)
alU(s:ln)(H0:Hp)(C:ak)(cl:Ax)(fp:ki):PE JQ elt (ZZ X lm elt):=λ iE s' a! H' Q I bx=>ah bx λ P h q=>(h s H0 C cl fp).1 H' Gw Q q iE s' I
aat{β:Type}{R S:ml α β}(h:∀x y,R x y->S x y){l:rW}{m:GO}(p:fu R l m):fu S l m:=_L.Paired.FE p h
Dd(i:Y){R:rM}{ls:rW}{Po:w5}{xs:g8}(hc:Gi)(hN:NB)(ok:df X.N Hs lm own)(ho:ic Ev iter Po)(hx:∀u H1,qg->Po u H1->∃a,u=c! a/\aC X.K H1 a xs)(hw:∀x,I3 Ky=I?)(hl:HV<uT)(rq:HV=ls.length)(he:∀(s:ln)(H0:Hp)(C:ak)(cl:Ax)(fp:ki)(k:Y)(x:V)(z:α)(H1:Hp),qg->xs[k]?=Z x->ls[k]?=Z z->Ev JQ Ky H1 elt sp v (R H v z))(tD:∀H H' v x,kw->R H v x->R H' v x)(bw:∀(H:Hp)(a:ak)(xs ys:g8)(v:V)(x:α),k4 a xs->R H v x->R Lq v x)(hg:∀(s:ln)(H:Hp)(C:ak)(cl:Ax)(fp:ki),PG Jc H cl C zX (dC i))(hs:KR x iter x):mU (.N2 elt [#[zX,iter,[],0]] lm bi) (∃a ys,rT/\k4 a ys/\oQ R ys ls):=by refine Cj (vP hc hN Hc ok hg Nf alU hs) λ H1 s1 Q q=>?_;refine eT (Op s1) λ u H2 s2 hu=>?_;obtain⟨a,rfl,fk⟩:=hx u H2 SX md;(have d4:∀H3,aj H2 H3->aC X.K H3 a xs:=λ H3 s3=>by obtain⟨a',e,h⟩:=hx _ H3 EN (hu H3 s3);cases e;exact h);refine #[a,rfl,#[xs,fk],λ D hD=>Sq (ER (xs:=xs) (g:=dC i) (tt:=kO) (te:=ZZ X lm elt)) D H' (λ k H'=>∃ys,aj H2 H'/\H' D=et .lst ys/\fu (R H') ys (ls.take k)) #[[],cT hD,aY,iv] (λ k H' _ cy=>ah cy λ _ s3 _=>d4 H' s3) ?_ ?_];(.rintro k x H' hk⟨ys,s3,e,hP⟩;obtain⟨z,hz⟩:∃z,ls[k]?=Z z:=l? (Ht (by have:=qy hk;exact Tv a6 rq));(refine #[hw x,_,λ s H0 C cl fp=>he s H0 C cl fp k x z H' EN hk hz,λ v H4 s4 hv=>#[ys,db e,?_,ys++[v],?_,aY,?_]];(.rw[TO hP,Cc,<-rq];exact HT lF Nat.min_le_right hl);.exact λ b o hb=>by rw[aV (c8 hb hD)];exact db gi hb);.rw[yN,hz];exact Tt (aat bn a b (b! bw _ _ db e (b! tD s4 h)) hP) (b! bw _ _ db e dV));.rintro H'⟨ys,s3,e,hP⟩;rw[rq,Oq]at hP;exact q _ H' Gb kx #[D,ys,rfl,db e,aat bn a b (b! tD s4 h) hP]
}
section z
section _M
namespace _P
open hE hF hG _L _M
variable{P:gX}{w:gY}{K:h?}{mg:hZ}{dg:ib}{c:Cs}
variable{H:Hp}{ys:g8}
def z:={
JR{κ:Type} [DecidableEq κ]:∀(lw gc:c1 (κ×V)),(∀kv∈lw,eZ (b8 gc kv.1))->(more.map (·.1)).Cz->Og (λ gc kv=>u0 gc kv.1 kv.2) gc=gc++lw|[],gc,_,_=>ul|p::r,gc,h,hn=>by have h0:=h p GV;rw[u3,List.nodup_cons]at hn;rw[List.foldl_cons,GD _ h0,JR r _ pc kv hk hn.2,Ib];(.rfl);.rw[OS _ _ _ _ h0,b? g9 (hn.1 (by rw[<-e];exact CB hk))];exact h kv GE hk
FJ.1(H:Hp)(v:V)(x:vL):Prop:=∃b y,v=c! b/\oK b [vN rO,y]/\cU H y xI
Ik.1(H:Hp)(v:V)(x:w4):Prop:=∃b k y,v=c! b/\oK b [aN k,y]/\fy k wj x.2.key.map vN/\cU H y xI
ayw:Up FJ:=Nl s bx Gd bx b (aE b y e uf (b! gD s t))
aBQ:Up Ik:=Nl s cy (gP cy λ b k y e h g t=>(b9 b k y e uf n5 g (b! gD s t)))
tup_ne{a b:ak}{xs zs:g8}(ha:k4 a xs)(hb:oK b zs):Lq b=et .tup zs:=by rw[aV g9 (by rw[f' hb ha ha])];exact hb
aC6:rf FJ:=λ H a xs ys v x ha dz=>Gd dz b (aE b y e Mx h E5)
avV:rf Ik:=λ H a xs ys v x ha eP=>gP eP λ b k y e h g t=>(b9 b k y e Mx h Mx g E5)
aID{l:ty}(h:oQ FJ ys l):∃(ps:ki)(aq:c1 (Key×V)),ys=L_/\fu (λ p(kv:Key×V)=>aJ K H p [kV kv.1,kv.2]) ps aq/\fu (λ(kv:Key×V)(r:nL)=>kv.1=Sum.inl dt i6/\cU H kv.2 u4) aq F8/\aq.map (·.1)=se gt (kN rO):=by induction h with|nil=>exact eX (ji ([]) ([]) O iv) iv|@fK a x _ _ q r ih=>obtain⟨b,y,e,h,t⟩:=q;refine fR ih λ ps aq h1 h2 h3 h4=>?_;exact(ji (b::ps) ((kN rO,y)::aq) (by rw[e,h1];rfl) (.fK (Ch h) h2) (.fK #[rfl,t] h3) (by rw[u3,h4];rfl))
azt{l:tx}(h:oQ Ik ys l):∃(ps:ki)(jO:c1 (jZ×sy V)),ys=L_/\fu (λ p(kt:jZ×sy V)=>aJ K H p [aN v_,kt.2.2]/\fy v_ wj ng kt.1 kV) ps jO/\fu (λ(kv:jZ×V)(r:yH)=>kv.1=uM r.key/\cU H kv.2 u4) RY F8/\(jO.map gt (x.1,eU.2)).map (·.1)=se gt M7:=by induction h with|nil=>exact eX (ji ([]) ([]) O iv) iv|@fK a x _ _ q r ih=>obtain⟨b,k,y,e,h,g,t⟩:=q;refine fR ih λ ps jO h1 h2 h3 h4=>?_;exact #[b::ps,(M7,k,y)::jO,by rw[e,h1];rfl,.fK #[Ch h,by rw[fY xk g]] h2,.fK #[rfl,t] h3,by rw[u3,u3,h4];rfl]
adm{α β:Type}{f:α->β}(hf:∀a b,f a=f b->a=b){l:rW}(h:l.Nodup):(se f).Cz:=by rw[Rw];rw[Ic];exact h.imp λ pO e=>pO xN hf
aKn(A:a?):jp "lookup" (RQ cY (V×ty) [a.1] ci (eA ju H bm cd/\zu/\GU Bv gt rO) dR (vi H v Bv ((·.2)))):=oq A.lookup Fj λ a e H hr hp U hU=>by rw[wJ v l];obtain⟨⟨q,xs,hv,hq,hp⟩,ap,qj⟩:=hp;rw[QE hv hp qj];have ed:df ["records","record"] (aw yB) _ [("record",1)]:=qW (nz FI yB 0);rw[gq,<-bg (HJ lz aIQ A.g.Ud O B4 (Q' (Dd 1) FJ rq (λ s' dE C cl fp k x z H1 s1 hk hz=>?_) ayw aC6 sS) (λ vs H1 s1 hv Q q'=>?_))];(.rw[<-ah (p6 hp hz) ad x' d5 hR,cx hk d5 d5];(rw[jq hR (λ ax y aS yZ hy=>?_) aS]);have C7:=gZ yZ;refine(r4 iR [vN A?,y] dZ xb eN Ae Gx xb eN Ep Gx).imp nw H2 s2 h;refine ah h ad b e1 e2;exact(aE b y e1 e2 (b! gD (ga s2) hy)));. (refine aO dV λ v1 _ aU a9 bu=>aO a9 λ d ys bU hd hP=>?_;subst aU bu bU);refine fR (aID (K:=K) hP) λ ps aq e1 e2 e3 e4=>?_;refine #[d,ps,aq,rfl,LE hd e1,e2,λ p qi=>q' _ _ Nr wq s3 #[p,aq,rfl,gi ?_,Qo h h s3]];rw[aY];congr 2;exact JR aq [] (λ _ _=>rfl) (by rw[e4,show(λ x:vL=>kN rO)=kN∘(λ x=>rO)from rfl,<-nC];exact adm vy DJ qj)
ahx(A:a?):jp "lookup" (RQ cY (V×tx) [a.1] ci (eA lC H bm cd/\zu/\GU Bv gt zK) dR (wZ H v Bv ((·.2)))):=oq A.lookup Fj λ a e H hr hp U hU=>by rw[wJ v l];obtain⟨⟨q,xs,hv,hq,hp⟩,ap,qj⟩:=hp;rw[QE hv hp qj];have ed:df ["records","record"] (aw yB) _ [("record",1)]:=qW (nz FI yB 0);have aMN:=AU hr;rw[gq,<-bg (HJ (aAk O (HT (Nat.add_le_add_left kP (2<=64) _) (AU hr))) A.g.Ud O B4 (Q' (Dd 1) Ik rq (λ s' dE C cl fp k x z H1 s1 hk hz=>?_) aBQ avV sS) (λ vs H1 s1 hv Q q'=>?_))];(.rw[<-ah (p6 hp hz) ad x' d5 hR,cx hk d5 d5];(rw[dl (gP hR λ ax y0 y cH yZ dA hy=>ah dA ad ky sV avW) cH]);subst sV;have C7:=gZ yZ;refine(r4 iR [aN ky,y] dZ xb eN Ae Gx xb eN Ep Gx).imp nw H2 s2 h;refine ah h ad b e1 e2;exact(b9 b ky y e1 e2 iI gZ avW (b! gD (ga s2) hy)));. (refine aO dV λ v1 _ ee fJ iH=>aO fJ λ d ys jG hd hP=>?_;subst ee iH jG);refine fR (azt (K:=K) hP) λ ps jO e1 e2 e3 e4=>?_;refine(b9 d ps jO O LE hd e1 e2 (λ p qi=>q' _ _ Nr wq s3 tj p gi ?_ Qo h h s3));rw[aY];congr 2;exact JR _ [] (λ _ _=>rfl) (by rw[e4,show(λ x:w4=>M7)=uM∘(λ x=>zK)from rfl,<-nC];exact adm vy G6 qj)
oG.1(B:sl)(u5:L!)(l:al):Y:=bN (rows.filter λ q=>q.to==l&&!Ot B 15 q.scalar)
acB(B:sl)(u5:L!)(r:nL)(l:al):oG B (u5++[r]) l=oG B u5 l+if(bh (u4==l&&!Ot B 15 i6))then 1 else 0:=by unfold oG;rw[List.filter_append,uO,List.filter_cons];split<;>rfl
acg.1(B:sl)(u5:L!)(aq:oU):Prop:=∀l,ua uM l=if oG B u5 l=0 then ac else gx (oG B u5 l)
amh(A:a?):sQ 4 i' "composing_counts" (RQ cY sy bR [aN bm] ci (i5 i' H bm cd/\(cd).ms.length<=8192) dR (∃co aq,v=c! co/\oM co dT/\acg sv cd (CC 0 (cd).ms) aq)):=KG A.bj.an8 SS dX b1 ck λ a f aK A' em s H0 H E hr hp=>by rw[wJ b d,Fo hR ap];have aQ:i5 i' H b d:=hR;rw[KN ap SS.nd];have hU:=j9 hr;rw[wT eY dF BA R5 qI Hc Bw (cJ (iy dw (aP (tY hU pi aI aI O) dh) dh)) jb pi n' p];intro r fG;have fj:=CD (ga (cT (o:=.dT []) fG));refine eT (Jj ZM ((b,d),0) az kI fj.cu dZ d2 Ov d2 A.g.Ih O eN #[Id s2,zU (0<15)]) λ lv H2 s2 hlv=>?_;(rw[jq hlv.now (λ q xs aS hq ie=>?_) aS]);dsimp only at ie;(have aDE:FH:=by rw[iX ie];exact hI D' ap);have Yi:(SR).map (·.2)=sU:=pN 0 eq;have oe:H2 r=et .dT []:=iI aY;have t2:mF H2:=(cT fG).jR s2;refine c0 q l? ey hq (t_ (xs:=xs) w? (∃(x2:iY)(aq:oU),a!=[l8,ri,x2]/\rU/\H' q=et .lst xs/\fu (ju H') xs SR/\H' r=et .dT aq/\lj<=k/\n0 acg zx sU aq) #[ac,[],rfl,t2,hq,ie,oe,qK,λ l=>rfl] BC k bx (fR bx λ _ _ _ _ hq _=>ey hq) ?_ ?_);(.rintro k x a! H' hk⟨x2,aq,rfl,sH,fD,A_,gL,c_,hC⟩;(refine ah (AA A_ hk) λ z hz aU=>i_ aU λ ax y a9 yZ ay bu cR=>?_;subst a9 bu);((have rP:k<8192:=by have:=qy hk;exact TP a6 aDE);have fV:sU[k]?=Z z.2:=by rw[<-Yi,yD,hz];rfl);have Ln:=CD (ga sH);have aK3:=Ln.de.row 0 z.2 ab (by show z.2∈AK nP eq 0 [];rw[Rz];rw[QO fV]);have bJ:tG A?:=aK3.sc;(have YJ:(sU).uI kA=(CC 0 eq).uI k++[z.2]:=by rw[yN,fV];rfl);refine ce nr (Du y_ ((b,d),15,A?) az kI Ln.cu dZ d2 A.g.Ra zn a5 fx Ae gi yZ O fx #[Ln.later s3,bJ]) J!;(.rw[jn jW (Fx A?=false)];have zq:=gi gL;have Z1:=gi yZ;have aaw:=gi cR;refine DX (Ec+1) q5 (aW bV (i:=rX Ec) (j:=1) (Us (P:=iO v (v=vN Ec)) hU au zn a5 j! Ep db Z1 ai (λ u H4 s4 hu=>(af r md (.fE #[aq,.f? MJ]))) (λ a y0 z0 H4 s4 h1 h2 h3=>?_)) ai) kx GB (wS ay zn a5 xy Ep pb db Z1 cA H5 s5);(.have e1:=h1.now;have e2:=h2.now;have e3:=h3.now;cases e1;subst e2 e3;rw[iK (Gg dM.t v4 MJ (by rw[h! xk db aaw])) lA];rw[hC v4];by_cases e:Ec=0;(.rw[hA e,e];rfl);.rw[gS e];rfl);.have mz:=a7 s5 MJ;have O4:=mb (Cm s5);refine tj r (Gg i8.t v4 mz (by rw[h! xk pb db aaw]) (i4 (by exact aEf c_ rP))) ?_;(refine #[_,_,rfl,ad b' o' hb,?_,gj bn v x ?_ A_,aY,hI a7 o6 _ dn Uo c_,xz l];(.rw[aV (c8 hb fG)];exact a7 O4 kS sH);.rw[aV g9 (by rw[f' fD gL gL])];exact a7 O4 fD);(.refine i_ (b! j4 O4 h) λ a1 y1 e1 e2 a2 e3 e4=>?_;exact(vB a1 y1 e1 (by rw[aV g9 (by rw[f' e2 mz mz])];exact e2) a2 e3 (by rw[aV g9 (by rw[f' e4 mz mz])];exact e4)));.rw[kK,YJ,acB,jW];by_cases e:l=v4;(.subst e;rw[n6,show Rp (z.2.to==v4)=1 by simp,q? afE]);.rw[b? gu (e (G6 h)),hC l,show Rp (z.2.to==l)=0 from b? gu (by simp at h;exact e h.symm),NS]);.rw[jn jW bh (Fx A?),<-#[_,aq,rfl,uN s3,gi fD,gj bn v x (b! j4 s3 h) A_,gi gL,t? TQ c_,xz l]];rw[YJ,acB,jW,Hv,Bool.and_false,show(if false=c2 then 1 else 0)=0 from rfl,NS];exact hC l);.rintro a! H'⟨x2,aq,rfl,sH,fD,A_,gL,c_,hC⟩;rw[N0 (by rw[<-Yi,el,iX A_];rw[K6])]at hC;exact ce O (p _ _ sH kx (aE r aq O db gL hC))
}
section _P
namespace _M
open hE hF hG _L
def z:={
ajM{X:Cx}{σ:eo}{H:Hp}{bi:d6}{es:kl}{PL:g8->Hp->Prop}(ha:tQ fF PL)(hl:∀vs H,G!->Si):mU tb es bi (∃a vs,rT/\k4 a vs/\G!):=Rx mV hl vs
}
section _M
namespace _P
open hE hF hG _L _M
variable{P:gX}{w:gY}{K:h?}{mg:hZ}{dg:ib}{c:Cs}
variable{α:Type}{m:al}
def z:={
sW.1(R:rM):Prop:=∀(H:Hp)(z C dx:ak)(fs:k!)(o:HO)(v:V)(x:α),EX->R H v x->R xf v x
l_{H:Hp}{z C dx a:ak}{fs:k!}{o u:HO}(hz:EX)(ha:fy a u)(hu:∀C dx fs,u≠zj C dx fs):xf a=Z u:=by rw[aV g9 (by subst e;rw[ha]at hz;exact hu _ _ _ td hz)];exact ha
Ci:sW cU:=λ H z C dx fs o v x hz bx=>o! bx a ue zL
S':sW mT:=λ H z C dx fs o v x hz dz=>o! dz a ue zL
Rv:sW ju:=λ H z C dx fs o v x hz eP=>Gd eP a vY y zL DN t
Sr:sW lC:=λ H z C dx fs o v x hz kq=>gP kq λ a y k e h t u=>(b9 a y k e zL DN t DN u)
gA{R:rM}(h:sW R):sW (eA R):=λ H z C dx fs o v x hz lT=>aO lT λ a xs e h1 p=>vY xs sK hz h1 _ Dr q (b! b! h hz q) p
yE:sW vi:=λ H z C dx fs o v x hz oB=>P8 oB aq aq
Dn:sW wZ:=λ H z C dx fs o v x hz xh=>P8 xh aq aq
aD4:rf vi:=λ H a xs ys v x ha BP=>Qe BP b (by rw[aV g9 (by rw[f' h ha ha])];exact h)
aMb:rf wZ:=λ H a xs ys v x ha CA=>Qe CA b (by rw[aV g9 (by rw[f' h ha ha])];exact h)
uS.2:=Ek
as5.1(H:Hp)(v:V)(r:uS):Prop:=∃q v0 v1 v2 v3,np/\(H q=et .lst BF\/(oK q BF))/\c? v0 r.1/\c? v1 pd/\c? v2 xx/\c? v3 xv
}
structure AD(r:uS)(d:bR):Prop where
 le:bN r.1+bN pd+bN xx+bN xv<=8192
 ps:m9 ow r.1 kC
 ms:m9 (Hz (jC r.2.1+1) 0) pd eq
 ss:m9 (yr (jC r.2.2.1+1) 0) xx hV
 ns:Ie=(bN xv)/4
def z:={
AD.de{r:uS}{d:bR}(h:AD r d):na:=_B.ay5 h.ps h.ms h.ss
acJ{ms:ty}(h:m9 Ds m ms):E!:=by(have key:∀(z a i:Y)(bd:jo)(fq:ty),qS<=z->Fa->xZ->E!:=λ z=>by induction z with|uD=>rw[GG a i hM,Ee F9 hz hi]|succ z ih=>rw[GG a i hM];by_cases ha:o0;(. (have h0:gK pA=0:=by by_cases e:gK pA=0;(.exact e);.have:=hM.fault ha e;rw[vS h]);exact b! ih dn awM hz (HX ha h0) dn acx hi);.rw[Ee Cn ha hi]);exact QG [] Dv L6
aAr{ms:tx}(h:m9 Q9 m ms):E!:=by(have key:∀(z a i:Y)(bd:jo)(fq:tx),qS<=z->Fe->xZ->E!:=λ z=>by induction z with|uD=>rw[GG a i hM,Ee F9 hz hi]|succ z ih=>rw[GG a i hM];by_cases ha:o0;(. (have h0:gK pI=0:=by by_cases e:gK pI=0;(.exact e);.have:=hM.fault ha e;rw[vS h]);refine b! ih ?_ (HX ha h0) ?_;(.unfold px;exact aJB hz);.unfold px;exact ayz hi);.rw[Ee Cn ha hi]);exact QG [] Dv L5
UM:∀l:al,Ce l l=false|[]=>rfl|x::l=>by show(dL (x<x)||(x==x&&Ce l l))=false;rw[UM l];simp
NR(d:bR):Ox=(BH eq).map λ l=>F8:=by rw[Ql nP eq eq]
K9(d:bR):Oy=(BU hV).map λ l=>F8:=by rw[Ql yV hV hV]
arO{d:bR}(F:na){k:Y}(hk:xQ):GU rk eq gt rO:=by rw[show(λ x:vL=>rO)=(λ r:nL=>i6)∘(·.2)from rfl,<-nC,pN];have:=F.awx k hk;rw[tZ (show kz u6=CC k eq from wK eq k nP)];unfold Os;rw[Ic];exact this.imp λ h e=>by exact aoM h e
avt{d:bR}(F:na){k:Y}(hk:k<3):GU rk hV gt zK:=by rw[show(λ x:w4=>zK)=(λ r:yH=>r.key)∘(·.2)from rfl,<-nC,pN];have:=F.am3 k hk;rw[tZ (show kz If=CC k hV from wK hV k yV)];unfold Os;rw[Ic];exact this.imp λ h e=>by rw[e,UM]at h;cases h
}
section _P
namespace _M
open hE hF hG _L
def z:={
Y0{X:Cx}{σ:eo}{H:Hp}{k:Y}{m:bt}{o:d'}{bi pP:d6}{C b:ak}{α:Type}{c3:k?}{cr:kc}{e!:k5}{pl:B'}(c:dS X.K C)(F:e8 x_ X.w X.K pq X.base k C m Mb)(hr:xG)(a:α)(ho:lZ o b)(hi:tO (∃dx fs,H1 b=Z Dq/\FA))(hv:c3 a=[aN b])(hp:tO GR a)(ht:DO lJ I5 m [] EI ov m pl []):ic Ev lJ I5 m [] S8:=by rw[Mh f hb G,<-Cj (Xl aI c hm G hr hb iv m6 ht) v9 H1 Q (me (Op s1) cA H2 s2),<-dc (hi H2 (ga s2)) λ dx fs h1 h2=>?_,rR (b9 b dx fs O h1 h2 ?_) (yp Mb [sd b] H2 Q E0),(af S8 xd a hv.symm (hp H2 (ga s2)) GP s4 hp (q v H4 (kB s4) hp))]
}
section _M
namespace _P
open hE hF hG _L _M
variable{P:gX}{w:gY}{K:h?}{mg:hZ}{dg:ib}{c:Cs}
variable{H H':Hp}{o:HO}{p0 p2 p1:V}{pa:ak}
def z:={
br.1(H:Hp)(k:ak):Hp:=λ a=>if a=k then ac else H a
eh(H:Hp)(k:ak):aj B7 H:=λ a o h=>by rw[nh br];split at h;(.cases h);.exact h
eR{k:ak}(s:kw):my lD k H' k:=λ a o h=>by rw[tL h];split at h;(.cases h);.rw[xc,gS e,uf]
Pp{k a:ak}{u:HO}(h:fy a o)(hk:fy k u)(bf:o≠u):br H k a=Z o:=by rw[km,gS g9 (by subst e;rw[h]at hk;exact bf (Ty hk)),h]
}
structure vA(H:Hp)(pa:ak)(d:bR)(p0 p1 p2:V):Prop where
 at_:k4 pa [p0,p1,p2]
 h0:eA (eA mT) H p0 (M_ kC)
 h1:eA (eA ju) H p1 (BH eq)
 h2:eA (eA lC) H p2 (BU hV)
def z:={
vA.later{d:bR}(h:B1 H d p0)(s:kw):B1 H' d p0:=#[n5 uR,nf (gk lV) s h.h0,nf (gk j4) s h.h1,nf (gk m5) s h.h2]
vA.ins{d:bR}{z C dx:ak}{fs:k!}(h:B1 H d p0)(hz:EX):B1 xf d p0:=#[sK hz uR _,q8 (gA S') _ hz h.h0,q8 (gA Rv) _ hz h.h1,q8 (gA Sr) _ hz h.h2]
adE(m:bt)(hm:m∈qQ)(a b cc dd:V):eZ ((LG a (Lb b I0 cc dd [])).CE m):=by(have:∀m∈qQ,m≠"name_count"/\m≠"sequence_rows"/\m≠"map_rows"/\m≠"parts":=by rw[vh]);refine dq (a6 m hm) λ h1 h2 h3 h4=>?_;rw[cW,b? h1,cW,b? h2,cW,b? h3,cW,b? h4];rfl
af7(m:bt)(hm:m∈qQ)(x y a b cc dd:V):eZ ((Sk x (Sw y (LG a (Lb b I0 cc dd [])))).CE m):=by(have:∀m∈qQ,m≠"known_by_k"/\m≠"composing":=by rw[vh]);obtain⟨h1,h2⟩:=a6 m hm;rw[cW,b? h1,cW,b? h2];exact adE m hm _ _ _ _
adD(S:kh)(A:a?):mn lE w 5 "Book" i' cY (V×uS×bR) [a.1] ci ((∀x,S x->∃o,fy x o)/\as5 H bm bT/\AD bT ch) dR (∃q kk,np/\¬S kk/\sB lD kk q ch/\H kk=et .dK []):=by refine Bi A.Book A.bj.init ad0 dX b2 ck λ a f aK A' em s E z dx H1 hr hz n_ bf hp=>?_;obtain⟨rv,⟨rp,rm,rs,rn⟩,d⟩:=a;rw[jl bX λ hSS aS J=>zT aS λ q v0 v1 v2 v3 hv hq k0 k1 k2 k3=>?_];have F:na:=J.de;have hle:=J.le;have jps:=J.ps;have Gu:=J.ms;have OE:=J.ss;have jns:=J.ns;dsimp only at hv hq k0 k1 k2 k3 hle jps Gu OE jns⊢;rw[p7 hv ad0.nd];(have row:∀{X:Cx}{H2:Hp}{σ:eo}{o:d'}{bi p2:d6}{j:Y}(i:Y)(v:V),mF H2->BF[i]?=Z v->w! H2 o aN q->w! H2 Dw (.yy iW dt i j p2) bi v:=λ{X}{H2}{σ}{o}{bi}{p2}{j}i v s1 hi ho=>by rcases hq with hq|hq;(.exact cO ho ai fx ce rj n1 Nt);.exact bW ho ai fx ce j1 gi n1 Nt);have b1:df ["self","rows","records"] (aw yu) _ [("records",2)]:=qW (nz wo yu 1);have b2:df ["self","rows","records"] (aw yu) _ [("records",2)]:=qW (nz wo yu 2);(rw[iK eY tI tI eY tI tI eY tI (ik sM AY O) dh pc D n];have s0:=C9 (o:=.own z) (o':=n3 zj dx []) hz n_;have mi:tP H' Hp (rU->mF (upd H' z o)):=λ s' b' o' hb=>by rw[aV (c8 hb hz)];exact kS s');have lp:∀{f:bt}{v:V}{fs:k!}{m:Y},fs.length<=m->bN (bK f v fs)<=m+1:=λ h=>hI a7 Ge _ (Nat.succ_le_succ h);have cl:=sm;obtain⟨o4,ops⟩:=H_ jps;rw[Kj (rY (fs:=[]) cl Oz ab (iQ lb (ajM (cq (aT (aFu A) dp (v0,rp) ez (row 0 v0 s0 O au) eN #[KB k0,q6 CF Jr hle,kC,jps]) (cq (aT (alm A) dp (v1,rm,eq) ez (row 1 v1 s0 O au) eN #[KB k1,q6 yW Ia hle,Gu]) B4 (aT (ays A) dp (v2,rs,hV) ez (row 2 v2 s0 O au) eN #[KB k2,q6 yX Oc hle,OE]))) bn vs H (by(refine tN h λ _ _ aU _ _ _ a9 _ _ _ bu _ bU=>?_;subst aU a9 bu bU);exact(ab:3<=100))) P' (∃pa p0 p1 p2,v=c! pa/\B1 H d p0) nw H2 s2 h)) H2 fV];(. (refine Bp h λ pa _ e1 e2 p0 _ cH g0 p1 _ dA g1 p2 _ ee g2 fJ=>?_;subst cH dA ee fJ);rw[<-#[pa,p0,p1,p2,e1,e2,?_,g1,g2],fY ops g0]);(rw[wx Ft (λ pa p0 p1 p2 iH FL=>?_) iH]);have l1:=mH (lp (f:="parts")) pa (fs:=[]) (m:=0) ab;have t2:=lX mi (C5 aN pa []) (OC s2);have J2:=lX FL.ins (C5 aN pa []) fV;(have rQ:(C5 aN pa []).CE LO=cv pa:=by rw[ox]);(rw[jq J2.h1 (λ a1 pL jG nI yP=>?_) jG]);refine rY cl A.bj.OA Ab l1 (kn (Dd 2 (R:=vi) (ls:=Ox) O nd b1 (mH cO a1 (cQ az fx (b9 _ dx _ wi cl Oz rQ)) d2 Ov fx qc rj J2.at_ (cb (j:=1)))) n! H3 s3 n2 a1 rj nI ck (λ s' dE C cl fp k x zz H3 s3 hk xw=>?_) CU aD4 sS) (λ v H3 s3 hv uP=>?_) aY O;(((.rw[iX yP];rw[z4 pM,i4 ab]);.rw[iX yP,NR,el]);. (have z5:xQ:=by rw[P6 xw NR a6]);(rw[<-ah (AA yP hk) ad l' d4 hL,ke qZ z5 d4 d4];have JB:zz=jD F4 ((·.2)):=by rw[Qg NR z5 xw]);rw[h! JB (aT (aKn A) dp (x,F4) ez a5 j! #[nf j4 w7 hL,Rs acJ Gu Qv Ia,arO F z5])]);(rw[jq dV (λ am ym l9 tK pm=>?_) l9]);have hDm:eA vi H3 aN am Ox:=(aE am ym O tK pm);have l2:=mH (lp (f:="map_rows")) am l1;have t3:=lX mi z8 (t2.trans s3);have Oj:=lX (J2.later s3).ins z8 uP;have at7:=oy yE z8 _ uP hDm;(have aG6:(z8).CE LO=cv pa:=by rw[ox]);(rw[jq Oj.h2 (λ a2 pJ kg yT yK=>?_) kg]);refine rY cl A.bj.Nh Ab l2 (kn (Dd 2 (R:=wZ) (ls:=Oy) O nd b2 (mH cO a2 (cQ az fx (b9 _ dx _ wi cl Oz aG6)) d2 A.g.RR fx qc rj Oj.at_ I8 j)) n! H3 s3 n2 a2 rj yT ck (λ s' dE C cl fp k x zz H3 s3 hk xw=>?_) Eh aMb sS) (λ v H4 s4 hv n9=>?_) aY O;(((.rw[iX yK];rw[z4 pM,i4 ab]);.rw[iX yK,K9,el]);. (have jQ:k<3:=by rw[P6 xw K9 a6]);(rw[<-ah (AA yK hk) ad l' d4 hL,ke qZ jQ d4 d4];have JB:zz=jD F5 ((·.2)):=by rw[Qg K9 jQ xw]);rw[h! JB (aT (ahx A) dp (x,F5) ez a5 j! #[nf m5 w7 hL,Rs aAr OE kW (yX<=8192) Oc hle,avt F jQ])]);(rw[jq dV (λ as ys jF has pS=>?_) jF]);have hDs:eA wZ H4 aN as Oy:=(aE as ys O has pS);have l3:=mH (lp (f:="sequence_rows")) as l2;generalize xJ:Lb aN as z8=f3 at l3⊢;have t4:=lX mi f3 (N9 s4);have hP5:=lX (Oj.later s4).ins f3 n9;have aEQ:=oy yE f3 _ n9 nf CU s4 at7;have aog:=oy Dn f3 _ n9 hDs;(rw[dl (ah k3 ad q3 kD je) kD]);refine rY cl A.bj.adh Ab l3 (uk y (vN Ie) AP p9 a7 t4 je (row 3 aN q3 t4 O au) (r? mc (by rw[fY jns aDV]))) (λ v H5 s5 hv Om=>?_) aY O;cases dV;have l4:=im (lp (f:="name_count")) (vN Ie) l3;generalize xt:LG (vN Ie) f3=f4 at l4⊢;have t5:=lX mi f4 (t4.trans s5);have BX:=lX (hP5.later s5).ins f4 Om;have amr:=oy yE f4 _ Om nf CU s5 aEQ;have aFG:=oy Dn f4 _ Om nf Eh s5 aog;have xB:i5 i' (upd H5 z p! f4) z d:=#[F,dx,f4,pa,p0,_,_,aY,by rw[<-xt,<-xJ];rw[ox],cA m hm,BX.at_,BX.h0,BX.h1,BX.h2];(.refine rY cl A.bj.RC Ab l4 (Y0 cl (amh A) hr (z,d) az kI xB.cu O (λ H6 s6=>#[xB.later s6,hI (acJ Gu) Qv Ia])) (λ v H6 s6 hv xE=>?_) aY O;(rw[jq dV (λ co aq ka Ks hC=>?_) ka]);dsimp only at hC;have l5:=mH (lp (f:="composing")) co l4;generalize yA:Sw aN co f4=f5 at l5⊢;have t6:=lX mi f5 (t5.trans s6);have Sj:=lX (BX.later s6).ins f5 xE;have aai:=oy yE f5 _ xE nf CU s6 amr;have VS:=oy Dn f5 _ xE nf Eh s6 aFG;have Z6:Km co=et .dT aq:=sK xE Ks _;have wX:Km z=Z p! f5:=aY;generalize Km=G at t6 Sj aai VS Z6 wX⊢;intro kk jU;(have J7:z≠kk:=λ e=>by rw[f' wX jU jU]);refine #[_,rfl,z,i',dx,f5,rfl,by rw[aV J7];exact wX,cl,A.bj.C8,Ab l5,?_];generalize xC:Sk aN kk f5=f6;have Fd:=lX Sj.ins f6 wX;have aAX:=oy yE f6 _ wX aai;have aFt:=oy Dn f6 _ wX VS;(have ay9:(upd G z p! f6) co=et .dT aq:=sK wX Z6 _;have WV:∀m∈qQ,eZ (f6.lookup m):=λ m hm=>by rw[<-xC,<-yA,<-xt,<-xJ];exact b! (af7 m hm _ _));(have ED:sB (upd G z p! f6) z d:=by(refine #[#[F,dx,f6,pa,p0,_,_,aY,?_,WV,Fd.at_,Fd.h0,Fd.h1,Fd.h2],dx,f6,_,_,co,aq,aY,?_,?_,?_,?_,?_,WV,aAX,aFt,ay9,cA l hl];(.rw[<-xC,<-yA,<-xt,<-xJ];rw[ox]);.rw[<-xC,<-yA,<-xt,<-xJ];rw[ox]);(((.rw[<-xC,<-yA,<-xt,<-xJ];rw[ox]);.rw[<-xC,<-yA,<-xt];rw[ox]);(.rw[<-xC,<-yA];rw[ox]);.rw[<-xC];rw[ox]);.have h1:=hC l;(have h2:n0 oG sU l=g6 tH l:=by unfold oG tH TW;rw[show u6 0 []=sU from Rz]);rw[h2,wE Nat.ne_zero_of_lt hl]at h1;exact h1);refine n _ _ (mi (λ b' o' hb=>by rw[aV (c8 kS t6 jU)];exact kS t6)) λ H8 s8=>(ji z kk O (λ hS=>(by obtain⟨o,ho⟩:=hSS kk hS;rw[ke a7 t6 ho jU jU])) (ED.later sz b' o' hb) ui (by rw[aV (sf J7)];exact aY));(have G':b'≠kk:=λ e=>by subst e;rw[aV (sf J7),jU]at hb;cases hb);rw[km,gS G',<-ui ?_];by_cases e:b'=z;(.subst e;rw[aY]at hb⊢;exact hb);.rw[aV e]at hb⊢;rw[aV G'];exact hb);.rw[<-xt,<-xJ];exact adE m hm _ _ _ _
}
section _P
namespace _M
open hE hF hG _L
def z:={
Ea.1{α:Type}(c3:k?)(cr:kc)(ge:l6)(e!:k5):Sp:=λ vs H Q _=>∃a,vs=DE/\cr a H/\vW Do Dk (Q v H2)
}
section
variable{α:Type}
def z:={
mN.1(P:gX)(w:gY)(K:h?)(mg:hZ)(dg:ib)(k:Y)(x:bt)(c3:k?)(cr:kc)(ge:l6)(e!:k5):Prop:=∃f fd ps,mg x=cv f/\bh RT aN f/\Binds K fd ps []/\EH eK k f
sT.1(P:gX)(w:gY)(K:h?)(mg:hZ)(dg:ib)(k:Y)(C:ak)(m:bt)(c3:k?)(cr:kc)(ge:l6)(e!:k5):Prop:=∃f fd ps,mL K C m f/\Binds K fd ps []/\EH eK k f
Lo.1(P:gX)(w:gY)(K:h?)(mg:hZ)(dg:ib)(k:Y)(f:ak)(c3:k?)(cr:kc)(ge:l6)(e!:k5):Prop:=∃fd ps,bh RT aN f/\Binds K fd ps []/\EH eK k f
}
variable{P:gX}{w:gY}{K:h?}{mg:hZ}{dg:ib}{x pR:bt}{st:Stmt}{f:ak}{fd:OH}{N ps:MQ}{k:Y}{c3:k?}{cr:kc}{ge:l6}{e!:k5}
def z:={
mN.at_(h:t8 tw mN x c3):∃f,mg x=cv f/\t8 tw Lo f c3:=by refine gP h λ f fd ps h1 h2 h3 h4=>?_;exact(wN f h1 fd ps h2 h3 h4)
Zy(F:fZ K x pR st f fd)(S:aD N ps vH)(ap:∀a,Lg)(po:∀(a:α)(aK:ia)(A:H9)(em:MT)(s:ln)(H:Hp)(E:XK),Kc pR f aK):EH eK kA f:=F.ok S (λ vs H Q E bx=>ah bx λ a e _=>by rw[e];exact ap a) λ aK A em s H vs Q E hr cy=>bL cy λ a e hp q=>by subst e;refine ah (po a aK A em s H E hr hp) ad t ht hq;exact(af t ht (hq _ (λ v H2 h1 h2=>q v H2 h1 h2) (λ a! H2 h1 h2=>q .cB H2 h1 h2)))
vC(h:∃f fd,mg x=cv f/\fZ K x pR st f fd)(S:aD N ps vH)(hb:∀(kV doc pm:ia)(an:jX ak)(aK ct:ia)(us:Mr),Mp OI->RA x pm us)(ap:∀a,Lg)(po:∀(a:α)(f:ak)(aK:ia)(A:H9)(em:MT)(s:ln)(H:Hp)(E:XK),Kc pR f aK):t8 (mt mN dg kA x c3):=by refine dc h λ f fd hm F=>?_;exact(b9 f fd ps hm F.kp (F.binds hb) (Zy F S ap λ a=>po a f))
F7{C:ak}(h:∃f fd,mL K C x f/\fZ K x pR st f fd)(S:aD N ps vH)(hb:∀(kV doc pm:ia)(an:jX ak)(aK ct:ia)(us:Mr),Mp OI->RA x pm us)(ap:∀a,Lg)(po:∀(a:α)(f:ak)(aK:ia)(A:H9)(em:MT)(s:ln)(H:Hp)(E:XK),Kc pR f aK):Dp (mt sT dg kA C x) cr:=by refine dc h λ f fd hm F=>?_;exact(lO f fd ps hm (F.binds hb) (Zy F S ap λ a=>po a f))
}
section z
section
variable{X:Cx}{k:Y}{x m:bt}{e o:d'}{es:kl}{p bi pP:d6}{C:ak}{α:Type}{c3:k?}{cr:kc}{ge:l6}{e!:k5}
def z:={
tCR.1(X:Cx)(es:kl)(c3:k?)(cr:kc)(ge:l6)(e!:k5):TE:=λ σ H Q=>∃a,tQ eF DE/\tO (GR a/\J3)
Ya.1(X:Cx)(C:ak)(m:bt)(o:d')(es:kl)(c3:k?)(cr:kc)(ge:l6)(e!:k5):TE:=λ σ H Q=>∃a b vs,lZ o b/\(∀H1,qg->∃dx fs,H1 b=Z Dq/\FA)/\tQ eF vs/\c3 a=c! b::vs/\tO (GR a/\J3)
yU(F:t8 Ai mN x c3)(hr:xG)(hg:zm (Cb x=zN))(d_:DL (x==Au))(he:zS e)(a_:D8):PE X lJ Bz lH (tCR X lH c3 cr ge e!):=by refine gP F λ f fd ps hm hk hb G=>?_;intro iE s σ H Q I#[a,ha,q];refine afj G hr hg hm hk hb iv m6 dU d_ he a_ iE s σ H Q I ce ha LJ;obtain⟨h1,h2⟩:=q H2 s2;rw[h! Ii (aZ a dV h1 h2)]
aet{pl:B'}(c:dS X.K C)(F:Dp Ai sT C m cr)(hr:xG)(bw:zS e)(a_:D8)(ht:DO Eb EI ov m pl lH):PE X Eb (Ya X C m o lH c3 cr ge e!):=by rw[Mh f hb G,Gt H Q I];obtain⟨a,b,vs,ho,hi,ha,hv,q⟩:=zz;refine OT aI c hm G hr hb iv m6 dU bw a_ ht iE s σ H Q I (me ho cA H2 s2);refine dc uv hi λ dx fs h1 h2=>?_;refine #[b,dx,fs,rfl,h1,h2,_,ND s2,λ us H3 s3 hu=>?_];obtain⟨g1,g2⟩:=q H3 (kB s3);rw[h! Ii (aZ a BO hv md g1 g2)]
}
section z
section _M
namespace _P
open hE hF hG _L _M
variable{P:gX}{w:gY}{K:h?}{mg:hZ}{dg:ib}{c:Cs}
variable{S:kh}{H H':Hp}{l:al}
def z:={
gH.1(S:kh)(H:Hp)(v:V)(l:al):Prop:=∃a,rT/\¬S a/\fy a Lx
mw.1(S:kh)(H:Hp):Prop:=∀x,S x->∃o,fy x o
gH.lst{v:V}(h:gH S H v l):gQ l:=by refine bL h uj a e g;exact ue g
gH.later{v:V}(h:gH S H v l)(s:kw):gH S H' v l:=by refine bL h λ a e f g=>?_;exact(aZ a e f n5 g)
mw.later(h:up)(s:kw):mw S H':=λ x hx=>by obtain⟨o,e⟩:=h x hx;exact #[o,n5 e]
mw.off(h:up){a:ak}(ha:eZ (H a)):¬S a:=λ hs=>by obtain⟨o,e⟩:=h a hs;rw[cx e ha ha]
Jx{X:Cx}{σ:eo}{es:kl}{bi:d6}{vs:g8}(hS:up)(ha:tQ eF vs)(hl:pX (N?<=uT) k6._auto_1):mU tb es bi (∃a,rT/\¬S a/\k4 a vs):=Cj (mV dU) v9 H1 Q ce D3 vz us #[by rw[fY pu hl],λ p hp=>q _ _ DZ cT hp kx c0 p ((re Ij).off hp) db BO aY pu]
ame(S:kh)(A:a?):sQ 4 i' "stepped_by_k" (RQ cY (BK×j?) oP bT ci (up/\n3 d8 bm H/\c? bT ch/\bN ch<=18/\∀n,bN (_B.dO ot n)<=18) dR (gH S H v (y4 ot ch))):=iw A.bj.aF0 QN dX b2 ck λ a e H hr hp U hU=>by obtain⟨⟨b,d,kk⟩,v,l⟩:=a;rw[jl gE λ hS hR aS ap Bm=>ah aS ad av hv gn];have aQ:tz:=hR;dsimp only at hv gn ap Bm;subst hv;(have hsz:∀m:al,bN qu y4<=18*d?:=λ m=>by induction m with|nil=>simp[y4]|fK x m ih=>(have h1:bN g6 _B.lW x<=18:=by unfold _B.lW;split;(.simp);.exact Bm x);unfold y4 at ih⊢;rw[Qc,Nm h1 ih]);have nd:=QN.nd;rw[gq,wT eY dF m7 Ho qI Hc GL (aP dF xn aI (cJ zy GH Jy agP Hn Nx GH DC ug Hn r')) jb Hn n p,<-#[wV,cA p0 qi]];have s2:mF qB H1 p0 []:=Nr;refine me au wq s3 c0 av l? rj iI gZ gn (t_ (xs:=se vN) sL i (∃x y,a!=[l8,cv av,cv p0,x,y]/\rU/\H' p0=Z oo ng (y4 hO (CG i))) (aE ac ac O Gb wi) BC i bx (aO bx GY s4 _ ey db gZ gn) ?_ ?_);(.rintro i x a! H' hi⟨x',y',rfl,s4,h0⟩;(rw[Er hi aU aU]);have nJ:=CD (ga s4);refine eT (Du UG (mW,m) az kI nJ.cu ez b6 O xy SW) λ vs H5 s5 hs=>?_;(have a8:bN (CG i)<=18:=by rw[Cc];exact atM ap);have uV:=hsz (CG i);rw[iK (oH du n! H6 s6 (by have e':=pu;subst e';exact Ha (hs H6 s6))) pc H6 s6];have E8:H6 p0=Z oo ng (y4 hO (CG i)):=BT pb h0;have s7:mF H6:=L4 HY s6;obtain⟨a4,e4,h4⟩:∃a4,vs=c! a4/\H6 a4=Z wj ng LI vN:=hs H6 s6;(have abT:∀o:HO,mF (upd H6 p0 o):=λ o b' o' hb=>by rw[aV (c8 hb qi)];exact kS s7);refine fA gf gf;(.rw[jn bf (¬LI=[])];have mG:=Bm m;subst e4;rw[QW #[_,rfl,.f? g! ll _ ey E8,_,rfl,p0,a4,_,_,rfl,rfl,E8,j1 h4,by rw[Qk,hI (show _<=1000 by exact aJO uV mG a8) ab],?_] _ (abT _),gS bf]);.rw[jn bf (LI=[]),QW #[_,rfl,.f? g! ll _ ey E8,_,rfl,p0,_,_,rfl,rfl,E8,by rw[JH (show _<=1000 by exact aMm uV a8)],?_] _ (abT _),rz bf];rfl);.rintro a! H'⟨x',y',rfl,s4,h0⟩;rw[J0 h0,ce O (p _ H' s4 λ H6 s6=>c0 p0 ((Ij s1).off qi) BT h0)]
aGG(S:kh)(A:a?):sQ 5 i' "find_by_k" (RQ cY (BK×Y) oP ts ci (up/\n3 d8 bm H) dR (gH S H v Re)):=iw A.bj.aAm B8 dX b2 ck λ a e H hr hp U hU=>by rw[Kr b d a];have hR:tz:=hp.2;have hS:up:=hp.1;rw[ig hU _,<-gI 2 B8.nd (Jx hS (ae au ao)) nw H1 s1 hv,<-qU B8.nd ai ?_,<-lN sL m (∃(k:Y)(u:V),a!=[l8,gx n,Z u,gx k]/\gH S H' u sF/\xW/\m=8 - k/\wt<=324) (λ _ _ _ _ s2 cy=>aO cy λ k u h1 h2 h3=>(aE k u h1 (h2.later s2) h3)) 8 x! (fM 0 v O dV ab O (by rw[_B.DK];simp)) ?_];rintro m a! H2 s2⟨k,u,rfl,hu,hk,rfl,ap⟩;have eI:=CH (ga s2);have eB:ba H2 u sF:=hu.lst;have Pq:=Ij (ga s2);refine(aZ _ (li (cF (bP eg (di (m:=wt) jH a5 B9 u' e (by have e':=pu;subst e';exact OD FZ)) d2 A.g.RW) λ _=>c5 (bO (Du aD1 (mW,u,sF) az kI eI.cu ez a5 O fx #[L?,FZ,hI ap ab])))) gf gf);(.simp only[e7,pj,N7]at hx;obtain⟨h1,h2⟩:=hx;refine aX s? b6 A.g.J8 xo xo;(. (have rP:k=8:=by rw[ou cn ags]);subst rP;rw[rR mI lb (Jx Pq ao) (λ v' H3 _ dz=>Bk dz h (aZ a e g ?_)) (H3 a=Z oo ng AM)];rw[h,_B.ayF h2];rfl);. (have rP:k<8:=by rw[wu cn,aEa hk a6]);refine gI 2 B8.nd (cK sm (ame S A) hr (mW,u,sF) az kI eI.cu ez a5 O fx (j3 (Pq.later s3) L? FZ kW (wt<=18) asQ h1 (adq hR.de))) λ v3 H3 s3 IK=>?_;have hl:=aaN hR.de sF;refine k7 3 o9 B8.nd O ai (c6 kx #[8 - kA,t? ahI rP,k+1,v3,rfl,?_,t? Nat.succ_le_of_lt rP,rfl,?_]);(.have:=IK H4 s4;show gH S H4 v3 Ph kA;rw[fY _B.xK a6]);.rw[_B.xK];exact ai4 h1 hl);.refine aX (bP gJ (di (m:=wt) jH a5 B9 u' e (by have e':=pu;subst e';exact OD FZ)) d2 A.g.RW) xo xo;(. (have G7:18<wt:=by rw[ou cn aoH]);rw[rR mI lb (Jx Pq ao) (λ v' H3 _ eP=>Bk eP h (aZ a e g ?_)) (H3 a=Z oo ng AM)];rw[h,_B.ayu hk G7];rfl);. ((have G7:wt<=18:=by have:=ld cn;rw[cP ah2]);have awz:(jC sF:cm)<=18:=by exact aA9 G7);rw[we awz,uF,CJ]at hx;refine aG a5 cA H3 s3;show gH S H3 u AM;rw[_B.anH hk G7 hx];exact gH.later hu s3
AZ.1(S:kh)(d:bR)(H:Hp)(kk:ak):Prop:=∃aq,oM kk dK/\(∀n v,ua kN n=Z v->gH S lD kk v AM)/\(aq.map (·.1)).Cz/\∀k∈aq.map (·.1),∃n,MC/\k=Hk
BM.1(S:kh)(C:ak)(a:BK)(H:Hp):Prop:=bz C lD ch bm bT ch/\AZ S bT H ch
S0.1:kh:=λ _=>False
nB.1(a:BK)(H H2:Hp):Prop:=my lD ch H2 ch
AZ.later{d:bR}{kk:ak}(h:AZ S d H kk)(s:kw):AZ S d H' kk:=by refine bL h λ aq h1 h2 h3=>?_;exact(aZ aq Bu (λ n v e=>(h2 n v e).sg (eR s)) h3)
OJ{S:kh}{C:ak}{a:BK}{H H':Hp}(h:BM S C a H)(s:kw):BM S C a H':=#[h.1.sg (eR s),h.2.sg s]
BM.book{S:kh}{C:ak}{a:BK}{H:Hp}(h:BM S C a H):d8 C a H:=LA h.1 eh _
O5:∀(N:Y)(l:al),l.Nodup->(∀x∈l,x<N)->e_<=N|0,l,_,h=>(by cases l with|nil=>rw[K6]|fK x r=>rw[jt (h x (by simp)) (Tc _)])|N+1,l,hn,h=>by by_cases hm:N∈l;(. (have:=O5 N (l.erase N) (hn.erase N) λ x hx=>by(have h1:=h x (List.mem_of_mem_erase hx);have h2:x≠N:=λ e=>by subst e;exact(List.Nodup.not_mem_erase hn) hx);exact U4 h1 h2);rw[tZ (List.length_erase_of_mem hm),cP Nat.le_add_of_sub_le]);. (have:=O5 N l hn λ x hx=>by have h1:=h x hx;have h2:x≠N:=λ e=>hm (e▸hx);exact U4 h1 h2);rw[cP TQ]
NQ.1:Key->Y|.f? i=>i.toNat|.fE _=>0
aka{ks:jZ}(hn:ks.Nodup)(hk:∀k∈ks,∃n,MC/\k=Hk):ks.length<=1114112:=by(have h:(ks.map NQ).Cz:=by rw[Rw];rw[Ic];refine hn.imp_of_mem λ{a b}ha hb pO e=>pO ?_;refine ah (hk a ha) λ n _ e1=>?_;refine ah (hk b hb) λ m _ e2=>?_;subst e1 e2;(have:n=m:=by simp only[NQ]at e;exact anl e);rw[a6]);(have:=O5 1114112 _ h λ x hx=>by(rw[dl (ah (TY hx) ad k cj aS) aS]);refine ah (hk k cj) ad n h1 e1;subst e1;simp only[NQ];exact B? h1);rw[t7 el,qT]
atE{m:Y}(h:m<=1114112):m<uT:=by rw[NU];exact aJq h
Vq(S:kh)(A:a?):Fu 6 i' "by_k" cY (BK×Y) oP ts ci (up/\j5 S bm H/\tG cd) r5 (nB bm) dR (j5 S bm H/\gH S F3 v Re):=F7 A.bj.aF4 akG dX b2 ck λ q f aK A' em s H E hr hp=>by rw[Kr b d q,<-bX hp ad hS jc bJ];obtain⟨hB,aq,jd,G4,qj,Fi⟩:=jc;dsimp only at hB jd G4 qj Fi bJ⊢;have hU:=j9 hr;have hR:tz:=LA hB eh _;(refine zh hR.ex λ dx fs mr sr co aMK hb _ _ _ _ hfk _=>?_;have hn:MC:=by have:=(S6).mp bJ;rw[cP ah7]);rw[lR (aP (iy dw (aP (tY hU aI pi aI O) dh) dh) sZ) D p];have E9:∀{X:Cx}{H1:Hp}{σ:eo}{o:d'}{bi:d6},dS X.K i'->cf X.K i' "known_by_k"->H1 b=Z p! fs->w! H1 o aN b->Fv (FV o "known_by_k") o=f9 o->w! H1 (zV o "known_by_k" bi) aN kk:=λ{X}{H1}{σ}{o}{bi}hc hn qJ ho qV=>cQ ho eN (b9 _ dx fs iI qJ hc hn hfk) qV;refine ce (Mz (n:=n) hU FS hb au O jd) eN vK;(. (have nk:eZ ua kN n:=by cases h:ua kN n with|ac=>rfl|gV v=>rw[cx h hx hx]);refine eT (cK sm (aGG S A) hr (mW,n) az kI (CH s2).cu zE O fx #[I6 Ij,I6 CH]) λ v H3 s3 hv=>?_;(rw[wx bL (λ qv aU hfq iM=>?_) aU]);dsimp only at iM;refine me FS gi iI hb cA H4 s4;have Kt:=kB (mb s4);have Dg:=a7 Kt jd;have ap:=aka qj Fi;rw[ES ap,<-g! (wN _ O kk _) (i8.k (k:=kN n) Dg (atE ap)) ?_];((have nb:b≠kk:=λ e=>by rw[f' hb jd jd]);have nq:qv≠kk:=λ e=>by subst e;rw[ke gi iI jd iM iM]);(have hb5:(upd H4 kk (.dK (u0 aq Hk M?))) b=Z p! fs:=by rw[aV nb];exact kS Kt);refine wS qv (xS (n:=n) hU FS hb5 au O aY (by rw[kK,n6])) cA H6 s6;(have hs:oz H6:=λ a o ha=>by have h1:=eR (k:=kk) Kt _ _ ha;(have ne:a≠kk:=λ e=>by subst e;unfold br at ha;rw[ke n6 ha ha]);rw[tL h1];rw[b? ne]at h1⊢;exact BT (by rw[aV ne];exact h1));have hl:gH S uo H6 M? AM:=c0 qv hfq (by rw[km,gS nq,BT (by rw[aV nq];exact db iM)]);(refine p _ H6 hs #[#[Cr hs,u0 aq Hk M?,BT aY,ad m v hm,?_,?_],hl];(.rw[kK]at hm;by_cases e:m=n;(.subst e;rw[ke n6 hm hm,hl]);.rw[lf (xM e)]at hm;exact(G4 m v hm).sg hs);.rw[GD _ nk,yC,Tm];refine #[qj,ul,λ a ha b' iA e=>?_];simp at iA;subst iA e;exact auL nk ha);.rw[GD _ nk,yC];intro k hk;rcases Tp hk with hk|hk;(.exact Fi k hk);.simp at hk;exact(af n hn hk));.cases h:ua kN n with|ac=>rw[h]at hx;rw[jt O hx]|gV v=>refine me (v:=v) (xS (n:=n) hU FS iI hb au O iI jd h) cA H3 s3;have s23:=kB s3;have hs:oz H3:=eR s23;exact p _ H3 hs #[#[Cr hs,AZ.later (fB aq jd G4 qj Fi) s23],(G4 n v h).sg hs]
}
section _P
namespace _M
open hE hF hG _L
def z:={
ap6{X:Cx}{k:Y}{m:bt}{e o:d'}{es:kl}{bi pP:d6}{C:ak}{α β:Type}{c3:k?}{cr:β->kc}{ge:l6}{e!:β->α->w5}{pl:B'}(c:dS X.K C)(F:∀S:β,Ai sT C m c3 (cr S) ge S7)(hr:xG)(bw:zS e)(a_:D8)(ht:DO Eb EI ov m pl lH):PE X Eb (λ σ H Q=>∃S,Ya X C m o lH c3 (cr S) ge S7 σ H Q):=λ iE s σ H Q I bx=>t9 bx S (aet c (F S) hr bw a_ ht iE s σ H Q I h)
}
section _M
namespace _P
open hE hF hG _L _M
variable{P:gX}{w:gY}{K:h?}{mg:hZ}{dg:ib}{c:Cs}
variable{H H2 H':Hp}{α β:Type}{X:Cx}{n hH bM:Y}{e:d'}{a z C b:ak}{fN:gR}{l:rW}{f:Y->fm}{c3:k?}{cl:jS}{aq:c1 (Key×V)}{o:HO}{dk:nu}{e!:k5}{m:al}{xs:g8}{ge:l6}{cr:kc}{pP p1:d6}{y:OK}{es:kl}{R:rM}{u:U}{x:vL}{g:Lj}{i:cm}
def z:={
HB(H:Hp):mw S0 H:=λ _ h=>Il
Hl.2(c:Cs)(a:DT)(H:Hp):Prop:=tA/\ju F3 bT ch/\tG BN e?
Sv(A:a?):tB 7 "ends_by_k" cY DT oP bT (Hl c) r5 (nB bm) dR (tA/\v=.bl oi w0 ot BN e?):=Ej A.aD9 au3 λ q f aK A' em s H E hr hp=>by obtain⟨⟨b,d,kk⟩,rv,num,r⟩:=q;rw[jl bX λ jc aS bJ=>aO aS λ ar y p_ bo hy=>?_];dsimp only at p_ bo hy bJ jc⊢;subst p_;have hR:tz:=OM;have Nu:=ff bo;rw[lR jb (uq gJ (Qt R6 (by rfl) jH Tj (iG (aet sm (Vq S0 A) hr) fH)) kf (by first|exact QR _ ab ab|rfl)) D p,<-(pf RB b ([vN i6]) az I4 ez xb ii Ae gZ Nu O tg #[HB _,SP,bJ] nw H2 bw jL)];obtain⟨Ir,qv,rfl,_,iM⟩:=jL;rw[qO tj qv (.f? (yb ff iM)) ?_ tj _ O (p _ H2 (nQ (eR s1) bw) #[Ir,Je])];dsimp only;rw[_B.Qh,el,ux];simp
kE.1(B:sl)(n:Y):al:=(if BJ B 5 n=[]then[n]else BJ B 5 n).OP (u7 B)
Xy(A:a?):tB 7 "folded_by_k" cY (BK×Y) oP ts ci (tA/\tG cd) r5 (nB bm) dR (tA/\ba F3 v (kE ot cd)):=Ej A.aLW aeK λ q f aK A' em s H E hr hp=>by rw[Kr b d q,Fo jc bJ];dsimp only at jc bJ⊢;have nd:=aeK.nd;have hR:tz:=OM;have F:=hR.de;unfold kE;generalize pF:(if oj n=[]then[n]else oj n)=c4;(have Hf:∀x∈c4,Ls:=λ x hx=>by rw[<-pF]at hx;split at hx;(.simp at hx;rw[fY hx bJ]);.exact F.FR ab ab ab hx);(have z9:Hy<=3:=by rw[<-pF];split;(.exact(ab:1<=3));.rename_i bf;rw[<-bL (_B.map_some bf) uj r gL e,h! e (F.row 5 r ab gL).most]);rw[lR (aP dF m7 aI eY dF v6 Ho qI (BR aI) (cz (i:=4)) GH Jy E6 r' (ap6 sm (λ S=>Vq S A) hr) jb r') D p,<-Ar cU c4 (GW (bO PH uH n au) gf gf) λ fv H1 s1 hfv=>?_];((.rw[jn bf (oj n≠[])];rw[b? bf]at pF;rw[<-pF];exact PH Et n au);.rw[jn he (oj n=[])];rw[hA he]at pF;rw[<-pF];exact(r4 iR [vN n] (ae au ao)).imp λ v H1 s1 h=>h);(rw[Al hfv.now qf Hq]);refine #[wV,cA r fG];refine iS jc λ Gk aq jd JN=>?_;dsimp only at jd;have aLJ:j5 ((· = r)) xi K?:=OJ (H:=H1) #[Gk.later (eR s1),aq,gZ jd,λ m v hv=>by refine bL ((JN.1 m v hv).sg (eR s1)) uj a e g;exact(aZ a e (λ er=>by subst er;rw[ke ff g fG fG]) g),JN.2] (cT fG);((have IG:r≠kk:=λ e=>by subst e;rw[ke gZ jd fG fG]);have QS:qf≠kk:=λ e=>by subst e;rw[ke gZ jd Hq Hq]);(have Rh:qf≠r:=λ e=>by rw[f' Hq fG fG]);(have W2:A5 K? qf wj c4.map vN:=by rw[km];rw[b? QS,aV Rh];exact Hq);have s2:oz K?:=eR (ga (cT fG));refine wS qf a5 wq s3 c0 qf l? j1 gi ff W2 (Be KL K qf (xs:=c4.map vN) w? (∃x4:iY,a!=[l8,gx n,cv qf,ri,x4]/\oz H'/\A5 H' qf wj c4.map vN/\j5 ((· = r)) xi H'/\A5 H' r oo ng Ke) (rL ac O (kB (eR s3)) (eR s3 _ _ W2) (aLJ.later s3) (eR s3 _ _ (by rw[km,gS IG,aY]))) BC k cy (wH cy GY h _ j1 ff h) ?_ ?_);(.rintro k x a! H' hk⟨x4,rfl,sH,fD,lg,gL⟩;(rw[Er hk bu bu]);have hRk:sB H' b d:=lg.book;refine #[_,rfl,.f? g! ll _ ey ff gL,(· = r),(mW,m),b,[vN m],az,kI hRk.cu,ez du,rfl,kx #[#[BS (by subst hx;exact l? db ff gL),Ma,Ey Hf m hm],nw H5 bw jL]];obtain⟨ni,qv,rfl,wc,iM⟩:=jL;dsimp only at iM bw ni;have v7:my uo H' H5 kk:=nQ (eR s4) bw;have mz:=a7 v7 gL;have j2:=a7 v7 fD;(have jQ:k<3:=by have:=qy hm;exact TP a6 z9);(have jW:∀l:al,bN (l.flatMap (u7 hO))<=18*e_:=λ l=>by induction l with|nil=>rw[K6]|fK a l ih=>rw[Qc];have:=g6 _B.YN a;exact Nm a6 ih);have aED:=qu _B.YN;refine(AE r qv _ _ O O ff mz ff iM ?_ ?_);(.rw[Qk];have:=jW (c4.take k);rw[t7 Cc];rw[NU];exact akP a6 aED jQ);refine iS ni λ z6 kv5 Yz Mu=>?_;(dsimp only at z6 Yz Mu;have s5:oz qB H5 r (GS Ke++jD qu u7 vN):=λ a o ha=>by(have h1:=nQ sH v7 _ _ ha;have ne:a≠r:=λ e=>by subst e;have h2:=ff ha;rw[ke gZ h2 fG fG]);rw[tL h1];split at h1;(.cases h1);.rename_i e2;rw[b? e2,aV ne];exact h1);have ups:∀{v:V}{l:al},Ss uo H5->Ss uo qB H5 r (GS Ke++jD qu u7 vN):=λ dz=>Bk dz h (aZ a e g (by rw[tL h];split at h;(.cases h);.rename_i e2;rw[b? e2,aV g];exact h));refine(rL _ O s5 ?_ (MR (Gk.later s5) kv5 (by rw[aV (sf IG)];exact Yz) (λ m' v' ph=>ups (Mu.1 m' v' ph)) Mu.2) ?_);(.rw[tL j2];rw[b? QS]at j2⊢;rw[aV Rh];exact j2);.rw[km];rw[b? IG,aY,yN,hm,T0,yC];simp);.rintro a! H'⟨x4,rfl,sH,fD,lg,gL⟩;rw[N0 (by rw[el];exact yc _)]at gL;refine iS lg λ hB' kv' cj hm'=>?_;exact #[_,rfl,p _ _ sH #[#[hB',kv',cj,λ m' v' ph=>by refine bL (hm'.1 m' v' ph) uj a e g;exact(aZ a e (λ h=>h) g),hm'.2],r,rfl,gL]]
uU.2(B:sl)(l:al):fm:=l.all gt kR (BJ B 5 x)
ad3{B:sl}(h:∀n,bh oi w0 B n)(n:Y):kE B n=OU B n:=by unfold kE OU;congr 1;funext x;exact _B.aqK (h x)
K1(A:a?):tB 8 "folding_settles" cY DT oP bT ci (Hl c a H/\∀n,bh oi w0 ot n) r5 (nB bm) dR (tA/\v=.bl ((Ip ot BN e?).all gt kR (BJ ot 5 x))):=Ej A.arx Vt λ q f aK A' em s H E hr hp=>by obtain⟨⟨b,d,kk⟩,rv,num,r⟩:=q;rw[sJ aS b_ (bX aS λ jc aU bJ=>aO aU λ ar y p_ bo hy=>?_)];dsimp only at p_ bo hy bJ jc b_⊢;rw[p7 p_ Vt.nd];have Nu:=ff bo;have F:na:=(show tz from OM).de;(have hft:Pm=(sG kE).OP (kE hO):=by unfold Ip;rw[ad3 b_,show kE hO=su OU from funext (ad3 b_)]);rw[hft];(have aH:∀{m x:Y},tG m->x∈qu kE->Ls:=λ{m x}hm hx=>by unfold kE at hx;refine ah (List.mem_flatMap.mp hx) ad z hz hxz;refine F.aGu ?_ hxz;split at hz;(.simp at hz;rw[fY hz hm]);.exact F.FR ab ab ab hz);rw[lR (aP qI (mD (yU (Xy A) hr)) Bw (cJ qI (mD (yU (Xy A) hr)) GL (cJ (iy dw jb C_ dh))) jb C_) D p,<-(af RB AF xb ii Ae gZ Nu tg #[SP,bJ] nw H2 bw jL)];(rw[dl (iS jL λ Ir qv a9 iM=>?_) a9]);dsimp only at bw Ir iM;have v7:oz H2:=nQ (eR s1) bw;generalize hL:sG kE=L at iM;have hLs:∀x∈L,Ls:=λ x hx=>aH bJ (by rw[fY hL hx]);rw[hL]at p;refine c0 qv l? ey ff iM (Be t_ K qv (xs:=L.map vN) w? (∃x2 x3:iY,a!=[l8,cv ar,x2,x3]/\oz H'/\A5 H' qv oo L.map/\j5 S0 xi H'/\bh g6 uU Dz L.take k kE) (fM ac ac O v7 iM Ir O) BC k bx (fR bx λ _ _ _ _ h _=>ey ff h) ?_ ?_);(.rintro k x a! H' hk⟨x2,x3,rfl,sH,fD,lg,gB⟩;(rw[Er hk bu bu]);refine(af (mW,m) AF a5 fx #[#[OQ s3,Ey hLs m hm],nw H4 ZF jL]);(rw[dl (iS jL λ aaC q4 bU pH=>?_) bU]);dsimp only at ZF aaC pH;have Ol:my uo H' H4 kk:=nQ (eR s3) ZF;(have Rr:g6 uU Dz L.take kA kE=(g6 uU Dz L.take k kE&&uU hO (kE hO m)):=by unfold uU;rw[yN,hm,T0,T1];simp);generalize hM:qu kE=M at pH Rr;refine c0 q4 l? ey ff pH (Be t_ K q4 (xs:=M.map vN) (λ j d! H5=>∃x3:iY,d!=[l8,cv ar,gx m,x3]/\my uo H' H5 kk/\A5 H5 q4 oo M.map/\j5 S0 xi H5/\bh (uU hO (M.take j))) eX (rL x3 O Ol pH) aaC (λ j d! H5 _ cy=>wH cy GY h _ ey ff h) ?_ ?_);(.rintro j z d! H5 hj⟨x3,rfl,xl,j2,ni,CO⟩;(rw[dl (ah (eJ hj) ad e he cH) cH]);have D2:sB H5 b d:=ni.book;refine(ce (bO (Jj uH (mW,5,e) az kI D2.cu dZ d2 A.g.Cp b6 O (λ H6 s6=>#[D2.later s6,zU (5<15)]))) λ H6 s6=>vK);(.rw[jn bf (oj e≠[]),<-p _ H6 (nQ sH (nQ xl (eR s6))) #[OW s6,Je]];symm;rw[An];intro h;have h1:=Hu h e (List.mem_flatMap.mpr (af m (yg hm) (by rw[hM];exact yg he)));simp at h1;exact bf h1);.rw[jn pG (oj e=[]),<-(rL _ O (nQ xl (eR s6)) (eR s6 _ _ j2) (OW s6) ?_)];unfold uU at CO⊢;rw[yN,he,T1,CO];simp[pG]);.rintro d! H5⟨x3,rfl,xl,j2,ni,CO⟩;rw[J0 CO,<-(fM _ x3 O (nQ sH xl) a7 xl fD ni ?_)];rw[Rr,gB,CO];rfl);.rintro a! H'⟨x2,x3,rfl,sH,fD,lg,gB⟩;rw[J0 gB,p _ H' sH #[lg,r? sb gB.symm]]
}
inductive U where
 |p(x:SB)
 |m(x:vL)
 |s(x:w4)
def z:={
U.num.1:U->Y|.p x=>x.1|.m x=>x.1|.s x=>x.1
vQ.1(H:Hp)(v:V):U->Prop|.p x=>mT H v x|.m x=>ju H v x|.s x=>lC H v x
Oi:Up vQ:=Nl s h (by cases x with|p x=>exact b! lV s h|m x=>exact b! j4 s h|s x=>exact b! m5 s h)
}
structure jS where
 hH:Y
 lx:Y
 bM:Y
 nm:bt
 g:bR->U->fm
def z:={
lM.1(hH bM:Y)(nm:bt)(g:K8):jS:=#[hH,0,bM,nm,KV u u p]
cZ.1(hH bM:Y)(nm:bt)(g:Lj):jS:=#[hH,1,bM,nm,KV u u m]
sI.1(hH bM:Y)(nm:bt)(g:Ll):jS:=#[hH,2,bM,nm,KV u u s]
i7.1(d:bR)(lx bM:Y):c1 U:=if lx=0 then jD (nK bM kC) U.p else if lx=1 then jD (nK bM eq) U.m else jD (nK bM hV) U.s
}
structure yF(d:bR):Prop where
 de:na
 names:namesOk d
def z:={
uz.1(d:bR)(l:gR):Prop:=∀p∈l,∀u∈i7 d p.part p.kind,bh (p.g d u)
DU.2:=BK×V×U
xH.2(a:DU):g8:=oP bT
yQ.1(c:Cs)(fN:gR)(cl:jS)(a:DU)(H:Hp):Prop:=tA/\vQ F3 bT ch/\ch∈i7 xq u8 u9/\yF xq/\uz xq fN
Bb.1(c:Cs)(cl:jS)(a:DU)(v:V)(H:Hp):Prop:=tA/\v=.bl (cl.g xq ch)
cS.1(P:gX)(w:gY)(K:h?)(mg:hZ)(dg:ib)(c:Cs)(fN:gR)(cl:jS):Prop:=∃f,KO/\mn Lo w 8 f xH (yQ c fN cl) r5 (nB bm) (Bb c cl)
y5{k:Y}(h:tw aM u! Mb)(hk:xW)(conv:Ro a (c3 a') (∀v H2,e! a' v H2->v=.bl (cl.g xq ch))):ww cl:=by rw[Q2 (λ f h1 fd ps h2 h3 h4=>?_) h3 (λ vs H Q E bx=>bL bx λ a e hp q=>?_),<-bL (conv a H hp) λ a' e' g1 g2=>?_,ce xd a' BO e e' g1 zw v (q v H2 (eR s2) #[hp.1.sg s2,g2 v H2 dV])]
Is{k:Y}(h:t8 tw mN u! c3)(hk:xW)(conv:Ro a (c3 a') vW (ge a' H H2) (e! a' v H2) (nB bm H H2/\Bb c cl a v H2)):ww cl:=by rw[Q2 (λ f h1 fd ps h2 h3 h4=>?_) h3 (λ vs H Q E cy=>bL cy λ a e hp q=>?_),<-bL (conv a H hp) λ a' e' g1 g2=>?_,(aZ a' BO e e' g1 (λ v H2 h5 h6=>q v H2 (g2 v H2 h5 h6).1 (g2 v H2 h5 h6).2))]
EE{d:bR}{k:Y}(hk:xQ)(h:x∈F4):eU∈kz u6:=by show eU∈kz AK nP eq;rw[wK eq k nP,<-pN];exact CB h
aiG{d:bR}{k:Y}(hk:k<14){x:SB}(h:x∈vl kC):eU∈kz OX:=by show eU∈kz AK It kC;rw[wK kC k It,<-pN];exact CB h
ady{d:bR}{k:Y}(hk:k<3){x:w4}(h:x∈F5):eU∈kz If:=by show eU∈kz AK yV hV;rw[wK hV k yV,<-pN];exact CB h
cS.row{fN:gR}{k hH bM:Y}{nm:bt}{cr:ml bR nL}{g g':Lj}(h:tw aM nm n3 js cr g)(hk:xW)(pT:BI)(hp:Lr r u6 _B.zQ):ww wP cZ:=by rw[<-y5 (cl:=wP cZ) h hk ad a H nZ,q7 bk v u,<-gE nZ t!,tu cZ h2 h3];(rw[qL h3 aS aS]);have hm:=EE pT hx;have hf:=OZ bM eU pT hm;rw[K3 g2 hp hf,<-c0 (bk,v,x) (fQ O0 (b! j4 xL h2) g9 ?_ g1) LQ];have:=hf.pos;rw[cx e a6 a6]
cS.gU{fN:gR}{k hH bM:Y}{nm:bt}{cr:ml bR Cf}{g g':K8}(h:tw aM nm n3 pC cr g)(hk:xW)(pT:bM<14)(hp:Lr r OX _B.xF):ww wP lM:=by rw[<-y5 (cl:=wP lM) h hk ad a H nZ,q7 bk v u,<-gE nZ t!,tu lM h2 h3];(rw[qL h3 aU aU]);have hm:=aiG pT hx;rw[K3 g2 hp (h4.de.gU bM eU pT hm),c0 (bk,v,x) #[O0,b! lV xL h2,g1] LQ]
cS.sqn{k:Y}{nm:bt}{cr:ml bR yH}{g g':Ll}(h:tw aM nm n3 VW cr g)(hk:xW)(pT:bM<3)(hp:Lr r If _B.BQ):ww wP sI:=by rw[<-y5 (cl:=wP sI) h hk ad a H nZ,q7 bk v u,<-gE nZ t!,tu sI h2 h3];(rw[qL h3 a9 a9]);have hm:=ady pT hx;rw[K3 g2 hp (h4.de.seq bM eU pT hm),c0 (bk,v,x) #[O0,b! m5 xL h2,g1] LQ]
}
section
variable{d:bR}{k:Y}{r:nL}
def z:={
o3(h:_B.zQ (k,r)):T4<=32:=by have h1:=h.most;(have h2:SK<=32:=by have:∀k,xQ->SK<=32:=kM;exact a6 k h.kind);exact hI h1 h2
GJ(h:_B.zQ (k,r))(h1:k≠10)(h2:k≠11):bh (r.to.all x9):=by have:=h.de;unfold NI at a6;rw[FC];rw[b? h1,b? h2]at a6;rw[qT]
aev(F:na)(h:tG n):bh Sn Sa:=List.all_eq_true.mpr λ x hx=>F.ac9 _ _ _ h hx
z_{r:Cf}(h:_B.xF (k,r)):qN r:=#[h.le,((S6).mp h.last).1]
vm(F:na)(n c:Y):bN n0 Mt.apart n c<=n+1:=F.vm n c
aqV(F:na)(n:Y):bh dL (jC Sa<=18):=we Ag (vm F 8) n
avx(F:na)(hk:k<14)(n:Y):n0 O2 k n<=Mt.most k:=by unfold O2;split;(.rename_i r h;exact(F.gU k r hk (List.mem_of_find?_eq_some h)).most);.exact Tl _
}
section z
def z:={
cls.1:gR:=[cZ 20 0 "canonical_steps_end" eC (n0 Mt.ends Im i6&&((r.to.drop 1).all gt kR R4)),Hd 0 "canonical_row_without_hangul" ur r ((i6::u4).all λ c=>DR c c),Hd 1 "scalar_is_no_hangul" ur r Qi,lM 21 0 "range_without_hangul" ur r At r c DR c c,cZ 22 0 "taken_apart_in_order" eC (Mt.sorted hO (Iu hO i6)&&dL (jC sG Iu<=18)),pe 1 "has_no_canonical_row" eC kR o1 (Mt.map hO 0),P4 (pe 1),P4 (pe 0),cZ 24 0 "composes_alone" eC (o1 Fx||(T4==2&&(sG Iv==0&&(g6 Iv A0==0&&(jC ((su TW).filter λ q=>q.to==u4&&!Fx q.scalar)==1&&Mt.joined A0 (r.to.getD 1 0)==ac))))),cZ 25 5 "folded_stays" eC FY (kR (oj x)&&(Sf).all qq kR (oj y)),cZ 25 6 "simply_folded_stays" eC FY kR (vn 6 x),cZ 26 7 "mirror_holds" eC (vn 7 A0==S2&&o1 (vT 13)),cZ 27 8 "partner_holds" eC (o1 (sO 9)!=0&&(sO 9 A0+o1 (sO 9)==3&&(vn 8 A0==S2&&o1 (sO 8)==13))),lM 27 9 "brackets_have_partners" eC At r c (vn 8 c !=[]),lM 28 11 "digits_stand_in_tens" eC (O7==r.last&&(sn 10).all λ i=>sO 11 (O7+1 - Ix+i)==i+1&&dL (Ix<=O7+1)),lM 29 10 "script_is_named" eC dL (Ix<Q? (max 3)),cZ 29 10 "scripts_are_named" eC FY dL (x<Q? (max 3)),cZ 30 9 "prototype_stays" eC FY ((Sf).all qq (kR (vn 9 y)&&!vT 11 y)),lM 31 13 "flags_agree" ur r ((!u? 7||u? 8)&&!u? 16),lM 32 0 "combining_extends" eC At r c (AC==4&&sO 3 c !=2),cZ 33 0 "canonical_row_stays_cluster" eC g6 A9 r,cZ 34 11 "weights_hold" ur r Ri u4,sI 34 0 "weights_hold" ur s Ri s.to,sI 35 0 "contraction_holds" λ d s=>(s.key.all gt kR R4)&&(g6 Mt.sorted s.key&&g6 Iv (s.key.headD 0)==0),cZ 36 11 "weighed_has_no_step" eC kR sG Mt.canon,KF (cZ 37 2) o1 (vT 2),KF (cZ 37 3) o1 (vT 2),KF (cZ 37 4) o1 (vT 2),lM 37 13 "letter_case_is_cased" ur r (!(u? 0||u? 1)||u? 2),cZ 38 1 "scalar_has_no_class" eC (sG Iv==0),Jv (r8 5),Jv (r8 1),Jv (r8 0),lM 40 3 "conjuncts_hold" eC At r c (if Ix=2 then AC==0 else AC==4||AC==5),lM 41 13 "pictures_hold" eC (!u? 12||At r c (AC==0))]
yq.1(P:gX)(w:gY)(K:h?)(mg:hZ)(dg:ib)(c:Cs):gR->gR->Prop|_,[]=>True|fN,cl::r=>ww cl/\vu yq (cl::fN) r
Bn{d:bR}{l:gR}(h:uz d l){nm:bt}(hm:cZ hH bM nm g∈l)(hk:BI){r:nL}(hr:r∈u6 bM []):bh (g d r):=by(have e:u6 bM []=jD (nK bM eq) ((·.2)):=by show AK nP eq bM []=_;rw[wK eq bM nP,pN]);rw[e]at hr;(rw[qL hr aS aS]);exact h _ hm (.m x) (CB hx)
Lz{d:bR}{l:gR}(h:uz d l){D0 HG D1 Gr:bt}(h1:Hd 0 D0 r7 r ((i6::u4).all λ c=>DR c c)∈l)(h2:Hd 1 HG r7 r Qi∈l)(h3:pe 1 D1 (λ d r=>zJ)∈l)(h4:pe 0 Gr (λ d r=>zJ)∈l)(n:Y):bh oi n0 OL Im n:=by refine _B.aA4 pc r hr pc r hr (λ r hr=>Bn h h4 ab hr) (λ r hr=>Bn h h3 ab hr) n;(.have:=Bn h h1 ab hr;rw[List.all_cons,e7,e7]at a6;simpa using Nk);.have:=Bn h h2 ab hr;rw[LF]
avc{v:V}(h:ju H v x):OO H v xI:=by rw[KM g t (qA a _ _ y e g t)]
aIR{v:V}{x:w4}(h:lC H v x):OO H v xI:=by refine gP h λ a y z e g _ t=>?_;exact(qA a _ _ z e g t)
aeY{nm:bt}(hk:BI){a:DU}(hp:yQ c fN (pe bM nm eC zJ) a H):P? (Hl c a' H) (v=.bl oi w0 F2 BN a'.2.2.2) (pe bM nm eC zJ):=by rw[q7 bk v u,jl gE t!,tu cZ h2 h3];(rw[qL h3 aU aU]);exact c0 (bk,v,x) #[h1,h2,RM EE hx sc] vz v' #[s2,e]
Jf{nm:bt}(hk:BI){a:DU}(hh:uz xq fN->∀n,bh oi w0 ot n)(hp:yQ c fN (r8 bM nm eC I_) a H):P? (Hl c a' H/\∀n,bh oi w0 F2 n) (v=.bl ((Ip F2 BN a'.2.2.2).all gt kR (BJ F2 5 x))) (r8 bM nm eC I_):=by rw[q7 bk v u,jl gE t!,tu cZ h2 h3];(rw[qL h3 a9 a9]);exact c0 (bk,v,x) #[#[h1,h2,RM EE hx sc],hh h5] vz v' #[s2,e]
O1(A:a?):vu yq [] cls:=by(refine #[qF aGR Ag o3 hf,qF atj Ag o3 hf,D9 aqf,wf aIb (z_ hf),C2 arM #[aev CL y6,by rw[aqV CL,Bool.and_true]],D9 ak0,zB Is (pe 1 "ends_by_k") Sv,zB Is (pe 0 "ends_by_k") Sv,qF agX (fQ y6 EP hm (Bn hh (hH:=21) (bM:=0) (nm:="canonical_row_without_hangul") zi ab hm)),D9 aKD,qF anM ?_,z2 as1,qF ajP (fQ y6 ?_ EP (avx CL ab _)),wf aDM (z_ hf),wf aq7 #[z_ hf,CL,hm],zc cS.gU akw #[hD.names,rfl],qF aHu #[hD.names,Ag o3 hf],qF ala BS (aev CL (Hu EP x hx)),PV alp,wf ahd (z_ hf),qF anz #[y6,EP,Iy],zB y5 (cZ 34 11 "weights_hold") Zv,zB y5 (sI 34 0 "weights_hold") Zv,zc cS.sqn ahD #[#[?_,y6,hI Iy kP (Mt.keyMost 0<=1000)],rfl],D9 aro,z2 Ng,z2 Ng,z2 Ng,PV aiv,z2 ay6,JA (r8 5) K1,JA (r8 1) K1,JA (r8 0) K1,wf am5 (z_ hf),wf ahR (z_ hf),trivial];(.exact aeY ab hp);.exact aeY ab hp);(((.exact T6 Iy hf.pos);.exact T6 Iy hf.pos);(.rw[q7 bk v u,jl gE t!,tu cZ h2 h3];(rw[qL h3 bu bu]);exact(c0 (aN bk.1,v,xI) #[avc (b! j4 xL h2),Ag o3 (OZ 11 eU ab (EE ab hx))] λ v' H2 e=>e));.rw[q7 bk v u,jl gE t!,tu sI h2 h3];(rw[qL h3 bU bU]);exact(c0 (aN bk.1,v,xI) #[aIR (b! m5 xL h2),hI (h4.de.seq 0 eU ab (ady ab hx)).LW kP (NO 0<=1000)] λ v' H2 e=>e));((.intro e;have:=hf.least;rw[FC,t7 e,jt a6 ab]);.rw[Jz Jf n (Lz hh)]);(.rw[Jz Jf n (Lz hh)]);.rw[Jz Jf n (Lz hh)]
brk.1(d:bR):gR->al|[]=>[]|G?=>match EL with|Z u=>A8|ac=>un l
asH(d:bR)(cl:jS)(l:gR):un (cl::l)=match EL with|Z u=>A8|ac=>un l:=rfl
PM.1:jX NE->al|ac=>[]|Z f=>rI
}
structure zr(d:bR):Prop where
 ps:d.ps.Pairwise λ x y=>x.1<=y.1
 ms:d.ms.Pairwise λ x y=>x.1<=y.1
 ss:d.ss.Pairwise λ x y=>x.1<=y.1
def z:={
D4.1(d:bR)(cl:jS)(x:iU Na):Prop:=x.1=so/\As ut=bN zv/\∀(i:Y)(u:U),zv[i]?=Z u->u.num=Ja ut+i/\eU.2 i=vZ
JY.1(d:bR):gR->c1 (Y×Na)->Prop|[],[]=>True|G?,x::m=>D4 d cl x/\JY d l m|_,_=>False
aIt{p:α->fm}(h:∀i u,l[i]?=Z u->f i=p u):((sn e_).CM Nc=ac/\eZ (l.find? (λ u=>!p u)))\/∃i u,(sn e_).CM Nc=Z i/\l.find? (λ u=>!p u)=Z u/\l[i]?=Z u:=by cases e:(sn e_).CM Nc with|ac=>refine .f? #[rfl,Q7 cA u hu];obtain⟨i,hi⟩:=T8 hu;have a8:=qy hi;have:=List.find?_eq_none.mp e i (List.mem_range.mpr a8);rw[tZ (h i u hi),qT]|gV i=>refine bX (List.find?_range_eq_some.mp e) ad h1 h2 h3;have a8:=List.mem_range.mp h2;have hi:l[i]?=Z l[i]:=Ht a8;refine .fE (aE i (l[i]) O ?_ hi);refine _B.Fb (j:=i) hi (by rw[<-h i _ hi];exact h1) λ j y hj hy=>?_;have:=h3 j hj;rw[tZ (h j y hy),LF]
aeN{d:bR}:∀{l:gR}{m:c1 (Y×Na)},JY d l m->un l=PM RV|[],[],_=>rfl|[],_::_,h=>Il|_::_,[],h=>Il|G?,(hH,bM,f)::m,h=>by rw[gh h λ aS h4=>bX aS ad h1 h2 h3];have ih:=aeN h4;dsimp only at h1 h2 h3;show(match EL with|Z u=>A8|ac=>un l)=PM (match(sn As bM).CM λ i=>!f i with|Z i=>Z #[hH,Ja bM+i]|ac=>RV);rw[h2];rcases aIt (l:=zv) (p:=cl.g d) (f:=f) (λ i u e=>(h3 i u e).2)with⟨e1,e2⟩|⟨i,u,e1,e2,e3⟩;(.rw[e1,e2];exact ih);.rw[e1,e2,h1];show A8=[so,_];rw[(h3 i u e3).1]
OR(n k:Y)(l:AI)(h:k<=n):((zx L7).map List.length).sum=_B.sumTo k l:=by rw[_B.Ca,<-NY,List.take_range,NW h,nC];rfl
NV{k:Y}(l:AI)(h:k<n):bN kz (L7).getD=bN MK:=by rw[_B.jw l h,_B.ET]
getD_at{k i:Y}(l:AI)(h:k<n){x:vk α}(hx:MK[i]?=Z x):(kz (L7).getD)[i]?=Z eU:=by rw[_B.jw l h,<-pN,yD,hx];rfl
rg{d:bR}(S:xY){k:Y}{nm:bt}{g:K8}(hk:k<14)(hf:∀i r,(kz OX)[i]?=Z r->f i=g d r):Mk lM g (k+1):=by refine #[rfl,?_,ad i u hu];(.show As kA=bN rk kC U.p;unfold Iz;rw[E' abF,el,T9];exact NV kC hk);.have eB:(rk kC U.p)[i]?=Z u:=hu;rw[Ak eB];cases e:(vl kC)[i]? with|ac=>rw[cx e eB eB]|gV x=>rw[J? hf kC kA];rw[E' abF,T9,_B.Kv S.ps e];rw[Lm OR It kC]
gm{d:bR}(S:xY){k:Y}{nm:bt}(hk:xQ)(hf:∀i r,(kz u6)[i]?=Z r->f i=g d r):Mk cZ g (32+k):=by refine #[rfl,?_,ad i u hu];(.show As (32+k)=bN rk eq U.m;unfold Iz;rw[q? adb,E' YF,el,CN];exact NV eq hk);.have eB:(rk eq U.m)[i]?=Z u:=hu;rw[Ak eB];cases e:F4[i]? with|ac=>rw[cx e eB eB]|gV x=>rw[J? hf eq (32+k)];rw[q? adb,E' YF,CN,_B.Kv S.ms e];rw[Lm OR nP eq]
Zo{d:bR}(S:xY){k:Y}{nm:bt}{g:Ll}(hk:k<3)(hf:∀i r,(kz If)[i]?=Z r->f i=g d r):Mk sI g (64+k):=by refine #[rfl,?_,ad i u hu];(.show As (64+k)=bN rk hV U.s;unfold Iz;rw[q? adl,q? adf,el,CN];exact NV hV hk);.have eB:(rk hV U.s)[i]?=Z u:=hu;rw[Ak eB];cases e:F5[i]? with|ac=>rw[cx e eB eB]|gV x=>rw[J? hf hV (64+k)];rw[q? adl,q? adf,CN,_B.Kv S.ss e];rw[Lm OR yV hV]
amX{d:bR}(S:xY):JY d cls su T_:=#[fl (k:=0) ab bn i r (by rw[cL]),fl (k:=0) ab bn i r (by rw[cL]),fl (k:=1) ab bn i r (by rw[cL]),pg (k:=0) ab bn i r (by rw[cL]),fl (k:=0) ab bn i r (by rw[cL]),fl (k:=1) ab bn i r (by rw[cL]),fl (k:=1) ab bn i r (by rw[cL]),fl (k:=0) ab bn i r (by rw[cL]),fl (k:=0) ab bn i r (by rw[cL]),fl (k:=5) ab bn i r (by rw[cL]),fl (k:=6) ab bn i r (by rw[cL]),fl (k:=7) ab bn i r (by rw[cL]),fl (k:=8) ab bn i r (by rw[cL]),pg (k:=9) ab bn i r (by rw[cL]),pg (k:=11) ab bn i r (by rw[cL]),pg (k:=10) ab bn i r (by rw[cL]),fl (k:=10) ab bn i r (by rw[cL]),fl (k:=9) ab bn i r (by rw[cL]),pg (k:=13) ab bn i r (by rw[cL]),pg (k:=0) ab bn i r (by rw[cL]),fl (k:=0) ab bn i r (by rw[cL];rfl),fl (k:=11) ab bn i r (by rw[cL]),Zo S (k:=0) ab bn i r (by rw[cL]),Zo S (k:=0) ab bn i r (by rw[cL]),fl (k:=11) ab bn i r (by rw[cL]),fl (k:=2) ab bn i r (by rw[cL]),fl (k:=3) ab bn i r (by rw[cL]),fl (k:=4) ab bn i r (by rw[cL]),pg (k:=13) ab bn i r (by rw[cL]),fl (k:=1) ab bn i r (by rw[cL]),fl (k:=5) ab bn i r (by rw[cL]),fl (k:=1) ab bn i r (by rw[cL]),fl (k:=0) ab bn i r (by rw[cL]),pg (k:=3) ab bn i r (by rw[cL]),pg (k:=13) ab bn i r (by rw[cL]),trivial]
alI{d:bR}(S:xY):un cls=PM KH:=aeN (amX S)
m8.1(mg:hZ)(H:Hp)(v:V)(cl:jS):Prop:=∃t f,v=c! t/\oK t [vN so,vN u8,vN u9,c! f]/\KO
FN.1(R:rM)(H:Hp)(v:V)(l:rW):Prop:=∃a xs,rT/\oK a xs/\oQ R xs l
avu{σ:eo}:ic fF [] sp vs oQ R vs []:=fF.of fH v9 H1 Q (q _ H1 Gw vy Paired.nil)
agn{σ:eo}{a:α}(h:ic Ev e λ v H=>R H v a)(r:tQ fF λ vs H=>oQ R vs l)(hs:zS e):ic fF lH sp vs oQ R vs (a::l):=fF.of (iG aI dU hs) v9 H1 Q (eT (h.later s1) λ v H2 s2 hv=>ce re r.later B9 us e (q _ H3 Gb kx (Hb (hv.later s3 H4 s4) (e H4 s4))))
Ed.1:d'->jX bt|DH p _=>Z p|_=>ac
KY{p:bt}(h:Ed e=Z p):∃x,e=DH p x:=by cases e<;>cases h;exact I7
inC.1:Const->jX cm|.f7 r=>Z r|_=>ac
To.1:d'->jX cm|.yy c _ _=>inC c|_=>ac
aJ9{r:cm}(h:To e=Z r):∃j x,e=.yy iW r j x:=by cases e with|yy c j x=>cases c<;>cases h;exact #[_,_,rfl]|_=>cases h
TV.1:kl->jX S9|[a,b,c,d]=>(To a).bind λ r=>(Ed b).bind λ p=>(Ed c).bind λ k=>(Ed d).bind λ f=>Z (r,p,k,f)|_=>ac
WA.1:d'->jX S9|.Co l _ _=>TV l|_=>ac
aqz{l:kl}{r:cm}{p k f:bt}(h:TV l=Z (r,p,k,f)):∃j p1 p2 p3 p4,l=QX r f p4:=by(rw[PY l e l];((.cases h);.cases h);(.cases h);.cases h);(.rw[Eo h1 h,Eo h2 h,Eo h3 h,Eo h4 h];cases h;obtain⟨_,_,rfl⟩:=aJ9 h1;obtain⟨_,rfl⟩:=KY h2;obtain⟨_,rfl⟩:=KY h3;obtain⟨_,rfl⟩:=KY h4;exact #[_,_,_,_,_,rfl]);.cases h
al0{r:cm}{p k f:bt}(h:WA e=Z (r,p,k,f)):∃j p1 p2 p3 p4 x1 bi,e=.Co QX r f p4 x1 bi:=by cases e with|Co l x y=>obtain⟨_,_,_,_,_,rfl⟩:=aqz h;exact #[_,_,_,_,_,_,_,rfl]|_=>cases h
knd.1:Lv:=[("MAPS",1),("CANONICAL",0),("COMPATIBILITY",1),("PROPERTIES",0),("COMBINING",0),("FOLD",5),("SIMPLE_FOLD",6),("MIRROR",7),("PARTNER",8),("BRACKET",9),("DIGIT",11),("SCRIPT",10),("EXTENSIONS",10),("PROTOTYPE",9),("FLAGS",13),("WEIGHTS",11),("SEQUENCES",2),("CONTRACTIONS",0),("UPPER",2),("LOWER",3),("TITLE",4),("CONJUNCT",3)]
fa{p:α->Prop}{a:α}(h:p a)(r:∀x∈l,p x):∀x∈a::l,p x:=List.forall_mem_cons.mpr #[h,r]
U0(A:a?):∀p∈knd,GI mg p.1 rX p.2:=fa Ov nn A.g.Ih A.g.Mc nn A.g.R' A.g.wm nn A.g.Cp A.g.Ti nn A.g.Yr A.g.K' nn A.g.G8 A.g.acE nn A.g.awj A.g.PU nn A.g.RD A.g.N5 nn A.g.Kn A.g.RR nn A.g.awy A.g.avn (fa A.g.axy nn A.g.aAn A.g.sD r7 h (nomatch h))
QT.1(sc:uJ)(cl:jS)(e:d'):fm:=match WA e with|Z (r,p,k,f)=>dL (r=so)&&(T' (p,u8)&&(T' (k,u9)&&(dL (f=u!)&&[p,k,f].all gt (RP==zN&&!(x==Au)))))|ac=>false
W8.1(sc:uJ):gR->kl->fm|[],[]=>c2|G?,e::es=>QT sc cl e&&W8 sc l es|_,_=>false
RZ{σ:eo}{sc:uJ}(A:A!)(hs:∀x,Cb x=RP):∀{l:gR}{es:kl},bh (W8 sc l es)->(∀cl∈l,∃f,pq u!=cv f)->tQ fF sp vs fu (m8 pq H) vs l:=by intro l;induction l with|nil=>(intro es h hf;cases es with|nil=>exact avu|fK _ _=>cases h)|fK cl l ih=>intro es h hf;rcases es with _|⟨e,es⟩;(.cases h);obtain⟨h1,h2⟩:=Bool.and_eq_true_iff.mp h;unfold QT at h1;split at h1;(.rename_i r p k f he;obtain⟨j,p1,p2,p3,p4,x1,bi,rfl⟩:=al0 he;rw[e7,e7,e7,e7,pj,pj]at h1;refine gE h1 λ g1 g2 g3 g4 g5=>?_;subst g1 g4;(have gl:∀x∈[p,k,u!],Gl X x/\(x==Au)=false:=λ x hx=>by have:=Hu g5 x hx;rw[e7,N7]at a6;exact #[by unfold Gl;rw[hs];exact eq_of_beq Nk,a6.2]);obtain⟨fa,QB⟩:=hf cl HK;have a1:=gl p GV;have a2:=gl k GV;have a3:=gl u! GV;refine agn q9 (r4 iR [vN so,vN u8,vN u9,c! fa] pY ai (ag Qq U0 A g2 a1.1 a1.2) dZ (ag Qq U0 A g3 a2.1 a2.2) (lU QB a3.1 a3.2)) tc v bx o! bx a vY fa h QB (ih h2 λ cl' h'=>Ki hf cl' h'));.cases h1
yq.names:∀{l fN:gR},vu yq fN l->∀cl∈l,∃f,KO|[],_,_,cl,h=>GK|x::l,fN,h,cl,hc=>by rcases T! hc with rfl|hc;(.refine ah h.1 l! f h1;exact #[f,h1]);.exact yq.names h.2 cl hc
aaA.1:MF->kl|[.Return Z (.Co es _ _) _]=>es|_=>[]
auN(A:a?):jp "clauses_20_to_30" (RQ ME Gp (λ _ v H=>Gj m8 mg CP)):=c7 A.at3 ayK dX b0 ck λ a f aK A' em s H0 H E hr hp=>mI lb (Bl (es:=nz aaA He) (RZ A (sc:=aw He) ck (by rw[vh]) λ cl h=>(Kh).names cl (List.mem_of_mem_take h)) bn vs H (by rw[iX h];decide)) (λ v H1 _ h=>h)
akb(A:a?):jp "clauses_31_to_41" (RQ ME Gp (λ _ v H=>Gj m8 mg vb)):=c7 A.akd aK8 dX b0 ck λ a f aK A' em s H0 H E hr hp=>mI lb (Bl (es:=nz aaA G5) (RZ A (sc:=aw G5) ck (by rw[vh]) λ cl h=>(Kh).names cl (List.mem_of_mem_drop h)) bn vs H (by rw[iX h];decide)) (λ v H1 _ h=>h)
Wj{R:ml α β}{l':rW}{m m':GO}(p:fu R l m)(h:fu R l' m'):fu R (l++l') (m++m'):=by induction p with|nil=>exact h|fK r t ih=>exact Hb r ih
zR{k:ak}(hk:oM k dK)(h:oK a xs):br H k a=et .tup xs:=Pp h hk ro
Lk{k:ak}{v:V}{l:al}(hk:oM k dK)(h:cU H v l):cU B7 v l:=by refine ah h ad a e h;exact ue B3
awY{k:ak}{v:V}(hk:oM k dK)(h:vQ H v u):vQ B7 v u:=by cases u with|p x=>refine ah h ad a e h;exact ue B3|m x=>rw[KM h t vY y B3 (Lk hk t)]|s x=>refine gP h λ a y z e h t q=>?_;exact(b9 a y z e B3 (Lk hk t) (Lk hk q))
aK2{k:ak}{v:V}(hk:oM k dK)(h:m8 mg H v cl):m8 mg B7 v cl:=by refine aO h λ t f e h m=>?_;exact(aE t f e B3 m)
Sd{v:V}(s:kw)(h:m8 mg H v cl):m8 mg H' v cl:=by refine aO h λ t f e h m=>?_;exact(aE t f e uf m)
aoU{v:V}(h:vQ H v u):∃a r,rT/\oK a (vN u.num::r):=by cases u with|p x=>refine ah h ad a e h;exact M5|m x=>rw[KM h t M5]|s x=>refine gP h λ a y z e h t q=>?_;exact M5
Zk:∀{l fN:gR}{i:Y}{cl:jS},vu yq fN l->l[i]?=Z cl->vu cS ((CG i).O8++fN) cl|[],_,_,_,_,e=>by simp at e|x::l,fN,0,cl,h,e=>by cases e;exact h.1|x::l,fN,i+1,cl,h,e=>by have:=Zk (l:=l) (i:=i) h.2 LV;rw[List.take_succ_cons,List.reverse_cons,Ib];rw[qT]
LL.1(lx bM:Y):Prop:=(lx=0/\bM<14)\/(lx=1/\BI)\/(lx=2/\bM<3)
aic:∀cl∈cls,LL u8 u9:=by unfold LL;rw[vh]
Pn{γ:Type}{R:ml α γ}{f:β->γ}{m:GO}(h:fu (λ x y=>R x (f y)) l m):fu R l (m.map f):=by induction h with|nil=>exact iv|fK r t ih=>exact Hb r ih
aJb{σ:eo}{o e1 e2:d'}{bi:d6}{kk:ak}{d:bR}{lx:Y}(A:A!)(hr:b7 1 X.A)(hk:LL lx bM)(hR:tz)(ho:lZ o b)(h1:io e1 (vN lx))(h2:io e2 (vN bM)){pl:B'}(fO:kJ G0 f9 e1 [e2])(dY:kJ [e2] f9 e2 [])(a_:zp zk [e2])(ht:DO lJ (Rm pP) G0 (H! [ov] (getMethod ov "records" pl)) G0):mU lJ (Rm pP) G0 (eA vQ H v (i7 d lx bM)):=by rcases hk with⟨rfl,hk⟩|⟨rfl,hk⟩|⟨rfl,hk⟩;((.rw[Kd akM cy cy]);.rw[Kd ZM dz dz]);.rw[Kd aAQ eP eP]
afR{bi p:d6}{k:Y}{x:bt}(i:Y)(hr:xG)(hN:i! (X.N[i]?=DG))(hv:Rg ny)(hd:DL (x==Au))(gW:PZ bt)(he:zS e)(a_:D8):PE X lJ Bz lH (λ σ H Q=>∃(cr:kc)(e!:k5)(f:ak)(a:α),t8 Ai Lo f c3/\σ[i]?=Z cv f/\ic eF lH DE/\tO (GR a/\J3)):=by rw[Gt H Q I];obtain⟨cr,e!,f,a,G,h0,ha,q⟩:=zz;refine aO G λ fd ps hk hb G=>?_;refine XF i G hr hk hb dU hN hv hd gW he a_ iE s σ H Q I (eM h0 _ ha LJ);exact(aZ a dV (uv q).1 (q H2 s2).2)
aql(A:a?):tB 9 "broken_clause" BY BK [aN bm] ci (j5 S0 a H/\yF bT) nB dR (j5 S0 a H/\gQ (brk bT cls)):=vC A.ai8 Q6 dX b1 ck λ q f aK A' em s H E hr hp=>by obtain⟨b,d,kk⟩:=q;rw[Fo jc hFD,KN hFD Q6.nd,lR (aP Pk (BR (B5 alM aI aI)) (aGo O (G3 zl (cz (i:=1)) (G3 zl Bw (G3 zl GL (G3 zl (cz (i:=4)) azb))))) (cJ qI Hc (cz (i:=5)) (cJ (iy (UI (Ru (afR (α:=DU) (c3:=xH) (ge:=λ a=>nB bm) 4 hr))) sZ dh))) sZ) D p,<-eT (iQ (LN (auN A) (NK ab)) P Gj m8 mg CP AL c0 () O' O GC) λ u1 H1 s1 hu1=>eT (iQ (LN (akb A) (NK ab)) P Gj m8 mg vb AL c0 () O' O GC) λ u2 H2 s2 hu2=>?_];(rw[jq uv hu1 (λ a1 pL a9 nI yP=>?_) a9]);(rw[jq hu2.now (λ a2 pJ bu yT yK=>?_) bu]);have l1:=iX yP;have l2:=iX yK;have IC:pL.length=18:=l1;have JI:pJ.length=17:=l2;refine #[a1,a2,pL,pJ,rfl,rfl,j1 nI,j1 yT,g9 (by rw[cx e IC IC]),(by rw[IC,JI];decide),g9 (by rw[cx e JI JI]),λ _ tp htp=>?_];have s3:=ga DZ (cT (o:=.tup xX)) htp;refine iS iB jc λ Gk aq jd JN=>?_;dsimp only at jd Gk;have NZ:=gi jd;(have Sz:fu (m8 mg (br (upd H2 tp (.tup xX)) kk)) xX cls:=by have:=(Wj yP yK:fu (m8 mg H2) xX (CP 18++vb 18));rw[t7 List.take_append_drop,gj bn x y (aK2 NZ (Sd (cT htp) h)) a6]);have W9:br (upd H2 tp (.tup xX)) kk tp=et .tup xX:=zR NZ aY;generalize pL++pJ=xs at s3 NZ Sz W9⊢;refine c0 tp l? j1 aY (Be KL K tp (xs:=xs) sL i (∃x1 x2 x3 x4 x5:iY,a!=[l8,x1,x2,x3,x4,x5]/\oz H'/\br H' kk tp=et .tup xs/\fu (m8 mg (br H' kk)) xs cls/\j5 S0 xi H'/\uz d (CP i).O8/\un cls=brk d (vb i)) (qM ac ac ac ac ac O (eR s3) W9 Sz (ON s3) (λ p hp=>by simp at hp) O) BC i kq (aHg kq λ _ _ _ _ _ _ _ h _=>j1 ff h) ?_ ?_);(.rintro i x a! H' hi⟨x1,x2,x3,x4,x5,rfl,sH,QY,ie,lg,M3,AJ⟩;(rw[dl (uZ (AA ie hi) λ cl ij t f0 bU ht HC=>?_) bU]);refine ah (Zk Kh ij) ad f1 DP hC;rw[Ii]at hC;(have ef:f1=f0:=by rw[cx HC DP DP];rfl);subst ef;have pT:=Ey aic cl ij;refine #[t,_,rfl,j1 ff ht,rfl,_,_,rfl,_,_,rfl,_,_,rfl,_,_,rfl,rfl,?_];have aQ:sB H' b d:=lg.book;refine eT (aJb A dp pT aQ az a5 b6) λ rv H4 s4 p_=>?_;(rw[jq p_.now (λ lr xr cH Yt UO=>?_) cH]);refine iS Ma λ _ aM6 Dg _=>?_;dsimp only at Dg;(have abI:vb i=cl::vb uw:=by rw[P_ a8 e ij];rw[Te a8,e]);generalize ir:zv=us at UO;refine c0 lr l? ey Yt (Be t_ K lr (xs:=xr) (λ j d! H5=>∃x5:iY,d!=[l8,gx so,gx u8,gx u9,cv f1,x5]/\my uo H' H5 kk/\br H5 kk lr=et .lst xr/\fu (vQ (br H5 kk)) xr us/\j5 S0 xi H5/\∀j' u,j'<j->us[j']?=Z u->bh vZ) #[x5,rfl,eR s4,Pp Yt Dg ro,gj bn x y (awY Dg h) UO,Ma,λ j' u h=>Kk h _] (λ j d! H5 _ lT=>wH lT GY h _ ey ff h) ?_ ?_);(.rintro j y d! H5 hj⟨x5',rfl,s5,hl5,HZ,ni,b_⟩;refine ah (AA HZ hj) ad u hu fw;refine #[yQ c (CP i).O8 cl,Bb c cl,f1,(mW,y,u),hC,rfl,AF ip,λ H6 s6=>#[(j3 (OW s6) (b! Oi (eR s6) fw) (by rw[za ir,QO hu]) hFD M3),λ v H7 bw jL=>ce jL.2 vK]];(.rw[jn hg (vZ=false)];have aHZ:oz H7:=uN (HY ((eR s6).jR bw));(rw[dl (dc (aoU (b! Oi ((eR s6).jR bw) fw)) λ ar rr dA bo=>?_) dA]);refine eT (yo (i:=so) (j:=u.num) au (zn ip λ H8 s8=>qc j1 ui ff bo (cb (j:=0)))) FT s8 (aHZ.trans (eR s8)) #[OJ jL.1 s8,?_];rw[AJ,abI];rw[asH];rw[ir,_B.Fb (j:=j) hu (by rw[hg];rfl) (λ j' y' jx yz=>by rw[b_ j' y' jx yz];rfl)];exact dV);.rw[jn hg bh vZ];have MX:=(eR (k:=kk) s6).jR bw;refine #[_,rfl,HY MX,a7 MX hl5,gj bn x y (b! Oi MX h) HZ,jL.1,λ j' u' jx eB=>?_];by_cases e:j'=j;(.rw[f' hu eB eB,hg]);.exact b_ j' u' og oT jx e eB);.rintro d! H5⟨x5',rfl,s5,hl5,HZ,ni,b_⟩;have hl:=iX HZ;(have GF:∀u∈us,bh vZ:=λ u hu=>by obtain⟨j,hj⟩:=T8 hu;exact b_ j u (by have:=qy hj;exact AG a6 hl) hj);refine kn (b! qM _ O (uN s5) pb QY) (gj bn x y (Sd s5 h) ie) ni;(.rw[yN,ij,List.reverse_append];intro q hq;rcases E_ hq with hq|hq;(.simp at hq;subst hq;rw[fY ir GF]);.exact M3 q hq);.rw[AJ,abI];show(match EL with|Z u=>A8|ac=>brk d (vb uw))=_;rw[ir,Q7 λ u hu=>by rw[GF u hu];decide]);.rintro a! H'⟨x1,x2,x3,x4,x5,rfl,sH,QY,ie,lg,M3,AJ⟩;rw[iX ie,List.drop_length]at AJ;rw[<-eT qR FT s8 (uN (eR s8)) #[OQ s8,?_],fY AJ dV]
k8.1(H:Hp)(v:V)(l:xg):Prop:=e_<=300/\∃a,rT/\fy a IS se
mB.1(w:Y)(t:al):cm:=if F! then -6 else Sx (bh (CQ w).isSome/\KX)
Fg(A:a?):wD "refusal" (RQ cY iU j? [vN bm,bT] ci c? bT ch kU (.f7 (mB bm ch))):=tm A.refusal aqO λ a e H hr hp U hU=>by rw[q7 wn tv t,<-ah hp ad q hv hq,Jd hq];subst hv;((rw[wr mB,fz (bP gJ p9 hq au d2 A.g.aaf) (aG (ag A.g.L1) lA)];.rw[gy (by rw[or W6])]);have iN:¬F!:=by rw[kT YS]);rw[gS iN,<-aX oC nr z? aAh wn az (eE (dG (bO (aT (Px A) hr (aN q,t) ez au tg v5 vq E4 nV aal iN)))) Np (aG (ag A.g.Ua) lA) Np eH];(.rw[gS gu (by rw[h.1,h.2]at h1;cases h1)]);.rw[uG,CJ,CJ]at h1;rw[rz h1]
tE.1(w n:Y)(t m:al):cm:=if L' then -6 else if v! w<0 then v! w else Sx (MA/\Af)
ac1(A:a?):mq 4 "lines_refusal" (RQ cY ((Y×Y)×sA×j?) [vN hY,vN g7,tq,d1] ci (c? tq ta/\c? d1 e?) kU (.f7 (tE hY g7 ta e?))):=bp A.ag9 Wi dX b4 ck λ a e H hr hp U hU=>by obtain⟨⟨wn,n⟩,⟨tv,t⟩,mv,m⟩:=a;rw[sJ aS aU (ah aS λ q hv hq=>ah aU ad qm tS dQ)];dsimp only at hv hq tS dQ;subst hv tS;have nd:=Wi.nd;((rw[wr tE,fz (bP gJ p9 dQ b6 d2 A.g.aaf) (aG (ag A.g.L1) lA)];.rw[gy (by rw[or W6])]);have iN:¬L':=by rw[kT YS]);rw[gS iN,ig im (x7 nd) (.f7 v! wn) (aT (Fg A) hr (wn,sR,t) dZ az a5 I'),<-aX mx cM du Np (aG du lA) IV h1];(.rw[gy (lc h1)]);rw[lf (ld h1)];refine aX (li (dr (dG w_ tT au d2 A.g.asd) i? (eE (dG (bO (aT (aDe A) dp ((aN qm,m),sR,t) dZ b6 a5 ii #[Lf,vq,E4 d? aal iN])))))) Nd (aG (ag A.g.Ua) lA) Nd eH;(.rw[gS gu (by rw[h.2,Rl ((1:cm)<=n),Rl (dt n<=65535)]at h2;cases h2)]);.rw[uG,CJ,CJ,e7,pj,pj]at h2;rw[rz #[by omega,h2.2]]
nu.2:=sy BK
fI.1(c:Cs)(a:nu)(H:Hp):Prop:=(∃dx,fy bm sw pU [("book",c! bT)])/\n3 d8 cd H
fI.later{a:nu}{H H':Hp}(h:fI c a H)(s:kw):fI c a H':=by rw[Kp h a9 a9,#[B0 Bu,Gq h2 s]]
afp{σ:eo}{o:d'}{bi:d6}{a:nu}(A:A!)(h:fI c a H)(ho:lZ o bm)(hb:i! (Fv (FV o "book") o=f9 o)):lZ (zV o "book" bi) bT:=by rw[qC h bu bu,cQ ho ii (b9 _ dx _ D6 y7 O! O) hb]
fI.cu{a:nu}{m:bt}(h:fI c a H)(hm:eZ (([("book",c! bT)]:k!).CE m)):tO (∃dx fs,H1 bm=Z sw pU fs/\FA):=λ H1 s1=>by rw[qC h bU bU,(cE dx _ D6 hm)]
EU(A:a?):sQ 9 pU "sheet_of" (RQ cY (nu×(Y×OK)×j?) [Ba,vN tq,d1] ci (oV/\E3 tq ta/\c? d1 e?/\bh Sn e?/\bN e?<=64) dR (∃q,np/\kb c H q g7 ta e?)):=Ei A.gv.aLa azZ λ a e H hr hp U hU=>by obtain⟨dk,⟨wn,y⟩,tv,t⟩:=a;rw[jl gE λ hD hy hT bJ ap=>?_];dsimp only at hy hT bJ ap;rw[gq,<-bg (LD (atO A) hr (cq (afp A hD az) th JS a5) DA)];(rw[Ay λ _ _ cH dA _ _ ee fJ _ _ iH jG l9=>ah fJ ad wa kg hW];subst cH dA ee iH jG l9 kg);exact(c0 (Hg,(wa,y),_,t) (j3 Gq hD.2 s1 hW (b! gM s1 hT) bJ ap) λ v H2 s2 h=>h)
D7{w:Y}{t:al}{f:R_}:(v! w<0/\Fp w CR f=O? (mB w t))\/(¬v! w<0/\SF/\KX/\∃y,E3 w y/\Fp w CR f=f y):=by unfold mB y8 vc;by_cases h:F!;(.rw[M2,M2];rw[Av ab]);.rw[b? h,b? h];cases hw:CQ w with|ac=>rw[gS gu (by cases h.1),Av ab]|gV y=>dsimp only;cases hs:Mw with|false=>rw[b? gu (by cases h.2),gy (.fE O)];rw[Av ab]|c2=>rw[hA #[rfl,rfl],b? gu (by rcases h with h|h<;>cases h)];exact .fE #[ab,by exact Cn h,rfl,y,rfl,rfl]
Zt.2:=nu×iU j?
Kq.2(a:Zt):g8:=ti Ba d1
El.2(c:Cs)(a:Zt)(H:Hp):Prop:=oV/\c? d1 e?
qD{σ:eo}{bi:d6}(h:io e iW i)(hs:kJ [e] f9 e []):mU tb [e] bi (k8 H v [i]):=(r4 nY [iW i] (ae h ao hs)).imp tc v h #[kP (1<=300),h]
TR(l:al):Rd=0::Sl::ID l:=rfl
ints_map(l:al):(ID l).map mc=M8:=by rw[oW ID nC];rfl
pQ(n:Y)(cs:zd fm):bN (IF n cs)=n:=by rw[z4 IF]
Jb{σ:eo}{a b:d'}{bi:d6}{l:al}(ha:io a (.f7 0))(hb:io b (vN e_))(he:ic Ev e λ v H=>gQ l)(hl:e_<=200)(hs:kJ [a,b] f9 a [b])(dY:kJ [b] f9 b []):Qj [a,b] .Add (k8 H v Rd):=(DF (r4 nY [.f7 0,vN e_] (ae ha (ae hb ao dY) hs)) he (by rw[el];exact hI (show _<=2000 by simp;exact aB8 hl) ab)).imp tc v bx o! bx q (eM (by rw[TR];simp[ID];exact asf hl) q e (by rw[h,TR,u3,u3,ints_map];rfl))
aJC(h:E3 n y):y.all=c2->y.keep=false:=by rw[nh CQ];split at h;(.cases h);.rename_i hn;cases h;intro h1;cases h2:n.testBit 3 with|false=>rfl|c2=>rw[jt (.fE (.f? #[h1,h2])) hn]
aJx(A:a?)(T:it):JO (sQ 8 pU "chances") Kq (IA (IF bN e? (Ue m0 y e?))):=Ei A.gv.aqM Tf λ a e H hr hp U hU=>by rw[Jq t a Tf.nd];rcases D5 D7 t t (f:=qq (IA (IF nV (Ue mK y t))))with⟨h1,h2⟩|⟨h1,iN,bJ,y,hy,h2⟩;(.rw[z! b6 b6 hx]);.rw[I! b6 h1 i? (bg (Jb ai (eS p9 hq a5 (by rw[pQ])) ?_ (by rw[pQ];exact al9 iN))),<-oF lK aiP hr (cq (afp A hD az) th JS a5) DA];(rw[Ay λ _ _ jF kD _ _ ka lL _ _ nR nM qX=>ah lL ad wa oh hW];subst jF kD ka nR nM qX oh);exact(c0 (Hg,(wa,y),sR,t) (Hw Gq hD.2 s1 hW (aJC hy) vq bJ iN) λ v H2 s2 h=>h)
axx(t:al):uA t 0 nV=t:=by unfold uA;rw[Nat.sub_zero,List.drop_zero,Oq]
aFQ(A:a?):JO (EK "width") Kq sY rX (Uf m0 y e?):=Ei A.gv.aui Y3 λ a e H hr hp U hU=>by rw[Jq t a Y3.nd];rcases D5 D7 t t (f:=qq sY rX (Uf mK y t))with⟨h1,h2⟩|⟨h1,iN,bJ,y,hy,h2⟩;(.rw[z! b6 b6 hx]);.rw[PC ?_ (N6 A) ai];(rw[Ay λ _ _ uW vV _ _ vd Dt _ _ OF Ni atb=>ah vV ad sa aAc hS];subst uW vd Dt OF Ni atb aAc);exact c0 RK #[hS,wV,qK] lB v h (by rw[h];rw[za axx])
aq3(A:a?):JO (EK "measure") Kq sY rX (Ug m0 y e? 0 bN e?):=Ei A.gv.aFO aaV λ a e H hr hp U hU=>by rw[Jq t a aaV.nd];rcases D5 D7 t t (f:=qq sY rX (Ug mK y t 0 nV))with⟨h1,h2⟩|⟨h1,iN,bJ,y,hy,h2⟩;(.rw[z! b6 b6 hx]);.rw[PC ?_ (Kl A) ai];(rw[Ay λ _ _ aq5 axc _ _ aGM amB _ _ akY ayG asm=>ah axc ad sa aqj hS];subst aq5 aGM amB akY ayG asm aqj);exact(c0 RK #[hS,wV,qK] λ v H2 s2 h=>h)
yf.2(n:Y)(t m:al):fm:=n==0||(dL (Uh<=n)||!IW m)
QC{w:Y}{t:al}{f:R_}:(tE w n t m<0/\Jk EQ Fp w (yf n t m) f=sY (tE w n t m))\/(¬tE w n t m<0/\SF/\KX/\n<=65535/\Af/\∃y,E3 w y/\Jk EQ Fp w (yf n t m) f=f y):=by unfold tE;by_cases h:L';(.rw[M2,hA (show EQ from h)];rw[Av ab]);rw[b? h,b? Go EQ h];rcases D7 (w:=w) (t:=t) (f:=f)with⟨h1,h2⟩|⟨h1,iN,bJ,y,hy,h2⟩;(.rw[rz h1,<-.f? #[h1,?_]];rw[<-h2];unfold y8;unfold mB at h1;by_cases h6:F!;(.rw[hA (show vc<nV from h6),hA (show vc<nV from h6)]);.rw[b? h6]at h1;rw[b? Go LX h6,b? Go LX h6];cases hw:CQ w with|ac=>rfl|gV y=>dsimp only;rw[hw]at h1;(have hs:Mw=false:=by cases hs:Mw with|false=>rfl|c2=>rw[hA #[rfl,hs]]at h1;rw[jt h1 ab]);rw[gy (.fE hs),gy (.fE hs)]);.rw[gS h1];(have hb:(yf n t m=c2)↔¬(MA/\Af):=by unfold yf Uh;cases IW m<;>simp<;>omega);unfold y8;rw[b? (show¬LX by unfold vc;exact apy iN),hy];dsimp only;by_cases hg:MA/\Af;(.rw[hA hg,b? gu (by rcases h with h|h;(.exact hb.mp h hg);.rw[cx bJ h h])];exact .fE #[ab,iN,bJ,hg.1.2,hg.2,y,rfl,rfl]);.rw[b? hg,hA (.f? (hb.mpr hg))];rw[Av ab]
Tu{t:al}(h:Af):BE m t:=by rw[nh T?];rw[e7,e7,NL]at h;refine #[L0 h.1,xz bf];rcases h.2.2 with h|h;(.rw[jt (List.isEmpty_iff.mp h) bf]);.simpa using h
LnD.2:=nu×(Y×Y)×sA×j?
Qu.2(a:LnD):g8:=[Ba,vN tq,vN ta,d1.1,nj]
Jw.2(c:Cs)(a:LnD)(H:Hp):Prop:=oV/\c? d1.1 d1.2/\c? nj s9
az3(h:jP c.Ways H a y):∃dx fs,fy a sw c.Ways fs/\fs.lookup ("splits":bt)=et .bl y.split:=by obtain⟨dx,fs,h1,_,_,_,_,_,_,_,h2⟩:=h;exact(cE dx fs h1 h2)
aIg(A:a?):Ry (EK "fill") Pa s9:=iw A.gv.awp YT dX b5 ck λ a e H hr hp U hU=>by obtain⟨dk,⟨wn,n⟩,⟨tv,t⟩,mv,m⟩:=a;rw[Q_ iP (λ hD akA qm tS dQ=>ah akA ad q hv hq) YT.nd];rcases PN n m Pa with⟨h1,h2⟩|⟨h1,iN,bJ,hn,vD,y,hy,h2⟩;(.rw[z! ip ip hx]);.rw[PD Pa atv th (MW (P:=iO v (v=.bl y.split)) JS Bh ?_) du];((. (rw[dl (ah md ad wa ak4 hW) ak4]);refine dc (az3 hW) λ dx fs g1 g2=>?_;exact(lq wa _ dx fs _ O g1 A.e9.cl A.e9.abn g2 Gv));. (refine Bp dV λ _ _ aiY aqY _ _ ahe aC0 _ _ avs aqa _ _ aEi ajc amZ=>ah aqY ad sa MZ hS;subst aiY ahe aC0 avs aqa aEi ajc amZ MZ);exact c0 ((sa,vp,y,t),n,wp,m) #[hS,Lf,Tu vD] lB v h (by rw[<-hL];exact h));. (rw[wx bq (λ IU hl=>ah IU ad ql KC fX) KC]);exact bg (Jb ai p9 fX i0 q9 i0 vR H2 s2 (by rw[h! e mO ql fX]) dn Uv hl)
ane(A:a?):Ry (EK "ragged") Pb ch.2.2:=iw A.gv.aLR RS dX b5 ck λ a e H hr hp U hU=>by obtain⟨dk,⟨wn,n⟩,⟨tv,t⟩,mv,m⟩:=a;rw[Q_ iP (λ hD O6 qm tS dQ=>ah O6 ad q hv hq) RS.nd];rcases PN n m Pb with⟨h1,h2⟩|⟨h1,iN,bJ,hn,vD,y,hy,h2⟩;(.rw[z! ip ip hx]);.rw[PD Pb asI B4 du];(. (rw[Ay λ _ _ Ld OY _ _ aG4 amv _ _ aJm amk apQ=>ah OY ad sa aul hS];subst Ld aG4 amv aJm amk apQ aul);exact c0 ((sa,vp,y,t),n,wp,m) (fQ hS Lf (Tu vD) kW (n<65536) Nat.lt_succ_of_le hn) lB v h (by rw[<-hL];exact h));. (rw[wx bq (λ atf hl=>ah atf ad ql aFp fX) aFp]);exact bg (Jb ai p9 fX i0 q9 i0 vR H2 s2 (by rw[h! e mO ql fX]) dn Uv hl)
J'{k:ak}(h:eZ (H2 k)):br (upd H2 k o) k=H2:=by funext b;rw[km];split;(.rw[xc];rw[e,h]);.rw[xc];rw[aV e]
aCy{t:TE}(h:PE X e t):PE X e (λ σ H Q=>∃l xs,k4 l xs/\t σ Nn λ v H2=>eZ (H2 l)->Q v qB H2 l xs):=by rw[Gt H Q I,<-dc zz λ l xs hl ht=>?_];((have bf:∀{b:ak},eZ (H b)->b≠l:=λ hb e=>by rw[f' hl hb hb]);have Bs:∀{b:ak},eZ (H b)->eZ (br H l b):=λ hb=>by rw[km];split;(.rfl);.exact hb);have nN:tP b ak (fy b o->(∀ys,o≠.lst ys)->br H l b=Z o):=λ hb ho=>Pp hb hl (ho _);obtain⟨hz,aF,n,rv,hg⟩:fC x_ X.w H uY l (.lst xs):=I.aR l _ hl;(have mE:l∉X.fs:=λ hb=>by refine iS (I.ok.mj.mem hb) λ _ o ho _=>?_;have:=Ul l o ho (I.ok.r_ l hb) λ z=>I.ok.xO l z hb;rw[vS hl]);have p5:l≠X.env.locals:=λ e=>bf I.free e.symm;(have I1:Inv X ((l,({cls:=Md,data:=.seq aF.toArray n}:Obj))::iE) σ Nn s:=by(refine #[I.ok,I.os,I.bare,#[I.base.keep,I.base.slot,λ b o h1 h2 h3=>Bs Q4,I.base.there,λ b ys h1=>nN (I.base.pk b ys h1) r7 e qe,λ b o u h1=>nN (I.base.nU b o u h1) r7 e qe,ad b ps h1],I.loc,I.cell,Bs I.free,λ x c e=>Bs (I.ly x c e),cA p hp,ad b o hb,I.len];(.rw[Q0 I.base.oS b (nN hm r7 e qe)]);.rcases E_ hp with hp|hp;(.refine bX (I.pin p (Um _ hp)) ad g1 g2 g3;exact #[g1,Bs g2,g3]);.rcases T! hp with rfl|hp;(.exact(j3 hg (by rw[km];rw[n6]) p5 mE (λ v e=>qe)));.refine bX QA I.pin p hp ad g1 g2 g3;exact #[g1,Bs g2,g3]);.rw[Sc (I.aR b o ff hb) (nN h1 r7 e qe) (nN h1 r7 e qe)]);refine be (h _ s σ Nn _ I1 ht) λ v s' bx=>aO bx λ x H2 I2 r q=>?_;refine bX QA I2.pin (l,_) HK l! g1 g2;have q':=q g2;((have awV:tP b ak (H2 b=Z o->b≠l):=λ hb e=>by rw[f' g2 hb hb]);have tD:tP b ak (H2 b=Z o->upd H2 l (.lst xs) b=Z o):=λ hb=>by rw[aV (awV hb)];exact hb);(refine(aE x _ #[I2.ok,I2.os,I2.bare,#[I2.base.keep,I2.base.slot,M1 b o h3,I2.base.there,λ b ys h1=>tD (I2.base.pk b ys h1),λ b o u h1=>tD (I2.base.nU b o u h1),ad b ps h1],I2.loc,I2.cell,?_,ad x c e,cA p hp,ad b o hb,I2.len] r q');(.rw[aV (bf Q4)];exact I2.base.free b o h1 h2 h3);.rw[Q0 I2.base.oS b (tD hm)]);((.rw[aV (bf I.free)];exact I2.free);.rw[aV (bf (I.ly x c e))];exact I2.ly x c e);(. (have nH:p∈X.pn++(l,({cls:=Md,data:=.seq aF.toArray n}:Obj))::iE:=by rcases E_ hp with hp|hp;(.exact Um _ hp);.exact Ki Un _ hp);refine bX (I2.pin p nH) ad k1 k2 k3;refine #[k1,?_,k3];rw[aV (bf (I.pin p hp).2.1)];exact k2);.by_cases e:b=l;(.rw[f' aY hb hb,(o_ hz aF n rv g1)]);.rw[aV e]at hb;rw[Sc (I2.aR b o hb) (tD h1) (tD h1)]
az6{o2:HO}(s:my lD z H2 z)(h2:H2 z=Z o2):aj sC z o2 H2:=λ a o h=>by by_cases e:a=z;(.subst e;rw[aY]at h;rw[h2,<-h]);.rw[aV e]at h;(have h1:br H z a=Z o:=by rw[km,gS e,h]);exact ff Bu
i5.ins{C' fc:ak}{d:bR}{gC:k!}(h:i5 C H b d)(hz:fy z (.ins C' fc gC))(bf:b≠z):i5 C xf b d:=by obtain⟨F,dx,fs,pa,p0,p1,p2,h1,h2,h3,h4,h5,h6,h7⟩:=h;exact #[F,dx,fs,pa,p0,p1,p2,by rw[aV bf];exact h1,h2,h3,sK hz h4 _,q8 (gA S') _ hz h5,q8 (gA Rv) _ hz h6,q8 (gA Sr) _ hz h7]
IH{C:ak}{H:Hp}{b kk z C' fc:ak}{d:bR}{gC:k!}{o:HO}(h:bz C H b d kk)(hz:fy z (.ins C' fc gC))(hf:eZ (gC.lookup LO)):bz C xf b d kk:=by obtain⟨hp,dx,fs,mr,sr,co,aq,h1,h2,h3,h4,h5,h6,h7,h8,h9,fb,eD⟩:=h;(have bf:b≠z:=λ e=>by subst e;obtain⟨_,MS,fs2,pa,_,_,_,g1,g2,_⟩:=hp;rw[cx hz g1 g1,cx hf g2 g2]);exact #[hp.ins hz bf,dx,fs,mr,sr,co,aq,by rw[aV bf];exact h1,h2,h3,h4,h5,h6,h7,q8 yE _ hz h8,q8 Dn _ hz h9,sK hz fb _,eD]
lI.2:=ak×ak×al
dW.1(c:Cs)(K:h?)(r:lI)(n:Y)(H:Hp):Prop:=(∃dx,fy r.1 sw nW [RO pd,("at",vN n)])/\aC K H pd GS r.2.2
dy.1(z:ak)(H H2:Hp):Prop:=my lD z H2 z
pV(s:aj H H2):dy z H H2:=eR s
dy.trans{z:ak}{H H1 H2:Hp}(a:dy z H H1)(b:dy z H1 H2):dy z H H2:=nQ a b
CS{z:ak}{H:Hp}{o:HO}:dy z H xf:=λ a u h=>by rw[tL h];split at h;(.cases h);.rw[xc];rw[b? e,aV e];exact h
CV(s:dy z H H2)(h:fy a o)(bf:a≠z):H2 a=Z o:=ff n5 (by rw[km,gS bf,h])
AV{dx:ak}{fs:k!}(hz:EX)(s:dy z H H2)(h:aC K H a xs):aC K H2 a xs:=by rcases h with h|h;(.rw[Qm h (s.at_ h (wI h hz ro)) (s.at_ h (wI h hz ro))]);.exact .fE h
ub(s:aj H H2)(h:aC K H a xs):aC K H2 a xs:=by rcases h with h|h;(.rw[Qm h uf uf]);.exact .fE h
dW.later{r:lI}(h:tR r)(s:kw):f_ r n H':=by rw[Kp h aS aS,#[B0 Bu,ub s h2]]
ZO(x y z:V):bK "at" z ([("numbers",x),("at",y)]:k!)=([("numbers",x),("at",z)]:k!):=by refine(Pi).jR (r? (List.cons _) ?_);exact gy O
OG{σ:eo}{o:d'}{bi:d6}{r:lI}(A:A!)(h:dW c X.K r n H)(ho:lZ o r.1)(hb:i! (Fv (FV o "numbers") o=f9 o)):lZ (zV o "numbers" bi) pd:=by rw[PI aU aU A.fW.abg]
Eg{σ:eo}{o:d'}{bi:d6}{r:lI}(A:A!)(h:dW c X.K r n H)(ho:lZ o r.1)(hb:i! (Fv (FV o "at") o=f9 o)):io (zV o "at" bi) (vN n):=by rw[PI a9 a9 II]
tM0.1(C:ak)(m:bt)(i:Y)(c3:k?)(cr:kc)(ge:l6)(e!:k5):TE:=λ σ H Q=>∃a b,σ[i]?=Z l8/\(∃dx fs,fy b Dq/\FA)/\c3 a=[aN b]/\cr a H/\vW Do Dk (Q v H2)
rD{k:Y}{x m:bt}{p bi:d6}{pl:B'}(i:Y)(cl:dS X.K C)(F:Dp Ai sT C m cr)(hr:xG)(hN:i! (X.N[i]?=DG))(hv:Rg ny)(hd:DL (x==Au))(gW:PZ bt)(ht:i! (f9 lJ (.Ig Bz m pP) []=(do let ov<-f9 Bz;standAt TT;let(f,first)<-EI ov m pl;Ps f [] []))):PE X lJ (.Ig Bz m pP) [] t8 (tM0 C m i c3):=by rw[Mh f hb G,Gt H Q I];obtain⟨a,b,h0,⟨dx,fs,h1,h2⟩,ha,h3,q⟩:=zz;exact Xl (Df hN hv hd gW) cl hm G hr hb iv m6 ht iE s σ H Q I #[_,h0,b,dx,fs,rfl,h1,h2,a,by rw[ha];rfl,h3,q]
Di(A:a?):Fu 1 nW "take_number" cY (lI×Br) [aN hY] ci (f_ bm bT H/\ze[uu]?=Z ch) r5 (dy hY) dR (v=vN ch/\f_ bm (uu+1) H):=F7 A.fW.aGa aea dX b1 ck λ q f aK A' em s H E hr hp=>by obtain⟨⟨ra,ca,nl⟩,n,x⟩:=q;rw[Fo hR hx,KN hx aea.nd];have aQ:tR k_:=hR;rw[gh iB aQ λ bu h2=>gr bu dx h1];rw[lR eY dF BA aI (Zr sM kf ZY) jb pi D p,<-DX x (cO (OG A aQ az) (Eg A aQ az) AL (ub s1 h2) (cb (by rw[yD];rw[za hx];rfl))) cA H1 s1];have hX:=D6;rw[qO #[_,rfl,ra,nW,dx,_,vN n,rfl,hX,nX,II,rfl,dt n,1,rfl,rfl,dx,_,hX,RH,_,rfl,?_] (p _ _ ((pV s1).jR CS) #[rfl,#[dx,?_],AV hX CS (ub s1 h2)])];rw[aY,ZO];rfl
aja{nl:al}{k:Y}(h:F? (n+k)):gT (nl.map vN) Z dt n Z mA (n+k)=jD zx (CX n) vN:=by rw[LK vN vo h];rw[oW uA CN]
ao0{σ:eo}{o lo hi:d'}{bi p2:d6}{Po P:w5}{j:cm}(ho:ic Ev o Po)(hl:io lo iW i)(hh:io hi iW j)(hx:∀u H1,qg->bc (Po u) H1->∃q xs,u=sR/\aC X.K H1 q xs/\∀p,eZ (H1 p)->bc (P (.ref p)) qB H1 p (gT xs Z i Z j)):ic Ev Dw (.Slice Z lo Z hi ac p2) bi P:=QZ (EY MH aI (yL aI) (yL aI)) Op (me re hl.later λ H3 s3=>#[i,rfl,me (hh.later EN) kx #[j,rfl,by(rw[jq (hx u H4 KD ga (hu.later (mb s4))) (λ a xs bU h1 h2=>?_) bU]);exact(aE a xs O h1 (λ l hl=>q _ _ DZ mb L4 cT hl (h2 l hl)))]])
RwD.2:=lI×iU iU (ak->Prop)
Iw(A:a?):Fu 2 nW "take_row" BY RwD [aN hY] ci (mw e? H/\f_ bm bT H/\ze[uu]?=Z d1/\bT+1+d1<=bN ze) r5 (dy hY) dR (gH e? H v sE xA a.1.2.2 (uu+1) d1/\f_ bm (uu+1+d1) H):=F7 A.fW.akg aaY dX b1 ck λ q f aK A' em s H E hr hp=>by obtain⟨⟨ra,ca,nl⟩,n,k,S⟩:=q;refine dq hp λ hS hR hx hle=>?_;dsimp only at hS hx hle⊢;have nd:=aaY.nd;have aQ:tR k_:=hR;rw[gh iB aQ λ cH h2=>gr cH dx h1];rw[lR (aP dF BA (rD 0 nX (Di A) hr) eY dF m7 aI (Zr sM pi ZY) jb Hn) D p,<-g! (fM (on,n,k) ra O om dx h1) #[aQ,hx] BL bw jL ?_];obtain⟨rfl,fj⟩:=jL;have Em:f_ k_ kQ H1:=fj;rw[gh iB Em λ dA g2=>gr dA xj g1];(have nt:mw S H1:=λ x hx=>by obtain⟨o,ho⟩:=hS x hx;by_cases e:x=ra;(.exact l? (by rw[fY e g1]));.exact #[o,CV bw ho e]);refine eT (iQ ao0 P (gH S H v zx (CX kQ)) (OG A Em az) (Eg A Em az) (uk y (.f7 mA (kQ+k)) (aW bV (Eg A Em az) au) (by congr 1)) (xa zO ca (ub s2 g2) λ p hp H3 s3=>c0 p ((nt.later s2).off hp) (by rw[<-aja hle];exact wi))) λ v H2 s2 hv=>?_;(rw[wx bL (λ qv ee Fc iM=>?_) ee]);have G9:=iI g1;rw[qO #[_,rfl,ra,nW,xj,_,vN kQ,rfl,G9,nX,II,rfl,_,rfl,mA kQ,dt k,rfl,rfl,xj,_,G9,RH,_,rfl,?_] (p _ _ (bw.trans ((pV s2).jR CS)) #[c0 qv Fc (l_ G9 iM (λ _ _ _ e=>qe)),#[xj,?_],AV G9 CS (ub s2 g2)])];rw[aY,ZO];rfl
alL(A:a?):mn lE w 1 "Reader" nW cY (ak×al) [aN bm] ci (aC K H bm Bv vN) dR (∃q,np/\dW c K (q,bm,cd) 0 H):=by rw[<-Bi A.Reader A.fW.init agI dX b2 ck λ a f aK A' em s E z dx H1 hr hz n_ bf hp=>?_,wJ ca nl];dsimp only at hp⊢;(rw[iK (aP tI (cJ tI)) pc D n];have s0:=C9 (o:=.own z) (o':=zj nW dx []) hz n_;have mi:tP H' Hp (rU->mF (upd H' z o)):=λ s' b' o' hb=>by rw[aV (c8 hb hz)];exact kS s');rw[Kj (rY (fs:=[]) nX A.fW.abg ab au) H2 fV];cases dV;refine im me (.f7 0) ai wq s3 #[_,rfl,z,nW,dx,_,rfl,wi,nX,II,RF,?_];refine n _ _ Q5 kx c0 z #[dx,?_] (ub ((Q5).jR s4) hp);exact db aY
aAv(A:a?):sQ 1 nW "is_done" (RQ cY (lI×Y) [aN hY] ci f_ bm cd H kU (.bl (Hr (jC a.1.2.2<=cd)))):=iw A.fW.aut aoQ dX b1 ck λ a e H hr hp U hU=>by obtain⟨⟨ra,ca,nl⟩,n⟩:=a;have hR:tR k_:=hp;rw[ig hU _,<-aG (gF eO (Eg A hR az) (di (m:=IJ) jH (OG A hR az) zF zO ca v5 (ub s1 hR.2) K4)) lA];dsimp only;congr 1;exact S_ iT S!
SH:∀{l:al}{i:Y}{hv:SA}{ns:SA},N8 i hv l=.ok ns->e_=4*pK|[],i,hv,ns,h=>by cases h;rfl|[_],i,hv,ns,h=>GK|[_,_],i,hv,ns,h=>GK|[_,_,_],i,hv,ns,h=>GK|a::b::c::d::l,i,hv,ns,h=>by rw[_B.ab1]at h;generalize(([a,b,c,d].all λ(x:Y)=>dL (x<128))&&_)=q at h;cases q with|false=>cases h|c2=>rw[n6]at h;cases hm:N8 uw (_B.d7 [a,b,c,d]::hv) l with|uy e=>rw[cx hm h h]|ok m=>rw[cx hm h h];have:=SH hm;simp only[sk];rw[cP atz]
aIh{p s n:al}(ap:i1+d?+s.length+yx<=8192):(∃f,IL p m s n=xp f/\Bj (p,m,s,n)=rI)\/(Bj (p,m,s,n)=[]/\∃d:bR,AD (p,m,s,n) d/\yF d/\xY/\IL p m s n=(match KH with|Z f=>xp f|ac=>.ok hO)):=by unfold Bj IL;dsimp only;cases h1:ow ac p with|uy f=>rw[mJ A1 f]|ok ps=>cases h2:Ds ac m with|uy f=>rw[mJ A1 f]|ok ms=>cases h3:yr (s.length+1) 0 ac s with|uy f=>rw[mJ A1 f]|ok ss=>unfold oZ;cases h4:SL [] n with|uy f=>rw[mJ A1 f]|ok ns=>dsimp only;by_cases h5:0<pK/\pK<3;(.rw[hA h5,hA h5];rw[mJ GB O]);.rw[b? h5,b? h5];refine bX (_B.Lp h1) l! p1 p2;refine bX (_B.TC h2) l! m1 m2;refine bX (_B.Q3 h3) l! s1 s2;(have hw:Mt.walked #[yO It ps,yO nP ms,yO yV ss,ns]=wb p:=by rw[_B.akZ,_B.alC ps BS (p1 x hx).bM];unfold wb;rw[<-(H_ h1).2]);rw[oW By hw];by_cases h6:4096<wb p;(.rw[hA (show Mt.WALK<wb p from h6),hA h6];rw[mJ GB O]);.rw[b? Go (Mt.WALK<wb p) h6,b? h6];have J:AD (p,m,s,n) #[ps,ms,ss,ns]:=#[ap,h1,h2,h3,by have:=SH h4;show pK=yx/4;rw[cP aw8]];(refine .fE #[rfl,#[ps,ms,ss,ns],J,#[J.de,by show pK=0\/3<=pK;exact aI7 h5],#[p2.imp xz h,m2.imp xz h,s2.imp xz h],rfl];(.rw[nh _B.nO,SO h]);.rw[nh _B.HW,SO h]);.rw[nh _B.EZ];rcases h with h|h<;>omega
ah4{ys:g8}{ls:al}(h:fu (λ v n=>v=vN n) ys ls):ys=ls.map vN:=by induction h with|nil=>rfl|fK r t ih=>rw[r,ih];rfl
arf(y z:V):bK "book" z ([("book",y)]:k!)=([("book",z)]:k!):=by unfold bK;rw[n6]
wR.later{v:V}{r:uS}(h:wR H v r)(s:kw):wR H' v r:=by refine zT h λ q v0 v1 v2 v3 e h k0 k1 k2 k3=>?_;exact(lq q v0 v1 v2 v3 e uf F1 k0 F1 k1 F1 k2 F1 k3)
Uu{σ:eo}{a:d'}{bi:d6}{q:ak}{l:al}{f:NE}(ha:io a iW (-5))(he:lZ e q)(hq:fy q Lx)(hl:l=rI)(hs:kJ [a] f9 a []):Qj [a] .Add qo #[-5,rI,ac]:=by subst hl;refine(DF (xs:=[iW (-5)]) (ys:=jD rI vN) (r4 nY [iW (-5)] (ae ha ao hs)) (he.imp Az H1 q n1) kP (3<=uT)).imp tc v bx o! bx q (eM kP (3<=300) q e h)
Jt.2(B:sl)(r:uS):sl×Ub:=ve B (.book r.1 pd xx xv)
aK9(A:a?)(T:it):Fu 10 pU "hand_over" cY (nu×V×uS) oP bT ci (oV/\wR H bT ch) r5 (dy hY) dR (∃bk:BK,fI c (mY,bk) H/\zY=(Jt m0 ch).1/\qo (Jt m0 ch).2):=F7 A.gv.aw9 acb dX b2 ck λ q f aK A' em s H E hr hp=>by obtain⟨⟨da,bk⟩,rv,⟨rp,rm,rs,rn⟩⟩:=q;rw[sJ hD aS (zT aS λ ra v0 v1 v2 v3 p_ xD k0 k1 k2 k3=>?_)];have qY:fI c (da,bk) H:=hD;dsimp only at p_ xD k0 k1 k2 k3⊢;rw[p7 p_ acb.nd];have hRr:wR H M! (rp,rm,rs,rn):=(lq ra v0 v1 v2 v3 O xD k0 k1 k2 k3);rw[lR (aP (iy dw sZ dh) eY dF m7 aI E7 eY dF v6 aI dF m7 (yU (aql A) hr) eY E7 (ik sM r' O) sZ) D p];have q_:Jt zY (rp,rm,rs,rn)=if JZ then(G_ bk.2.1,sY (-6))else(match IL rp rm rs rn with|xp f=>(G_ bk.2.1,#[-5,rI,ac])|.ok A=>(A,O? 0)):=rfl;(refine ce (bP (i:=mA (CF+yW+yX+IM)) gJ oD (aFN (ns:=[m? CF,yW,yX,IM]) O A.g.apr (Dd 4 (R:=λ _ v n=>v=vN n) (ls:=[CF,yW,yX,IM]) O nd Qp ["self","rows","broken","book","row"] JD ("row",4) au zF n2 ra ey gZ xD ck (i4 kP (4<=10000)) O (λ s' dE C cl fp k x z H1 s1 hk hz=>?_) (λ _ _ _ _ _ h=>h) (λ _ _ _ _ _ _ _ h=>h) sS) Bh ?_) mc (by rw[rS aF9]) d2 A.g.am4) ii vK;(. (obtain⟨l,hl,rfl⟩:∃l,c? x l/\z=e_:=by match k,hk,hz with|0,hk,hz=>cases hk;cases hz;exact ce k0 O|1,hk,hz=>cases hk;cases hz;exact ce k1 O|2,hk,hz=>cases hk;cases hz;exact ce k2 O|3,hk,hz=>cases hk;cases hz;exact ce k3 O|k+4,hk,hz=>simp at hk);exact di (m:=e_) jH du xa (by rw[oL OD vx ga s2 hl]));. (rw[jq md (λ a ys aU ha pr=>?_) aU]);refine f8 a ey ?_;rw[ha,ah4 pr];rfl);(. (have hb:JZ:=by rw[mM];show 8192<_;rw[cP aCT]);refine eT (qD (ag A.g.L1)) λ v H2 s2 hv=>p v H2 re pV kn aZ bk re CY;(.rw[q_,hA hb]);.rw[q_,hA hb];exact dV);have hb:¬JZ:=λ h=>wC hx (by have:8192<Jg:=h;rw[cP Int.lt_of_toNat_lt]);have ap:Jg<=8192:=Cn hb;rw[b? hb]at q_;refine eT (aT lK aji dp (M!,rp,rm,rs,rn) zE eN #[re hRr.later,ap]) λ bv H2 s2 ud=>?_;(rw[Al ud.now qb Aa]);dsimp only at Aa;have j_:=ga s2;rcases aIh ap with⟨f1,hj,fw⟩|⟨fw,d,J,FD,SD,hj⟩;(.rw[fw]at Aa;refine(af c2 (oH a5 n! H3 s3 (by rw[oL (s_ (l:=[f1.rule,f1.place])) f8 qb MG])) fx (iZ ?_));refine eT (Uu d2 A.g.Sy a5 MG O) λ v H4 s4 hv=>p v H4 QU pV kn aZ bk QU CY;(.rw[q_,hj]);.rw[q_,hj];exact dV);rw[fw]at Aa;refine(af CR (oH a5 n! H3 s3 (by rw[oL (s_ (l:=[])) f8 qb MG])) fx (j8 ?_));have rB:=j_.trans s3;refine eT (sj (adD (λ x=>∃o,fy x o) A) dp (M!,(rp,rm,rs,rn),d) zE j! #[λ x cy=>cG cy λ o ho=>#[o,db a7 rB ho],(lq ra v0 v1 v2 v3 O v5 db a7 rB xD EA k0 EA k1 EA k2 EA k3),J]) λ bkv H4 s4 G'=>?_;(rw[dl (fR G'.now λ qk kk bu hnk ED jd=>?_) bu]);dsimp only at ED;have jc:j5 S0 GA H4:=#[ED,[],jd,λ n v e=>(by cases e),ul,ul];refine(af GA ez b6 xy #[#[ON s5,FD],λ bv2 H6 bw jL=>?_]);(rw[dl (iS jL λ at4 RG bU wQ=>?_) bU]);dsimp only at wQ;rw[alI SD]at wQ;(have tU:aj H H6:=λ a o ha=>by(have qh:a≠kk:=λ e=>by subst e;exact hnk #[o,ha]);have h5:=a7 s5 db a7 rB ha;exact ff a7 bw (by rw[km,gS qh,h5]));have aoh:n3 d8 GA H6:=BM.book at4;cases RX:KH with|gV f2=>rw[RX]at wQ hj;refine(af c2 (oH a5 n! H7 s7 (by rw[oL (s_ (l:=[f2.rule,f2.place])) f8 RG M'])) (λ H7 s7=>iZ ?_));refine eT (Uu (l:=[f2.rule,f2.place]) d2 A.g.Sy a5 M' O) FT s8 (pV (IN (Oe s8))) kn aZ bk (CY (IN (Oe s8)));(.rw[q_,hj]);.rw[q_,hj];exact dV|ac=>rw[RX]at wQ hj;rw[<-(af CR (oH a5 n! H7 s7 (by rw[oL (s_ (l:=[])) f8 RG M'])) (λ H7 s7=>j8 ?_)),gh (CY (IN s7)) iO cH gr cH dx Iq,<-#[_,rfl,_,rfl,da,pU,dx,_,rfl,Iq,y7,O!,RF,?_]];(refine eT (qD ai) FT s8 ((pV (IN s7)).jR (dy.upd.trans (pV s8))) kn aZ GA #[B0 ui ?_,CK (IH Gq aoh s7 Iq O) s8];(.rw[aY,arf]);.rw[q_,hj]);.rw[q_,hj];exact dV
amS(A:a?):mn lE w 7 "Desk" pU ME Gp (λ _ v H=>∃q bk,np/\fI c (q,bk) H/\zY=Mt.NOBOOK):=by refine Bi A.jT A.gv.init aFF dX b1 ck λ a f aK A' em s E z dx H1 hr hz n_ bf hp=>?_;(rw[iK (aP (ik sM aI O) dh) pc D n];have s0:=C9 (o:=.own z) (o':=zj pU dx []) hz n_;have mi:tP H' Hp (rU->mF (upd H' z o)):=λ s' b' o' hb=>by rw[aV (c8 hb hz)];exact kS s');rw[Kj (iQ rY P (∃q kk,np/\sB H q #[[],[],[],[]]) (fs:=[]) y7 O! ab (LD (adD (λ _=>False) A) dp B4 (Bl (cq qR (cq qR th qR qR)) bn vs H (by(refine Bp h λ _ _ aS _ _ _ aU _ _ _ a9 _ _ _ bu _ bU=>?_;subst aS aU a9 bu bU);exact(ab:4<=100))) LJ)) H2 fV];(.obtain⟨v,_,rfl,⟨a,_,rfl,ha,v0,_,rfl,g0,v1,_,rfl,g1,v2,_,rfl,g2,v3,_,rfl,g3,rfl⟩,rfl⟩:=dV;exact(c0 (aN a,([],[],[],[]),#[[],[],[],[]]) #[λ _ h=>Il,(lq a v0 v1 v2 v3 O (.fE ha) g0 g1 g2 g3),#[kP (0<=8192),rfl,rfl,rfl,zU ((0:Y)=0/4)]] λ v H3 _ bx=>fR bx λ q kk e _ h _=>(cE q kk e LA h eh _)));. (rw[wx dc (λ q kk fJ hB=>?_) fJ]);exact n _ _ PB kx (aE z (q,#[[],[],[],[]],kk) O #[B0 db aY,CK (IH hB fV O) s4] O)
Xr{r:lI}(hD:fI c dk H)(hR:tR r):dk.1≠r.1:=λ e=>by rw[qC hD iH iH,gh hR iO jG gr jG fc h2];rw[e,h2]at h1;have:=r? (λ o:jX HO=>match o with|Z a7 .ins fs=>fs.length|_=>0) h1;rw[jt (show(2:Y)=1 from a6) ab]
fI.keep{r:lI}{n':Y}(hD:fI c dk H)(hR:tR r)(s:dy r.1 H H2)(eI:f_ r n' H2):fI c dk H2:=by have bf:=Xr hD hR;rw[Kp hD l9 l9,gh hR iO kg gr kg fc g1,gh eI iO jF gr jF MS g2,#[B0 (s.at_ h1 bf),CK (IH h2 g1 O) (az6 s g2)]]
dW.keep{r:lI}(hD:fI c dk H)(hR:tR r)(s:dy dk.1 H H2):f_ r n H2:=by have bf:=Xr hD hR;rw[qC hD kD kD,gh hR λ ka g2=>gr ka fc g1];exact #[#[fc,s.at_ g1 (sf bf)],AV h1 s g2]
C0.1(k w:Y)(t:al):Uq:=if k=2 then .chances w t else if k=3 then .width w t else .measure w t
TaD.2:=nu×iU (lI×iU Br)
aFV(A:a?)(T:it):tB 11 "text_answer" BY TaD ti Ba c! d1.1 ci (oV/\f_ d1 nj H/\rF[vE]?=Z w3/\rF[vE+1]?=Z n?/\nj+1+1+n?<=bN rF) (λ _ _ _=>True) dR (oV/\f_ d1 (wY+n?) H/\qo (ve m0 (C0 bT w3 sE xA a.2.2.1.2.2 wY n?)).2):=vC A.anU Wn dX b3 ck λ q f aK A' em s H E hr hp=>by obtain⟨dk,k,⟨ra,ca,nl⟩,n,wn,m⟩:=q;rw[jl gE λ hD hR hw hm hle=>?_];dsimp only at hD hR hw hm hle⊢;have nd:=Wn.nd;rw[lR eY dF v6 wl Di dF xn wl Iw fL D p,qC iB hR lL lL,D_ wn hw BL CZ cy (bq cy cA e1 fj)];subst e1;have rh:=Pc hR CZ fj;rw[gh iB fj iO nR gr nR xj h2,<-(g! (fM (on,n+1,m,S0) ra O om xj h2) (fQ (HB _) fj hm hle) λ v H2 uC dz=>bq dz cA hT eI)];have mR:=rh.keep fj uC eI;(rw[dl (bL hT uj qt nM dI) nM]);dsimp only at dI eI;generalize Fz (kQ+1) m=t at dI p;have zf:∀{H3:Hp},aj H2 H3->El c (dk,wn,c! qt,t) H3:=λ s3=>(eM (Pd s3) qt O gi dI);rw[w2 Rt qo (ve mK (C0 k wn t)).2 Pd L? C0,<-aX s? au A.g.Jh gf gf];(. (have hk:k=2:=by rw[or Dj]);rw[rz hk,bg (cK y7 lK aJx dp (dk,wn,c! qt,t) az lz mR.cu dZ b6 du O fx D!)]);. (have hk:¬k=2:=λ e=>by rw[ws,ajF e a6]);rw[gS hk,<-aX s? au A.g.Nv xo xo];(. (have jQ:k=3:=by rw[ou cn ap1]);rw[rz jQ,bg PP aFQ b6 du]);. (have jQ:¬k=3:=λ e=>by rw[wu cn,ajB e a6]);rw[gS jQ,bg PP aq3 b6 du]
GX.1(k w n:Y)(t m:al):Uq:=if k=4 then .fill w n t m else .ragged w n t m
LaD.2:=nu×iU (lI×iU ((Y×Y)×Br))
an6(A:a?):tB 11 "lines_answer" BY LaD ti Ba c! d1.1 ci (oV/\f_ d1 nj H/\rF[vE]?=Z w3.1/\rF[vE+1]?=Z w3.2/\rF[wY]?=Z wW/\rF[wY+1+wW]?=Z n?.2/\nj+1+1+1+wW+1+n?.2<=bN rF) (λ _ _ _=>True) dR (oV/\f_ d1 (wY+1+wW+1+n?.2) H/\qo (ve m0 (GX bT w3.1 w3.2 sE xA a.2.2.1.2.2 (wY+1) wW sE xA a.2.2.1.2.2 (vE+1+1+1+wW+1) n?.2)).2):=vC A.ay8 aeO dX b3 ck λ q f aK A' em s H E hr hp=>by obtain⟨dk,k,⟨ra,ca,nl⟩,n,⟨wn,co⟩,m,mm⟩:=q;rw[jl wO λ hD hR hw hc hm nA hle=>?_];dsimp only at hD hR hw hc hm nA hle⊢;have nd:=aeO.nd;rw[lR eY dF v6 wl Di dF xn wl Di eY dF (bY (i:=5)) wl Iw dF (bY (i:=6)) wl Iw fL D p,qC iB hR qX qX,D_ wn hw BL CZ eP (bq eP cA e1 fj)];subst e1;have rh:=Pc hR CZ fj;rw[gh iB fj iO oh gr oh xj h2,<-(g! (fM (on,n+1,co) ra O om xj h2) #[fj,hc] λ v H2 uC kq=>bq kq cA e2 eI)];subst e2;have mR:=rh.keep fj uC eI;rw[gh iB eI iO uW gr uW MS h3,<-(g! (fM (on,n+1+1,m,S0) ra O om MS h3) (fQ (HB _) eI hm kW F? (n+1+1+1+m) aJV hle) λ v H3 yR lT=>bq lT cA hT kG)];have Kg:=mR.keep eI yR kG;(rw[dl (bL hT uj qt vV dI) vV]);rw[gh iB kG iO vd gr vd LR h4,<-g! (fM (on,n+1+1+1+m,mm,S0) ra O om LR h4) (fQ (HB _) kG nA hle) GP qx oB (bq oB cA hM nJ)];have xU:=Kg.keep kG qx nJ;(rw[dl (bL hM uj qm Dt dQ) Dt]);dsimp only at dI dQ nJ h4;have ac0:=CV qx dI (wI dI h4 ro);generalize Fz (kQ+1+1) m=t at dI ac0 p;generalize Fz (kQ+1+1+m+1) mm=mk at dQ p;have zf:∀{H5:Hp},aj H4 H5->Jw c (dk,GQ,(aN qt,t),wp,mk) H5:=λ s5=>(HQ SV f8 qt pb ac0 qm O pb dQ);rw[w2 Rt qo (ve mK (GX k wn co t mk)).2 xU.later (nJ.later s3) GX,<-aX s? au A.g.Vu gf gf];(. (have hk:k=4:=by rw[or NN]);rw[rz hk,bg (Dh aIg (dk,GQ,(aN qt,t),wp,mk) az lz xU.cu pY b6 du dZ ip i0 O fx D!)]);. (have hk:¬k=4:=λ e=>by rw[ws,azh e a6]);rw[gS hk,bg (Dh ane (dk,GQ,(aN qt,t),wp,mk) az lz xU.cu (ae b6 pY du ip ez i0) O fx D!)]
vt{nl:al}{a:Y}{x:cm}(h:Nz[a]?=Z x):∃k:Y,nl[a]?=Z k/\x=dt k:=by rw[Ak h];cases e:nl[a]? with|ac=>rw[cx e h h]|gV k=>rw[cx e h h,A1 k]
avl(l:al):y9 (zs l)=l:=by unfold y9;rw[h! nC ((TS (λ x _=>Int.toNat_natCast x)).jR (List.map_id l))]
wd{nl:al}{a b:Y}{x:xg}(h:_R.iD (zs nl) a x b):nl[a]?=Z C1/\b=a+1+C1/\F? (a+1+C1)/\y9 x=Fz p? C1:=by obtain⟨h1,h2,h3,h4,h5⟩:=h;rw[EG h2 k e,ES h3,<-(fQ (by rw[hk];congr 1;exact axj e) h4 og aKY h4 h3 ?_)];(have h6:x=zs ((CX p?).uI C1):=by rw[zs,NY,Th];exact h5);(conv=>lhs;rw[h6]);exact avl _
tf.1(n:Y)(ks:BB):BB|0=>n|j+1=>tf n ks j+1+ks j
ayD{S:kh}{D:ak}{vs:g8}{g:Y->al}(hv:k4 D vs)(pr:La i (gH S H v (g i)) SM):wR H No (g 0,g 1,g 2,g 3):=by rw[show SM=[0,1,2,3]from rfl]at pr;cases pr with|fK k0 pr=>cases pr with|fK k1 pr=>cases pr with|fK k2 pr=>cases pr with|fK k3 pr=>cases pr;exact(lq D _ _ _ _ O hv k0.lst k1.lst k2.lst k3.lst)
AoD.2:=nu×lI×iU (FM×Y)
amK(A:a?)(T:it):tB 12 "answer_of" BY AoD oP c! tq ci (oV/\f_ bT d1 H/\_R.oY (zs bT.2.2) d1 nj s9) (λ _ _ _=>True) dR (∃bk:BK,fI c (mY,bk) H/\zY=(vf m0 nj).1/\f_ bT s9 H/\k8 H v (vf m0 nj).2):=Ej A.az8 aay λ q f aK A' em s H E hr hp=>by obtain⟨dk,⟨ra,ca,nl⟩,n,cc,b⟩:=q;refine bX hp ad hD hR hC;dsimp only at hD hR hC⊢;have nd:=aay.nd;rw[<-gN Ac aK9 λ fh fdh psh hmh hbh Gh=>?_,lR eY dF m7 (rD 1 nX (Di A) dp) zy jb (OT sM y7 hmh Gh dp hbh iv m6 (iG (vP O nd g! CT x? dU Qp ["desk","reader","call","row"] JF ("row",3) (λ _ _ _ _ _=>GL nd O (.f? O) (.fE O)) Nf (λ s' dE C cl fp=>rD 1 nX (Iw A) dp)) fH)) dh eY zy jb (yU lK aFV hr) dh zy jb (yU (an6 A) hr) dh fL D p,qC iB hR aS aS];(have first:∀(k:Y),nl[n]?=Z k->∀{Q:w5},(∀H1,fI c dk H1->f_ k_ kQ H1->Q (vN k) H1)->∀v H1,dy ra H H1->(v=vN k/\f_ k_ kQ H1)->Q v H1:=λ k hk Q hq v H1 CZ bx=>bq bx λ e fj=>by subst e;exact hq H1 (Pc hR CZ fj) fj);cases hC with|@book r0 r1 r2 r3 b0 b1 b2 b3 g0 R0 R1 R2 R3=>(rw[EG g0 k ek];(have cI:k=1:=by exact azo ek);subst cI;rw[<-g! (fM (on,n,1) ra O om dx h1) #[hR,hk] (first 1 hk ad H1 rh fj),iK Ly eN (fA tr dH (py ab hx))];have mR:=Pf s2;have eI:=Id s2;rw[gh iB mR iO aU gr aU dxd Iq,KJ R0 a0 x0,<-dq (wd R1) λ a1 e1 l1 x1=>?_,<-dq (wd R2) λ a2 e2 l2 x2=>?_,<-dq (wd R3) λ a3 e3 l3 x3=>?_];subst e0 e1 e2 e3;refine #[_,rfl,dk.1,dxd,_,rfl,Iq,rfl,?_];let ks:BB:=λ j=>[r0.length,r1.length,r2.length,r3.length].getD j 0;(have jf:∀j,j<4->nl[w']?=et ks j/\F? (w'+1+ks j):=λ j hj=>by rcases j with _|_|_|_|j;(((.exact #[a0,l0]);.exact #[a1,l1]);(.exact #[a2,l2]);.exact #[a3,l3]);.rw[jt hj (Nat.not_lt.mpr (Nat.le_add_left 4 j))]);let c4:Y->al:=λ j=>(CX (w'+1)).uI (ks j);rw[iK ez ai B9 vs Mg (fB 4 Mg.now ab ab pc Dl IX)];have Kg:=Pd s3;have kG:=eI.later s3;rw[gh iB kG λ a9 q3=>gr a9 LR h3];(have aza:tP H' Hp (dy ra H3 H'->dy ra H3 (upd H' Dl o)):=λ st a o ha=>by have h5:=a7 st ha;have bf:a≠Dl:=c8 ff ha IX;rw[tL h5];split at h5;(.cases h5);.rw[xc];rw[b? e,aV bf];exact h5);refine kn (yw (g:=dC 3) (tt:=kO) (vs:=[3]) (σ:=[cv dk.1,cv ra,Z (vN 1),ac])) (λ j H'=>∃vs:g8,H' Dl=et .lst vs/\La i (gH (· = Dl) H' v (c4 i)) (sn j)/\dy ra H3 H'/\∃dx,H' ra=Z sw nW [RO ca,("at",vN w')]) #[[],aY,Paired.nil,pV (cT IX),LR,cT IX _ _ h3];(.rintro j H' hj⟨vs,hv,pr,jz,fc,hX⟩;obtain⟨o5,FG⟩:=jf j hj;have aQ:f_ k_ w' H':=#[#[fc,hX],AV h3 jz q3];refine #[rfl,(on,w',ks j,(· = Dl)),ra,rfl,om fc hX,rfl,(fQ BS l? (show H' x=et .lst vs by rw[show x=Dl from hx];exact hv) aQ o5 FG),λ v H4 qx cy=>bq cy cA hT nJ];have hv4:=CV qx hv (wI hv hX ro);(rw[dl (bL hT λ qv bu W0 iM=>?_) bu]);dsimp only at W0 iM nJ;have XS:∀{v:V}{l:al}{ys:g8},Sh H4->Sh qB H4 Dl ys:=λ dz=>Bk dz h #[a,e,g,by rw[aV g];exact h];(have pr4:La i (gH (· = Dl) H4 v (c4 i)) (sn j):=gj (λ v i eP=>Bk eP h #[a,e,g,CV qx h (wI h hX ro)]) pr;have hl:N?=j:=by rw[iX pr,Ob]);rw[gh iB nJ λ bU g4=>gr bU dx4 h4];refine #[vs,hv4,by rw[hl];exact Oo hj ab,_,aY,?_,aza (jz.trans qx),dx4,?_];(.rw[h! List.range_succ (Wj (gj bn v i (XS h) pr4) (.fK (XS c0 qv W0 iM) iv))]);.rw[aV (wI h4 hv4 ro)];exact h4);.rintro H'⟨vs,hv,pr,jz,fc,hX⟩;have aQ:f_ k_ (tf kQ ks 4) H':=#[#[fc,hX],AV h3 jz q3];have qY:=Kg.keep kG jz aQ;have y0:E? (c4 0) r0:=x0.symm;have y1:E? (c4 1) r1:=x1.symm;have y2:E? (c4 2) r2:=x2.symm;have y3:E? (c4 3) r3:=x3.symm;refine(c0 (dk,c! Dl,(c4 0,c4 1,c4 2,c4 3)) #[qY,ayD hv pr] λ v H5 uK kq=>bL kq λ bk g1 g2 g3=>?_);dsimp only at g2 g3;rw[y0,y1,y2,y3]at g2 g3;exact DW H5 (fB bk g1 g2 (dW.keep qY aQ uK) g3))|@text p' wv r b g0 gp g1 R0=>rw[EG g0 k ek,<-ah (vt g1) ad wn hw ew,KJ R0 a0 x0];subst e0 ew ek;(rw[D_ k hk (first k hk ad H1 rh fj)];(have cj:k=2\/k=3\/k=6:=by exact azJ gp);have bw:vf mK [[m? k,dt wn],r]=(G_ Hg.2.1,IR (ve mK (C0 k wn RL)).2):=by rw[Q8]<;>rfl);rw[iK Ly eN (fA dH (by rw[mM,(aFy cj a6).elim]) tr),iK P! tW a5 A.g.Jh fx (fA tr dH (py (by rw[Q8]<;>rfl) hx)),<-(af (dk,k,k_,n+1,wn,r.length) qG az a5 au j! #[(j3 KD Pf KD Id hw a0 l0),λ v H5 _ lT=>bX lT λ hD5 D2 hv=>DW H5 (fB vp hD5 ?_ D2 ?_)])];(.rw[bw]);.rw[bw,x0];exact hv|@lines p' wv nv r m b c' g0 gp g1 g2 R0 R1=>rw[EG g0 k ek,<-ah (vt g1) ad wn hw ew,<-ah (vt g2) ad co hc ec,KJ R0 a0 x0,<-dq (wd R1) λ a1 e1 l1 x1=>?_];subst e0 e1 ew ek ec;(rw[D_ k hk (first k hk ad H1 rh fj)];(have cj:k=4\/k=5:=by exact aLL gp);have bw:vf mK [[m? k,dt wn,dt co],r,m]=(G_ Hg.2.1,IR (ve mK (GX k wn co RL (y9 m))).2):=by rw[K2]<;>rfl);rw[iK Ly eN (fA dH (by rw[mM,(azj cj a6).elim]) tr),iK P! tW a5 A.g.Jh fx (fA dH (by rw[K2]<;>rw[jt hx ab]) tr),iK (tW a5 dZ d2 A.g.Vu d2 A.g.asR) j! (fA tr dH (py (by rw[K2]<;>rfl) hx)),<-(af (dk,k,k_,n+1,GQ,r.length,d?) pY az a5 zE xy #[#[Pf (kB L8 mb s5),Id (kB (mb (Cm s5))),hw,hc,a0,a1,l1],λ v H6 _ oB=>bX oB λ Hm xB hv=>DW H6 (fB vp Hm ?_ xB ?_)])];(.rw[bw]);.rw[bw,x0,x1];exact hv
Hh{k:ak}:br sC k o k=B7:=by funext b;rw[km];split;(.rfl);.rw[xc];rw[aV e]
anI(a:xg)(l:FM):y! (a::l)=dt a.length::(a++y! l):=by rw[oW y! TX];rfl
aiH{l:xg}(h:bh (Ut l)):∃cs,KI e_ l cs/\Pg<=400/\Uz l=Pz cs:=by rw[nh Ut];unfold Uz;rw[_R.aKy]at h⊢;cases e:Uw Uy e_ l with|ac=>rw[cx e h h]|gV cs=>rw[e]at h;dsimp only at h;rw[e7]at h;refine c0 cs ?_ O;have:=h.1;unfold PyFlat.atMost at a6;rw[cP lc]
aJe(A:a?)(T:it){f:ak}{fd:OH}(F:fZ K "answers" "answers" P5 f fd):mt ej dg eK 13 f fd ["calls"] (Ex K):=F.ok SU (λ vs H Q E bx=>dc bx λ a nl e _=>by rw[e];rfl) λ aK A' em s H vs Q E hr jJ=>by refine fR jJ λ ca nl e hS Ny hQ=>?_;subst e;refine bL (aiH Ny) λ cs uc ap aq4=>?_;rw[aq4]at hQ;have nd:=SU.nd;rw[iK eY dF BA aI dF m7 aI JC Ho (aP dF xn (aCy (yU lK amK hr)) eY (lG DC ug r' aI) (lG Jy E6 r' Nx) dh) r' ?_,<-eT (aIi (amS A) dp () O zo) λ dv H1 s1 hd=>?_];(rw[jq hd.now (λ da bk aS hD hB=>?_) aS]);refine eT (sj (alL A) dp (ca,nl) ez az eN (ub (ga s2) hS)) λ rv H2 s2 oe=>?_;(rw[dl (ah oe.now ad ra aU hR) aU]);refine #[wV,cA tl rE];have mR:=hD.later s2;have s3:aj H2 qB H2 tl []:=cT rE;refine #[sL z (∃(x4:iY)(bk:BK)(n g:Y)(jN:c1 FM)(tt:xg),a!=[cv ca,cv da,cv ra,cv tl,x4]/\z=yI/\KI g xA Nz n jN/\PT H' H' H'),#[Pg,ac,bk,0,_,cs,[],rfl,rfl,uc,by rw[J' rE];exact mR,by rw[J' rE];exact hR,aY,by rw[hB];rfl,by show 0+301*Pg<=120400;exact axK ap],?_];rintro z a! H'⟨x4,AO,n,g,jN,tt,rfl,rfl,hc,qY,aQ,htt,vG,gw⟩;have hRs:=CD xL;rw[gh iB hRs iO a9 gr a9 dxr xD,<-ce nr (Y0 nX (aAv A) dp (on,n) a5 j! om dxr db xD O j! (hRs.later s4)) J5];(.rw[oO,jn hn (n<IJ)];rcases _R.X9 hc with⟨fU,_⟩|⟨cc,b,g',ds,rfl,hC,sN⟩;(.rw[ES fU,(Dx hn fU).elim]);have xU:=CY (eR (k:=tl) s4);have nJ:=CD (eR (k:=tl) s4);rw[sk]at gw;rw[qO #[λ d! H2=>∃z',z'<bN (cc::ds)/\∃(x4:iY)(bk:BK)(n g:Y)(jN:c1 FM)(tt:xg),d!=[cv ca,cv da,cv ra,cv tl,x4]/\z'=yI/\KI g xA Nz n jN/\PT H2 H2 H2,λ _ _ h=>h,?_] #[tl,_,db htt,((da,AO),k_,n,cc,b),dZ au a5,λ H5 s5=>#[#[SV,SW,hC],λ v H6 _ cy nk=>wH cy λ bk2 Hm tM xB hv=>?_]]];(rw[dl (iS hv λ HD qa bu Dc=>?_) bu]);dsimp only at Hm tM xB HD Dc;(have bf:qa≠tl:=λ e=>by rw[f' nk Dc Dc]);have LS:Eu tl=Z IY:=aY;(have uL:Eu qa=Z IS ng EB.2:=by rw[aV bf];exact Dc);have T2:br Eu tl=H6:=J' nk;generalize Eu=H7 at LS uL T2;generalize bw:EB=HP at tM HD uL Dc;rw[qO c0 _ EM LS (im me (.f7 rX jC HP.2) (di (m:=bN HP.2) jH du n! H8 s8 zO qa (.f? (yb ui uL)) K4) cA H8 s8) kn (pf tl _ _ O) O ui LS];(.rw[JH kW (tt.length<=120400) aEu gw]);(refine #[_,rfl,.f? g! ll _ ey aY,_,rfl,tl,qa,_,_,rfl,rfl,aY,by rw[aV bf];exact ui uL,?_,?_];.rw[uO,el,el];exact hI (show _<=200000 by simp;exact amU gw HD) ab);(have Ur:my H6 H8 tl:=by rw[<-T2];exact eR s8);(refine #[ds.length,Nat.lt_succ_self _,_,bk2,b,g',ds,tt++((jC HP.2:cm)::HP.2),rfl,rfl,sN,?_,?_,?_,?_,?_];(.rw[Hh,Hh];exact Hm.later Ur);.rw[Hh,Hh];exact xB.later Ur);((.rw[aY,yC,u3,Ib];rfl);.rw[<-vG];show _=tt++y! (EB.2::UA vf EB.1 ds);rw[bw,anI,tM,Ib];rfl);.rw[uO,sk];exact alg gw HD);.rw[oO,jn hn (IJ<=n)];rcases _R.X9 hc with⟨_,rfl⟩|⟨cc,b,g',ds,rfl,hC,sN⟩;(.rw[iK O a7 hQ db ?_];rw[htt,<-vG];show _=Z (HO.lst (ng (tt++[]) mc));rw[Ii]);.have:=hC.lt;rw[t7 el,(anJ a6 hn).elim]
}
section _P
namespace _P
open hE hF hG _L _M
open PySem.W(OpenSpec Codec)
def z:={
aME{P:gX}{w:gY}{K:h?}{mg:hZ}{c:Cs}{fa:ak}(A:a?)(T:it)(Me:mg "answers"=cv fa):∃fd:OH,(∀(s:ln)(us:Mr),OI=bN (["calls"]:MQ)->BindsTo s fd #[us,[]] ((["calls"]:MQ).zip us))/\∀dg:ib,K.In dg->base.Ns mainGlobals mg->mt ej dg eK 13 fa fd ["calls"] (Ex K):=by rw[<-dc A.answers λ f fd h1 F=>?_,cx Me h1 h1,<-(af fd sz s us hu (λ dg _ _=>aJe A T F))];obtain⟨oc,od,kV,doc,pm,an,aK,ct,rC,rfl,lk,gW⟩:=F.ex;obtain⟨u,rfl⟩:=List.length_eq_one_iff.mp hu;exact .of_eq O
}
section _P
end
theorem PySem.Challenge.cw_brokenlinesdesk_s01_answers_holds : PySem.Challenge.rw_brokenlinesdesk_s01_answers.Holds :=
  _P.headAll fun _ _ _ _ _ _ A T h => _P.aME A T h
