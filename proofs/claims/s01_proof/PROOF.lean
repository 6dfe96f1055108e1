import PyProof.Rows.All
import KE.OsHead
import KE.OsGo
import Open.SpecLaws
import PyProof.SetKind
import Wide.All
import OpenK.AllK
import Wide.FinOn
import PyProof.EqAt
import PyProof.EqKinds
import PyProof.TupleCall
import KE.BitLaws
import KE.KSortTupG
import PySem.SetTable
import PySem.Sem
import PyProof.DictKeyH
import PyProof.TupleKey
import PyProof.IsRules
import PyProof.DictKinds
import PyProof.Rows.SetFrom
import PyProof.CollectIter
import KE.KDictList
import KE.KItemsList
import PyProof.ZipIter
import PyProof.EnumIter
import PyProof.ListNew
import PyProof.P3Eq
import PyProof.Rows.CallKwBuiltin
import PyProof.DictTruth
import KE.KMinBuiltin
import PyFlatLaws
import PySem.Challenge.RW_glassrecord_s01_answers
set_option compiler.extract_closed false
set_option Elab.async false
set_option linter.all false
set_option maxRecDepth 100000
set_option maxHeartbeats 0
set_option tactic.hygienic false
set_option genInjectivity false
set_option genSizeOf false
@[elab_as_elim] theorem rwE{α:Sort u}{b:α}{p:α→Prop}{a:α}(h:a=b)(e:p b):p a:=h▸e
@[elab_as_elim] theorem rwF{α:Sort u}{a:α}{p:α→Prop}{b:α}(h:a=b)(e:p a):p b:=h▸e
theorem aua(h:True:=by as_aux_lemma=>simp +arith only):True:=h
theorem aub(h:True:=by as_aux_lemma=>simp +arith):True:=h
theorem auc(h:True:=by decide):True:=h
theorem aud(h:True:=by first|exact .inl rfl|exact .inr rfl|exact .inr (.inl rfl)|exact .inr (.inr rfl)|assumption):True:=h
theorem aue(h:True:=by rfl):True:=h
theorem auf(h:True:=by first|exact(rfl:_=K)|exact(rfl:_=w)|exact(rfl:_=P)):True:=h
theorem aug(h:True:=by intro _;rfl):True:=h
theorem auh(h:True:=by with_unfolding_all rfl):True:=h
theorem aui(h:True:=by intros;rfl):True:=h
theorem auk(h:True:=by first|exact nobehind _ (by decide) (by decide)|rfl):True:=h
theorem aul(h:True:=by exact PassesOwn.never):True:=h
theorem aum(h:True:=by first|{exact nomark _}|rfl):True:=h
theorem aun(h:True:=by intro _ _;rfl):True:=h
theorem aus(h:True:=by(intro _ _ _ _ h;cases h;refine Eq.trans (congrArg List.length (by assumption)) ?_;rfl)):True:=h
open Lean in
local macro_rules|`(mutual $cs* end)=>do
  let c:=cs.map (·.raw)
  if !c[0]![1].isOfKind `Lean.Parser.Command.example then Macro.throwUnsupported
  let L:=c[1]![1][2][1][1][0][0][0][3]
  let rec ex(T:NameMap Syntax):Nat→Syntax→Syntax
    |n+1,.node _ k a=>
      match if k==`Lean.Parser.Term.app then T.find? (.num a[0]!.getId a[1]!.getNumArgs) else none with
      |some f=>ex ((f[0].getArgs.zip a[1]!.getArgs).foldl (fun m p=>m.insert (.num p.1.getId 0) (ex T n p.2)) {}) n f[2][2]
      |_=>
        let s:=Syntax.node .none k (a.map (ex T n))
        let l:=s[1].getArgs.back?.getD s
        let tm(x:Name)(y:Syntax):Syntax:=((T.find? (.num x 1)).map fun f=>(ex (({}:NameMap Syntax).insert (.num `a 0) y) n f[2][2])[1]).getD s
        let l:=if l.isOfKind `Lean.Parser.Term.paren then l[1] else l
        if k==`Lean.Parser.Tactic.rwSeq&&(s[2][1][0][1].isOfKind `Lean.Parser.Term.byTactic) then mkNullNode (s[2][1].getSepArgs.map (·[1][1]))
        else if k==`Lean.Parser.Tactic.rwSeq&&s[3].getNumArgs==0 then .node .none `Lean.Parser.Tactic.first #[s,mkNullNode #[mkNullNode #[s,mkNullNode ((s[2][1].getSepArgs.map fun r=>tm (if r[0].getNumArgs==0 then `zzA else `zzB) r[1]).push (tm `zzC s))],mkNullNode #[s,s.setArg 3 L]]]
        else if k==`Lean.Parser.Tactic.cases&&s[1].getNumArgs==1&&s[1][0][1].isIdent&&s[3].getNumArgs==0 then tm `zzD s[1][0][1]
        else if k==`Lean.Parser.Term.anonymousCtor&&l.isOfKind k then s.setArg 1 (mkNullNode (s[1].getArgs.pop++l[1].getArgs))
        else if k==`Lean.Parser.Command.universe then .node .none `Lean.Parser.Command.end #[.atom .none "end",mkNullNode #[s[1][0],mkNullNode]]
        else s
    |_,s=>(T.find? (.num s.getId 0)).getD (s.setInfo .none)
  let T:=c[0]![1][2][1][2][0].getSepArgs.foldl (fun m f=>m.insert (.num f[0][0].getId f[1][0].getNumArgs) (let b:=ex m 9999 f[1];if b[0].getNumArgs==0 then b[2][2] else b)) {}
  return mkNullNode ((c.extract 2 c.size).map (ex T 9999))
mutual
example:={
zzA a:=by first|refine rwE (a ..) ?_|rewrite[a]at ⊢
zzB a:=by first|refine rwF (a ..) ?_|rewrite[<-a]at ⊢
zzC a:=by try with_reducible rfl
zzD a:=by first|subst a|(injection a;done)|(injection a with zzE;subst zzE)|(injection a with zzE zzF;subst zzE;subst zzF)|cases (a)
aa:=some
ab:=true
ae:=none
ai:=false
aj:=base
au:=pins
av:=fW.of
ax:=Stmt
aJ:=r.pts.length
aK:=if_pos
aO:=s.heap.objs.size
bh:=s.heap
bj:=if_neg
bp:=r.pt
bx:=O.length
bA:=List.length_map
bF:=wpAny_bind
bH:=linesOf
bJ:=T.bjD
bL:=List
bO:=List.mem_of_getElem?
bX:=r.lines
bZ:=Option
cb:=Bool
cg:=wpAny_pure
cj:=List.length_append
ck:=a7.size
cn:=Nat.le_trans
cp:=V.int
cv:=decide
cw:=b.length
cx:=uW.of
cy:=absurd
cz:=List.getElem?_map
cA:=mask
cE:=False
cF:=X.env
cG:=SB.of
cN:=prog
cS:=Value
c_:=Option.some.inj
da:=List.map_cons
dd:=List.getElem?_eq_getElem
de:=r.pts
df:=D.pts.length
dg:=t.mask
dm:=Value.ref
dq:=T.bjK
dv:=List.append_assoc
dw:=B.idxOf
dD:=Paired
dE:=s.toks
dH:=decide_eq_true
dI:=path
dJ:=T.bjS
dP:=r.lines.length
dQ:=r.marks
dR:=T.bjE
d_:=l.length
ea:=decide_eq_false
eb:=Y.lt
ec:=s.cnt
ef:=Addr
en:=keep
eo:=I.dt
er:=Nat.mod_eq_of_lt
ew:=Nat.le_of_lt
ey:=autoParam
ez:=outer
eA:=X.prog
eB:=B.length
eC:=c.toNat
eI:=Nonempty
eJ:=List.range
eK:=s.aP
eL:=m.at_
eM:=Y.length
eS:=List.length_take
eT:=ar.toArray
eU:=pure
eV:=turn
eW:=Int.le_of_lt
eX:=a4.trans
fb:=Nat.lt_of_le_of_lt
fe:=List.map_append
ff:=row.length
fg:=b5.trans
fh:=W.length
fq:=Array
ft:=Heap.lt_size
fu:=List.mem_cons_self
fv:=wpAny
fw:=f3.g
fH:=Nat.lt_of_lt_of_le
fI:=a4.heap.objs.size
fJ:=List.mem_map
fK:=Z.length
fL:=r.marks.length
fY:=trivial
fZ:=Z.lt
f_:=R.cur
gb:=T.bjH
gc:=c.length
gd:=h.mono
gy:=String
gz:=congrArg
gA:=True
gB:=o.data
gC:=Nat.ne_of_lt
gD:=cLine
gE:=R.lines
gF:=Gla.le
gG:=T.bjL
gH:=T.bjT
gP:=RelV
gQ:=h'.get?
gR:=V.ref
gS:=D.marks
gU:=D.lines
gV:=a4.free
hr:=w.params
hs:=Ne.symm
ht:=Sum.inl
hv:=sizeLine
hx:=List.getElem?_append_left
hy:=List.mem_append
hC:=List.mem_cons
hD:=Int.mul_pos
hF:=Z.ok
hH:=dk.go
hI:=T.bjV
hY:=F.length
hZ:=Bool.and_eq_true
h_:=List.mem_cons.mp
ia:=List.length_cons
ib:=List.getElem_of_mem
ic:=Pt.below
ie:=A.length
ig:=r.near
ih:=m.at_.y
ij:=m.at_.x
ik:=Nat.lt_or_ge
il:=s.trans
ip:=O.size
iL:=Heap
iM:=Vals
iN:=Bool.eq_iff_iff
iO:=vs.length
iP:=N.length
iQ:=Int.toNat_natCast
iR:=if_false
iS:=decide_eq_true_eq
iT:=N.lay
iU:=r.lines.filter
iV:=inOrder
iW:=p.more
iX:=aTH.nd
jr:=Nat.lt_irrefl
js:=Nat.lt_trans
jt:=slot
ju:=model
jv:=PyData.eqv
jw:=List.map_map
jx:=m.glass
jy:=HEAD
jz:=n.toNat
jA:=T.bjJ
jC:=Gla.within
jH:=GM.aY2
kv:=l.map
kx:=c5.length
kz:=A.in1
kA:=lineBelow
kB:=m.painting
kC:=T.bjI
kD:=runEnd
ly:=b1.length
lz:=Heap.size_push
lA:=f.size
lB:=s.TypeIs
lC:=parts
lD:=R.ss.length
lE:=Prod.mk.inj
lF:=T.bjP
lG:=D.pts
lH:=D.lines.length
lI:=Array.getElem?_eq_getElem
lJ:=t.place
lK:=c0.length
lL:=a7.toList
lM:=jo.go
lN:=d8.take
mC:=h.objs.size
mD:=c1.heap
mF:=D.nx
mG:=X.mg
mH:=s.heap.push
mI:=d.names
mJ:=if_true
mK:=HT.lexLt
mL:=a.length
mM:=putK
mO:=Int.lt_or_le
mP:=Nat.le_antisymm
mQ:=T.hi
mR:=T.lo
mS:=markBelow
mT:=within
mU:=R.ss
mV:=h.at_
mW:=f9.trans
mX:=d9.trans
mY:=GM.BZ
oJ:=World
oK:=l.drop
oL:=X.env.locals
oM:=X.stack
oN:=X.xe
oO:=PySem.mem_of_lookup
oP:=Nat.min_le_right
oQ:=d7.length
oR:=List.not_mem_nil
oS:=List.find?_cons
oT:=d.length
oU:=top2
oV:=s.row
oW:=l.Pairwise
oX:=r.lab'
oY:=List.pairwise_cons
oZ:=p.below
o_:=List.getElem?_append_right
pa:=List.flatMap_cons
pb:=made
pd:=B.pts
pe:=R.cs
pf:=bT.gr
ph:=GM.Tg
pj:=Array.getElem?_toList
pq:=D.lines.take
ps:=aTS.nd
qF:=Nat.le_of_eq
qG:=Classical.byContradiction
qH:=p.isList
qI:=List.mem_append_right
qJ:=sizeLine_eq
qK:=List.append_nil
qL:=wpAny_call_entry
qM:=Nat.sub_le
qN:=List.forIn_cons
qO:=Nat.lt_or_eq_of_le
qP:=Nat.min_eq_left
qQ:=List.pairwise_append
qR:=Z.sgn
qS:=d.len
qT:=List.mem_of_mem_take
qU:=writePlan
qV:=GlaKeeps.ptOk
qW:=Gla.ptBytes
qX:=D.marks.length
qY:=e9.length
qZ:=t.place.size
q_:=g.map
rd:=IsPair
rf:=aTR.nd
rg:=T.bjQ
sM:=Prod.ext
sO:=List.length_drop
sP:=X.base
sQ:=s.gens
sR:=I.ok.kind
sS:=I.list
sT:=A.units
sU:=List.getElem?_take_of_lt
sV:=IntsAre
sW:=c8.heap.objs.size
sX:=merge
sY:=r.hN
sZ:=r.row
s_:=Int.mul_nonneg
ta:=Walk
tb:=List.getElem_mem
tc:=half
td:=arrOf
te:=r.outlines
tf:=below
tg:=List.any_eq_true
th:=B.drawn
tj:=firstBad
tk:=marks
tl:=R.gr.first
tm:=o.map
tn:=leap
tp:=n.trans
tq:=gx.go
tr:=cZ.refl
tu:=GM.linesOf
tv:=Gla.markBelow
tw:=aUm.nd
vH:=Shared
vJ:=K.lookup
vK:=Value.bool
vL:=List.mem_filter.mp
vM:=K.In
vN:=a.names.lookup
vO:=X.fs
vP:=I.loc
vQ:=List.mem_append_left
vR:=bootBuiltins
vS:=wpAny_truthy_bool
vT:=J.length
vU:=I.Kx
vV:=wpAny_holding
vW:=Nat.ne_of_gt
vX:=rawInt
vY:=o.cls
vZ:=wpAny_mono
v_:=ar.toArray.size
wd:=Nat.lt_succ_of_lt
we:=DecidableEq
wg:=z.symm
wh:=wpAny_specialOf
wj:=a6.units
wk:=Y.lo
wm:=s.side
wo:=Y.hi
wq:=J.lb
wt:=isOn
wu:=Z.below
wy:=Nat.min_le_left
wz:=T.le
wA:=Plan.outlines
wB:=List.idxOf_lt_length_of_mem
wC:=R.trans
wD:=twice
wF:=ns.map
wG:=Fits
wH:=List.getElem?_range
wI:=F.marks
wJ:=judgePlan
wK:=p.length
wL:=Y.dl
wM:=R.gr
wN:=GlaKeeps.asked
wO:=b.map
wQ:=ls.length
wR:=ho.mk
wU:=GM.sk
wV:=c8.trans
wW:=N.lst
wX:=GM.yQ
wY:=D.pt
wZ:=d6.trans
w_:=KeepNeutral.nat
ze:=Option.map_eq_some_iff.mp
zf:=Nat.le_of_not_lt
zg:=h.get?
zh:=I.bare
zi:=s.drawn
zj:=I.dt.fresh
zk:=getItem
zl:=d5.isList
zm:=ns.length
zo:=cellsFrom
zp:=lexLt
zq:=List.map_nil
zr:=X.A.units
zt:=List.mem_map.mp
zu:=atKey
zv:=l.Nodup
zw:=J.inv
zx:=l.filter
zy:=Gla.crosses
zz:=q.symm
zA:=Nat.sub_self
zB:=first
zC:=List.takeWhile_append_dropWhile
zD:=Y.below
zE:=List.getElem?_eq_none
zF:=readSteps
zG:=GlaKeeps.long
zH:=s.seq
zI:=J.args
zJ:=GM.iH
zK:=h1.trans
zL:=List.flatMap_append
zM:=lexLe
zN:=GM.eQ
zO:=t.advance
zP:=t.slot
zQ:=t.place.toList
zR:=T.ok
zS:=d.is
zT:=wpAny_letGo
zU:=aTL.nd
zV:=GM.Lay
zW:=d0.trans
zX:=T.bjO
zY:=Gla.SAVED
zZ:=GM.dst
z_:=a3.length
Aa:=a3.drop
CA:=Prod.mk.injEq
CB:=of_decide_eq_true
CC:=Gla.Step
CD:=Value.none
CF:=X.ex
CG:=mainGlobals
CH:=s.os
CI:=I.cell
CJ:=I.tuple
CK:=rv.length
CL:=h.IsListIter
CM:=r.list
CN:=V.bl
CO:=True.intro
CP:=e.symm
CQ:=kindOf
CS:=this.g
CT:=Heap.get?_update_self
CU:=HT.yC
CV:=I.laid
CW:=s.heap.IsList
CX:=PyData
CY:=Bool.false_eq_true
CZ:=valueAt
C_:=K.map
Dc:=Nat.min_eq_right
Dd:=J.bjq
De:=aQP.mpr
Df:=Z.km
Dg:=Int.mul_neg_of_neg_of_pos
Dh:=sooner
Di:=clear
Dj:=List.map_take
Dk:=List.map_drop
Dl:=or_false
Dm:=bump
Dn:=last
Dq:=noneSeen
Dr:=f.length
Ds:=List.take_append_drop
Dt:=List.getElem?_drop
Du:=touches
Dv:=c.map
Dx:=C.lay
Dy:=ptPlace
Dz:=taken
DA:=Y.cur
DB:=List.take_of_length_le
DD:=l.heap
DE:=GM.hX
DF:=Gla.parts
DG:=GM.Fits
DH:=Gla.lineBelow
DI:=D.near
DJ:=hashAt
DK:=List.filter_append
DL:=g.getD
DM:=pre.length
DN:=t.led
DO:=List.take_succ
DP:=wpAny_setField_rec
DQ:=B.drop
DR:=aTM.nd
DS:=T.bjM
DT:=s0.cnt
DU:=GM.dj
DV:=GM.yG
DW:=Gla.endsAt
DX:=T.bjU
DY:=T.bjW
DZ:=PyYqglha.shape
D_:=Bool.and_eq_true_iff.mp
G5:=SharedT
G6:=s.abs
G7:=Str.ofString
G8:=Nat.lt_of_not_le
G9:=l.take
G_:=Gla.Mark
Ha:=O.drop
Hb:=O.map
Hc:=X.FV.heap.objs.size
Hd:=AllBare
He:=List.filterMap_cons
Hf:=I.free
Hg:=I.len
Hh:=s.heap.get?
Hi:=Heap.SameBut
Hj:=h.elim
Hk:=iter
Hl:=codeAny
Hm:=V.bC
Hn:=List.size_toArray
Ho:=Obj.mapSeq
Hq:=ar.length
Hr:=Bool.false_ne_true
Hs:=List.all_eq_true
Ht:=keys
Hu:=Decidable
Hv:=c1.aP
Hw:=I.gap
Hx:=r.aQz
Hy:=I.aQx
Hz:=r.bjo
HA:=Nat.max_eq_right
HB:=List.perm_ext_iff_of_nodup
HC:=Nat.add_zero
HD:=side
HE:=Nat.le_of_lt_succ
HF:=Z.wx
HG:=Nat.le_max_right
HH:=passes
HI:=onLines
HJ:=C.row
HK:=edgePts
HL:=r.pts.contains
HM:=bjr.mp
HN:=d.same
HP:=firstAt
HQ:=d8.map
HR:=Nat.pow_succ
HS:=Bytes
HU:=List.drop_drop
HV:=numbered
HW:=r.drawn
HY:=C.marks
HZ:=endsAt
H0:=take
H2:=Plan
H3:=readRecord
H4:=L2.St
H5:=List.take_length
H6:=T.bjG
H7:=T.bjF
H8:=Gla.num
H9:=Gla.markBytes
H_:=Gla.MAGIC
Ia:=x.toNat
Ib:=j0.length
Ic:=GM.Ce
Ie:=p.perturb
Ig:=Probe
Ih:=turns
Ii:=bits
Ij:=c3.g
Ik:=t.plain
Il:=T.size
Im:=Holds
Io:=call
Ip:=List.mem_map_of_mem
Iq:=wpAny_nextOf_list_item
Ir:=sa.extBut
Iu:=IsList.at'
Iv:=argBest
Iw:=c8.extBut
Iy:=a4.extBut
Iz:=f6.isList
IA:=i9.trans
IB:=decide_eq_true_iff
IC:=Gla.edgePts
ID:=T.bjN
IE:=GM.du
IF:=G.getD
IG:=GM.vh
IH:=aTk.nd
II:=GM.Ls
IJ:=aT0.nd
IK:=T.bjC
IL:=GM.auV
Mg:=Program
Mh:=List.lookup
Mi:=l.filterMap
Mj:=default
Ml:=a7.toList.map
Mm:=left
Mn:=Nat.sub_add_cancel
Mo:=Gla.Fault
Mq:=UInt8
Mr:=Value.type
Ms:=Paired.length
Mt:=IsTup
Mu:=X.outer
Mv:=I.ok.above
Mw:=I.step
Mx:=I.pin
My:=List.getElem?_set_self
Mz:=I.bjd
MA:=starEach
MB:=compareOp
MC:=ar.toList
MD:=ar.size
ME:=its'
MF:=swapsWith
MG:=pos.line
MH:=I.kept
MI:=X.env.scope.names.lookup
MJ:=pyIter
MK:=letOwnedTupleGo
ML:=step
MM:=PySem.W.emptyDict
MN:=c5.zip
MO:=False.elim
MP:=codeAny_mono
MQ:=start
MR:=d.names.lookup
MS:=List.length_nil
MT:=IsPart
MU:=intsAre_of
MV:=List.any_cons
MW:=List.all_cons
MX:=Dp.reads
MY:=forIn
MZ:=List.forIn_nil
M0:=List.length_set
M1:=wpAny_newObj_type
M3:=F.map
M4:=o.isSome
M5:=c1.side
M6:=Nat.le_total
M7:=I.bjp
M8:=I.dO
M9:=J.step
M_:=Kept
Na:=P.ret
Nb:=aQP.mp
Nc:=List.getElem_map
Nd:=q.below
Nf:=List.pairwise_iff_getElem.mp
Ng:=Int.mul_nonpos_of_nonneg_of_nonpos
Nh:=between
Ni:=List.mem_append.mp
Nj:=List.pairwise_map
Nk:=List.mem_filter
Nl:=N.lay.ok
Nm:=r.outlines.length
Nn:=D.bjs
Np:=T.Lh
Nq:=seen
Nr:=d.getD
Nt:=d.le
Nu:=f.set
Nv:=Plan.drawn
Nw:=List.contains_iff_mem.mp
Nx:=begun
Ny:=runOf
Nz:=r.among
NA:=d8.length
NB:=r.fault
NC:=numLe
ND:=l.flatMap
NF:=List.ext_getElem?
NG:=pairs
NH:=List.mem_eraseDups.mp
NI:=row.filter
NJ:=C.ord
NK:=r.panes
NL:=pts.length
NM:=r.pts.idxOf
NN:=Y.len
NO:=R.ss.take
NP:=bT.add
NQ:=onRecord
NR:=A.go
NS:=List.eq_nil_of_length_eq_zero
NT:=Codec.encAll
NU:=Gla.turn
NV:=PassesOwn.never
NW:=GM.aeT
NX:=Gla.HEAD
NY:=Gla.writePlan
NZ:=f6.length
N0:=g.length
N1:=aTK.nd
N2:=Y.mask
N3:=t.probeStart
N4:=insertAt
N5:=g.size
N6:=T.rise
N7:=Obj.putSet
N8:=List.mem_singleton
N9:=codeAny_builtin
N_:=sb.extBut
Oa:=h'.IsListIter
Ob:=Y.map
Oc:=wpAny_Call_Name_kw
Od:=F.plain_min_loop
Oe:=intItems
Of:=f9.extBut
Og:=and_true
Oh:=List.cons.injEq
Oi:=GM.Cc
Oj:=T.bjR
Ol:=a9.Gw
Om:=vs.drop
Oo:=h.nt
Oq:=GM.Ts
Ot:=aT'.nd
Ou:=GM.bN
Ov:=T.bjX
Ow:=aTm.nd
UX:=Array.mk
UY:=importedModules
UZ:=PySem.W.Frag
U0:=FuncData
U1:=PySem.W.keepIn
U2:=R.prog
U3:=Int.ofNat_lt.mpr
U4:=Gla.Plan
U5:=Sum.inr
U6:=PySem.W.instObj
U7:=G.length
U8:=tupleKind
U9:=List.mem_filter.mpr
U_:=X.env.cells.lookup
Va:=M.length
Vb:=I.ok
Vc:=GenState
Vd:=List.getElem?_set_ne
Ve:=c1.gens
Vf:=c1.os
Vg:=h.out
Vh:=Array.length_toList
Vi:=X.R5
Vj:=assign
Vk:=Builtin.Range.rangeSize
Vl:=auc._auto_1
Vm:=Nat.succ_le_succ
Vn:=G.lookup
Vo:=I.write
Vp:=J.append
Vq:=List.replicate
Vr:=vs.map
Vs:=i.size
Vt:=i.toNat
Vu:=s.heap.update
Vv:=h'.objs.size
Vw:=t.toArray
Vx:=bs.map
Vy:=Vals.bjl
Vz:=NameKind.free
VA:=F.any
VB:=d.val
VC:=j.typeIs
VD:=Nat.le_sub_one_of_lt
VE:=DictEntry
VF:=Int.mul_le_mul_of_nonneg_left
VG:=Nat.max_eq_left
VH:=J.st
VI:=Y.nd.filter
VJ:=I.pos
VL:=C.mN
VM:=C.mE
VN:=d5.half
VO:=Nat.sub_pos_of_lt
VP:=List.nodup_iff_pairwise_ne
VQ:=P.pos
VR:=Nat.add_comm
VS:=q.trans
VT:=Int.mul_nonpos_of_nonpos_of_nonneg
VU:=z.below
VW:=Nat.pos_of_ne_zero
VX:=Nat.mod_lt
VY:=E.length
VZ:=spans
V0:=Z.nd.filter
V1:=List.pairwise_cons.mp
V2:=frameOk
V3:=Plan.round
V4:=List.mem_flatMap
V5:=List.mem_eraseDups
V6:=D.fin
V7:=D.head
V8:=T.sym
V9:=T.inj
V_:=l.set
Wa:=Array.getD
Wb:=I.size
Wc:=z.size
Wd:=d.root
We:=d.found
Wf:=row.drop
Wg:=row.takeWhile
Wh:=List.all_eq_true.mp
Wi:=cuts
Wj:=r.nears
Wk:=Y.inj
Wl:=r.pts.take
Wm:=B.lines
Wn:=Bool.eq_false_iff.mpr
Wo:=List.contains_iff_mem
Wq:=Nat.le_max_left
Wr:=List.filter_congr
Ws:=l.Perm
Wt:=Mark
Wu:=Function.comp
Wv:=r.marks.map
Ww:=List.drop_eq_getElem_cons
Wx:=alongLine
Wy:=leftOf
Wz:=markOk
WA:=size_eq
WB:=List.getD_eq_getElem?_getD
WC:=T.marks
WD:=R.add
WE:=Y.take
WG:=callerA
WH:=rw_glassrecord_s01_answers.args
WI:=Gla.Pt.below
WJ:=Gla.linePlace
WK:=b5.seq
WL:=aTr.nd
WM:=d9.free
WN:=c8.free
WO:=T.bjB
WQ:=HT.lexLe
WR:=Gla.firstBad
WS:=HT.vw
WT:=List.getElem_range
WU:=GM.Lg
WV:=List.nodup_range
WW:=cands
WX:=List.getElem?_eq_some_iff.mpr
WY:=t'.mask
WZ:=c3.l
W0:=I.val
W2:=B.toList
W3:=hashOf
W4:=c.size
W5:=Value.int
W6:=hG.mem
W7:=wpAny_of_eq
W8:=argsOk
W9:=wpAny_pyIter_slot
W_:=wpAny_rule
Xa:=Builtin.SmallTypes.ownedTupleIsFree
Xb:=a.extBut
Xc:=wpAny_nextOf_list_end
Xd:=f.getD
Xe:=r.nd
Xf:=Gla.Pt.mk.injEq
Xg:=c.symm
Xh:=List.getElem?_eq_some_iff.mp
Xi:=List.range'
Xj:=GM.aSg
Xk:=B.drawn.length
Xl:=GM.Cd
Xm:=c.take
Xn:=GM.L4
Xo:=s0.row
Xp:=d5.at_
Xq:=aTF.nd
Xr:=r.pts.drop
Xs:=d5.sw.k
Xu:=GM.yM
Xv:=W.take
Xw:=GM.yN
Xx:=c0.take
Xy:=GM.aeL
Xz:=aTW.nd
XA:=GM.aur
XB:=aTI.nd
XC:=dB.mono
XD:=Gla.inOrder
XE:=s.free
XF:=T.MARK
XG:=GM.Lw
XH:=a9.mono
XI:=row.all
XJ:=PyYqglha.answers
XM:=b5.extBut
agJ:=Thread
agK:=s.abs.heap
agL:=Params
agM:=List.lookup_cons
agN:=GA.aM8
agO:=R.prog.main.body
agP:=h.symm
agQ:=Int.not_lt.mp
agR:=Classical.choose
agS:=h.Ns1
agT:=Un.kept
agU:=env.kindOf
agV:=I.base.free
agW:=s.heap.FunFrames
agX:=I.ok.R0
agY:=I.os
agZ:=isTrue
ag0:=aug._auto_1
ag1:=wpAny_execs_nil
ag2:=assignEach
ag3:=D.lp
ag4:=b5.heap
ag5:=Bool.false_and
ag6:=r.kept
ag7:=T.keep
ag8:=Bool.and_false
ag9:=attributeBase
ag_:=A.depth
ag':=J.un
aha:=A.deeper
ahb:=a6.mono
ahc:=bindL
ahd:=bindC
ahe:=J.get
ahf:=envOfC
ahg:=PyProof.Rows.callWith_type1
ahh:=Builtin.Slice.slicePlaces
ahi:=c6.typeIs
ahj:=subscripted
ahk:=r.dt.fresh
ahl:=call_meets
ahm:=Nat.le_succ_of_le
ahn:=List.range_succ_eq_map
aho:=a5.isList
ahp:=X.env.scope
ahq:=wipe
ahr:=pyNext
ahs:=c1.toks
aht:=Bool.or_eq_true
ahu:=List.cons_append
ahv:=storedH
ahw:=sysModules
ahx:=tupleKind_room_in1
ahy:=j.mapOf
ahz:=I.big
ahA:=a4.toks
ahB:=Int.ofNat_sub
ahC:=Turn
ahD:=aud._auto_1
ahE:=Int.mul_lt_mul_of_pos_left
ahF:=Z.map
ahG:=c1.cnt
ahH:=R.lines.filter
ahI:=h.trans
ahJ:=F.last
ahK:=F.zero
ahL:=f.snd
ahM:=e.snd
ahN:=Y.kle
ahO:=GM.rv
ahP:=Nat.mod_self
ahQ:=X.rv
ahR:=d5.inj
ahS:=List.pairwise_iff_getElem
ahT:=P.min
ahU:=Nat.sub_lt
ahV:=Nat.one_pos
ahW:=Flow
ahX:=Int.mul_neg_of_pos_of_neg
ahY:=Bool.true_and
ahZ:=Eq.trans
ah0:=List.mem_append.mpr
ah1:=List.nodup_append
ah2:=l.zip
ah3:=l.getLast?
ah4:=aQJ.mpr
ah5:=chained
ah6:=fromLeast
ah7:=Nat.sub_zero
ah8:=N.conn
ah9:=N.start
ah_:=List.filter_cons_of_pos
ah':=insideOf
aia:=DInv
aib:=D.seen
aic:=List.mem_of_mem_head?
aid:=T.aee
aie:=List.getElem_idxOf
aif:=I.base
aih:=spread
aii:=seenFrom
aij:=z.getD
aik:=d.get
ail:=row.take
aim:=List.head?_dropWhile_not
ain:=List.drop_left
aio:=List.take_left
aip:=row.dropWhile
aiq:=Int.mul_eq_zero.mp
air:=Int.mul_nonneg_of_nonpos_of_nonpos
ais:=hd.map
ait:=p.mem_iff.mp
aiu:=l.eraseDups
aiv:=b.below
aiw:=Plan.fault
aix:=a.at_
aiy:=Nat.mul_comm
aiz:=List.drop_eq_nil_of_le
aiA:=MAGIC
aiB:=F.pts
aiC:=partedAt
aiD:=lines
aiE:=List.map_congr_left
aiF:=r.drawn.flatMap
aiG:=List.eraseIdx_sublist
aiH:=List.length_filter_le
aiI:=Clean
aiJ:=d8.Perm
aiK:=Y.get
aiL:=after
aiM:=Y.fit
aiN:=R.gr.done
aiO:=stepSize
aiP:=UInt8.ofNat
aiQ:=Gla.bare
aiR:=asked
aiS:=KeepNeutral.step
aiT:=List.filterMap_append
aiU:=List.getElem?_zip_eq_some
aiV:=Y.tok
aiW:=Option.some.injEq
aiX:=c5.map
aiY:=b1.map
aiZ:=WData
ai0:=WellAll
ai1:=HO.ys
ai2:=cs.length
ai3:=a6.bjh
ai4:=h.p.mono
ai5:=Gla.ptPlace
ai6:=c2.length
ai7:=aTj.nd
ai8:=HT.bji
ai9:=b.drop
ai_:=Gla.ptAt
ai':=bitAnd_m8
aja:=PyData.eqvAll
ajb:=PyData.depth
ajc:=PyData.depthAll
ajd:=PyData.canLay0
aje:=PyData.canLayAll0
ajf:=d7.map
ajg:=Gla.LARGEST
ajh:=T.bjA
aji:=aTu.nd
ajj:=GM.at4
ajk:=b.set
ajl:=GM.Ca
ajm:=List.flatMap_singleton
ajn:=GM.Gx
ajo:=GM.Gy
ajp:=aTP.nd
ajq:=aTQ.nd
ajr:=f.take
ajs:=c5.take
ajt:=aTT.nd
aju:=h.len
ajv:=aTJ.nd
ajw:=B.map
ajx:=List.range_succ
ajy:=List.map_set
ajz:=N.mono
ajA:=Gla.made
ajB:=a7.toList.take
ajC:=SetTable.grown
ajD:=Bool.not_false
ajE:=U.trans
ajF:=hG.nd
ajG:=tupK
ajH:=W.done
ajI:=x.at_
ajJ:=room_in
ajK:=s.heap.IsListIter
ajL:=wpAny_updateSeq
ajM:=W.keep
ajN:=F.plain_extend_loop
ajO:=h.IsList
ajP:=F.slot_zip_iter
ajQ:=D.l2i1
ajR:=D.l2z
ajS:=D.l1z
ajT:=e9.isList
ajU:=wpAny_tryCatch
ajV:=numAt
ajW:=d9.extBut
ajX:=f.map
ajY:=aTU.nd
ajZ:=Sum.inl.inj
aj0:=GM.Lo
aj1:=u.mono
aj2:=T.list
aj3:=r.trans
aj4:=List.takeWhile_cons_of_neg
aj5:=List.takeWhile_cons_of_pos
aj6:=j.symm
aj7:=a9.length
aj8:=PySem.F.plainAttrs_list
aj9:=s0.row.length
aj_:=e6.trans
aj':=sb.ts
aka:=sb.trans
akb:=Y.at_
akc:=GM.BY
akd:=iF.mp
ake:=h.ne
akf:=ls.filter
akg:=GM.B_
akh:=D.marks.map
aki:=m3.at_
akj:=D.lines.filter
akk:=c0.map
akl:=aTV.nd
akm:=a7.length
akn:=a4.seq
ako:=r.drawn.take
akp:=aT1.nd
akq:=aT2.nd
akr:=vs.take
aks:=Y.few
akt:=a3.mono
aku:=GM.Gz
akv:=aUc.nd
akw:=Gla.judgePlan
akx:=hR.mono
aky:=Gla.stepBytes
akz:=aT_.nd
akA:=Gla.readRecord
akB:=h8.map
akC:=r.free
akD:=GM.Lz
akE:=UInt8.toNat
akF:=GM.bT.gr
akG:=z.toNat
akH:=GM.zs
akI:=J.trans
akJ:=aua._auto_1
akK:=b.take
akL:=a7.take
aAQ:=stepT
aAR:=denote
aAS:=stepOk
aAT:=through
aAU:=boot_toks
aAV:=boot_drawn
aAW:=laidKept
aAX:=gensDone
aAY:=namesBound
aAZ:=staticsOk
aA0:=PySem.W.fnOf
aA1:=PySem.W.plainOver
aA2:=P.main.body
aA3:=e.trans
aA4:=Int.le_trans
aA5:=Int.ofNat_le.mpr
aA6:=Nat.lt_of_le_of_ne
aA7:=Classical.choose_spec
aA8:=Value.isInt_shape
aA9:=intKind
aA_:=builtinsNs
aA':=env.cells.lookup
aBa:=X.FV.heap.get?
aBb:=X.fn
aBc:=X.env.kindOf
aBd:=X.env.scope.kind
aBe:=I.ok.aNA
aBf:=I.ok.mod
aBg:=I.ok.has
aBh:=backTo
aBi:=wpAny_Name
aBj:=isTrue_plain
aBk:=inplaceOp
aBl:=M.set
aBm:=wpAny_standAt
aBn:=wpAny_pyIter_list
aBo:=j.toNat
aBp:=wpAny_passesOwn
aBq:=T.obj
aBr:=truthy
aBs:=i.toList
aBt:=Bool.or_false
aBu:=O.isEmpty
aBv:=PySem.W.lookIn
aBw:=PySem.W.plainGet_of
aBx:=getAttr
aBy:=PySem.W.takerIn
aBz:=beq_eq_false_iff_ne.mpr
aBA:=G.map
aBB:=Heap.get?_push_size
aBC:=Code.isFrame
aBD:=Around.under
aBE:=Calls.spliced_nil
aBF:=BindsTo
aBG:=wpAny_call
aBH:=Y.after
aBI:=Keyword
aBJ:=a.names
aBK:=P.zip
aBL:=List.length_replicate
aBM:=List.take_sublist
aBN:=SeqAt.EqAt
aBO:=AutoSeq1.sub_tuple_tuple
aBP:=typeLookup
aBQ:=Subscript_
aBR:=operate
aBS:=k.toNat
aBT:=Heap.get?_update_other
aBU:=List.length_singleton
aBV:=Walks.list
aBW:=Dp.readsAll
aBX:=NameKind
aBY:=mem_lookup
aBZ:=Nat.le_of_succ_le
aB0:=pushCells
aB1:=d.map
aB2:=own.map
aB3:=List.mem_map.mpr
aB4:=ok.uniq
aB5:=g.cells.lookup
aB6:=g.kindOf
aB7:=ok.kind
aB8:=compEnvC
aB9:=Bool.false_or
aB_:=Bool.true_or
aB':=Option.map_some
aCa:=ItemsAre
aCb:=Option.isSome_map
aCc:=List.nodup_nil
aCd:=Nat.le_refl
aCe:=wpAny_pyIter_enum
aCf:=Int.mul_le_mul_of_nonpos_left
aCg:=Int.le_total
aCh:=Int.mul_lt_mul_of_neg_left
aCi:=Nat.lt_min.mpr
aCj:=Step
aCk:=l.reverse.map
aCl:=E.reverse.map
aCm:=a5.length
aCo:=List.getElem?_inj
aCp:=this.symm
aCq:=List.length_erase_of_mem
aCr:=R.lines.length
aCs:=Plan.pt
aCu:=beq_self_eq_true
aCv:=Clock
aCw:=List.mem_reverse
aCx:=Plan.next
aCy:=l.head?
aCz:=r.round
aCA:=twiceArea
aCB:=LawfulBEq
aCC:=Plan.among
aCD:=List.mem_range
aCE:=D.chain
aCF:=T.child
aCG:=first.setIfInBounds
aCH:=first.getD
aCI:=Plan.nears
aCJ:=List.perm_middle
aCK:=Tree
aCL:=Int.mul_zero
aCM:=beq_iff_eq
aCN:=r.lines.take
aCO:=B.drawn.contains
aCP:=List.pairwise_cons.mpr
aCQ:=Bool.or_eq_false_iff
aCR:=Y.wide
aCS:=l.takeWhile
aCT:=I.mem
aCU:=r.pts.dropWhile
aCV:=Time
aCW:=decide_false
aCX:=List.filter_cons
aCY:=r.lines.flatMap
aCZ:=List.length_range
aC0:=F.lines
aC1:=Iff.rfl
aC2:=C.ord.lt
aC3:=sidesOf
aC4:=partsTwo
aC5:=List.mem_flatMap.mp
aC6:=List.flatMap_map
aC7:=marks.length
aC8:=List.length
aC9:=List.take_succ_eq_append_getElem
aC_:=Y.first
aC':=R.ss.drop
aDa:=R.gr.undone
aDb:=UInt8.toNat_inj.mp
aDc:=UInt8.toNat_ofNat'
aDd:=markAt
aDh:=LARGEST
aDi:=SMALLEST
aDj:=GlaKeeps.step
aDk:=e.place
aDl:=GlaKeeps.markOk
aDm:=d0.stop
aDn:=List.filterMap_nil
aDo:=GM.bT
aDp:=Nat.succ.inj
aDq:=m.map
aDr:=List.map_inj_left.mp
aDs:=c.enc
aDu:=WData.weightAll
aDv:=d.weight
aDw:=b1.toArray
aDx:=vs.toArray
aDy:=l.heap.Ns
aDz:=Bool.noConfusion
aDA:=Codec.denoteAll
aDB:=Int.ofNat.inj
aDC:=h.m.mono
aDD:=Gla.markPlace
aDE:=D.size
aDF:=Gla.markAt
aDG:=PyData.int
aDH:=lay_ints
aDI:=SeqAt.shaped
aDJ:=Gla.MARKS
aDK:=Gla.LINES
aDL:=Gla.POINTS
aDM:=Gla.SMALLEST
aDN:=decide_eq_decide.mpr
aDO:=p.trans
aDP:=Gla.Bytes
aDQ:=b.flatMap
aDR:=aTy.nd
aDS:=Nat.add_assoc
aDT:=Y.Nodup
aDU:=List.sum_append
aDV:=o.set
aDW:=o.length
aDX:=o.getD
aDY:=path.length
aDZ:=SetTable.advance
aD0:=probe.go
aD1:=SetTable.slot
aD2:=SetTable.has
aD3:=Nat.add_le_add
aD4:=below.go
aD5:=layClean.free
aD6:=Nat.lt_succ_of_le
aD7:=c0.toArray
aD8:=t'.place.toList
aD9:=SetTable.fill
aD_:=t.put
aD':=hashByValue
aEa:=HeapKind
aEb:=F.slot_tuple_hash.lookup
aEc:=c4.heap
aEd:=K.length
aEe:=W.item
aEf:=PyProof.Rows.F.plain_set_update_loop
aEg:=c4.mono
aEh:=wpAny_askSetting
aEi:=not_or
aEj:=wpAny_runValue
aEk:=Builtin.«set_iterator.__next__»
aEm:=entryFor
aEn:=List.eraseIdx_eq_take_drop_succ
aEo:=left.length
aEp:=pickOrder.go
aEq:=x.plain
aEr:=setsByText
aEs:=Obj.data_mapFields
aEt:=wpAny_setField
aEu:=Array.getElem?_eq_none
aEv:=wpAny_isInstance
aEw:=Builtin.List.listLengthHint
aEx:=x.keep
aEy:=tupKeyC
aEz:=tupKindC
aEA:=pairsOf
aEB:=a3.push
aEC:=HT.aO2
aED:=a9.mem_iff.mp
aEE:=wpAny_tupleItemsOf
aEF:=D.i1z.symm
aEG:=D.i2z.symm
aEH:=wpAny_newTuple
aEI:=sd.extBut
aEJ:=Value.type.inj
aEK:=Builtin.List.listExtendWith
aEL:=wpAny_pyIter_zip
aEM:=F.entry_min_loop
aEN:=W.frame
aEO:=D.i2z
aEP:=D.i1z
aEQ:=D.TOz
aER:=g6.objs.size
aES:=wpAny_updateSeq_pair
aET:=wpAny_onRaise
aEU:=GM.UD
aEV:=E.getD
aEW:=List.head?_eq_getElem?
aEX:=GM.S_
aEY:=List.all_append
aEZ:=PW.pt
aE0:=m.length
aE_:=b3.mono
aE':=s0.trans
aFa:=b9.mono
aFb:=d8.mono
aFc:=n2.symm
aFd:=f7.mono
aFe:=GM.merge
aFf:=GM.S3
aFg:=GM.iE
aFh:=W.map
aFi:=List.getElem?_of_mem
aFj:=d5.sw.at_
aFk:=gl.map
aFl:=GM.S4
aFm:=k1.trans
aFn:=e0.at_
aFo:=c6.at_
aFp:=Gla.Plan.drawn
aFq:=a9.clean
aFr:=Gla.numbered
aFs:=f.trans
aFt:=Gla.pairs
aFu:=NumV
aFv:=a9.clean.ord
aFw:=Nat.lt_or_gt_of_ne
aFx:=vr.length
aFy:=R.cs.take
aFz:=i9.free
aFA:=C.toNat
aFB:=row.flatMap
aFC:=RecAt
aFD:=at_of
aFE:=GlaKeeps.begins
aFF:=GlaKeeps.stepOf
aFG:=PyFlat.okCall
aFH:=KeepNeutral.asked1
aFI:=PyYqglha.answers_asked
aFJ:=Expr
aFK:=wpAny_field
aFL:=wpAny_seqItems
aFM:=auf._auto_1
aFN:=treeTable
aFO:=h.nd
aFP:=d.trans
a0K:=openGood
a0L:=p.main.body
a0M:=List.filterMap_cons_some
a0N:=PySem.W.codeIn
a0O:=PySem.W.makesIn
a0P:=PySem.W.hasDictIn
a0Q:=PySem.W.plainGet
a0R:=PySem.W.isFn
a0S:=s.tree.list
a0T:=GA.facts
a0U:=List.filter
a0V:=WData.layableAll
a0W:=Nat.add_le_add_left
a0X:=Nat.add_right_cancel
a0Y:=Int.le_of_eq
a0Z:=Classical.epsilon_spec
a00:=Classical.epsilon
a01:=Value.isStrOf_shape
a02:=SeqAt.EqAt.str_int
a03:=SeqAt.EqAt.int_str
a04:=Value.float
a05:=Value.bytes
a06:=List.take_nil
a07:=u.slots
a08:=List.mem_range.mpr
a09:=base.Ns
a0_:=X.FV.heap.FunFrames
a0':=X.env.globals
a1a:=s.heap.IsCell
a1b:=X.base.get?
a1c:=I.base.keep
a1d:=I.base.slot
a1e:=I.base.Kv
a1f:=I.base.FU
a1g:=I.base.Ku
a1h:=wpAny_loadName_cell
a1i:=wpAny_loadName_local
a1j:=Calls.Name_function_global
a1k:=wpAny_isTrue_Compare1
a1l:=wpAny_execs_cons
a1m:=interactive
a1n:=setItem
a1o:=wpAny_assign_Name
a1p:=storeName
a1q:=wpAny_pyIter_rangeiter
a1r:=wpAny_pyNext_range_end
a1s:=Int.mul_one
a1t:=IsRangeIter
a1u:=wpAny_pyIter_range
a1v:=IsRange.new
a1w:=intBits_le_64
a1x:=PyProof.noPylong_small
a1y:=PySem.W.handedIn
a1z:=beq_iff_eq.mp
a1A:=getMethod
a1B:=PySem.Within
a1C:=rY.some_of
a1D:=recursionLimit
a1E:=Code.frames
a1F:=Calls.spliced_cons
a1G:=I.ok.frames
a1H:=PySem.W.callWith_K
a1I:=I.ok.mod.kin
a1J:=PySem.W.callWith_K0
a1K:=Nat.le_succ
a1L:=a.kind
a1M:=Option.isSome_iff_exists.mp
a1N:=PySem.W.cellsFrom_some
a1O:=f5.dt.fresh
a1P:=List.of_mem_zip
a1Q:=SeqAt.EqAt.int_int
a1R:=v.toNat
a1S:=Builtin.Slice.sliceAdjust
a1T:=slicePart_none
a1U:=Builtin.Slice.sliceApplied
a1V:=O.toList.drop
a1W:=Builtin.Tuple.tupleItemsOf
a1X:=PyProof.Rows.slot_tuple_getitem
a1Y:=f.toList.drop
a1Z:=evalPart_none
a10:=c8.heap.push
a11:=Int.lt_of_lt_of_le
a12:=seqIndex_neg
a13:=seqIndex_of
a14:=subscriptTail
a15:=subscriptTail_builtinR
a16:=slot_list_getitem.lookup
a17:=d5.isList.typeIs
a18:=SeqAt.in_tupleAt
a19:=o.ExactDict
a1_:=Calls.callWith_builtin
a1':=its'.toArray
a2a:=Builtin.List.listTooLong
a2b:=t.toArray.size
a2c:=pushCells_keeps
a2d:=wpAny_alloc
a2e:=Option.isSome_some
a2f:=newFunctionEnv
a2g:=NameKind.cell
a2h:=I.ok.hd
a2i:=I.ok.glob
a2j:=X.env.cells
a2k:=ForInStep.yield
a2l:=b5.heap.push
a2m:=compPost
a2n:=Unit
a2o:=d.names.all
a2p:=e.symm.trans
a2q:=a3.symm.trans
a2r:=Paired.snoc
a2s:=I.mod.glob.keeps
a2t:=wpAny_getItem_heap
a2u:=wpAny_getItem_of
a2v:=wpAny_in_heap
a2w:=wpAny_notIn_heap
a2x:=wpAny_setItem_heap
a2y:=keys.length
a2z:=Builtin.Range.small
a2A:=wpAny_pyIter_revIter
a2B:=Int.le_antisymm
a2C:=wpAny_pyNext_enum_end
a2D:=wpAny_pyNext_enum_item
a2E:=Nat.succ_ne_self
a2F:=boot_enumerate
a2G:=Passes
a2H:=Option.none
a2I:=Nat.min_comm
a2J:=Nat.max_comm
a2K:=Nat.le_of_succ_le_succ
a2L:=List.getElem?_cons_zero
a2M:=Int.add_lt_add_of_lt_of_le
a2N:=Nat.le_min.mpr
a2O:=d5.turn
a2P:=List.mem_erase_of_ne
a2Q:=m.erase
a2R:=r.lines.Nodup
a2S:=r.pts.Pairwise
a2T:=Int.add_le_add
a2U:=Int.lt_or_eq_of_le
a2V:=Int.mul_pos_of_neg_of_neg
a2W:=List.mem_filterMap
a2X:=Nat.not_lt.mpr
a2Y:=Int.sub_pos.mpr
a2Z:=Nat.lt_asymm
a20:=Int.add_zero
a21:=List.reverse_cons
a22:=List.pairwise_lt_range
a23:=List.foldr_cons
a24:=N.lay.mp
a25:=List.nodup_cons.mpr
a26:=List.Pairwise.filter
a27:=List.mem_of_find?_eq_some
a28:=List.find?_eq_none
a29:=path.getLast?
a2_:=List.mem_of_getLast?
a2':=seen.getD
a3a:=List.length_eq_zero_iff.mp
a3b:=List.all_takeWhile
a3c:=List.mem_iff_getElem?
a3d:=r.pts.filter
a3e:=B.pts.contains
a3f:=List.zipIdx_cons
a3g:=r.lines.contains
a3h:=List.pairwise_append.mp
a3i:=a4.mem_iff.mp
a3j:=r.pts.takeWhile
a3k:=takeWhile_all
a3l:=p.nodup_iff.mpr
a3m:=m.eraseDups
a3n:=Nat.mod_mul
a3o:=List.take_left'
a3p:=List.drop_left'
a3q:=Nat.pow_pos
a3r:=List.drop_append_of_le_length
a3s:=r.marks.flatMap
a3t:=r.pts.flatMap
a3u:=Int.zero_mul
a3v:=a5.symm
a3w:=List.flatMap_def
a3x:=b4.trans
a3y:=b9.symm
a3z:=List.filter_eq_self
a3A:=r.marks.eraseIdx
a3B:=r.lines.map
a3C:=List.pairwise_map.mpr
a3D:=d8.Pairwise
a3E:=Except
a3F:=R.cs.length
a3G:=Gla.Record
a3H:=Nat.not_lt.mp
a3I:=Gla.Record.undo
a3J:=Gla.Record.redo
a3K:=stepAt
a3L:=Fault
a3M:=KeepNeutral.told
a3N:=GlaKeeps.begun
a3O:=Y.filterMap
a3P:=GlaKeeps.Call
a3Q:=PySem.boot_len
a3R:=PySem.F.slot_dict_getitem.lookup
a3S:=List.map_eq_nil_iff.mp
a3T:=vs.toList.map
a3U:=l.heap.get?
a3V:=Codec.withinAll
a3W:=J.args.length
a3X:=d.params.defaults
a3Y:=PySem.W.Codec.app
a3Z:=PySem.W.nsIn
a30:=T.len
a31:=List.map_inj_right
a32:=GM.aRK.mpr
a33:=GM.S7.mpr
a34:=List.extract
a35:=Array.toList_extract
a36:=Array.toList_append
a37:=Builtin.List.listFitsIndex
a38:=List.any_eq_true.mpr
a39:=List.getElem_set
a3_:=List.length_filterMap_le
a3':=List.sum_cons
a4a:=List.concat_eq_append
a4b:=List.eq_nil_or_concat
a4c:=Nat.add_mod
a4d:=Nat.mul_mod
a4e:=Nat.eq_zero_or_pos
a4f:=List.range_add
a4g:=List.filter_cons_of_neg
a4h:=List.filter_map
a4i:=O.toList.length
a4j:=Array.getElem?_toList.symm.trans
a4k:=Nat.le_add_right
a4l:=List.getElem_drop
a4m:=List.drop_sublist
a4n:=g.setIfInBounds
a4o:=List.getElem?_toArray
a4p:=Option.map_eq_some_iff
a4q:=B.toList.Perm
a4r:=sizeAbove.go
a4s:=t.place.toList.take
a4t:=a7.toList.drop
a4u:=t'.place.size
a4v:=SetTable.fits
a4w:=d.hash
a4x:=carriedByValue
a4y:=searchCouldBeSeen
a4z:=Bool.not_true
a4A:=D.toList.Perm
a4B:=Heap.SameBut.update
a4C:=wpAny_storeSet_of
a4D:=wpAny_setState_of
a4E:=setAddHashed
a4F:=ofAClassStatement
a4G:=IsTupleKey.typeIs
a4H:=PyProof.Rows.F.entry_set_update_loop
a4I:=F.plain_set_new
a4J:=codeAny_of_tree
a4K:=Builtin.«frozenset.__iter__»
a4L:=d.toList
a4M:=pickOrder
a4N:=F.ax6.lookup
a4O:=wpAny_setEntries_of
a4P:=F.slot_set_iter
a4Q:=unsupported
a4R:=Array.getElem?_eq_none_iff
a4S:=Obj.cls_mapFields
a4T:=Obj.isFreed_of_fields
a4U:=firstArgMember
a4V:=wpAny_ite_split
a4W:=wpAny_typeOf
a4X:=F.plain_list_iadd
a4Y:=listOrd
a4Z:=itemOrd
a40:=Array.toList_map
a41:=Array.toList_zip
a42:=a3.objs.size
a43:=Value.ref.inj
a44:=b1.Pairwise
a45:=wpAny_ret_mkInt
a46:=F.slot_tuple_hash
a47:=Value.builtin
a48:=F.slot_tuple_eq
a49:=F.slot_tuple_eq.lookup
a4_:=b0.objs.size
a4':=wpAny_mkInt
a5a:=F.entry_extend_loop
a5b:=W.low
a5c:=F.args_zip_iter_1
a5d:=F.slot_zip_next.lookup
a5e:=F.entry_zip_iter
a5f:=wpAny_pyNext_zip_end
a5g:=wpAny_pyNext_zip_item
a5h:=F.slot_enumerate_iter
a5i:=c1.drawn
a5j:=PySem.W.ktu_apart
a5k:=X.A.in1.in1
a5l:=Nat.succ_ne_zero
a5m:=F.slot_dict_len
a5n:=Builtin.«len»
a5o:=Around.under_plainId
a5p:=richCompare
a5q:=intItems_at
a5r:=loadIfAlive
a5s:=D.TOi2.symm
a5t:=D.TOi1.symm
a5u:=D.TOz.symm
a5v:=ZipApart
a5w:=List.Nodup.sublist
a5x:=D.nears
a5y:=List.all_eq_false
a5z:=List.zip_cons_cons
a5A:=T.enumerate
a5B:=List.any_map
a5C:=List.contains_iff_mem.mpr
a5D:=D.drawn.length
a5E:=B.pts.length
a5F:=aTO.nd
a5G:=List.nil_append
a5H:=List.Pairwise.and_mem.mp
a5I:=Nat.add_le_add_right
a5J:=l0.trans
a5K:=e5.trans
a5L:=GM.begun
a5M:=List.Nodup.length_le_of_subset
a5N:=GM.aeI
a5O:=GM.aeH
a5P:=y.symm
a5Q:=c6.symm
a5R:=GM.Gq
a5S:=gl.length
a5T:=PI.sb
a5U:=l1.trans
a5V:=Nat.add_sub_cancel
a5W:=D.outlines.length
a5X:=b.at_.below
a5Y:=List.flatMap_nil
a5Z:=GM.Lv
a50:=List.dropLast_eq_take
a51:=Gla.stepAt
a52:=Gla.readSteps
a53:=dB.ls
a54:=z.sb
a55:=Gla.saveRecord
a56:=GM.kq
a57:=f6.wide
a58:=KeepNeutral.mark
a59:=KeepNeutral.points
a5_:=Int.toNat_of_nonneg
a5':=KeepNeutral.bytes
a6a:=PyYqglha.whole
a6b:=PyYqglha.calls
a6c:=KeepNeutral.start
a6d:=PyFlat.put
a6e:=Nat.add_sub_cancel_left
a6f:=T.answers.Ok
a6g:=eval
a6h:=c5.drop
a6i:=d8.drop
a6j:=X.blk
a6k:=I.turned
a6l:=bjr.mpr
a6m:=r.pts.set
a6n:=c1.heap.get?
a6o:=plainId_quiet
a6p:=Binds
a6q:=B.filterMap
a6r:=f.toList
a6s:=Or.inl
a6t:=T.range
a6u:=W.idxOf
a6v:=l.foldl
a6w:=set_list
a6x:=GM.auT
a6y:=I.bjk
a6z:=seqObj
a6A:=F.slot_zip_next
a6B:=wpAny_forIn_list
a6C:=a3.extBut
a6D:=m.extBut
a6E:=Codec.app
a6F:=sliceBounds
a6G:=T.av4.b
a6H:=T.av4.h
a6I:=toString
a6J:=wpAny_loadPart'
a6K:=vs.toArray.toList.map
a6L:=D.i12.symm
a6M:=a9.extBut
a6N:=B.extBut
a6O:=y.length
a6P:=y.size
a6Q:=ok.free
a6R:=Y.flatMap
a6S:=L.type
a6T:=F.slot_enumerate_next
a6U:=lines.map
a6V:=Fast.te6613529449190102663
a6W:=Fast.te14364793385576792824
a6X:=Fast.te11892475500146522536
a6Y:=Fast.te10156331382660048174
a6Z:=h.lst
a60:=markPlace
a61:=openSeen
a62:=ar.any
a63:=ar.toArray.any
a64:=SeqAt.canLay_of_shaped
bj9:=backToKw
bj_:=keywordEach
bj':=Builtin.List.listItems
bka:=holding
bkb:=aue._auto_1
bkc:=h.casesOn
bkd:=Heap.get?_push_of_some
bke:=Nat.zero_le
bkf:=Nat.le_add_left
bkg:=List.mem_cons_of_mem
bkh:=inClass
bki:=X.calm
bkj:=I.tok
bkk:=Nat.lt_succ_self
bkl:=aub._auto_1
bkm:=w.params.followText
bkn:=PySem.W.findIn
bko:=Nat.lt_trichotomy
bkp:=Nat.not_lt_zero
bkq:=boot_heap
bkr:=Nat.succ_pos
bks:=A.handled
bkt:=sA.take
bku:=PySem.F.type_list_extend
bkv:=PySem.F.slot_list_extend
bkw:=PySem.F.type_list_append
bkx:=PySem.F.slot_list_append
bky:=List.nodup_cons.mp
bkz:=wpAny_callSpecial?_slot
bkA:=pts.eraseDups
bkB:=s.life
bkC:=sA.drop
bkD:=ak.trans
bkE:=HO.lst
bkF:=Eq.symm
bkG:=binaryOp
bkH:=f.mono
bkI:=wpAny_attempt
bkJ:=bindArgs
bkK:=Array.forIn_toList
bkL:=d9.seq
bkM:=eR.pk
bkN:=d0.go
bkO:=r.marks.set
bkP:=d0.yld
bkQ:=row.map
bkR:=Result
bkS:=field
bkT:=Int.lt_trichotomy
bkU:=List.cons_ne_nil
bkV:=behindInMarks
bkW:=X.pn
bkX:=isSubtype_stop
bkY:=aTC.nd
bkZ:=builtinLookup_eq_fast
bk0:=typeLookup_type
bk1:=notedBy
bk2:=T.turn
bk3:=T.sorted
bk4:=List.foldl_cons
bk5:=a4.row
bk6:=rv.get
bk7:=List.ext_getElem
bk8:=C.net.lay
bk9:=c5.set
bk_:=k.map
bk':=facts
bla:=A.under
blb:=foldedSetIterable
blc:=Call_
bld:=a.below
blf:=a.at_.below
blg:=b.at_
blh:=GA.KT
bli:=Value.str
blj:=bs.getD
bll:=linePlace
blm:=D.pts.filter
bln:=gl.set
blo:=d8.set
blp:=UG.go
blq:=D.pts.take
blr:=List.map_id
blu:=B.toList.toArray
blv:=I.ok.bs
blw:=Builtin.Tuple.tupleExact
blx:=GM.vg
bly:=PyFlat.told
blz:=PyFlat.played
blA:=h6.up
blB:=T.awy.b
blC:=T.awy.h
blD:=T.awx.b
blE:=T.awx.h
blF:=h.DictOf
blG:=I.base.there
blH:=N.len
blI:=F.args_zip_next_1
blJ:=F.entry_zip_next
blK:=bju.go
blL:=KeepNeutral.callOf
blM:=a5.mono
blN:=a.lookup
blO:=o.slots
blP:=List.takeWhile_sublist
blQ:=D.lines.contains
blR:=Int.toNat
blS:=aus._auto_1
blT:=d7.size
blU:=List.length_pos_of_mem
blV:=row.Pairwise
blW:=List.find?_eq_none.mp
blX:=J.ret.enc
blY:=h'.update
blZ:=IsListIter.at'
bl0:=List.mem_singleton_self
bl1:=isSubtype_tuple_tuple
bl2:=isSubtype_type
bl3:=r.marks.drop
bl4:=r.marks.take
bl5:=c.foldl
bl6:=GM.Tree
bl7:=Heap.ExtBut
bl8:=Builtin.Tuple.tupleHashOf
bl9:=R.takeWhile
bl_:=W.Pairwise
bl':=Builtin.Tuple.tupleCompareSizes
bma:=I.ok.cab
bmb:=PassesOwn
bmc:=s.heap.IsSliceOf
bmd:=w.params.setOrder
bme:=hi.length
bmf:=b8.length
bmg:=topStub
bmh:=wpAny_Dict_empty
bmi:=PySem.F.type_list_pop
bmj:=PySem.F.slot_list_pop
bmk:=m.Nodup
bml:=k.length
bmm:=I.length
bmn:=richCompare_meets_room
bmo:=Value.notImplemented
bmp:=w.withFollow
bmq:=Gla.firstAt
bmr:=d.eraseDups
bms:=List.take_take
bmt:=s.heap.IsTuple
bmu:=A.in1.units
bmv:=I.ok.uU.mem
bmw:=wpAny_fieldsOf
bmx:=List.zipIdx_nil
bmy:=entryFor_alias
bmz:=wpAny_callSpecial?_none
bmA:=noBool_dict
bmB:=F.slot_dict_len.lookup
bmC:=List.Pairwise.of_map
bmD:=Int.lt_or_gt_of_ne
bmE:=R.cur.marks.length
bmF:=F.args_enumerate_next_1
bmG:=F.entry_enumerate_next
bmH:=Expr.ListComp
bmI:=b3.symm.trans
bmJ:=Int.mul_lt_mul_of_pos_right
bmK:=List.getElem_inj
bmL:=Int.not_lt.mpr
bmM:=d.toList.Perm
bmN:=signature?_of
bmO:=fencedOpening
bmP:=Fast.te4187177175401517315
bmQ:=call_enumerate_list
bmR:=call_list_seq
bmS:=List.length_take_le'
bmT:=wpAny_Assign_Subscript
bmU:=Option.ne_none_iff_exists'.mp
bmV:=List.Pairwise.imp
bmW:=PySem.W.WalkOS
bmX:=Heap.SameBut.refl
bmY:=Option.isNone_some
bmZ:=W.kdx_alive
bm0:=Option.getD_none
bm1:=PySem.W.length_le_weightAllW
bm2:=Moved.trans
bm3:=SeqAt.eqAt_reads
bm4:=List.mem_of_mem_drop
bm5:=List.drop_take
bm6:=Walks.range
bm7:=List.set_set
bm8:=PySem.W.methodCall_KW
v a b c:=⟨a,b,c⟩
a a b c d e:=v a b (v c d e)
a2 a:=(a).2.2.2.2
a b c d e f g h i j:=a b c d e (a f g h i j)
Ea:=xE8 _ _
x a:=by exact a
cr a:=(a2 a).1
v a:=(a:Int)
aS a:=(a).2.2.1
cB:=by decide+kernel
l a:=by {exact a}
d a b c d:=v a b ⟨c,d⟩
c a b c d e:=a->b->c->d->e
K a b c:=a[b]?=aa c
b b c d e f g h i j:=by refine a b c d e f g h i j
bS:=pv 0
L a b:=(a).map b
bG:=‹_›
aO a b:=bL (a×b)
f b c d e:=a b c rfl d e
ay:=by decide
au a b:=a->b->Prop
t a:=(a).length
af:=bL V
ag:=by simp[*]
J a:=fun z=>a
aq:=pv 1
v a b:=by refine⟨a,b⟩
ai a b:=v rfl a b
ah:=by simp_all
t a b:=by rw[a];exact b
ai a b c:=R6 a (R6 b c)
b5 a b:=a=aa (.lst b)
E a b c:=∀a,b->c
c c d e f g h i j:=by rw[b c d e f g rfl h i j]
C a:=by refine bF a
be a:=a=aa o
f3 a:=cr (a).2.2
i a b c d:=a->b->c->d
U a b c:=upd a b (.lst c)
df a:=fE (aNQ a)
av a b:=v _ a b
cP a b:=.tup [a,b]
ao:=bL Nat
eV a:=a2 (a).2.2
d9 a b:=aUX a a6 b
N a b c:=by by_cases a:b=c
dg a:=Nat->a
A a b:=K a i b
cd a:=(a:Nat)
rh:=aqG _ _
z a b c:=∃a,b/\c
M a b:=PE X a b
ac a:=aa (.ref a)
aV a:=(a).2.1
aw:=pv 2
bI:=by rfl
B a b:=(a).trans b
j b c d e f:=by refine a b c d e f
dE a:=au a vH
aR a b:=Inv X au M a b
au a:=fun _=>a
ow a:=dX (j:=a) rfl
a_:=aCd _
h2 a:=fun _ _=>a
aM:=bL cS
aT:=bL Int
bc:=.ref a
j a b c d:=∀a b,c->d
a1 a:=a<=hv
b a b d e f g:=c (a=b) d e f g
Y a:=H a=ae
bQ:=cZ H L
du a:=by intro a h
dI a:=by rw[v a ?_]
J a b:=by rw[a];exact b
bU a:=aS (a)
bP:=GN K bS
az:=by {simp_all}
Ab:=.head _
IM:=xE7 _ _
aW a:=⟨_,a⟩
aA:=(Ea).2.1
Z a b c:=if a=ab then b else c
bb:=pv 3
aB:=cr (Ea).2
aD:=cr (Ea)
aE:=aS (Ea).2
aF:=aS (Ea)
aG:=(Ea).1
aH:=f3 (Ea)
aI:=eV (Ea).2
i8 a:=fun _ _ _ _ _ _=>a
cA a:=(VH a)
Y a b c:=ads a b (aqc c)
aQ:=by simp
V a b c:=(∀a∈b,c)
m b c d e:=a b c d rfl e
aa a b:=K a j b
aY:=aR H s
i9 b:=f rfl rfl b (ai cB cB)
aa a b c:=by refine v a b c
x a b:=(a).mp b
aL:=aE8 ?_
ax a b:=k _ _ a b
cH:=by cases h
dl a b:=rZ a (df b) By
mq a:=fun _ _ _ _ _=>a
XN:=xE5 _ _
ab a:=fun x=>a
bh a b:=H a=aa b
ba:=bL I
l a b c d e:=∀a b,c->d->e
aU:=dE cS
bk a:=a<2^32
aN:=by rw[du a6]
bg:=bL ef
bu:=by rw[dI rfl]
an a:=fun e=>a
cE a:=aS (a).2
bB:=by trivial
aZ:=by {simp[*]}
ce a:=ey a bkb
M a:=by refine bkc a
aX:=by clear h
d_ a b:=cP (.int a) b
as a:=⟨a,?_⟩
iq:=td r
i b c d e f g h:=a b c d _ e rfl f g h
gD a:=by show a;decide
X a b c:=Tv K mg a b c
dm a b:=by obtain⟨a,rfl⟩:=b
bK:=x Ab
ax a:=by simpa using a
aP a b:=v a rfl b
bf:=i9 cB
bz:=by grind
bh a:=L a vn
N a b c d e:=b5 (upd a b (.lst c) d) e
aj a:=by rw[a]at h
cC:=.ref l
cf a:=ky r a
di a:=avu K a bE
bn a:=fun p=>a
aC a b:=.ins a dx b
g2 a b:=avg gZ (zzF a rfl) (i8 b)
mr a:=(BZ r a)
bC a b c:=by obtain⟨a,b,rfl⟩:=c
bs a b:=aUW K a b
dh:=ow 0
e a d e f g:=b vs a d e f g
bw:=aO ef Obj
ff a b:={cls:= .type a,data:=b}
bM:=by lia
ch a:=fun l=>a
eZ a:=.int a t
bq:=Lay r
ac a b:=b_ (o:= .lst a) b
a7 a b:=d9 a (dY b)
ax a b c:=∃a,b=aa c
as a b:=KQ (sD a b)
eY:=(·.2)
ae a:=v (cd a)
D a b c d:=dl (dZ a b c) d
i a b c d e:=ai (bU a b c) d e
bs a:=by rw[a]at k
ai a:=fun q=>a
bX a:=cr (a)
bC a:=mq (a)
Ac:=xE9 _ _
pw:=bZ cS
ar a:=by simp[a]
ad a b:=upd H a b
Y a b:=t (bW a) b
T a b:=by rw[N q a b]
bv a:=s _ _ a
cW:=.ref b
w a b c e:=by refine d a b c e
akM:=xE4 _ _
al a:=by rcases a with q|q
bo a:=fun m=>a
en a:=(gD (a1 a))
am a:=by rw[a]at this
cI:=bL Ln
au a b c:=Kd a (Kd b c)
bR:=pv 4
fM:=(·.1)
Ox:=xE6 _ _
eD:=by intro h
bN a b:=(a).mono b
bm a b:=(v a-b)
ce a b:=L (eJ a) b
y d e f g h:=by rw[c d _ e _ _ f g h]
a a b c d e f:=by have a:N b c d e f:=ak
xb:=.int 0
bY:=by subst e
Z a b:=by {rw[a];exact b}
aj a b:=b5 (L a) b
gW:=au rfl
av a b c:=if a then aa b else c
cs a:=oy R a
cm:=b_ c6
b1 a:=a<65536
aK a b c:=kk a (.ref b) c
bd a:=⟨rfl,a⟩
ed:=bp v
a b c e f g h i j:=a b c e f (d g h i j)
aJ a:=fun x S=>a
vo a:=by intro au s M H a I h
de a b:=∀e∈a,b
ct a:=cr (a).2
f a b c d e f:=∀a b,i c d e f
bJ a:=by have m:=a
b b c d e f g h i:=a b c d e f _ g h i
cu a:=a->Prop
aO a:=by rw[bj a]
an a b:=(a).take b
a b c d e f g h:=a b c d e (v f g h)
aW b c d:=by refine f b _ c d
eg:=tr _
d c d e f g h i j:=by rw[b c d e f g h i rfl j]
eo a:=au a Hp
lO:=h2 rfl
bl a:=fv (ju cN w) A a Q E s
iY:=bZ Nat
ae a b:=(a).mpr b
fh a:=A a x
dE a b:=Tw (h2 a) b
ms a:=aO Str a
ap a b:=U H a b
bi a b:=cv (a<=b)
ep a:=by rw[dm t a]
gE a:=be (Hh a)
ab a b:=ax t (mg a) (eZ b)
bT a b:=cv (a<b)
bk a b c:=∀(a:Nat)b,c
bT a:=bkd _ a
eE:=bp e.1
eF:=bp e.2
cJ:=pv 5
cS a b:=ll aOu a b
m b c d e f:=i b c _ rfl d e f
cQ:=aqC _ _
cq:=by grind-abstractProof
P a b c d:=by have a:cZ b c:=d
ar a b:=cv (a=b)
a0 a b c:=show a=b from c
cT:=bke _
ap a:=zzI a rfl
bn a b:=x (cf a b)
cK:=v n
be a b c:=i a b c Prop
cO:=aK rfl
a4 a:=by delta a at h
e0 a:=a6g a cF
dr:=ow 1
dN a:=aUY K a30 a
ai d e f g:=by rw[c d _ _ _ rfl e f g]
o a b c d:=∀a,b->c->d
jk a:=(mr a).row
bm a:=av a rfl
h3 a:=x (ew a)
cD:=dg Nat
an a b c:=Y a [b] c
ak a b:=by rw[aa a b ?_]
es:=en 2
fi:=by rw[dN,ea ay]
cv a b:=by obtain⟨dx,a⟩:=b
eh:=bL Pt
ea a b:=(a).filter b
v a b c d:=if a=b then c else d
bH a c:=∀b∈a,c
dG a b:=(a).any b
mt a:=.tail _ a
eN:=eX b5
jl a:=av a ?_
akN:=Int×cS
cL:=by {grind-abstractProof}
c5 a c:=num b a c
e b c e f g h i k:=by rw[j b c e f (d g h i k)]
eq a:=d_ (cd i) a
cM:=a<=b
a6 a:=by rw[a]at e
fN:=cg ?_
bt a:=(a).symm
a4 a b:=by cases a;exact b
am a b:=b5 (H a) b
gX:=i<aJ
ei:=aW rfl
fJ a:=SB a H L
fm a:=fun t c6=>a
gG a:=aa (v a)
bj a b:=by rw[a,b]
gf:=by simpa using this
aj a b c:=by have a:cZ H b:=c
aC a b c:=aR (x:=a) (y:=b) (cV c)
c b c d e f g:=a b c d e ⟨f,g⟩
f b c d e f g h i:=a b c d e rfl f g h i
b7 a b:=x (js a b)
cX:=bL Str
cU:=fq akN
ev a:=a=aa u
jm a:=a2 (a).2
ap a b c:=K (a) b c
ab a b c:=by have a:b=c:=rfl
Ad:=cA R.n
e a b c d e f:=by have a:upd b c d e=aa f:=ak
cY:=by {trivial}
et:=this.1
bD a:=by refine(a)
eG:=bp i
a1 a b:=Gk par a b
bv a b:=by have:=a;exact b
cF a:=it F a h
dz:=Ord r
ch a b:=(eJ a).find? b
dv a:=f3 (a)
bh a b c:=d9 a (sD b c)
dM:=Str->pw
dS:=by cases e
dn a b:={s with heap:=a,toks:=b}
aJ a b:=v a b ?_
kD a:=be (zg a)
Z a b c d:=d9 a (yV b c d)
he a:=H8 b a 2
M a b c d:=by have a:b≠c:=J d
hf a:=fun M H Q=>a
kE:=iD e f
fK a:=Lp r z a
dH a b:=aFC u CR a J b g ls
ak b c d:=by obtain⟨a,b,c⟩:=d
ey a:=iM a b1
br a:=av (bv a)
dO a:=as bE a
E a b c d:=av a ⟨b,c⟩ d
gY:=gE b
ej:=h3 bG
bx a b:=cP (vn a) (vn b)
g_:=oU e f
d0 a:=dir r v a
dj a:=a4 _ _ a
ad a b c:=(E a b c)
dU:=fq cS
fj:=this.2
aK a b:=∀x∈a,b
am a b c:=(a).getD b c
i a b c d e f:=by generalize U a b c=d at e f
ac a b c:=by rw[a,b];exact c
d5 a:=f3 (a).2
bi a:=g2 a (sA gW)
aj a b c d:=D a b (gi c) d
dF:=cs h
fx:=by rw[vo Q]
dA:=Ln->Int
f4 a:=(l v L bQ a (Q v L))
dx a:=⟨a,rfl⟩
ek:=bZ Int
dV:=by {grind}
dk a:=(a).isSome
gg:=e.1+1
bU a b:=x (cn a b)
bx a:=(Xh a).1
j a b d e f g:=c a b d e (f->g)
bk a b:=V x a b
lP:=dj 0 r.A
bV a b:=by generalize(xE2 _ _).1=a,(xE2 _ _).2=b
bE a:=aa (vn a)
hJ:=(ajG cN w)
b2 a:=by have l:=a
dW:=by congr 1
b a b c d e f g:=by obtain⟨a,b,c,d,e⟩:=f;exact g
gh:=[J,g,ls]
hi a:=⟨0,a⟩
dJ a:=fun i=>a
ci a:=by have q:=a
gj:=.inl rfl
cc a:=.inl (av a)
ri:=yH r
eu:=pv 6
kF:=bV b
jI:=x oR
as a b c:=d _ a b c
aa a b d e:=c a b d e Prop
cN a:=L a eY
cw b:=bh a b
el:=by (simp_all;lia-abstractProof)
T a b c d:=by rw[P a b c (b_ d)]
iZ:=jk t
lQ:=aP t ak
tx:=bkf _ _
a2 d e:=by rw[y a dx d dR e]
aO a b c:=by obtain⟨a,b,e⟩:=c
eH:=by split at h
xc:=.ref C
ca a:=by refine jl a
pz:=bp l.1
bo a b:=R6 a (df b)
dI a b:=a->b->cb
dl a:=av rfl a
ee:=dg Int
d7 a:=ce n a
rj:=e::a7
h4 a:=aOx I q a
hm a:=A×B×C×D×a
cj a:=fun k=>a
fO:=.ref p
I a b c d:=∃a,b/\c/\d
fL a:={s with heap:=a}
rk:=bp a
rl:=bp l.2
A a b c d:=i (vs=a) b c d
ez a:=bN a ay
be a b:=KH X (MB a) b
n d e f g h:=by rw[c d e _ _ rfl f g h]
fn a:=a3Z K CG a
dn a:=c8 _ _ a
rm:=(wY e.1,wY e.2)
g3 b c:=LL C b a c b2 X G
i_:=(i+1)
c8 a:=fun h=>a
dp a:=adr K a
df a b:=(a).drop b
d9 a:=yA (dY a)
bp a b:=v a b rfl
z a b c d:=by have a:b:=by rw[J c d]
cw a b:=x (aW (cV a) b)
ha:=be (gQ b)
fy:=tf lJ j
a9 a b c:=by obtain⟨ar,a,b,c9⟩:=c
fo a:=fun i M L=>a
u b c d e f:=a b c d _ _ e rfl rfl f
dg a b:=fv (ju eA X.w) X.A a b oN s
d_ a:=⟨a,[]⟩
gk:=.ref aO
e_:=by subst q
E a b c d e:=upd (upd a b c) d e
Ae:=(Ad).side
dP a:=oy iq a
ec a b:=ll aPF a b
h6 a:=ai rfl a
K b c d e:=by rw[j _ b c d e]
a3 a b c:=by rw[bC a b (zt c)]
tA:=ahq M vs
da a:=fun b o e=>a
fz:=Nat×Nat
mZ:=aO Pt Pt
dq a:=.inl (ai _ (av a))
dp a b:=[v a,v b]
co a b:=b_ a _ _ b
akO:=by(rw[eD,cH])
eO:=by omega
cR a:=by rw[a]at q
hb:=[xb]
cb a:=by have b:=a
ck a:=bkg _ a
fP:=aE2 ?_
ae a b c:=by have a:b=c:=by simp[*]
db a:=fun b U=>a
bD a b c:=by rw[w a rfl b c]
tD:=e0 e
eP:=c<=d
gI:=aBB _ rfl
kG:=by cases q
tE:=bL Key
fA:=bL aT
cy b:=by have a:=b
cl a:=by have c:=a
bd a b:=t a<=b
hc:=ft e
jC a b:=by rcases a with b|h
bl a b:=by rw[<-a];exact b
dQ a:=by rw[l (.inl a)]
pA:=J ?_
b1 a b:=by rw[N e a b]
gJ:=as rfl
h7 a:=fW K H l a
hn a:=cS a bE
bn d e f:=by rw[ai d (cx e) dh f]
c c d e f g h i:=by rw[b c d _ rfl e f g h i]
r d e f g h:=by rw[c d _ _ e rfl f g h]
k1 a:=by rcases a with g|g
cS a:=kd al f a
ab a b c d:=b6 _ _ a b c d
fk:=by lia-abstractProof
cn a:=(df a)
gK:=(iq)
y b c d e:=by refine f b c d e
aP a b c:=∀(a b:Nat),c
br a b:=dG H a b
bA a b:=zg a=aa b
fp a:=cr (a2 (a))
co a:=by rw[l (.inr a)]
kH:=di bS
ja:=ms ef
hK:=eq y
fB:=X.K=K
hL:=dI t J p
mw a:=fun(l:Nat×Nat)=>a
akP:=(wY m.1,wY m.2)
d_ a b c:=p=a/\ns=b/\d=c
hM:=by cases J
hO:=by cases R
fC:=bL aFJ
eb a:=fun n=>a
e1 a:=fun v=>a
bW a b:=bkh (top a) b
b2 a b:=by rw[z,a]at b
hp a:=.cons a .nil
fQ:=bki=ab
s b c d e f:=m b c d ⟨e,f⟩
dJ a b:=be Nat a b
ef a b:=fm (ax a b)
fR:=by(simp[*];lia)
fD:=by rw[cv hd mV]
cZ a:=by rcases a with z|z
lR:=aa R
hP:=.int i
e3 a:=∀x,a
gm:=by subst this
Af:=.type "list"
fS:=by intro q
bE a b:=a=ab↔b
lS:=ajw vn
jJ:=R.d+1
aS a b c:=by have a:b=c:=by simp
gn:=dg iY
gp:=Y b
fr a:=bh b a
cz a:=g2 a (vr lO)
vs a:=fun _ _ _=>a
mx b:=fW K H a b
fT:=by (simp_all;lia)
jb:=cu Hp
f9 a b:=ce (MA a cF=b)
b4 a b:=bh a bS b
fs c:=fun a b=>c
fU:=M a d6
fV:=by have f3:=qJ
gq:=aqG o p
gH a:=b5 _ _ a
jK:=bZ V
h8 a:=fun b=>a
bE a b c:=by obtain⟨vs,a,b⟩:=c
mz a:=cv (a<0)
c7 a:=(a).Nodup
bC a b:=by by_cases a:b=ab
di a b:=(a).get? b
cz a b:=∀p∈a,b
bJ a b:=qr a b akO
c7 a b:=Hh a=aa b
eA a:=a++[y]
ac a b c d:=B ((a).2 b c) d
xf:=Y l
k2 a:=aW (av a)
rn:=z.2.1
gs:=aO Key V
dc a:=by rw[a];rfl
xg:=by rw[ep R]
jn a:=ea (pq i) a
dy a:=Gh r e (cf a)
gu:=x<=y
bT c e f:=by rw[d _ c e _ dx _ _ f]
fg a b:=Bu P w a b
m_:=f+1+zm
re a:=Z aVP bS a bE
nE a b:=ptK (K:=K) (n:=a) rfl rfl b
jc:=by rw[bC rfl rfl b0]
nf:=bZ ef
de a:=by have e:=a
bX a b:=by rw[a,b]at this
be a b c d:=g a b c (fun h b7=>d)
fh a b:=(a).lookup b
b8 a b:=Sh K a b
bZ a b:=by intro a b h
eQ a b:=(a).Pairwise b
ir:=aCT e
hg:=rv h
jN:=vn p
bL a b:=hH (cP a) b
kI:=a4w F
jD a b:=a=aa (.ref b)
iu:=aO+1
N a b c d:=a/\b/\c/\d
a1 a b c:=d a b c ?_
g c d e f g h i j:=by rw[b c d e f g h rfl i j]
ec a:=by rw[bs (bj a)]
ci a b:=bC (sF a b)
hh:=dj 0 A
eB a:=fun o e=>a
jO:=hi 0
cj a b:=arY (own:=[(a,b)]) bI
gL:=l<=J
f_ a b:=cP (.ref a) (.ref b)
hj:=aqE o p
hk:=aqE _ _
V a b c d:=nE 2 (KD (sF a b) (KD (sF c d) aqR))
ck a b:=by obtain⟨a,e⟩:=b
jF a b:=!(a).contains b
bF a c d:=by obtain⟨b,a,c⟩:=d
bl a b c:=by obtain⟨u,a,b⟩:=c
aJ a b c:=by obtain⟨a,b,q⟩:=c
ds a:=by have d6:=a
dq a b:=.inl ⟨a,b⟩
g4 a b:=show a=ab from b
ro:=bkj _
fp a b:=by obtain rfl:a:=b
hl:=kq R
dK a b:=par a=aa b
kJ:=ac a
kK:=mq aPQ
eC a:=bs bS a
dK a:=a7 a bS
fW a:=by rw[bs (aK a)]
dB a:=Q (.bl a) H
ox a:=fun i j=>a
dk b c:=by rw[aW l b c]
jQ:=e.1<t
jo a:=ff "list" (.seq a)
ia a:=E i gX a
jd:=eb e a0
Ag:=g3 H D
ak a b c d:=by have a:de b c:=fun e a0=>d
akQ:=by rw[dm t' Z]
dd a b c:=by have g9:a=b:=by rw[DO,c];rfl
dt a:=by rintro rfl a k
hQ:=bZ a3L
xh:=by assumption
cA a b:=by exact .cons a b
e7 a:=fun y=>a
pB:=bj cB
iv:=a2h b0
jR:=bkk _
Ah:=.error e
dR a:=du g a
dL a:=cR i a
c8 a b:=R6 a (fE b)
jT:=akn a5
a b c d e f g h i j k l:=a b c d e f g h i (v j k l)
ca a b:=by have a:b:=by simp_all
fX a:=x (J a)
cb a b:=by {have:=a;exact b}
dL a b:=B a (b_ b)
ng:=au 0
hS:=ax bG
hT:=aO c V
hU:=aO Str V
nh:=fh O
cc a b:=dE (tq a) b
f5 a:=bn a fw
em a b:=ey (a<=b) akJ
eo a b:=ey (a<=b) bkl
cE a b:=by rw[bj a,bj b]
dC a:=bV (a::gF 2 i)
ds a b:=d_ a b []
an a b c d:=mz a (sF b c) (fE d)
Ai:=K6 r bX
fv a:=hp a g Z
IP:=gc+oT
hV:=aqC o p
lT:=dj lP r.E
g5 a b:=aUC (zzM a rfl) (i8 b)
e a b c d e f g:=aPT rfl a (i:=b) rfl rfl (aPU rfl rfl rfl rfl) c d e f g
F a b c d e:=by generalize(XN).1=a,aV XN=b,bU XN=c,cE XN=d,a2 (XN)=e
pC:=aa v
kL:=by exact .nil
cF a b c:=by obtain⟨a,b,J⟩:=c
Eb:=aqc st
jW:=by subst c3
rp:=.type "tuple"
w b c d e f:=by obtain⟨a,b,c,d,e⟩:=f
ep b c:=∀a∈b,c
je:=wF vn
kM:=aP x
ic a:=(mr a).cnt
ef a:=fl a e
fq a b:=by rw[<-z,a]at b
xi:=akK 4
jf:=vn n
iw:=aE5 ?_
aV a b c:=by rintro rfl a b c
lU:=ajs B
xj:=zP j
oy a:=a2 (eV a)
f7 a:=x (cV a)
k3 a:=cr (jm a)
iy:=by rw[l q]
I a b c e f:=d ⟨a,b⟩ c e f
f8 a:=mG a=ae
cd a b:=av (av a) b
bi b c d e:=m (.bl b) c d e
cp a b:=by rw[aa a ?_ b]
lV:=e∈gE
iz:=e∈bX
L a b c d:=(i 1 a b c d)
rq:=x (mt bG)
P a b c d e:=bk j a (b->aa c d->e)
iA:=(aS e8.2).2
ni:=dH H R
eL a:=by rw[jC a h]
f9 a:=by show fv _ _ a _ _ _
Oy:=bh (IE 0 Xo)
ea a b c:=[.ref a,b,.ref c]
jg:=mx O
cs a b:=Dp K H a b
dN a b:=aQQ d5 Y a b
iB:=Mp R J F
nj:=by cases this
jp a:=fun d=>a
mC a:=[.int a]
xk:=.ref J
kN:=.ref x
lW:=by subst ex
jq a:=.seq a n
Ec:=.own x
em a:=fm e a
lX:=by simp at h
dt a b:=∀y∈a,b
dZ a:=by delta a at k
ct a b:=cR (an a) b
jX:=Net r
pD:=vn i
cF a b:=by rw[l (cy a b)]
Q b c d e:=by rw[j b c d rfl e]
Oz:=(v,a)
jh:=gP v u
dO a b:=a0 a b rfl
XO:=fK x.1
jY:=by (simp[*];lia)
f_ a:=bn (p.y==a)
tF:=fL h'
rr:=hn aq
oA a:=fun(i:Nat)=>a
Ed:=aDX e 0
bd a c d:=l b o a c d
ji:=aCK a5 B par
jj:=xE9 o p
hq a:=aOQ bS a rfl
g6 a b:=(ai,a)::MA b cF
j_:=eV eE eF z
d a b c d e f g:=aeX (K:=K) (R:=a) b c d e f g ?_ ?_
fw a:=by exact(a)
ka:=bL Env
bo a b c:=(if a then b else c)
dv a b:=(show a from b)
eM a:=by have I:=a
eS a:=by have f:=a
pE:=.ref I
pF:=.ref z
mD a:=.int a u
ru:=by subst z
kO:=aK bG
OA:=bj Hr
g7 a b:=by rcases a with b|m
bp a b c:=(a).set b c
kb:=Run R
ke:=pv 7
kf:=pv 8
nk:=dw v
kg:=aiI r
kh:=Rl I
xl:=bkm "set-order"
a b c d e f g h i j k:=a b c d e f g h i ⟨j,k⟩
cl a b:=by have a:b:=by simp[*]
z a b c d e:=a/\b/\c/\d/\e
de a b c:=by rw[C (aFK a rfl (x:=b) rfl c)]
rx:=ac d
a2 a b c:=by rw[bC a b (ze c)]
k4 a:=ch (! a)
nq:=x∈B
aS a b c d:=show a=b by exact mP c d
xm:=bT e
xn:=by (constructor<;>simp_all)
jt a:=ff "tuple" (.seq a)
xo:=by (simp[*];lia-abstractProof)
ga a:=bn (p.x==a)
l a b c d e f:=by rw[T a b (upd c d e) f]
nr:=dn h' D
tG:=h6 rfl
tH:=h7 kF
mE b:=uW K H a b
K b c d e f:=a b c d _ (ai e f)
e9 a:=R.X e (R.k a)
OB:=(mY r t)
bh b c d e:=i b c _ _ rfl d e
tI:=RY P w
dP a b:=D KI a cu b
ki:=Pt×Pt
hr a:=bkn K xc a
xp:=La E N
io a b:=aii Wj aJ a b
fF a:=d9 _ _ a
kj:=by refine fF (fun c=>?_) (fun c=>?_)
er a b:=.Call (.Name a p) b [] pos
Cu a:=ey ((x==(a:Str))=ai) Vl
aFQ:=(bk ij/\bk ih)
ga a b:=ce (dG (aBh a (MA b cF)) fM=ai)
ip a b:=by obtain⟨a,a8,r,r1,d2⟩:=b
al a b c d:=by generalize(akM).1=a,aV akM=b,bU akM=c,(akM).2.2.2=d
xq:=aa 0
xr:=aa i
eT a:=by rw[aS5]at a
cG a b c:=by obtain⟨b1,a,b⟩:=c
b6 a b c:=by obtain⟨c5,a,b⟩:=c
ad a b c d:=by have a:b=aa c:=d
nu:=.ref t
ny:=.ref d
mI a:=cv (bk a)
ie a:=eI (hm a)
tJ:=by subst d3
fa a:=cg (bF a)
pG:=dd _
hu a:=(a).toArray
eR a b:=(a).getD b
kP:=wq g
f a b c d e f g:=by generalize U a b c=d at e f g
xt:=b_ nd
gb a:=fG a nd
pH:=cx U
pI:=oo bP
m a b c d e f:=by generalize upd a b c=d at e f
lY:=a6h (B+1)
ju a:=by rw[akQ];exact a
br a b c:=x (hn a b c)
c_ a b:=(a&&b)=ab
Ee:=aS z.2
fb a:=(vL a).1
kQ:=(IM).1
lZ:=dg ao
kR:=aV IM
nz:=dE cb
kS:=bU IM
kT:=cE IM
cu a b:=ce (SE X a b)
kU:=bX IM
k6 a:=fun b m=>a
kW:=by rw[vo D]
kX:=ct IM
kY:=gP y u
nB:=dN bS
OC:=([]:mZ)
l_:=by(simp_all;lia)
kZ:=cF j
k_:=eV (IM)
gc a:=f4 (GD L v a)
bi a b c:=fo (yU a b c)
a7 a b c:=by rw[bD a (k2 b) c]
ge a:=kk f v a
la:=fg H h
fd a:=fun l a5=>a
nD:=aO Nat Nat
lg:=M b c3
lh:=xE8 o p
gl a:=d _ _ a
aFR:=us3 (vs rfl)
lj:=aCj R t s c1
bA a b c d:=(f a L bQ b c (Q d L))
xu:=by intro au s M H x y v u Q I R Z h
cp a b c:=by generalize(RW _ _).1=a,aV (RW _ _)=b,(RW _ _).2.2=c
k7 a:=c A B C D a
da a b:=by obtain⟨c,a⟩:=b
nG:=bL d
hv b:=fun a=>b
fe a:=by have a9:=a
db a b:=by rw[a,H5]at b
nJ:=.ref it
ff a:=bj (J a)
tK:=.tup O
bV a b c:=.tup (ea a (.ref b) c)
tL:=by intro z
gM a:=.Name x a
pJ:=dd hi
au a b c d e:={cls:=a,dict:=b,data:= .seq c d,slots:=e}
ac a b c d e:=by rcases bko a b with c|d|e
tM:=bH oV
fr a b:=∃e∈a,b
jv a:=by simp[a]at h
tN:=NO R.d
cr a b c:=KQ (yV a b c)
b7 a b c:=(a).extBut b c
cG a b:=by delta a;exact b
xv:=v i
bj a b c:=d a rfl b c
ma:=by rw[C ?_]
fG a:=by rw[C (bF a)]
mb:=dg Prop
tO:=cf z
mc:=by rw[dN,dH bI]
jw a:=by rw[bJ (x a a0)]
dw a b:=show a=b by simp+arith [*]
pK:=eo St
Ef:=by rw[ep J]
pL:=gP x u
nK:=dN bP
pM:=kD a
md:=kD b
nL:=ey O
gP a:=fun p c2=>a
hw a:=yM r z a
tP:=vh r eL
jx a:=fun b o U e=>a
dx a b:=a[i]'(b)
me:=re bE
is a b:=fh a (b:Str)
bm a b c:=Cg a K H b c
nO:=fun e a0=>?_
eS c d:=j a b c d
mJ a:=fun(p:Pt)=>a
D b c d e g:=f b _ _ (vn c) rfl d e g
V a b c d e:=a->(b/\c)\/(d/\e)
gb a b:=be x a L b
XQ:=ju cN w
go a:=ar ri m a
vt a:=z f7 (f7<m) a
mf:=Cu "__debug__"
ih a:=v pe mU a
Eg:=(pz,rl)
pN:=cn bG bG
IQ:=bG▸bG
rf a:=cy a (bkp _)
Aj:=Gr r z
cN a b:=zzN a rfl b rfl
hy a:=f9 _ _ a
tQ:=aZZ cB cB cB
aFS:=aK "gaps" B (aK "passed" b2 [])
rg a:=b3 au s M H a I h
nU:=by cases C
pO:=by cases S
dc a b:=by rw[dd a]at b
nY:=by rw[this]
dQ a b:=by exact cy a b
pP:=bL aiZ
ry:=bkq hr
fH a:=(a).objs.size
mK a:=fun t=>a
gS a:=fun c=>a
bW a b c:=by obtain⟨m,a,b⟩:=c
ae a b c d:=by have a:vl b c:=d
gT a:=by have b5:=a
rz:=.ref f
jy a:=by refine cg a
nZ:=by refine fN
pQ:=.inl a5
dd a b:=by rcases a with rfl|b
pR:=zj a_
xw:=cg h
pS:=bH Z
n_:=Run iq
oa:=wq h
ob:=aE7 ?_
oc:=aE4 ?_
Eh:=wV d9
xx:=aQu a6
ap a b c d:=v a b (t c d)
k8 a:=a=aa .local
pT:=x (bkr _)
od:=bks=ae
gU a:=L a fM
bX a b c:=ai a b (df c)
tR:=ac l
g8 a b:=d_ a (.int b)
oe:=j<aJ
fI a:=g2 a aFR
bs a b c:=ac (a++b) c
bZ a b c:=by rw[w a b c ?_]
g9 a b:=dE (hH a) b
Ei:=([]:eh)
X a b c d:=(i 2 a b c d)
og:=x (mt Ab)
Ak:=he 12
k9 a:=hf (d6 M H a)
OD:=dj b3
j b c d e f g h:=a _ rfl b c d e f g h
Al:=ind (h=e)
Am:=ind (h=rv e)
ev c e:=by rw[bT c a e]
oB b:=m _ _ _ b
L a b c d e:=cf (aC a b c) (aS d e)
Ej:=W b U
oh:=aCV r t z
tS:=KV F vs
dR a b:=s _ _ a b
jM a b:=Z a (aa b) ae
fY a:=fun D M H=>a
pU:=(cr e8).2
oi:=xE7 o p
fZ a:=dD a l m
aJ a b c d:=aOl (O:=a) b c d ?_ ?_
vu a:=bo (jF a akP)
ar b c e f:=by rw[a b c d e d f]
rA:=yC lA 0 lo
IS:=EP X au M Q
bv a b c:=aSN a b c ?_ ?_ ?_ ?_
rB:=aa e
oD a:=aa (v a+1)
pV:=bL Wt
pW:=bL AK
dy a b:=(eJ a).filter b
ii a:=(a).map vn
gr a:=by have b9:=a
f0 a:=by have a5:=a
oE a:=["self",a]
oF a:=by refine ax a ?_
hz a:=.int a 0
X a b c d e:=by obtain⟨z,a,b,c,d⟩:=e
tT:=by simp[this]
OE:=sS e0
gZ a:=cp (v a)
pX:=.dK F
pY:=.dT []
hA a:=by simp[a]at this
ew a b:=ll a b bE
tU:=aVS _
akR:=ax5 led
gc a b:=by obtain⟨F,a,_,_,_⟩:=b
hB a:=L b=aa a
xy:=v 0
pZ:=(rh).1
jz a:=t a CO
aV a b c d:=U a b (c++[d])
p_:=aV rh
b_ a b c:=B (B a b) c
rC:=ow 2
jA a:=fun x a8=>a
qa:=bU rh
An:=m.2.1
tV:=R.d-1
qb:=cE rh
f1 a:=bs bP a
qc:=bX rh
qd:=ct rh
jC a:=fun o z=>a
qe:=dv rh
qf:=d5 rh
hC a:=Gh r f (cf a)
qg:=dx ae
lb a:=dk (f a)
xA:=H8 b 4 4
f2 a:=fun e a0=>a
ij a:=d9 (gi a)
lc a:=(a==ahw)=ai
qh:=Gl X x
qi:=fp rh
Ao:=c5 8 4
ld a:=upd L t a
ca a b c:=jl a (gG b) (gG c)
aK a b c d:=by rw[dd a (b++[c]) d]
tW:=gP x v
g0 a:=(lx t a p)
ik a:=by have:=gz aC8 a
qj:=k3 rh
xB:=jH r e
qk:=fun x S=>?_
ql:=au I d
dT a b:=sb _ _ a (ax b)
XR:=[e,b9]
eT a b:=R (.ok (.ret a)) b
qm:=cr (eV (rh))
tX:=fun b U=>?_
im a:=by rw[v rfl (Tx a)]
qn:=oy (rh).2
mL a:=fun i M L _ z=>a
it a b:=by intro au s M H a b Q I J h
OF:=b∈a5 a
Ek:=by injection h with h
cN a b c:=p=a\/p=b\/c
eU b c:=bi b H I c
El:=by injection h with h k
qo:=by rcases ifC h with⟨rfl,h⟩|h
qp:=auT w h m
nF a c:=ahq h vs=tA/\c3 h b7 (fun b d4=>Z b (b8 h d4 a) c)
rs a:=by obtain⟨F,g4,h3,h6,f4,f5⟩:=a
io a:=⟨a,h⟩
dB a b:=⟨a,av b⟩
rt a:=⟨a,ag⟩
bx a b c:=by simp[a,b,c]
rD:=by cases g
gt a:=by rw[cz]at a
dZ a b:=by obtain⟨a,q⟩:=b
hD a:=(a).map cp
bH a b c:=by obtain⟨f,a,b⟩:=c
cP a b c:=by obtain⟨O,a,b⟩:=c
gv a:=by have a3:=a
gw a:=by have d1:=a
Ap:=.ref y
ez a b:=(a).all b
hE a:=ht (v a)
rE:=by subst f
rF:=by intro l
he a b:=gC (fH a b)
oH a:={s with toks:=a}
hF a:=qu a r_
tY:=.dT F
gx a:=(cA t).aP a
akS:=(OB).row
rG:=bp kE
xC:=pv 9
rH:=lC b
xD:=b_ a5
gy a:=zzA a rfl
Aq:=aE3 ?_
eV a b:=(a).free b
Ar:=Ob gR
le a:=vy (pq i) a
gd a b:=aFL a rfl b
tZ:=L3 p
rJ:=aY_ cB
xE:=bkt gc
ax b c d e:=a b rfl c d e
dC a b:=by have a:b:=by grind
OG:=cr z.2
g1 a:=aij a ab=ab
cs a b c:=by have a:b=c:=by simp_all
gz a:=a8 a=ae
gA a:=mg a=ae
IT:=L b=ae
M b c d e g:=f b c d ⟨e,g⟩
akT:=fun q=>?_
d3 a b:=by rw[N a b 0]
IU:=Q .bC L
jD a:=fun x y=>a
ge a b:=dl (ac_ a) b
xF:=di aw
ip a:=fun _ _ q=>a
xG:=bd rfl
bA b c d:=by rw[aW b (av c) d]
rK:=eo It
gB a:=by show(a)=_
t_:=by (constructor<;>lia)
jE a:=hf (t M H a)
ua:=dO bE
XS:=H8 b 8 4
rL:=dP h
as b c d e:=m b _ (cx c) d e
d4 a b:=by rw[k1 (ik a b)]
hG a:=ef a lQ
IV:=gH b4
aW a b c d:=by rw[cF a b (oA c d)]
As:=Gq r z row
OH:=mF M H
rM:=(a,b)
aFT:=U_ x=aa c
Au:=rf b8
rN:=rg _
rO:=z<=w
Av:=gz _ bG
ub:=lD-R.d
rP:=aDz (g4 ai p)
uc:=fun p c2=>?_
rQ:=M e b8
jF a:=∃t,u=a
IW:=ar F d g
vw a:=(a5H a).imp ?_
is a:=by generalize a=a8 at a4 b4
aFU:=e8 vs H Q E
akU:=eV ed (bp b) rk
ud:=by delta eV dx dy
rR:=by rw[a4z,OA]
rS:=g i j
rT:=xE6 o p
xH:=a4k _ _
ct a b c:=HV r.w r.h a b c
g2 a:=rcF g ls a
cb a b c:=L a (fun s=>b)=aa c
hI a:=A++(a++B)
jP a b:=.Call (.Name a f6) b [] d
Aw:=L (iU b3) (jH r)
am a b c d:=fv (ju cN w) A a b c d
rV:=aiQ w h m
eA a b:=yu (adw aj8 bkv bku aPD a (dY b))
dD a b:=yu (adw aj8 bkx bkw aPC a (dY b))
OI:=a c2 g d D os
Cv a:=b3 a au s M H _ I h
mM a:=afV w a r a7 e1 t k
Em:=bZ U4
En:=by kernel_rfl
OJ:=by simp+arith [*]
eB a b:=by obtain⟨a,b9⟩:=b
ue:=bL ax
uf:=bL PKV
ug:=[b8]
uh:=[bc]
xI:=by simpa using bG
bJ a b c:=by obtain⟨o,a,b⟩:=c
au a b c d:=by have a:SB b H c:=d
it a:=by have d5:=a
g3 a:=by have e8:=a
ui:=.ref r
b2 a b c:=["self",a,b,c]
Eo:=kv fM
uj:=vM h
bj a b c e:=.inr (d a b c e)
cu a b c:=if a=0 then b else c
d7 a b:=upd a x b
Q a b c d e:=by obtain⟨a,b,rfl,c,d⟩:=e
c a b c d e f g h i:=by obtain⟨a,b,c,d,e,rfl,f,g,h⟩:=i
a0 a b c d:=by obtain⟨a,b,c,d⟩:=h
ix a:=cy a (jr _)
uk:=by simp at this
gl a b:=by obtain⟨a,e,_⟩:=b
cd a b c:=(a).elim b c
xJ:=by rw[<-e]
eW a b:=.Subscript a b pos
um:=bO a0
xK:=wF cp
lN a b:=(a).setIfInBounds b ab
iC a b:=by obtain⟨a,_,rfl⟩:=b
jG a:=lr (HK r a)
hf a b:=(a).idxOf b
uo:=lu R
eC a b:=oB a (hp b)
av a b c d:=by rintro rfl a b c d
uq:=gd a4
ur:=oG p
iC a:=a=aa .free
eI a b:=x (RQ a b)
iD a:=aDI a=ab
xM:=oZ q=ab
ce a b c:=by have a:b=c:=by rfl
bL a b c:=by have a:b=c:=by grind
l a b d e f g h:=c a b d e (f->g->h)
uu:=2^(k+1)
uv:=dg cb
Ax:=ac le
uw:=au ae
Ay:=h2 gA
ux:=i9 bB
rI a:=ff "list" a
uy:=aO tE V
lf a:=bC (aPR a)
hN a:=de bX a
uz:=by rw[aO Hr]
xN:=fh l
hR a:=bH a8 a
uA:=fJ N
Az:=fJ gh
uB:=(v,b)∈bX
uC:=h4 bI
uD:=h4 xh
uE:=dn h' t'
li a:=by cases a<;>rfl
IX:=t<=e.2
iE a b:=L (iU a) (ch b)
uF:=ar F m h
uG:=fa F k
OK:=Pt->cb
bN a b c:=jD (is a b) c
akV:=j i M H
AA:=bs aq bE
uH:=fJ [X]
Ep:=aa l x
xO:=ax gj e
XT:=k4 (b3 l)
uI:=mE O
uJ:=qE b2 B X c7
uK:=Gj r h
fs a b:=ab _ rfl a b
g4 a:=RV o (J a)
Er:=bh (d7 dw)
uL:=zr+64<gD
XU:=io 0 (Dq aJ)
Es:=by rw[fp (u=dm a) R]
oI a:=aBT _ _ (hs a)
i a b c d e f g h:=by have a:N b c d e f:=co g h
iE a:=be (di a b)
hW a:=by rw[a3 e a0 a]
g5 a:=vE a X cnt aP
iF a:=by rw[g7 (Ni a) m]
dJ a b c:=Sj bS gH a (ez b) a6 c .nil fp
ft a b:=ayi a z TI d b TO
bO a b c:=aE1 (p:=fun z:a=>b) y c
uM:=cof r e
uN:=a3K b p
lk a:=Z a A B
g7 b:=om P w H h a b
uO:=(lo+hi)/2
g8 a:=by have⟨u,f,hu⟩:=a
hi a b:=au Af ae a b #[]
uP:=by subst C hw g
aFV:=aC4 i j (aC3 NK l)
ll a:=aQr rfl a5A (dY a)
uQ:=aFQ/\b1 jx/\b1 kB
rX a:=(a).yld i H x L
Et:=Uw w r e1 a7
xP:=aY' cB cB cB cB
rY a:=mw (bT l.1 l.2&&bT l.2 a)
hd a:=ayU C a x b2 B X c7
n a b c d e f:=by generalize(Ox).1=a,aV Ox=b,bU Ox=c,cE Ox=d,bX Ox=e,jm Ox=f
vx b:=∀(a:Addr)(D:Gla.Plan)(b2 X G:Addr),b
jL a:=⟨a,0⟩
iG a:=by rw[a]
eJ a b:=by simp[a,b]
iF a b:=by obtain⟨j,a⟩:=b
fu a b:=by obtain⟨Y,a⟩:=b
hX a:=by rw[a5o a _]
Eu:=fq pw
df a b c:=by obtain⟨a,a9,b⟩:=c
xQ:=kv f
jM a:=by refine aiE a
hY a:=by refine vw a
IY:=.int j
AB:=.inl h
eX a b:=.inr ⟨a,b⟩
xR:=by subst d0
IZ:=CJ e0
AD:=mH akR
Ew:=cV this
xS:=.dK []
AE:=bky nd
cd a b c d:=bkz (name:=G7 a) b c d
jS a:=Kq a this
AF:=bH r.E
eK a b:=(a).Perm b
iI a:=(cA aJ).aP a
go a b:=(a).flatMap b
xT:=yQ r
cS a b c:=ko a (ko b c)
xU:=wY t
xV:=a6i (j+1)
xW:=a56 R
xX:=aDl m
jU a:=a=aa .cell
b3 a b c:=by have a:b:=by exact c
fv a b:=x (fb a b)
AG:=x tx
aC a b c d:=by have a:b=c:=by exact d
R a b c d e:=by have a:b=c:=by rw[J d e]
cg a b c:=d a b rfl c
gr a b:=t (ea a b)
xY:=dE pw
hm a b:=an (jM a b)
xZ:=di bb
I0:=x<cnt
iL a:=by rw[T x a]
vA a:=fun _ _ z=>a
AH:=Q v H
hZ a:=by rw[al (Ni a)]
mN a:=fun i H=>a
jV a:=fun i hi=>a
x_:=by rw[dN,ea bM]
AI:=eo cb
h0 a:=bl (ahr a)
ya:=fh X.N
yb:=ms aBX
aO a b c d:=by have a:b<c:=by exact d
I1:=a∈B
jZ a:=Q (.bool a) s
eL a b:=X a b ["drawing"]
I2:=he 14
akW:=H8 b 12 4
AJ:=(aS e8).2
bk a b c d:=arY (own:=[(a,b),(c,d)]) bI
iM a:=cw b8 a
j0 a:=x (qq a)
dg a b c:=match a with|some e=>b|none=>c
b4 a b c:=(ai a b (df c))
lm a:=by rw[a]at d3 k
S a b c d e:=by {obtain⟨a,b⟩:=c;exact⟨d,e⟩}
AL:=a≠b
yc:=ar F m g
OL:=cZ a8 L
I3:=13+2^k
yd:=d_ 0 xb
iN a:=(ax a p)
ye:=fZ e a0
ln a:=∀v∈B,a
OM:=ch (l.2==v)
ON:=(Ny iT)
oJ a:=F1 (ox (.bl a))
Ex:=Nx r t
OO:=iV ic bkA
Ey:=A Y a
AM:={r with marks:=d8}
Ez:=Xd z 0
hn a b:=(cG a).put b
ch a c d:=by have a:c:=fun b U=>d
oL a:=fun(x:Ln×Nat)=>a
yf:=dI I I
EA:=iM O ar
bl a b c d:=bk j a (aa b c->d)
rZ a:=Ck K a (oq bE) (oq bE)
yg:=t _ _ q
ho a b:=PI X c7 a b
cv a b c:=aY->a->dg b c
yh:=M i A
yi:=bU tx fw
fw a b:=bm q.x p.x*bm a b
yj:=Inv R t s
akX:=Cv pos
eM a b:=afh K H a b
yk:=axP t k
yl:=by rw[rs (W it bK)]
iO a:=adg X au a b
akY:=se a2j mI []
AN:=(·.at_)
mO a:=fun N hN=>a
jS b c:=.inl (f b _ _ c)
ym:=xE5 o p
akZ:=max i j
yn:=Ii h%(cA+1)
XW:=k H eg
AO:=aiH _ _
I4:=BY r v
iP a:=h1 _ _ a
ak0:=yX B par
j4 a:=d5 _ (DV a)
AQ:=US b p
r0 a:=j x c aFT a
yo:=dp p.y p.x
a1 a b c d:=match a with|some i=>aa ⟨b,c⟩|none=>d
yp:=dq ay ay
EB:=CU bx 0 lo
h1 a:=by rw[aO i hi (ib a)]
ak1:=aDV e (Ed+1)
OP:=a+c+x
mP a:=Sm arF a bE lO
ak2:=⟨⟨l⟩,bkB⟩
a2 a b c d:=fv (ju eA X.w) X.A a b c d
j0 a b:=a6j s H d (aB8 d a b cF) a8
j1 a b:=aA0 a b (aqb st) (RM st) Eb .none kV p b3 g e3 ct
fE a b:=by obtain⟨e,a⟩:=b
ci a b c:=by obtain⟨a,b⟩:=a1M c
AR:=bL ao
I5:=bL iY
iQ a:=fun j=>a
XX:=["self"]
cj a b c:=by obtain⟨a,b,d2⟩:=c
lp a:=run a os
iR a:=by have c1:=a
iS a:=by have lt:=a
fI a b:=(a,.ref b)
EC:=.ref D
eZ a b:=by refine av a b
j5 a:=a<1000000
AS:=.inl bG
I6:=by delta sd
ad a b c d e:=by obtain⟨a,n,b,c,d⟩:=e
fJ a b:=by by_cases a:i<b
XY:=Sem cS
I7:=.bool b
iH a b:=.BoolOp a b pos
ED:=vV ?_
mQ a:=cg (cg a)
iT a:=(a).elim
j2 a b:=.Attribute o a b
j6 a:=min a n
EE:=dX ah
iI a b:=by rintro⟨a,b,e⟩
hp a b:=by rintro⟨a,b,h⟩
AU:=aex (Tg _ _)
AV:=qB (Tg _ _)
EF:=aiY eY
AW:=yA Si
iV a:=St a bh
I8:=bkC IP
EG:=a0n cB
e1 a b:=by have a:b:=by grind-abstractProof
I9:=x IQ
I_:=(aD_ j).1
AX:=by rw[l g]
cw a b c:=by rw[l (v a b c)]
OQ:=ac c0
aP b c d e:=by rw[j b c d e ?_]
iW a:=by rw[aj (bj a)]
AY:=mr aJ
iX a:=bs aw a
j7 a:=a7 a aq
j9 a:=Q (vn a) H
i0 a:=by delta a;simp
hq a b:=show a=b by simp
cV a b c:=cS a (ll F2 (gi b) c)
iJ a b:=an a "drawing" b
fK a c:=bH a (b∈c)
i1 a:=by {have:=a;grind-abstractProof}
EH:=f::a7
Ja:=b∉ch
ck a b c:=by rw[M a b c ah]
AZ:=I->cb
A_:=dH L R
e3 a b:=aj gM aq a b
lq a:=fun v d3=>a
O a b c d e:=mw K a b c d (oE e)
fL a b:=jD (mg a) b
Ba:=f++[e]
Bb:=ey (X.K=d) aFM
hr a c:=j b o (be a) c
EI:=jo aDx
Bc:=ia (ig i≠[])
cl a b c:=by rw[ak a bX b c]
i2 a:=g5 a (vr lO)
Bd:=ic aJ
e4 a b:=dB dG H a b
Be:=by(simp[*];lia-abstractProof)
Bf:=by(simp_all;lia-abstractProof)
l0 a b:=mH (ff a (.fields b))
fW a b:=Bz X (.builtin a) b
EJ:=jt aDx
XZ:=k6 (.inl m)
OR:=(Sa K l)
i3 a:=num (qU r) a 2
aFW:=U a8 D []
ak3:=mK (dm t.1)
Bg:=aR L c1
oM b:=f _ _ rfl b
fX a b:=g9 (cP a) b
ce a b c d:=[a,.ref b,.ref c,.ref d]
fc a b:=Dw K H a b
Bh:=M o l
r1 a:=by rw[de c9 a ?_]
oN a:=by rw[a9 rv p a]
Bi:=h8 (mz akU)
Bj:=ep A (TK h A a)
cn b c d:=by rw[K b l _ (ai c d)]
vC a:=bA l xf (aj l a) cC
Jb:=xj= .empty
X0:=akg D z
co a b c:=by rintro rfl h a b c k
fd b c:=rd cN w b c a
ak4:=mw (! aFV)
aFX:=fun y k h=>?_
aR c f g h:=by rw[e l b c f rfl g ay h]
Bk:=by rw[F a D b2 X G]
Bl:=by simp only[hC,oR,Dl]at m
gt a b:=by obtain⟨e,a0,a⟩:=b
i4 a:=fun j b8=>a
Bm:=by intro x S
i5 a:=eV p q a
vE a:=bkD (gz (J (aa (bkE z))) a)
Bn:=by (rw[eD,cH])
Bo:=an Oy gc
EK:=b7 bG bG
X1:=by rw[bV M L]
cx a b c:=E a b Ec x c
Bp:=f9 rj (g6 tD a7)
r2 a:=c3 (ag3 a) h b7
i6 a:=by show(Z a _ _)
n a b c d e f g:=by rcases aNm a with⟨b,c,rfl,d⟩|⟨e,f,rfl,g⟩
Bq:=j x v (fn x=aa v) (mg x=v)
fe a b:=by rw[ac a b q q q]
nH a c:=nF (fun y e4=>I B (b5 (e4 D) B) (eB<hv) a) c
iK a b:=sI C P w r a x b2 B X c7 b t
fY a b:=EP X au M Q a b
Br:=by have f3:hv=16777216:=qJ
EL:=a0 au s M H _ I h
i7 a:=L_ b c P w r a y x b2 B X c7 I
vF a:=a6k (t':=dE) a F g4 h6 f4 f5
vH a:=∀(s:Shared)(H:Hp)(C:Addr)(e9:ja)(a8:bg),a
mS a:=⟨es,a⟩
cy a b c:=by rw[a,b,c]
hs a b:=by simpa[a]using b
EM:=by rw[xn]
kc a:=by rw[jv a]
oQ a:=by rw[this]at a
f0 a b:=by obtain⟨f,a⟩:=b
mT a:=by exact .inl a
EN:=bL cb
EO:=bL gy
di a b c:=by obtain⟨d8,a,b⟩:=c
cz a b c:=by obtain⟨a,b,c⟩:=h
ER:=by {rw[xo]}
OS:=.ref e
ES:=.inr rfl
Jc:=by delta oU
ET:=by delta ahr
Y a b c d e:=by obtain⟨a,b,c,rfl,d⟩:=e
f1 a b:=by rcases S with a|b
f2 a b:=by obtain⟨a,q,_⟩:=b
kd a:=a6g a env
EU:=.bl b
gw a b:=(a+b).toNat
OT:=Vr toV
oS a:=by simpa[a]using this
OU:=wF aDG
EV:=bkF bG
EW:=bH d5
gx a b:=∃w∈a,b
EX:=(cA t).cnt
mU a:=a6l (rt a)
EY:=pv 10
OV:=pv 11
ls a:=eX (b_ a)
EZ:=avi eZ
X2:=cx (dn b3)
lt a:=cx (K:=K) a
E4:=a6d cs
r3 a:=by rw[xg];exact a
gy a b:=x (mP a b)
Jd:=x (wd bG)
Je:=v lo
kk a:=v (t a)
E5:=(Ac).1
cZ a b c:=by have a:b=c:=by grind-abstractProof
gA a b:=L a (ab b)
E6:=t xp
kl a:=by rw[v (ay) a]
a6 a b c d:=ai a b (bo c d)
Jf:=fun x=>?_
E7:=aV Ac
Jg:=a1 bx
E8:=bU Ac
eb a b c:=ab (if a then b else c)
iL a b:=bh a (.tup b)
E9:=cE Ac
f3 a b:=(le 2 a++b)
E_:=bX Ac
X4:=b≠oL
mV a:=Q (.int a) H
km a:=de gE a
Fb:=ct Ac
lv a:=by rw[bJ (aid a)]
Fc:=cu aM
lw a:=fun t m=>a
lx a:=fun o q=>a
Jh:=ms cS
Fd:=Ln->Ln
kn a:=by {have:=a;lia-abstractProof}
f4 a b:=KH X (bkG a) b
ht a b:=bv a (RQ this b)
Fe:=dv Ac
Ff:=by (constructor<;>lia-abstractProof)
f5 a b:=X a b ["data"]
Fh:=ey vs
Fi:=d5 Ac
Fj:=I->d
ko a:=hm (E×F×G×H×a)
c4 a b c:=ec (ec a b) c
hv a b:=aj gM bS a b
Fl:=by rw[dQ bG]
oT a:=by show fv _ _ a _ _ s
oU a:=fun y b6=>a
mY a:=R.X f (R.k a)
Fm:=by subst_vars;rfl
kp a:=upd L d6 a
OW:=HK r on
ks a:=sT+a<gD
kt a:=bD a (fun v a4 P=>?_)
hy a b:=eQ a (fun e f=>b)
ku a:=ds a []
bd a b c d:=an (oo a) b c d
OX:=by rw[N8]at m
m0 a:=fun u hu=>a
ly a:=(aa wM,a)
kw a:=Ai*(a).x
kx a:=ie (E×F×G×H×a)
lA a:=ce df (e1 a)
Fn:=v q.x-p.x
Fo:=v z.x-p.x
X5:=by have d3:=d3
Fp:=aO c cS
c9 a b c:=by {have:=a;rw[am b];exact c}
bm a b c d:=rZ (dZ a b c) (fE d) By
cA b c d:=oB (v b c d)
Fq:=aa V V Hp VK
Ji:=by rw[oF s]
X6:=a6m B p
f7 a b:=by delta a;rw[b];rfl
OY:=oH (dE+1)
ak5:=ajk j v
Fs:=Di r z=ab
Ft:=by rw[bV l b]
Fu:=sj F h m
ky a:=by obtain⟨a3,a9⟩:=a
lB a:=ahH (an (a==v))
Fv:=PA X rj t
OZ:=j b o gY ha
m1 a:=by rw[aj a,cH]
ak6:=fun c4=>U (ar c4)
gB a b:=by obtain⟨j,b8,a⟩:=b
m2 a:=Gb i c a
Jj:=IG D eL
Fw:=a2 (a2 (Ac))
O0:=(zZ o x).2
m3 b:=oH P w b a f n
cE a b c:=om eA X.w a h' b c
Fx:=it ri j h
Jk:=vz t ((q n).j+o)
Jl:=[x,y]
hz a b:=[vn a,vn b]
O1:=by constructor<;>assumption
O2:=BL h e
Fy:=B_ r z
Fz:=vC F k
lD a:=bh k (aC A (sL a))
O3:=cr (d0 a) (d0 b)<0
hA a b:=aBP (.type a) b=eU ae
FA:=UF f cnt aP
kz a:=v [a] [] 0
aFY:=Inv X au g0 L c1
T a b c d e:=au (a).1 (aV b) (au (bU c) (cE d) e)
O4:=(bkH i4)
FC:=aD3 h i
FD:=xE4 o p
kA b:=Rd H a b
FE:=max (aP a) (aP b)
gD a b:=aEZ (aNJ a (aNI b))
oV a:=aWq a5 n a
e3 a b c:=by rw[C (bkI (cd "__next__" a b c))]
lF a:=fun _ H Q=>a
FF:=ce (X.K=K)
FG:=bx z.y z.x
Jm:=yC lA lA hi
kB a:=an ["self"] "self" a
aFZ:=(m::row)
FH:=jp (ar d.1 k)
X7:=mH (ff "dict" (.dict #[]))
m a b c d e f g:=aS a b (cV (aC c d e)) (cV (aS f g))
FI:=Xu r z row
m4 a:=∀(l:Addr)(b:Gla.Bytes),a
O5:=bk p.x/\bk p.y
f8 a b:=jy+(8*aJ+(4*a+b))
Cw a:=j g0 L (N g0 L) a
FJ:=(tn dg p.i Ie).1
FK:=by refine fF pA pA
vO a:=.ListComp t a d pos
oX a:=Tw (vA (a54 sb n)) a
X8:=jl c5 (oD e.1) (gG e.2)
Jn:=a6j c8 d4 d a a8
ae a b c d e:=P y a b y (oD c d e j y=ai)
FL:=aC dq (aK "links" X aFS)
FN:=jy+8*aJ+4*dP+12*i
Cx a:=ly=kx->bkJ a (d_ b1)=eU (MN b1)
iN a b:=fun _ _ _ _ _ _ _ a=>b
kC a:=by rcases a with rfl|rfl|rfl|rfl
O6:=iU (VZ r t z)
oY a:=k7 (c E F G H a)
j3 a b:=dG a (DE (wY e.1) (wY e.2))||dG (L b (bo akP)) (Cn rm)
l1 a b:=LR C H L r b2 X a b
FO:=fun e3 A ez s H vs Q E a6 h=>?_
o0 a:=⟨#[],a⟩
lG a:=⟨?_,a⟩
r4 a:=⟨en 3,a⟩
O7:=bL Obj
Jo:=bL G_
Jp:=by {lia-abstractProof}
O8:=.ref c0
lH a:=by refine N9 a ?_
m6 a:=cv (0<a)
m7 a:=dH (f7 a)
O9:=.inl k
Jq:=by subst b4
ec a b c:=.cons a (.cons b c)
Jr:=.str x
Js:=.type "set"
Z a b c d e:=by obtain⟨O,a,b,c,d⟩:=e
gE a b:=bW (fm a b)
dj a b c:=by have:=a5M a (l₂:=b) c
Jt:=by rw[<-bkK]
O_:=.dK ak0
X9:=.builtin id
Ju:=.ok T
Pa:=dX ag
Jv:=oW (· < ·)
Jw:=iU (HH r z)
m8 a:=(a).head?
vP a:=(NI a).eraseDups
j4 a b:=il (b_ (o:=a) b)
gG a b:=mx a (dd b)
r5 a:=(a).isNone
Jx:=cx b3
Jy:=bkL a5
Jz:=aE9 ?_
m9 a:=bkM a rfl
lJ a:=cG (b_ a)
JA:=agz row
gH a b:=Nat->a->b
c_ a b c:=by have a:b:=by simpa using c
Pb:=xl=ab
hC a b:=by simp[a];exact b
JB:=Gz b p=ae
gM a b:=by {rw[aj a];exact b}
dk a b c:=by {rw[aK a,aK b];exact c}
lK a:=by rw[v ?_ a]
Pc:=be (H b)
Pd:=be (a6n b)
o b c d e f g:=by rw[j b c d e ⟨f,g⟩]
JC:=h2 cE
r6 a:=Q (vn a) L
Pe:=Q bc L
JD:=Q (.ref F) L
JE:=e8.2.1
Pf:=as ?_
JF:=bh ak1
j5 a b:=ae (yC n a b)
na a:=by intro au s M H Q I a
gN a b:=by rw[Z (bW a) b]
JG:=by rw[vo R]
JH:=ms Nat
JI:=(v,x)
Pg:=jk Aj
Ph:=jl rfl
X_:=Q ai s
Pj:=he 16
JJ:=(u,v)
JK:=Oz∈bX
JL:=by rw[cv q mV]
JM:=I->aT
da d e f:=by rw[ai d (cx e) dr f]
lL b:=cw (.tup b)
Pk:=da xm
nb a:=uW K H p a
e4 a b c:=by {rw[fW a];exact⟨b,c⟩}
nc a:=by have:=a;rw[gf]
JN:=c5 4 4
ef a b c:=X a b ["drawing",c]
JO:=vs cE
JP:=hW k A
gO c d:=eQ c (fs d)
JQ:=ad l o
l1 a:=g5 a (sA gW)
bn a b c d:=PS X (.Assign a b c) d
Pl:=t M H Q
l2 a:=by {rw[a];simp}
gQ a b:=by rw[aj a4 a (b_ b)]
JR:=by rw[ip x P]
JS:=by rw[ip vs P]
iO a b:=by rw[jy ⟨a6o a _,b⟩]
l3 a:=∀(l:cI),a
Pm:=aS n i
JT:=dj g Z
Pn:=by (split<;>simp_all)
JU:=ga pos a7
gR a b:=(.inl a,.int b)
Po:=a1 a b
Ya:=dK c 0
nd a:=dX (by rw[cz,a];rfl)
hF a b:=hr a=aa (ac b)
l5 a:=be a Hp VK
hG a b:=Ck K a Sl (oq b)
JV:=mM bh
JW:=fn n i
db a b c:=x (uR a b c fw)
JX:=rI (jq eT)
JY:=sT+1<gD
ak7:=W i m M H
JZ:=by rw[VP,Nj]
iP a b:=by obtain⟨ar,rv,a,_⟩:=b
gS a b:=e3 (x∈a↔x∈b)
Yb:=mM F k v
aF0:=k a b=ab
Yc:=k b u q
J0:=GK K h A
r7 a:=r0 (c≠a)
ak8:=aDQ (gF 4)
l6 a:=sG a v K
J1:=fun d nd=>?_
o1 a:=Z a (i e) 0
ak9:=df lS 1
J2:=dJ Ln Nat
l7 a:=vC (bV a)
Pp:=iE XT Eg
l8 a:=ahW R J a R.n w
J3:=by rw[cG q2 f6 h.s]
l9 a:=by have d9:=wV a
dK a b c:=av (vE (UT a b c))
bo a b c d:=by generalize a=b7 at b5 b c d
Yd:=Ur t p
ak_:=vF D W
nl a:=by have e:b=a:=by simp_all
Ye:=K a7 p e
J4:=fun _ _ _ _=>rfl
aa a b c d e:=by rw[a0 (jl a b ae) c (agc d e)]
nm b:=a1 hY/\lc a/\b
Pq:=as gI rfl rfl
J5:=ahf j d aO f R
J6:=aO tE (ef×cS)
gU a b:=by rw[z h8 (uS a) b CO]
hI a b:=cc Ae w l a=cc Ae w l b
J7:=XS+akW
J8:=iM b c7
Pr:=.dict a7 e1
aF6:=by obtain⟨rfl,_⟩:=b0
J9:=Loc ahp x
ak':=ju eA X.w
Pu:=bkN i H
J_:=den r e
mi a:=HH r z a
Yf:=bkO i m
o2 a:=ko (Cd r a) (yR r)
mj a:=at_ a i h
iQ a b:=a4D d0 hd a b
ml a:=Z a _ _
mo a:=fv (ju eA X.w) A a Q E s
Ka:=fF (fun c=>?_) (fun c=>?_)
iR d e:=by rw[y x dx d gG e]
Kb:=eV p q z
Kc:=bp ae ae
gV a b:=X a b ["data","place"]
bC a b c d:=em (l+(a+b)) (J+(c+d))
bD a b c d:=eo (l+(a+b)) (J+(c+d))
Ke:=ch aJ (oA (bT (t (ig i)) 2))
Kf:=ch aJ (oA (!(am XU i ai)))
Kg:=a6p X.K fd c5 c7
iS b c:=i a _ dx _ b dR c
dc d f g:=vx (e [bc] Ag d f g)
Kh:=ey (aBb x=ab\/k8 (MI x)) ahD
a65:=nH (w (U e4 D (eA B))) (w d4)
Ki:=a2G T X E
Pw:=afF nx k6 l0
Px:=V u vs (Cj A u)
a66:=fun e c1=>R Ah c1
dL a c d:=b a b7 Y c q2 e0 d
Py:=[x,y,g,q]
vQ a:=Cut r a z A B
Kj:=by rcases H with H|H
nI a b:=ahg (bD a (fun b1 a4 P=>?_)) c0 b
gZ a b:=aWQ cA k c0 a b
Kk:=TI t k a7
Kl:=a5R r z row
nn a:=fv (ju eA X.w) X.A a Q E s
em a b d:=∃W:aa Nat Nat a Hp,(∃m,b)/\∀i m M H,d
o3 a:=fun i h h' st k=>a
mp a:=by intro x a nx k6 l0
a67:=E L (w L) (vt (W (i+1) f7 L))
g1 a b:=by rw[i b7 a b d4 c8 e7]
CA a:=∃W:dJ Nat Hp,(∃m,W 0 m aFW)/\∀i m H,a
Pz:=by obtain⟨u,b,e,k⟩:=a0z h
ala:=Cw (vt (W (i+1) f7 g0 L))
j6 a b:=by show KC a b _ _ _
cf a b c d:=[.int a,.int b,.int c,.int d]
PB:=bkP i H x L
bE a b c d:=fun(l:Pt×Pt)=>(min a b,max c d)
av a b c d e:=aOY a (bN b a_) (ahb ay) rfl c d .nil fp e
o4 a:=U au a4 M a8 a r d2
Km:=va eA X.w X.K mG sP T k f fd c5 e8
Kn:=@aE2 _ _ _ _ ?_
bZ a b c d:=PoI a P w b d0 x X c7 I W c k d
Ko:=@aE8 _ _ _ _ _ _ _ _ _ _ ?_
hR a b:=∀(kV p b3:Value)(g:nf)(e3 ct:Value)(b1:aM),Cx (j1 a b)
no a:=⟨o,a⟩
iT a b:=⟨f5 a,b⟩
PD:=bZ aFJ
PF:=bZ bT
PH:=bZ aDo
PJ:=by rw[cH]
j7 a b:=by obtain⟨w,a⟩:=b
o6 a:=by exact .inr a
np a:=(vq (vq a))
PL:=(Sb lo n)
dl a b c:=("Sweep",a,b,c)
dm a b c:=("Record",a,b,c)
PM:=fq cb
PN:=fq Nat
PQ:=fq iY
dn a b c:=by obtain⟨v,a,b⟩:=c
PR:=by split at e
Yg:=.ref k
Yh:=.ref lst
ns a:=cv (b1 a)
o7 a:=.inr (.inr a)
hY a b:=.cons a (hp b)
PU:=bj a9
PV:=aBA vn
PX:=ft d0
r8 a:=by obtain⟨_,e⟩:=a
dp a b c:=by rcases a with b|⟨a3,c⟩
PY:=by simp at S
hZ a b:=by obtain⟨a,q2,_⟩:=b
nt a:=by simp only[a]at h
Yi:=bF ?_
nw a:=aqj (aC a)
PZ:=by simp only at s
nA a:=min a e.2
P0:=R.k kE
P1:=R.k g_
o8 a:=ind (h∈a)
P2:=aFy jJ
o9 a:=pf (ih a)
nC a:=yT (jz a)
P4:=aiY ak3
P5:=aE6 ?_
P6:=bV zY
P7:=by dsimp only[ada]
Yj:=.live i
P8:=bkQ vn
P9:=aFh vn
P_:=a6i (i+1)
Qa:=a55 wM
j a b c d e f g h:=by obtain⟨a,b,c,d,e,f⟩:=g;exact h
h0 a b:=by have:=a;exact b
nE a:=x (aNd a)
Qb:=x (dH rfl)
aF7:=cr (a2 z)
nF a:=by rw[fx];exact a
dq a b c:=by {rw[a,b];exact c}
Qc:=by rw[C fN]
Qd:=HI r z=ai
Yk:=fun m=>?_
Qe:=dE a2n
Qf:=dE bkR
Qg:=i9 bz
bp a b c d:=b5 (upd a x b c) d
Qh:=bn (oZ z)
Qi:=ae m_
Qj:=ai ah
h1 a b:=de (bH a) b
h5 a b:=ae (mem a) b
nH a:=by {have:=a;simp_all}
Qk:=ev (par c)
Yl:=e.1<e.2
nI a:=f4 (l1 a v)
nM a:=by rw[a];simp
nN a:=E i (i<n) a
ds a b c:=Y a ["self",b] c
Ym:=eb e m.1
j9 a b:=ec a (a7 b kH)
Ql:=i<=n
Qm:=g3 H r
nP a:=fun p q=>a
nQ a:=bW 138 a
alb:=0<=w x
Yn:=aDX x 0
Qn:=by rw[Ef];rfl
Qo:=hW k X.A
Qp:=re rr
Qq:=ey (X.w=w) aFM
br a b c d:=by have a:b:=by rw[<-c];exact d
Qr:=eC aq
Yo:=gP y v
Qs:=d_ 0 (.int D.w)
Qt:=aC dq aFS
Qu:=ad a o
Yp:=by intros;simp_all
Qv:=t<R.n
r9 a:=ax (ne a) e
Yq:=cw b8 q
Qw:=i<=bx
Qx:=ch (l.1==v)
alc:=(bp h.1).y
ald:=(bp h.2).y
Qy:=(Sa K a)
Qz:=p.x<=r.w
QA:=z.x<=r.w
iU a b:=vR a=aa (.builtin b)
QB:=U b7 D []
QC:=hy hd
r_ a:=fun J c1=>a
QD:=J.1*J.1
QE:=aa V af Hp VK
QF:=by have p:=p
nR a:=(.inl a,xb)
du b c d:=by rw[j b c ?_ ?_ d]
ale:=dN H _
QG:=y≠x
cg a b c d:=by have a:b=c:=by have:=d;rw[gf]
QH:=Y (fm q d1) q
alf:=bm q.y p.y
Yr:=(a6q (c[·]?))
QI:=(a6q (a7[·]?))
QJ:=W5 i t
QK:=vl H L
QL:=au Nat iL
QM:=PA X [e] d6
QN:=by rw[d2]at p k
aF8:=zS bh F b
ab a b c d e:=by rw[M a b c (by rw[gc q d,fq e q,kG])]
QO:=jC 2 64 jz
h8 a b:=by have a3:a:=CB b
QP:=(Cz a3).1
QQ:=ch n p
dw a b c:=I dx a b c ake
Ys:=V b a8 IT
alg:=oL (mz XO)
QR:=by have i9:=eN
QS:=lH<=8192
QT:=h b U
pa a:=Hi a bh h'
QU:=sV a6r ns
nS a:=cR (SO R a) gE
QV:=HP p l
h9 a b:=num (Gu r++B) a b
nT a:=K O a x
QW:=aa g xr
dx a b c:=by have a:b:=fun i hi=>c
QX:=dI Nat Ln
QY:=aC hI (sL .bC)
nV a:=by rw[f9 (bkS a 2>>=_)]
nW a:=(hJ).is a K b
iW a b:=ap (vA dg k a) m b
nX a:=(yq (fn p.1),a)
QZ:=k b o b0 e
alh:=by rw[a5z]at c9
n0 c:=by obtain⟨a,b⟩:=c
h_ a b:=by obtain⟨p,c2,a⟩:=b
n1 a:=by have b6:=b6 _ a
Q0:=y::d7
ali:=.ys o u
Q1:=mH (jo #[])
bF a b d e:=c aY a b d (dg e IS)
sa a:=ac sb b U a
n2 a:=by rw[iF b8 (aFi a)]
Q2:=by rw[b6 a3 e9 h.p]
bH a b c d:=bk i a (b->(i<t c↔d))
n3 a:=H0 r x=a
pb a:=fv d5 A a Q E s
Yt:=BA J d6 c3
n4 b:=a (.int b) H ro ei q
ia a c:=ayl a e it c d b u
ib a b:=by obtain⟨y,b6,a⟩:=b
Q3:=df<=4096
Q4:=cv (XO=0)
Yu:=fun l a5=>?_
Q5:=fun y b6=>?_
iX b c:=v=bc/\b/\c
n5 a:=a7 a (rZ aq)
Q6:=(v r.w+1)
vT a:=fun O H Q=>a
Q7:=b7 et fj
n6 b:=by rw[dk (.inl b) ?_]
Q8:=i_%t (Z++d)
alj:=K f x l
pc a:=M (er x rj) a
dy a b c:=∀{l:cI},a->b=c
Q9:=iE N c J
Yv:=fW K a8 a O
n7 b:=by have⟨a,d0,b3⟩:=b
vU a:=Hl XQ A a R s
ic a b:=i3 _ _ a (i0 _ _ b)
Q_:=by rw[bE d2 e9 h.c]
sb a:=fun b o _ _ b0 e _=>a
n8 a:=∀b1:aM,ly=a->P b1
kc b c:=f (b-i_) (bn (aR Z) c) Z u
Ra:=vO [d c7 Hk G 0]
alk:=(aB2 eY)
sc a:=.list (L a dT)
Rb:=a2T h i
Yw:=c e<c f
Rc:=RW o p
id a b:=Bu eA X.w a b
n9 a:=d6 _ _ a
of a:=b8 M H a
Rf:=256^w
kd a b:=by obtain⟨t,a,f6,_⟩:=b
Rg:=sV aBs d8
Yx:=by delta dst aDj
Rh:=by rw[ak,<-qD]
Yy:=Vu a (N7 c W)
bs a b c d:=by rcases bkT a 0 with b|c|d
Ri:=fb bG bG
Rj:=oU Oz (v,b)
Rk:=eb l a5
Rm:=(aFZ).zip row
oj a:=aCR _ (yG a)
Rn:=.lead row m
ol a:=(a).seq a5
bJ a b c d:=by rintro M a⟨⟨b,rfl⟩,c,d⟩
Ro:=a5L r t
pd a:=v [] a .nil
Rp:=x (bkU _ _)
Rq:=fun j b8=>?_
dB a b c:=L a (dJ ⟨b,c⟩)
i0 a b:=by {rintro M L⟨_,a,_⟩;exact b}
Yz:=bkV j b=ai
alm:=k b a=ai
sd a:=fun _ _ _ _ s e0=>a
Rr:=d_ D.h xb
dN a b c:=.Call (j2 a i) b [] c
i1 a b:=eV (bp a) (bp b) z
Rt:=be j J
vY a:=cz (bkW++au) a
om a:=by rw[bF rfl U a]
Ru:=ey (eA=g) aFM
Rv:=ch aJ (Wi Wj aJ)
aln:=(lx t n q)
i2 a b:=E c1 a (Q b c1)
bt b c d e:=K b c d (cc e) ?_
kk a c:=ac c0 b (he hc a) c
Rw:=g8 D.h D.w
ie a b:=a=z.y/\z.x<b
Rx:=Ct th pd D i e
Ry:=Ct OC Ei D i e
YA:=KT H F O
Rz:=df Oy (IP+1)
YB:=[c5,h',ij,ih,jx,kB]
ig a b:=fv (ju cN w) A a b E s
ih d e:=by rw[y x W d gG e]
pe a:=(by simp at a;omega)
a68:={nx:=fun _ L=>IU,rt:=Q}
l2 a c:=aEv (T:="StopIteration") (b:=ab) a bkX c
RA:=f9 [e] [(ai,tD)]
pg a:=fun i h st b U=>a
ii b c:=by rw[ak e q b];exact v a e c
vZ a:=["width","height","points",a,"marks"]
ep a c d:=vj b N n f a c d
RC:=vu w h b2 X G
op a:=G3 u CR A a k o N
or c:=sX aP a b c
ph a:=aQN Y nd W a
alo:=Du r i l
ij a b:=aqT (i:=a) bkY rfl (a6s rfl) b
os a:=aOg rfl a6t (dY a)
RD:=.set a7 e1 t
ot a:=rd a TI (.ref c2) (.ref N)
il a b:=UD par B a b w
bv a b c d:=by have a:E j b c:=fun j b8=>d
alp:=dj 0 (yM r (bp t) iZ)
alq:=a+c+x+z
l3 a b:=by rw[ak a (d b bI cT b1)]
ou a:=aFC bJ dJ L J a g ls
ov b:=by cases x;exact v [] b (fun a m=>cy m jI)
RE:=by rw[cp l b p]
YC:=by rw[bk0,bkZ];kernel_rfl
i3 a b:=bj a (j (i+1)) b (fun x L y=>?_)
pi a:=∃g0 L,aFY/\a
CC a:=(a).foldl (aFf r v) []
kl a b:=by simp only[MS,ia]at E;rw[a];exact bt b
RF:=tj (mJ (bi p.x r.w&&bi p.y r.h)) ic de
pj a:=fun a7 a8 a4 n1 b4=>a
RG:=by rw[al J R g ls]
alr:=∀vs H Q E,aFU->iO=kx
im a b:=h au s M H a b hw
a69:=#[eZ lo,mD hi,.int 1 v]
ax a b c d e:=by obtain⟨a,e7,f5,rfl,b,c,d⟩:=id e
RH:=bk1 XQ A env a66
YD:=by rcases O y k h with⟨rfl,rfl⟩|⟨_,h⟩
RI:=tj (rY aJ) kA bX
als:=LZ F k b v
pk a:=by rintro i M L hi⟨_,a,_⟩
aF9:=hi au s M H _ I h
bx a b c d:=ge (aq_ yx yx (gi a) b (gi c)) d
YE:=d0 au s M H _ I h
a6_:=d0 au a4 M a8 _ r d2
RJ:=aso _ _ _ _ q
CD a:=∀(l:Addr)(b:Gla.Bytes)(p:Nat),a
alu:=fun b o e n U S=>?_
dC a b c:=kc bk2 awU a6 ay rfl (u_ a (u_ b (u_ c Si)))
se a:=F4 (aYE (K:=K) (w:=w) rfl rfl rfl) bI bk3 aS9 (dY a)
dE a d f:=∀(J:Addr)(R:GM.bT)(g ls:Addr),e [xk] ni a d f
RK:=by rw[jc,bu,fi,bu,fi,bu,fi,bu,fi,bD XW]
dH a c d:=by rintro i a c L h4 N d s⟨b,rfl,U⟩b6 d1
YF:=by cases z
km a b:=by obtain⟨g,a⟩:=b
i4 a b:=by obtain⟨a,h⟩:=b
i5 a b:=by exact⟨a,b⟩
dO a b c:=by obtain⟨B,a,b⟩:=c
eq a b c:=by obtain⟨a,d0,b⟩:=c
YG:=by split at h'
YI:=by rename_i c3
YJ:=.ref b2
YK:=.ref xa
YL:=e8.1.2
YM:=Mr "list"
pl a:=by refine aBp c2 a
YN:=.int d
pm a:=a<=1048575
YO:=.inl e
YQ:=by delta ind
alv:=.tup d7
YR:=.own a
i6 a b:=by rcases a with e|b
kn a b:=by obtain⟨a,d2,_⟩:=b
po a:=tC (.int a)
YS:=.bl ab
pp a:=by simp only[a]at this
pr a:=cg (dl a)
sh a:=ag6 (t':=ahA) a
ps a:=by rw[<-a]at e
i7 a b:=by simp only[a,b,mJ]
i8 a b:=(eJ a).filterMap b
i9 a b:=show a by exact b
YT:=by simp only[bk4]
alw:=bH r.A
alx:=bH r.B
pt a:=o_ (x a)
YU:=iU (HZ k)
pu a:=(a).toList
si a:=bO (i:=i) a
v0 a:=(a).length_le
YV:=aC' R.d
jk a b:=eX (ac [a] b)
px a:=(aV (TN a rfl)).c
dP a b c:=by generalize a[i]=b at c
py a:=Cp (fun o=>a)
kq a b:=ax1 a (fun o d0=>b)
YW:=a6u l.2
YX:=a6u l.1
YY:=aFt row
YZ:=(lE e).2
jl a b:=x (aqf a b fw)
Y0:=V2 r=ab
p0 a:=a0R K a=ab
p1 a:=a2' a ab=ab
p2 a:=by cases x;exact a
Y1:=(cQ).1
p3 a:=(x a a0).1
Y2:=(wm e).1
jm a b:=by rw[l ⟨a,b⟩]
p4 a:=pb r a=ae
Y3:=t (a5 x)
aly:=be (L b)
Y4:=be (H a)
Y5:=fun e=>?_
v1 a:=bh (Xi cnt a)
Y6:=(r.w+1)
v2 a:=(gD (a<1000))
sj a:=by delta a;simp[*]
b0 a b c d:=by delta a;rw[b,c,d]
p5 a:=by rw[cz,a];rfl
Y7:=eo Nat
dQ a b c:=by have a:b<c:=by simp_all
bL a b c d:=by have a:b<=c:=by exact d
bN a b c d:=by have a:b=c:=by rw[d];rfl
dR a b c:=by have a:b=c:=by subst_vars;rfl
sl a:=fun b u e=>a
Y8:=Q ab s
Y9:=b∉ex
Y_:=x (mt (mt Ab))
p6 a:=fun y b7=>a
alz:=tf lJ jt
alA:=Pt×Nat
alB:=x (aMl b1)
Za:=eb (mI n)
sn a:=fun y a8=>a
Zb:=bh (IE 0 bk5)
Zc:=aC C []
bO b c d e:=m b _ _ (v c d e)
Zd:=fv (Wp i w)
p7 a:=(ax a4 a)
p8 a:=(aa a,[0])
Ze:=f_ r.h
alC:=Gq r z iZ
a6':=x≠"__name__"
Zf:=Ai*z.x
Zg:=by split<;>simp
p9 a:=F1 (ox (.int a))
Zh:=Nx r v
qr a:=num (qU r) a 4
Zi:=A l a
ai a b c d e:=rZ (dZ a b c) (c8 d e) By
Zj:=by rw[e]at d3
qs a:=by rw[a,ahY]at k
qt a:=∀(l:ba),a
qu a:=fun b u q=>a
qv a:=k9 (jA a)
Zk:=ga pos []
Zl:=a6m k p
aF_:=x<(Ad).cnt
aF':=i∈cN (Xv k)
Zm:=jC 2 64 ff
sp a:=fun z c9=>a
Zn:=yz K C
alD:=sd Ae h
Zo:=tc J d
Zp:=fun t h7=>?_
Zq:=d8++[b8]
Zr:=lN i++[b8]
Zs:=jn (vu OC)
Zu:=jn (vu (th))
Zv:=.ins dq W (qE R B X c7)
Zw:=by rw[it O b1]
Zx:=by rw[it vs b1]
Zy:=by have E:=eB
qx b:=upd d4 a b
bT a b c d:=by obtain⟨a,b⟩:∃c:Int,d:=ei
alE:=qM j i
Zz:=DU 0 c
alF:=t (jn OM)
ZA:=by (intros;simp_all)
qy a:=E v (v<R.n) a
bU a b c d:=iJ ["drawing",a,b,c] d
ZC:=PT X a g
ZD:=by rw[oN OE]
ZE:=j b u (ev (Hh b)) (ev (gQ b))
ZF:=RN K C m
ZG:=c3 _ _ q
ZH:=by exact MO x
aGa:=ag2 a7 cF
ZI:=(cA gg).row
ZJ:=a6v BV a
alG:=2*dP+1
qA a:=(eG).below a=ab
qD a:=B (oI U) a
ZK:=fW K H p O
ZL:=bj e d3
ZM:=by rw[b1 p.1 k]
ZN:=lN (Dq aJ) i
alH:=vx H l Y (d7 a5)
alI:=zo (sW+1) mI akY
alJ:=⟨q,e0⟩
ZO:=by have h:=D_ h
ZP:=f∈gE
ZQ:=h e a0
alK:=aDm i H
ZR:=WD x T
ZS:=a2 (jm cQ)
ZT:=cP x y
ZU:=lU++[u]
ZV:=ad dx (.own k)
qE a:=fun M H R=>d6 M H a
ZW:=b7 l.1 l.2
r a b c d e f:=by rw[M a b c (by rw[b2 d e];cases f)]
aj a b c d e:=by rw[ca (ai a b (bX c d e))]
dT a b c:=mw K dJ a b c XX
qH a:=fun m M L=>a
ZX:=eU _ ?_
qI a:=by rw[cs d3 a 0]
a7a:=ch (l.2==e.2)
ZY:=by rw[bl hu m (bk6 S)]
alL:=hn (tr H) bK
bV a b c d:=aJ a b c (mL (av (z.2 _ _ d)))
jo a c:=bD a (fun v a4 e0=>b x a8 r r1 d2 e0 c)
ZZ:=ef->bZ af
ak a b c d e:=by have a:ap b c d:=by rw[cz,wH e];rfl
v3 a:=(Ho (·.push a))
Z1:=aEa cN w K
qJ a:=by have⟨lk,e,d⟩:=a
qL b:=fun a m O e=>b
Z2:=vQ (VH t)
jp a b:=K0 K x a st f b
qN a:=fun _ _ _ H _ I h=>a
alM:=[e7]++ws
dX a b c:=by cases a with|true=>{exact b}|false=>exact c
qQ a:=vW (fH a c0)
sq b:=a.2.getD b ab
Z3:=.mark i m
qR c:=my (hv (my (h8 c)))
qS a:=v lk a d
aGb:=fun w hw=>?_
qX a:=(Z a (i e) 0)
sr a:=BC O a=aa v
Z4:=by rw[b1 j i]
Z5:=by rw[tL];cases z
Z6:=by rw[ec (axj q)]
Z7:=U b7 X hb
Z8:=zw Y t ej
kr a b:=by cases a with|error e=>{rfl}|ok b=>rfl
jq a b:=dg a Ah (.ok b)
Z9:=BU a5 B par Z
Z_:=Itc lo c n
aaa:=sv H b8 m
aab:=cS->cS->XY
ss a:=Ck K bP (oq a) Sl
aac:=by have Z:lB pF "zip":=bm c9
qY a:=aia a5 B par c a
aad:=CC (Xm i)
l4 a b:=fun x G=>by rw[bJ (HM G)];refine Lf Z a b ?_;simp_all
aae:=PK->jK
aaf:=Ao+c5 12 4
aag:=((ON).st aJ)
v4 a:=by rcases a with k|k
alN:=a09 CG mg
aah:=by intro e a0
qZ a:=.Subscript o i a
aai:=Itt K a
aaj:=yz X.K C
alO:=oP _ _
aak:=min a b
aal:=min (aP a) (aP b)
aam:=h6 b U
jt a b:=by simp only[bH,da,a]at b
alP:=by apply bk7 aQ
q0 a:=(Ny bk8).lb a
aan:=DE l.1 l.2
dY a b c:=aP' xx a b c rfl
d3 a b c:=aNX a (aNW b c a6w)
aao:=UP x I
alQ:=Xy D eL
aap:=aZt cB cB
aaq:=bk9 B u
aar:=a5Z r B
alR:=aZ5 b p
alS:=a51 b p
q1 a:=wt p q a=ab
aas:=aO TE TE
aat:=f++[cnt]
aau:=M c i
aGc:=ff "dict" (.dict #[])
er a b c:=dE ((ay7 a).go (cP b)) c
q3 a:=by show eR a _=_
aav:=m_+1+fh
alT:=dO (a7 aw2 aw)
alU:=bk B (x<n)
aaw:=dp p.1 p.2
aax:=bV (0::gF 1 ff)
aay:=fr (.tup (bk_ kV))
aaz:=c7 d j
q4 a:=by rw[bF h2 e2 a]
alV:=ia (2<=t (ig i))
aaA:=by injection h with a3 a9
alW:=(ab,a0K q3 l3)
alX:=CU bx bx hi
v5 a:=fr a (e.2=dm b)
q5 a:=by rw[bZ _ a rfl]
alY:=Xu r (bp t) akS
su a:=dX (by rw[cz,cz,wH a];rfl)
v6 a:=mT aDi aDh a=ai
jw a b:=by rw[aW l a5 a b]
aaB:=a6p K fd c5 []
aGd:=mJ (bi p.x D.w&&bi p.y D.h)
aaC:=.ins dq W (qE R b3 X c7)
aaD:=ho Hk wi
aaE:=a6x c5 h' m
aaF:=pb r x=aa T
d4 a b c:=by rw[e a L d6 b d6 c]
aaG:=l0 "range" a69
v7 a:=fun g h=>b3 g a
aGe:=(yO _ _)
aaH:=iE r.N ec lT
aaI:=le e.1++[e.2]
q6 a:=aJ (by rw[iC j (Nb S)];exact a)
aaJ:=tj (Wz r) mS dQ
alZ:=.Compare a [j] [b] pos
ev b c d:=a b c a _ dx _ _ rfl d
v8 a:=fun e a0 lt=>a
aaK:=[x,X,c7]
aaL:=mn R e f
aaM:=d_ (cd t) y
CE d:=by rw[bn a OD (u rfl (dq b4) a _ d)]
sv a:=fun x y H Q=>a
aaN:=oJ (bi i j)
aaO:=fun v a8 a4 d5=>k v a8 a4 d5
al0:=ai0 P h vs c7
sw d:=by rw[ai b c dh (bh rfl b c d)]
aaP:=fun h' f7=>bd (vF (jx (f7 b o U e)))
aaQ:=a5v z TI TO c2 N a7 d5
aaR:=bk' K=aM8
aaS:=[a,b,c]
al a b c d e:=by refine auz F.w F.h a b c d e
bW b c d e:=cg (a _ rfl b _ c d e)
CF b:=bla (.builtin "type.__call__" ⟨b,a⟩)
aaT:=jl O lo hi
al1:=nx k%aEo
d5 a b c:=aUE (aV (TN a rfl)) (zzJ b rfl) (i8 c)
al2:=neK (K:=K) rfl wj
e7 a b c:=aQm rfl a6t (yV a b c)
aGf:=lV/\jQ/\IX
sx a:=bN a (ay:_<=5)
nM a b:=by rw[bE q p h];exact v vs a b
v9 a:=N a aFQ (b1 jx) (b1 kB)
aaU:=fun g0 j1 z=>z
ew a b c:=V e a (z j b (e.2= .ref c))
aaV:=(tn cA i f).1
v_ a:=[a,.ref d8,.ref j,pE]
aaW:=[x,X,c7,I]
aaX:=aC dq (aK "passed" b2 [])
wa c:=fun b o a f e=>c
aaY:=by rw[df ls f6 h.l]
jx a b:=Un G ex H a h b
aGg:=fun _ _ _ a b=>vf a b
q7 a:=by obtain⟨b1,b4,b9,e7⟩:=a
aaZ:=by rw[aF6];exact cy ay b2
q8 a:=cf 71 76 65 a
jy a b:=(a==b&&a1L== .function&&vN n==aa .cell)
aa0:=by rw[bn a b3 ⟨(bB),fun d nd=>?_⟩]
jz a b:=∀{Z:Row}{g:Nat},a->b
jA a b:=ahC P w K c7 a [it] it (fun i h=>b)
ex a b c:=atE (r:=r) (Ll Z) hi c0 ne (P:=a) b c
wb a:=∀(w:World)(os:OsState),a
bX a b c d:=by refine aVW (i:=a) (lo:=b) (hi:=c) (n:=d) rfl akT akT
q9 a:=by rcases a with c9|⟨d,fl,c9⟩
aGh:=Y b o a e
a7b:=∀x,blb Hk cF x=eU x
a7c:=hi au a4 M a8 _ r d2
l5 d e:=by rw[c J dx hd tQ J d e]
ra a:=fun au s M H Q I h=>a
al3:=a 0 0 [] [] []
rb a:=by rw[e4 q (ay) (fin 2 a H eg k)]
jB a b:=blc (FX I d8 c4 a (nI akX b))
rc c:=by rintro a b⟨b3,U,ne⟩c
e8 a b c:=hW k (aha a)->aFU->z t (qt b c t) (t a68 (MQ N vs) H)
am a b c d e:=va P w K mg aj sh a b c d e
rd a:={mask:=a,place:= #[],dummies:= #[],finger:=0,led:=ab,moves:=0,plain:=ab}
fa c d e:=by rw[g a D b2 c G i (gd d) e]
aa1:=by obtain⟨z,ar,n,J,a5,e⟩:=a6y a
d7 a c d:=CA (V (W i m H) ((a).stop i H) (k H) ((c).go i H) (∃w:jb,(a67)/\j x L (rX d) (gb tA a65)))
aa2:=@aE6 _ _ _ _ _ _ _ _ ?_
sy a:=⟨dx,a⟩
al4:=aa .bC
sz a:=a= .function
sB a:=by rw[li a]
ks a b:=by obtain⟨W,a⟩:=b
ey a b c:=by obtain⟨a,b⟩:=lE c
kt a b:=by obtain⟨a,b⟩:=e0
al5:=["calls"]
al6:=by {contradiction}
al7:=.ref sl
al8:=.ref T
aGi:=Mr "tuple"
al9:=.int (lo+cd i*c)
al_:=.inl (si _ _)
al':=.lst []
ama:=by rw[<-this]
amb:=Sem cb
sD a:=aOs (iN q a)
amc:=by simp only at h
amd:=by simp only at k
ku a b:=by simp only[a,b]at e
kv a b:=by simp only[da,a,b]
kw a b:=(a).filterMap b
sE a:=cR (BL h) a
ame:=r.aQA I
amf:=r.aQB I
amg:=(cA aJ).cnt
amh:=(mY D t).row
ami:=bp f.1
amj:=bp f.2
sF a:=SV (r:=r) a
amk:=aRL (SV _)
aml:=.refl _
amm:=Wv (bo tP)
amn:=gi T.avC
b2 a b d e:=axn (lo:=a) (n:=b) (c:=d) e bM
kx a b:=a5K (b_ (o:=a) b)
b3 a b c d:=aj_ (b_ (o:=bV a b c) d)
amo:=aqD ?_
amq:=XJ (akH a3)
sG a:=by rw[cH];exact a
aGj:=(aD_ j).2
amr:=(wm e).2
b4 a b c d:=by have a:b:=by simpa[c]using d
kz a b:=x (FQ (mh a) (Ks b))
ams:=x (HE bG)
amt:=x (VW bG)
sH a:=a0Q K C a=ab
amu:=a0O K C=ab
amv:=bld b=ab
amw:=blf blg=ab
ez a b c:=by have:a:=b;exact c
amx:=v (aP a)
amy:=v (aP b)
sI a:=(VN Y a).1
b7 a b c d:=by have a:b=c:=by simpa using d
kB a b:=by rw[l (FQ (mh a) (Ks b))]
amz:=vJ b=ae
amA:=Hh d=ae
kC a b:=by {rw[<-a];exact b}
sK a:=by {rw[bY];exact a}
sM a:=J (gv z a)
kV a b:=by rw[C (ajL a rfl b)]
amB:=a5X aix=ai
sN a:=fun _ z=>a
amC:=cf (bp g_)
l6 a b:=ff a (.fields b)
sO a:=fun _ _ e=>a
amD:=e∈tM
sP a:=fun t h7=>a
eA a b c:=by have a:b<c:=by grind-abstractProof
amE:=Ln->fz
amF:=b∈ig a
amG:=Str->bZ aBX
k1 a b:=an a "data" b
wc a:=ce (a=eU ai)
amH:=by rw[a6 this]
aGk:=bt (Ds _ _)
k2 a b:=by have e:a=b:=by grind
amI:=b∉vO
amJ:=aP t ?_
amK:=cw (aC C G)
amL:=dI t I3 p
sQ a:=h4 (gz not a)
amM:=M o d6
amN:=Gl X "list"
sR a:=by rw[k1 (mO 0 a)]
sT a:=by rw[k1 (mO a 0)]
l7 a b:=by have:=a;rw[hA rv];exact b
sV a:=fun b o b0 e=>a
amO:=(ed).x
amP:=(eE).x
amQ:=(eF).x
wf a:=bD a (fun u a4 P=>?_)
amR:=dy (bp g_)
amS:=ls++[e]
k3 b c:=L b (fun a=>c)
amT:=d_ 0 (vn C)
amU:=ad p o
amV:=j 0 M H
amW:=f8 "list"
amX:=bs aq bb
sW a:=cc Ae w IW a
amY:=[e,it]
amZ:=ga r.w
am0:=l∈Aw
sX a:=ce df (e1 (cN a))
am1:=U_ y=aa c
am2:=by split<;>lia-abstractProof
am3:=aO Key cS
am4:=by rw[jw (VM e)]
am5:=by rw[jw (VL e)]
am6:={T with marks:=d8}
am7:=gU (go h)
b8 a b c d:=X a b ["cartoon",c,d]
am8:=dI Nat I
am9:=M o C
am_:=x<(cA t).cnt
am':=hC (bp g_)
ana:=ij T.aVc
anb:=dN H j
sZ a:=by rw[is (ap d (mC a))]
s0 a:=(a).more<=9
ane:=a7 Uh kH
s1 a:=bT (t a) 2
anf:=zr+1<gD
an a b c d e:=by rw[M a b c (by rw[ci d,fq e q,kG])]
s2 a:=fun d nd=>a
s3 a:=z m (m<n) a
ang:=jy+8*i
k4 a b:=∀{l:ba},a->b
k5 a b:=∀{l:cI},a->b
anh:=[cp 0]
s4 a:=qM (a-1) i
ani:=zu O k
anj:=by simp;lia
aGl:=t (jn a7a)
ank:=it F d g
s5 a:=hr (a1b b) a
CG b:=PT X a (k9 (fun x L=>b))
anl:=by rw[r1 (.bool ai)]
anm:=j b u (ev (zg b)) (ev (gQ b))
ano:=c1 _ _ v
aGm:=r2 (j (i+1))
s6 a:=by have:x≠t:=ai a
anp:=jn f n
anq:=DW B e
anr:=tN++[x]
ans:=aa O v
ant:=aC bJ []
eB a b c:=by have a:b:=by simp at c;omega
anu:=an (DQ 1) i
s7 b:=by rw[aW d b ?_]
s8 a:=by rw[oT (a>>=_)]
anv:=f_ y e0
anw:=f_ y g0
anx:=f_ e0 d0
anz:=f_ g0 d0
s9 a:=by rw[aj a4 (ap d (mC a)) xt]
aGn:=A (Et) e
anA:=dg+1=2^k
anB:=cA+1=2^k
wg a:=by rw[X hd O d j a]
wh a:=by rw[X hd vs d j a]
aGo:=fun c o b0 e=>?_
aGp:=fun c o b0 q=>?_
anC:=cI->Int
anD:=by refine qG (fun f6=>?_)
anE:=ey a7b ag0
anF:=HP a bX
anG:=A M pC
l8 a b:=by have:=a;rw[am b];exact this
k6 a b:=ef a b "before"
anH:=b8 C f
anI:=fr gE (e.1=0)
anJ:=qA Z t wz
anK:=d1 (ar d3) _ eg
s_ a:=fun b U o e=>a
anL:=iK H s
ta a:=ad L bQ (Q (.bl a) L)
anM:=GK K h A b
tc a:=by refine cn a ?_
anN:=ac4 h H
anO:=aB0 X7 mI
anP:=cZ a8 H
k7 a b:=aeh Z (a6 a b)
aGq:=sD aq aw
anQ:=Cu D B
anR:=akc r t
anS:=A dQ m
b9 a b c d:=by have a:b=c:=by rw[ik d,gf]
anT:=aj c0 Er
anU:=aJ (h x rq)
wj a:=bD a (fun c c8 P=>?_)
te a:=am X6 a jO
anV:=2*oV o
anW:=v o d0 b0
anY:=v q.y-p.y
tf a:=¬(a:Str)=f
k9 a b:=bm q.y p.y*bm a b
eC b c d:=by rw[cp b (jS c ⟨tG,d⟩)]
anZ:=.ins bJ W []
tg a:=by rw[gT (j4 a c6)]
an0:=ew aOv bS
lb a b:=ca (ii a) 2 b
an1:=ft bh b
an2:=ta a l b
th d:=by rw[r l pD a5 dh d]
fb d e f:=by rw[c a D b2 X G (gd d) e f]
l9 a b:=vU (.builtin a b)
lc a c:=(f b o (b∉a) (b≠r) gY c)
wk a:=Cg a K a8 l Y
ti c:=∀{l:cI}{a b:Nat},c
an3:=a _ _ _ _ rfl
an4:=vZ "lines"
wl a:=fun b u q _ _ _=>a
an5:=by rw[hB]at a5
an6:=(ed,rk)
an7:=fL<=akZ
aGr:=aDv<=1048576
an8:=by by_cases b0:x<ec
an9:=by simp only[dj]at a5⊢
an_:=cr c a
aGs:=aeV rfl rfl
an':=aEs a _
tj a:=lM (cP a) c4
aoa:=fun i hi=>?_
aob:=fun v d3=>?_
aoc:=fun m c4=>?_
aod:=fun z c9=>?_
aoe:=A m b
aof:=M B L
fc a b c:=dl (aEZ (ac9 a (aqQ b))) c
aog:=ap b2 []
aoh:=by rw[jC h rfl]
tk a:=by rw[cG hu a9 a]
wn a:=fun c o e=>a
tl a:=be St Hp (a)
ld a b:=Ck K bS (oq a) (oq b)
aoi:=kA a b=ab
tn a:=rd a TO x y
aoj:=by rw[bW d1 a5 vP]
aGt:=CI x c e
CH a:=l M a8 (fun x b7=>a)
wo c:=fun{a b}h e=>c
lf a b:=by have hi:i<a:=bx b
aok:=eR H v l
ca a b c d:=by cases q:H a with|none=>{rfl}|some o=>have:=b;rw[oQ c];cases d
li a b:=GY a it r jt i b e1
to a:=j M H (j a M H) OH
fd a c d:=l2 (v h a P) (cg (g c d))
wp a:=fo (a0S s.n) (lk a s)
aol:=aed _ _ a_
ts a:=Well P h v a
tt a:=by rw[ad h' a T h]
tv a:=fun h' p=>g h' dE a
aom:=CF (xc::b1)
ap a b c d e:=axl (n:=a) b (dJ c) d (f5 e) ?_ ?_
aGu:=aAp c p ns d
ll a b:=nM a (dE (NR b) p)
a7d:=aa (dj 0 (hw row))
wr a:=by obtain⟨i,hi⟩:=a
lm a b:=by obtain⟨x,S,a⟩:=b
tw a:=by show(fun h5=>_) a
aon:=(l.2,l.1)
ln a b:=mtF K (dp p.1) a b
aoo:=a.1::Eo
aGv:=a0T (blh s)
aop:=.int (lo+i)
aoq:=xE2 o p
aor:=bli x t
eI a b d:=by obtain⟨c,b0,a,b⟩:=d
aos:=Vis ahp x
aot:=h3 b U
lo a b:=rI a (ox (.int b))
aou:=by simp only[iE,dj]
aov:=zp ns d8
aow:=CW a7 O
aox:=CW d5 d7
aoy:=blj i ai
aoz:=ar5 eo f7
aoA:=dX (afx b0)
aoB:=iD (a,v) (b,v)
aoC:=bH (cA t).row
aoD:=wy _ _
aoE:=cr (d0 a) (d0 b)
aoF:=all 1 a3
aoG:=le w n
aoH:=aiF (Ls row)
aoI:=bll r i
aoJ:=.move k p
aoK:=aUM j q
ty a:=zzT a rfl ay
ws a:=Uk (ns:=[_,_]) a
aoL:=zM ns d8
aoM:=vw ns d8
aoN:=lt5 G ay
tz a:=blm (bn (jF a p))
aoO:=ayH D B
aoP:=akg r eL
aGw:=bln num X0
aoQ:=blo i b8
lp b c:=by rw[l (aP b (jS c (dx tG)))]
aoR:=cP d f
a7e:=cP (nv lR) (nv (aa M))
aGx:=fun _ q=>q
aoS:=fun _ _ _ _ _ h=>h
lq a b:=aP a (j _ _ b)
aoT:=(Z++d)
a7f:=(r7 b)/\vY (p.1≠b)
a7g:=bl (a4F 8 cW)
eJ a b c:=∃C,a=num (b++C) q c
aoU:=bj h i
aGy:=bj ak ajy
wt a:=bj (bW a) ak
aoV:=cP (vn c) xb
a7h:=[(ht 0,.bC)]
aoW:=by refine fF (fun e=>?_) (fun e=>?_)
aoX:=by refine fF (fun g=>?_) (fun g=>?_)
t0 a:=bv a (fH this tx)
wu a:=hf (A M H a)
aGz:=bx ih ij
t1 a:=f4 (Uo L v a)
aoY:=by rw[b2 (fZ e m.1)]
aoZ:=by rw[b2 (dE (blp (cP c1)) l)]
a7i:=df (blq e.2) gg
lr a b:=aj gM (di aq) a (Z b bS (di aq) (di aq))
t2 a:=fun j O h=>a
t a b c d e f:=mz (ll a) (V b c d e) (fE f)
eK a c d:=by have:=at4 b a c;rw[oS d]
t3 a:=by rw[bE c0 c2 a]
wv a:=by rw[a]at m;cases m
t5 a:=an ["data"] "data" a
ao0:=f_ W d8
ao1:=by rw[cF lt aQ]
ls a b:=dO a (4+(4+b))
mg a b:=vZ a b (fun _ _ e=>e)
lu a b:=vZ a b (fun _ _ x=>x)
ao2:=bV (zY++ak8++NY tl)
t6 a:=by rw[ck t (dv (jF a) J),dS];rfl
t7 a:=by rw[dQ (g4 ai a) Hr]
ao3:=g8 6 (v cw)
ao4:=by {have z:=azY ay e;rw[ru];rfl}
ww b:=by induction b with|nil=>{rw[kL]}|cons a J d6=>rw[cA rfl d6]
aGA:=nF h4 (N d4)
aGB:=by intro i g7 g8
t8 a:=gr a (gS (par c==xq))
ao5:=b7 X.1 X.2
ch a b c d:=Y ["self",a,b] ["self",c] d
wx a:=fun j e b8 a0=>a
ao6:=by rw[iI j b8]
ao7:=by rw[hp m c4]
ao8:=a6x w h m
ao9:=U a8 B hb
t9 b:=oM (a1 (cx b0) b rfl)
a7j:=[jP "enumerate" [e]]
a7k:=[jP "zip" XR]
nN a b:=(IC D a,b,⟨D.w,D.h⟩)
ao_:=cr x J*cS w
lv a b:=E o (kD a) (be (gQ b))
ao':=bi (v fL) (ae akZ)
lw a b:=by rw[ab f5 ([cp a]++bV (gF 2 i)) b]
ul a:=by conv=>rhs;rw[<-blr a]
wy d:=by rw[bn a d0 (bh rfl a (cx d0) d)]
CI d:=by rw[bn a (dn b3) (bh rfl a X2 d)]
aGC:=.ins lF dy []
apa:=j5 0 lo
apb:=hi (hu (Ob dm)) c
apc:=eb I0 kM x
apd:=jy+8*aJ+4*i
mh a b:=by rw[j6 10 (CN (j3 a b))]
ape:=by obtain⟨g4,h3⟩:=f
apf:=(kI,dm xa)
apg:=.bare w h m
aGD:=mV i a b3
aph:=a6z "list" blu 0
un a:=J ((a).2.1 rfl)
lx a b:=bD a (fun v a4⟨x,a8,r,r1,d2⟩=>b)
api:=vP (hX l.1 l.2)
up a:=bZ dq D t a
apj:=by rw[dd (pq (i+1)) (pq i++[e]) a0]
us a:=Sk (aSW (K:=K) rfl) bI aj2 au0 (dY a)
nP b c:=bl a b a (p j c a/\aj<=a)
apk:=dw x<k
eL a b c:=∀e,e∈a↔b/\c=v
apl:=(hi-lo).toNat
apm:=it j a b3
eM a b c:=d9 aZO (vt bS a b c)
aGE:=⟨es,fun t c6=>?_⟩
ly a c:=l b u a (ev c) (ev (gQ b))
apn:=dB R H a O
apo:=eS OF (a∈a5 b)
apq:=∃j:Nat,aa Y b
aGF:=by cases(a0 u (dm b) Z)
aGG:=afL t (13+n) p OJ
aGH:=by rw[aW t (cx Z) gJ]
lA a b:=∀i M H,a->akV->b
lC b c:=by rw[ar b4 H (mC b) (mC c)]
apr:=arS X.N ahp d own
ut a:=atf Y nd sub (fun h c7=>Gi a c7)
aps:=J.1*d.2-J.2*d.1
uR a:=aib x S j z a c9
apt:=adX iq v s E N
apu:=∀c,agZ a cF c=(do{let v<-c;standAt a.pos;holding [v] (truthy v)})
apv:=(aDd b p)
uU a:=(ea (pq (i+1)) (vu a))
aGI:=by rcases e0 with e0|e0
uW a:=by rcases aFw a with l|l
apw:=blv b o e
apx:=hd M H p
a7l:=.Attribute e f pos
uX a:=by generalize(RV _ _)=a
uY a:=bF (m:=blw _) (M1 a d)
eQ b c d:=I.aPz (its':=b) a e c d ?_
lD a b:=F.F_ _ _ a b h
aGJ:=Nt y k h
mi a b:=head _ _ a ?_ b
apy:=ajK N d5 f7
apz:=ajK c2 a7 c0
eS a b c:=aNZ (i:=a) b rfl (a6s rfl) c aqV
apA:=a53 (v b1 v l)
aGK:=blx r (bp t) akS
lE a b:=q2 _ _ a (ax b)
ar a b c d e:=q4 a (b).1 (c).2.1 (aS d) e
u0 a:=bly (blz aiS a cs)
as a b c d e:=by rw[l (k v a b (aZP (blA c) d rfl a9 e))]
u1 a:=by rw[lm a,X5,tJ]
apB:=I×d0×K
apC:=A×B×C
apD:=E×F×G
aGL:=E d4 (cZ L d4) (N d4)
apE:=Y N c5 st
apF:=X x st c5
eT a b c:=aP a ((dL (b_ b) c) _ _ ak)
wz a:=by have e6:a:=by simp at e5⊢;omega
lF d e:=by rw[y k u d DY e]
apG:=by intro au s M H x vs v b1 Q I R rv h
u2 a:=E h' a (Q ae tF)
apH:=by rw[fp (c=dm b) Z]
eU a d e:=b x cC (vs=a) (am l O) d e
wD a:=by {refine fP;rw[X1];rintro⟨_,s,_⟩;exact a}
CK a:=by {refine Aq;rw[cp i M L];rintro hi⟨_,s,_⟩;exact a}
a7m:=an (a6h gg) (e.2-(e.1+1))
apI:=by rw[de c9 (.ref TI) (bF (gd f ?_))]
aGM:=by rw[cP q p a5]
mj d e:=by rw[r N (.ref wb) (av d) (dX t8) e]
apJ:=dJ blC aZ1 blB
apK:=dJ blE aZ0 blD
u3 a:=zF b N n f=a
u4 a:=by rw[aj c8 (U b7 d a) (gb eN)]
lG a b:=by rw[a4 a,eH,l b,l Hj]
apL:=a w h p l m
u5 a:=hm (((a):OK) e.2) e.1
lH a c:=CD (A [cC,jN] tH a c)
lI a b:=by obtain⟨e7,d,a,n1,n2⟩:=b
u6 a:=by obtain⟨a3,a9,e2,e5⟩:=a
apM:=by rcases m with rfl|rfl|rfl
apN:=B (ac lS O) (ac ak9 a)
aGN:=fun a b p q=>?_
apO:=(Z ai (! lb (gO rm)) (lb (gO rm)))
CL a:=fun u d4=>KP .tup Q [.int a,u] d4
f5 a c d:=B F d4 a _ (a57 b8) (aFz O) c d rfl XZ
apP:=z vs tS (blF tI a vs)
u8 e:=by rw[CE (s (cx OD) dr i e (fun d5 b7 b5 n2 b9=>m d d5 IV b9 (as ag)))]
apQ:=["p","q","r","s"]
apR:=r b o e S
aGO:=blG b o e S
aGP:=TP X au M Q
u9 a:=by rintro e f⟨a0,W,a⟩
u_ a:=by rcases a with h|h|h|h
mk a b:=dZ (leK (K:=K) rfl ai3) a b
va a:=aEU par B (ab (aEV x 0)) z a
nQ a c:=let⟨b,b4,b9⟩:=a;v b b4 c
apS:=I×d0×K×Z
apT:=A×B×C×D
apU:=E×F×G×H
apV:=by intro a8 d7 a4 b4 e9
a7n:=aV i3 n j4 cW
apW:=oD ak_ tv gS i m
fe a b c:=by have a:0<=b:=by rw[eL (aCg 0 c),l (s_ h h),l (air h h)]
apX:=by obtain⟨o,d0,hex,hd⟩:=ajI
apY:=ce Ap e0 g0 d0
apZ:=ce (.ref n) h2 e2 i8
o c d f h i j k:=by rw[g cW c d rm _ _ f (a h i ⟨j1,k8⟩ (gP (d5 p j)) (as k))]
cb d e f g:=by {intro i L h4 N hi s b6 d;rw[im (c l b e ?_ f g)];simp[vn];simp+arith [*]}
ap0:=by rw[cg i0 eM n blH]
vb a:=by rw[n a i t rfl x t rfl]
ap1:=by rw[e3 Z a6A (qL a6A Z blJ ?_ (blI _))]
eW a b c:=by rw[l3 (fun i m M H=>m=a-i/\b/\akV) c]
CO a:=a32 ⟨v e a0 bB,fun j x b8 S=>a⟩
eX a b c:=by refine ai es (fm (c0 e t _ _ a b ak (blK (GC c6) c)))
aGQ:=[i,ij,ih,jx,kB]
ap2:=[z,TI,TO,c2,N]
vc a:=by obtain⟨g7,g9,g8,e1,h⟩:=a
ap3:=@aE1 _ _ _ ?_
a7o:=a ak2 sQ zi dE CH
ap4:=by {rw[Ek,El];rw[vG h];rw[vG k];constructor}
eZ a b c:=by {intro i a b L h4 l8 c s S b6 j2;exact bd (Tx (ab 0 rfl eg rfl))}
ap5:=fun vs H Q E h=>?_
ap6:=bD aF9 (fun c a4⟨y,a8,r,Z,d2⟩=>bD a6_ (fun u b5 P=>?_))
nR a b:=∀(s:Shared)(b1:aM),a->aBF s fd (d_ b1) b
ve a:=by rintro v m J c1⟨a6,rfl,a⟩
lJ a b:=by {refine a;simp only[hC,oR,Dl,aEi]at b0;exact b}
vf a:=fun A i s Q E st h=>a
vg a:=f L d7 OL (aj D d7) (dD (R L) d7 a) (k L)
lK d f:=∀(a:Addr)(D:Gla.Plan)(b2 X G:Addr)(b4:V)(B:Em),e [bc,b4] Ag (Uq C H b4 B) d f
a b c d e g h i j k l m n:=by have b:G0 c d e:=f g h (.ref i) (.ref j) ak (c1 _ _ k) l (aP m (co n ak))
nS b c:=d6 (fun v x z=>let⟨a,e,_⟩:=z;⟨a,e⟩) b (J c)
ap7:=by rintro i m M H⟨rfl,hi,p⟩
ap8:=fun w hw=>aPs R n J G w ah
vh a:=adp P w K mg aj a ez s H
ap9:=@aE3 _ _ _ _ _ ?_
vj a:=fun{i:Nat}(hi:i<aJ)=>a
e1 a b c:=cr (BE rfl rf (oo bb) (bk "number" 5 "point" 6) (bC (V 5 rf 6 rf)) (lf (dZ gM (di eu) a)) (bC cJ)) b c
ap_:=∀c o,j (c≠z) (c≠TO) (c≠c2) (c≠N) (gE c) (be (gQ c))
wE a:=(∀y e4 b,i (a=aa b) (cZ L e4) (R e4 y b) (h4 y e4))
ap':=by {rintro⟨r1,r2⟩c1⟨a6,rfl,_⟩;simp only at a6;subst a6;exact xw}
lL b c:=by obtain⟨m,a,d,b,d0,R,F,f,k⟩:=N.orb J c
vk a:=by obtain⟨F,a3,a9,e2,e5,z,hd,j⟩:=af4 a d
vl c:=fun e0 e4 d9 y g5=>m d e0 (fF e7) g5 ⟨c,fun b f=>k b _ (dL Eh f) (eV Eh f) ?_⟩
ml a b:=by refine a6B _ (fun m J c1=>J.1=ae/\c1=s/\∀v∈m,a) _ ?_ ?_ _ _ (h6 b)
aGR:=by simp only[*]
aGS:=by simp_all only
aGT:=by rw[O1]
a7p:=G7 "__len__"
aGU:=.list c7
aGV:=.list OU
aGW:=cv (x<y)
aGX:=(O0).length
aGY:=.inl ?_
mm a b:=if 65536<=R.d then a else b
mn a b:=if a then b else 0
aGZ:=.tup (wO vn)
aG0:=bW d.symm
aG5:=uS (H x)
wI a:=by simp only[hZ]at a
wK a:=by simp only[hC]at a
mo a b:=cg ⟨a6o a _,b⟩
wL a:=aBz (hs (gC a))
aG6:=by simp only at j6
aG7:=.tuple c7
wM a:=.error ⟨a,p⟩
wP a:=sf (p:=a) e
wQ a:=sg (p:=a) e
aG8:=by unfold bump at b8
wR a:=zC (p:=alg) (l:=a)
wS a:=(As).dropWhile a
wT a:=(a).length_eq
aG9:=begins c
wW a:=jm.k (k:=hE y) a
aG_:=(aln).perturb
aG':=(I_).place
ci a b c d:={j:=a,more:=b,i:=c,perturb:=d,dummy:=ae}
w0 a:=a4A (lL++[a])
aHa:=a3.map vn
aHb:=J.seq a5
aHc:=e8.2.2.2
mp a b:=by have a:b:=by lia-abstractProof
aHd:=x (qI _ Ab)
aHe:=x (gC bG)
w1 a:=x (aqj (mh a))
aHf:=a0P K C=ab
aHg:=O.all F5=ab
aC a b c d e:=by obtain⟨a,b,c⟩:=d;exact e
aHh:=(DL j d).1
w2 a:=t (iU (an a))
aHi:=J (n ag)
w3 a:=by rw[C (a4W a ?_)]
aHj:=fun v=>?_
a7q:=au (aa (ae:pw))
aHk:=ab (mz XO)
aHl:=ab (p (f x))
aHm:=bh (m::row)
w4 a:=g2 a (us5 (mq rfl))
aHn:=bo (Nz te eL)
w5 a:=by delta a;grind-abstractProof
aHo:=by rw[cH];rfl
mq a b:=show a=b by simp[*]
w6 a:=fun b O e=>a
aHp:=I->bZ d
w7 a:=by rw[a];trivial
mr a b:=by rw[a];simp[b]
aHq:=dI t (J+1) p
aHr:=p+Ly b p
aHs:=cj (qF k.1)
aHt:=Gl X "enumerate"
aHu:=Gl X "zip"
CP a:=fun(e:Nat×Nat)=>a
aHv:=Vn f=aa v
aHw:=par w=aa v
a7r:=db (by cases U)
w8 a:=by have:=a;simp_all
aHx:=(mY r (t+1))
aHy:=ey a6' Vl
aHz:=fun e _=>?_
aHA:=f8 "enumerate"
aHB:=f8 "zip"
w9 a:=(aj_ c1) _ _ a
xa a:=(a5J k0) _ _ a
ms a b:=by have b9:a=b:=by grind
mt a b:=io a (lN (Dq aJ) b)
aHC:=ce df (vy (pq i))
aHD:=cw<100000
xd a:=fun b O q=>a
aHE:=qG (fun n=>?_)
aHF:=qG (fun f6=>?_)
ff a b c:=by have a:b=ae:=by simpa using c
aHG:=x<(cA aJ).cnt
xe a:=Ck K a (oq bE) Sl
xs a:=dg (Io a b1) IS
xz a:=jE (fun vs a8=>a)
aHH:=dJ St Hp
aHI:=sj F g m
aHJ:=by rw[it (a24 J)]
aHK:=au (dM) iL
aHL:=PA X a7 t
aHM:=PA X XR d6
xL a:=j b o gY (iE a)
x0 a:=lk (ar a Hm)
x1 a:=lk (! ar a Hm)
aHN:=sd (cA aJ).side h
aHO:=blL c=aa x
a7s:=fun t m=>?_
x2 a:=ln (t<=nk->a)
aHP:=mM F k y
aHQ:=GK K DD A
aHR:=by rw[ea mm]at c4
aHS:=dP<=8192
aHT:=dI Nat Nat
fg a b c:=by simp only[a]at E;rw[b];exact bt c
aHU:=aC hI (sL xk)
aHV:=RN K C "__init__"
aHW:=k b o (J (b0 (ar z))) e
x3 a:=Q fO (ap p a)
aHX:=(cA t').row
aHY:=a6v min a
aHZ:=x (j h) q
x4 a:=by rw[aj a4 (ad d a) xt]
aH0:=vx H l Y g
aH1:=zo iu mI akY
a7t:=vF (jx (sa e))
aH2:=HP (Du r) bX
x5 a:=E t (t<=R.n) a
aH3:=B eN cm
aH4:=fun b u e=>?_
x6 a:=fun b _ o e=>a
mw b c:=a J g ls dx rfl b c Y
aH5:=GZ H b k
x7 a:=ad L bQ (r6 a)
aH6:=fun v b7 b5 p=>?_
x8 b:=iS (gH hd) b
aH7:=GK K DD A b
aH8:=(fin (d ?_))
aH9:=(cN (td f))
my a b:=by have B:=blM a (b_ (o:=hK) b)
x9 a:=Q .bC (ap l a)
aH_:=by simp only[ia]at E
aH':=a6C Ir aEP
aIa:=a6C Iy aEP
aIb:=a6D Ir ajS
aIc:=a6D Iy ajS
aIe:=U1 K xc=ab
aIf:=U1 K rz=ab
mz a b:=by {have:=a;have:=b;lia-abstractProof}
aIg:=fun y c e=>?_
yr a:=by have⟨dx,ex⟩:=a
aIh:=eR (blN n) 0
aIi:=by rw[a9 B d5 OE]
aIj:=by rw[a9 B d5 IZ]
aJ a b c d f:=by have a:b=ae:=by cases q:c with|some e=>{rw[q]at d;cases f}|none=>rfl
fh a b c:=by have a:b=ae:=by cases q:c with|some e=>{rw[m1 q]}|none=>rfl
ys a:=fun b u O q=>a
mB a b:=PW X (iH .And a) b
mC a b:=PW X (iH .Or a) b
aIk:=eV J s p
aIl:=eV J s q
aIm:=Int->Int->Int
aIn:=Int->Int->V
yt a:=sb ⟨blO,a⟩
aIo:=[71,76,65,49]
aIp:=[71,76,65,72]
aIq:=ea (fX (gv z E.l))
aIr:=cy rfl h
aIs:=hW (k+1) X.A
yv a:=by simp only[hZ,iS]at a
aIt:=v0 (blP _)
yw a:=LQ (t bA (cn a0 a))
a7u:=fun i _=>n<=i
yx a:=an (ai9 16) a
yy a:=dO (b4 aw3 a)
aIu:=fun p _=>akO
yz a:=dt mI (y.2= .free->a)
aIv:=dP aq (as aq cu)
aIw:=zw Y R.n a_
aIx:=vg r ed oV
yB a:=ez a (ch (blQ l))
aIy:=Im d h a7
aIz:=BX r z row
yC a:=Cs P w a d ls
yD a:=ac ow ow (.inr a)
aIA:=by exact mP (cV hi) (cV (qq Z))
aIB:=jm H a y o
yE a:=by rw[cH,hM];exact aW a
mD a d:=c M H (fun b a8=>Z b a d)
aIC:=BH wm E N
aID:=fun v a8 a4 g4=>?_
fl a b c:=by have fin:a=ab->b:=fun U=>c
yF c:=∃a b:Int,∀x,c=a+b*x
aIE:=by obtain⟨o,e,c,d⟩:=id f
yI a:=by with_unfolding_all exact a
aIF:=by rw[(aGe).length_eq]
aIG:=(tm pf,auV e)
aIH:=R.d<=lD
yK a:=Q (.int a dE) OY
aII:=by simp only[q,mJ]
aIJ:=wu l.1 l.2
fm a b c:=aea a (mU b) (l4 m.1 c)
aIK:=Co par y
aIL:=a4n j (aa n)
aIM:=t4 a5T a3
aIN:=a8 a=aa (aC C G)
aIO:=x (ahZ bG bG)
CR a:=by rw[a6 a,dS]
yM a:=by rw[l (O _ e7 a)]
yN a:=by {rw[aj a,cH]}
aIP:=vs++[l4]
yO a:=V m a (Di r eL=ab)
aIQ:=gD (a1 2)
yU a:=by rw[v a (fun x S=>?_)]
aIR:=cS bR aw
aK b c e f g:=by rw[a4 S (m b _ c (d e f g rfl))]
aIS:=dI t J Yd
aIT:=bv ag' Ew
fn a b c:=aj gM aw a (cr (gi b) bb c)
aIU:=yM r ed oV
yV a:=by have:=gz (Mh (a:Str)) z
mE a b:=by have:=a;rw[fq b this,nj]
aIV:=fun j y b8=>?_
mG a b:=jE (fun c a8=>Z c a b)
yW a:=E j (j<i) (a=ai)
aIW:=qt X a c3
yX a:=cV (gi ajh) WO a
aIX:=Mt bh l f
fo a b c:=hv a (cr (gi b) AA c)
aIY:=oU (h y rq)
mH a c:=m4 (A [cC] tH (gc a) c)
aIZ:=P g e g'
aI5:=by rw[C (gd b2 ?_)]
aI6:=e3 (dt (ig x) (y<aJ))
aI7:=M3 (jp (v d.1 k (d.1,y) d))
aI8:=ap hL n j
aI9:=DC aP c l J
aI_:=Mz x c e
aI':=se a d B
aJa:=∃j∈hL,Jb
aJb:=KO bh x dx C j
aJc:=UB eA X.w a als
aJd:=zb r H l Y c
yY a:=ad6 d5 Y i ale H a
y0 d:=by rw[l5 R (f g ls h d)]
mI b c:=fun x p L h4 c4 O J B=>M x p b c B
aJe:=.dK (KZ [] a7h)
y1 a:=Meth X.K C m a
aJf:=Mk X.K C f
y2 c:=fun{a b}h=>c
aJg:=T.ve x S q
aJh:=(Z b (fh::W) [])
y3 a:=v b1 (Y a q2) (oX f6)
mJ b c:=vx (A [bc] Ag (gc b) c)
aJi:=d M H I h
y4 a:=vk K C a st c5
aJj:=ep i R p
y5 a:=a2c _ _ _ _ a
y6 a:=L1 a5 B par E a
y7 a:=by rw[ad f D a3 a h.d]
fp a b c:=match a with|true=>b|false=>c
y8 a:=by obtain⟨e5,e6⟩:=a
y9 a:=by obtain⟨z9,x2⟩:=a
aJk:=(a9.map eY)
aJl:=(x (vd Z) h)
aJm:=(Ite K l)
aJn:=a.1.map blR
aJo:=by have d0:=a5U f9
aJp:=(l.1,l.2)
aJq:=(bp m.1,bp m.2)
y_ a:=fun b7 b5=>a
aJr:=ey alr blS
mL a b:=Hj (c8 a) (c8 b)
a7v:=.int ck (dE+1)
aJs:=RY eA X.w
aJt:=.tup (v_ (.ref W))
aJu:=rY (Vn f) (j f)
aJv:=by delta KV at J
zb a:=h_ (I.aND b a)
aJw:=h n (x jR)
a7w:=Vd (e7 (q a5P))
aJx:=.Name y r
aJy:=.Name d1 T
zc a:=bF (bF (aEh a))
aJz:=f (eZ i) (mD j)
aJA:=r.R_ a_ (ahk a_)
zd a:=(bm hi a).toNat
zh a:=(aiP (a%256)).toNat
aJB:=min ip blT
aJC:=MT i5 lo
aJD:=([]:aM).toArray
mM a b:=fb a (ahU (blU b) ahV)
aJE:=Y.diff a0 W
mN a b:=K9 (by rw[a,b];simp)
aJF:=HM (ad9 c7).2
aJG:=HM (ad9 c7).1
aJH:=blV (fs O3)
zi a:=aRJ (p:=p) (l:=l) (k:=a)
zk a:=aRM (P:=Ay) (atV Z I a)
zl a:=blW a i (ar hi)
aJI:=.erase i j
aJJ:=a3E Mo a3G
aJK:=(LD e).binds b
aJL:=blX (a6E zI J.f a)
aJM:=c.drop (gc-i)
aJN:=ajG eA X.w
aJO:=ayc eA X.w
aJP:=blY r (v3 gk)
zm a:=Iu a (jC (c3 _ _ z))
mQ a b:=blZ a (eB (r9 b))
aJQ:=by injection f5 with f5
aJR:=Xl D (agh D B)
mT a b:=(a).put (o:=b) (bl0 x)
aJS:=IE h9 (aFg N DT b5)
zn a:=fW.sb a5 a d6
mU a b:=by have:a:=b;rw[gf]
aJT:=fun a8 a4=>?_
aJU:=fun c0 c1=>?_
aJV:=J (U (ar z))
zo a:=E t' (t'<=t) a
zp a:=by rw[C (aEv a bl1 ?_)]
aJW:=r5 (DL x xq)=ai
aJX:=A atN (c,l)
zq a:=M a7l (aOM a d6 f)
zr a:=by {rw[cR N8,e_];exact a}
aJY:=gD (2<hv)
aJZ:=bs xC OV
aJ0:=by rw[T r.N []]
nT a b:=bo (jr _ (fH (a5b a m) b))
aJ1:=fW K H b d7
aJ2:=aJ (H x rq)
a7x:=fF (fun e5=>?_) (fun e5=>?_)
zu b:=bl (a5p b (eZ a) (mD c))
aJ3:=by refine fF (fun e6=>?_) (fun e6=>?_)
aJ4:=c5 18 2≠0
aJ5:=br (dj I)
aJ6:=bU bG bG
a7y:=by rw[bl2];kernel_rfl
aJ7:=dJ (! cv (i∈B))
aJ8:=dI aT aT
aJ9:=df hL (n+1)
aJ_:=d_ [cC,cW]
aJ':=dp q.y q.x
mV a b:=aj gM kH a (j9 aq b)
aKa:=by rw[jC (h_ h) e]
a7z:=uW K H b (HQ cp)
fq a b c:=(ai (hq a) (hq b) c)
f7 a b c:=bA a {cls:=b,dict:=ae,data:=c,slots:= #[]}
a7A:=fun(k:Nat)=>dG (iU ak4) (HZ k)
mW a b:=X a b ["neighbours","came_from"]
mX c d:=aFK a b (x:=c) rfl d
m0 a b:=c8 (hq a) (hq b)
zv a:=by rw[ca d3 (¬a=0)]
CS a:=by rw[cE (c8 (aDz (show ab=ai from h.1))) a]
fr a b c:=PS X (.AugAssign a j b pos) c
a7B:=qI _ (qI _ (aOi U e))
aKb:=dO jy 20
zw a:=V e gU (a/\e.2<df)
aKc:=mM F p.1 p.2
zy a:=by rw[a]at D;cases D
aKd:=vR "list"=aa Af
aKe:=K b p c
aKf:=eS aF0 alm
aKg:=aa ⟨6,cw⟩
aKh:=zS bh F xa
a7C:=fun b N q=>bT q
aKi:=fun j a b3=>?_
aKj:=∀x,t (f x)=k
zz a:=bk j x (Ep->a)
aKk:=ld (cP u x)
aKl:=dT c5 m7
aKm:=E x aF_ alb
aKn:=f9 XR (g6 tD [b9])
zA a:=bA l xf (dB eR L l a) cC
a7D:=∃i u,v=W5 i u
a7E:=fun j x b8=>Au
zC a:=fun h' p c0=>a
aKo:=fv bG bG
aKp:=ch (l.1==e.1)
a7F:=bD a7c (fun c b5 P=>?_)
a7G:=v o e (fun v z=>ah)
zD a:=fun c O q=>a
aKq:=by injection e with b4 _
aKr:=upd d4 W a7e
aKs:=PG X c7 g
a7H:=by rw[f9 (a5r (v d).toNat>>=_)]
aKt:=l0 "list_iterator" #[cC,hz 0]
zF a:=ap (vA dg k a) n j
zI a:=by have Z:lB OS "enumerate":=bm a
aKu:=(yq (fn "NUMBERS"),nmF K)
aKv:=[w,h,ij,ih,jx,kB]
aKw:=Mt bh b i
aKx:=BX r ed oV
aKy:=fun h' f sb=>?_
aKz:=B (oI f) aGh
f8 a b c:=Y ["drawing",a] ["drawing",b] c
zL b:=r4 (fun a b3=>ax (dL eN b3) (mO b))
aKA:=aFG DZ c/\aFH c=ab
aKB:=by have e0:=vc J x
zM a:=z b (f (gO xB)=aa cW) a
aKC:=by rw[ak b3 e (Nb q)]
zQ a:=fun v d3 z=>cy (wB d3) a
aKD:=jD (mK y.2 x.2=ai)
aKE:=20+8*Ak+4*i
aKF:=fun s=>oG (lx t s p)
m1 a b:=(Dz r a).bind (fun T=>aiL T b)
aKG:=CT _ H rfl
CT a:=eW (mu b3 (mQ e.2 m.2.2 a))
CU a:=eW (mu (HF a) (mR e.1 An))
aKH:=(eJ eM).zip Y
aKI:=(qR U rk).2
m2 a b:=by rw[gl q a];exact qr e t b
zR a:=by rw[gl q a];exact bJ e t
aKJ:=(qR b3 (bp b)).1
zS a:=bl (MB a cC cW)
zU a:=by {rw[ae (l a ay) e];rfl}
aKK:=by have:fl (h::l)=an (O2+ef l):=bI
zX e:=∀a b c d,e
m3 a b:=by cases r with|nil=>{rw[kl a b]}|cons c u hw=>rw[alh];cases c9
aKL:=Dh J a b=ab
aKM:=Dh J w x=ab
aKN:=Gg (F:=F) _ h j b8
zY a:=(l i x (i<a) nh (x<j))
zZ a:=(l i x (a<=i) nh (j<=x))
aKO:=v 16+ae xA
z0 a:=WW t (W3 a7) kI a
aKP:=v O q a_
z2 a:=(tI).is k a=ab
CV a:=by rw[fx];refine Oc (aqN I d8 c4 a l)
fs a b c:=t cj (cf (RU (l:=a) (k:=b) a_) c)
aKQ:=by rw[C (iQ (LX T) ?_)]
aKR:=fun v d3 z=>?_
aKS:=by rw[al (M6 a b)]
a7I:=ce aJ (dJ (v i k p eG))
m4 a b:=fun i m H=>m=a-i/\b/\j i H
CW a:=o z (a1 x z) (z∈B) a
m6 a b:=by have a:de b aGf:=fun e h=>x ir ag
z3 a:=by rw[aS a (cd 256^2) 65536]
ft a b c:=an pI a aDR (eA aq (a7 b c))
z4 a:=ct (o1 (T a)) gE
z5 a:=20+8*Ak+4*I2+12*a
z6 a:=cy (show b∈([]:bg)from a) jI
aKT:=by rw[di e2 j0 h.m]
aKU:=iL t.1 (hD t.2)
aKV:=by rw[iP a5 (sS c0)]
aKW:=cf eG<cf (bp j)
aKX:=e9 kE<mY kE
z7 a:=Uu cA k a h s
aKY:=aFu C H L v T c
aKZ:=(mI c5&&mI h')
aK0:=Wm=gU/\pd=lG
z8 a:=bm yy aq cu (bU 1 a5F (dK a))
aK1:=by obtain⟨h2,e2⟩:=b
aK2:=by (repeat(any_goals(first|assumption|wp_step)))
aK3:=c[gc-1-i]
aK4:=HN y k h
aK5:=Wd y k h
z9 a:=Uv (ajG cN w) a r a7
a7J:=XA D lR (aa M)
z_ a:=M (.Dict [] [] pos) a
aK6:=bx (IF i 0) (IF (i+1) 0)
aK7:=by rw[aO rfl dx h]
At a:=by rw[bD m es (hG a)]
AC a:=∀(J:Nat)(p:Probe),a
m7 a b:=by rw[b6 hw W (a1C (v:=v) (o:=a) b)]
a7K:=(b=r\/v5 lL)
aK8:=ld (bx e.1 e.2)
cu c d e f:=by rw[fa X c (mS d)];delta e;rw[J f lQ]
aK9:=b7 lt.1 lt.2
aK_:=[.int 1,.int 3,.int 13]
fu d e g:=b x bc (y=cW) (m3 d) (GZ e b k) g
AK c:=by refine f b _ pH (ai rfl (Tx c))
CX a:=by rw[j7 W (adW Y J a R.n a_)]
m8 a b:=oF K q a=oE b q st
aK':=["cartoon","points","ends","marks"]
aLa:=by rw[di,pB,di,cO]
m9 a b:=by obtain⟨c2,g,d,D,a⟩:=b
aLb:=bd (fun d7 b6=>t (I.ac' b6 e0) S)
a7L:=by rw[aK (WE (i+1)) (WE i) a b3]
aLc:=(gK).k e.1<=tO/\tO<=(gK).k e.2
AP d:=by rw[CI (u dh rfl a _ d)]
aLd:=sd (by rw[ak e h e0];exact v a e (bv h))
nV b c:=a dx _ _ rfl b dR gb fX c
a7M:=∃c d,Ya/\dK d 0/\c≠d
cj a b c e:=by rw[CK (d a (dx b (t c hi)) e pG)]
AT c:=f5 lR c (a J g ls u rfl a7 D.2 Y)
a7N:=nR (ly=kx) (MN b1)
fv b c d:=nS b (by rw[z]at c;simp at d)
aLe:=by obtain⟨m2,S⟩:=aFj
na b d:=(b:bl (MB d (eZ a) (mD c)))
fw a b c:=by refine aOn (n:=a) b c ?_ ?_
aLf:=by injection G with b6 S
a7O:=bl4 j++bl3 (j+1)
aLg:=by obtain⟨o,d0,_⟩:=ajI
A0 a:=by rcases a with h|h|h
aLh:=iE Ex (ic t) (dj alp (vg r (bp t) iZ))
aLi:=by rintro⟨a3,a9,e2⟩
aLj:=r.aQC (j0 b0) S
aLk:=r.asC Y I e
aLl:=(i-fK+1)%t (d++Z)
A1 a:=by delta aDl qV zG at a
aLm:=aQZ g a6 hw
aLn:=Lg par y t
A2 a:=bl5 (S3 r v) a
aLo:=aei r v I4
A3 c:=aet Lr aGg (fun _ _ h=>S4 h) c
aLp:=R.F.ok r len U
aLq:=NU p q J
aLr:=PxV H v p
fE a b c:=by rintro M a⟨rfl,⟨b,rfl⟩,c⟩
aLs:=bl6 a5 B par
aLt:=N4 lJ fy j
aLu:=bl7 it bh h'
aLv:=bl8 [(hJ).hash k.1,(hJ).hash k.2]
aLw:=W.type 0 _ st
A4 a:=by obtain⟨F,c3,_,c4⟩:=a
a7P:=eqK (K:=K) rfl wj
aLy:=bl9 (h8 (mz (NU ed (bp b) rk)))
aLz:=bl_ (jD (mK (O y) (O x)=ai))
A5 a:=aFD (j:=p+1) aQ (afx a)
aLA:=a0N K e3 j=ab
A6 a:=by rw[l (d5.nt b a O e)]
aLB:=K b (p+1) n
A7 a:=by {rintro⟨_,q⟩;exact cy (a0 (cd 2) a q) ay}
aLC:=gy×gy×ax
aLD:=by rw[N c3 k f]
aLE:=e=x\/bh e Ec
ck a b c d:=by have:it F a (cF b)=c:=by rw[<-yF,d,e]
aLF:=ad b (B=aa b) (wX b)
aLG:=dl (hs bl' hR)
nb a b:=PA X a (qu d6 (qu c3 b))
aLH:=by rw[cy (Gg (F:=F) _ h i hi)]
aLI:=by rw[aS d2 (xy+xv) xv]
fF a b c:=by rw[bl J l (a5 i x v a b c)]
aLJ:=by rw[bl rfl R (vals1 J)]
nc a b:=b3 au a4 M a8 a r b
A8 a:=MF B (aa a) MG cF=eU ai
CY a:=bo (i=j\/t (iU ak4)=dP) ae a
nW c d:=by have a:j b u (fr u) c:=fun b u e z=>d
aLK:=(C-D)*(kp-K)
aLL:=bV b2 X G
fG a b c:=by have e2:a=b:=by delta c;simp;simp[*]
nd c d:=by rw[j l b c ?_ ⟨jT,d⟩]
aLM:=by rw[cP e0 S d8]
aLN:=by have:(an (Al-Am))=an (Al+(-Am)):=bI
aLO:=e.1+e.2-B
aLP:=xE++p++I8
aLQ:=cR (vb R i t) gE
aLR:=d [] 1 id (au (0,0))
A9 a:=∀{l:nD}{c J:Nat},a
aLS:=vH (PE (j0 e9 C) t b8)
aLT:=vH (PG (j0 e9 C) c7 g)
aLU:=vH (PTs (j0 e9 C) G c3)
nl a b:=∀(J:Nat)(p:Probe),a->b
Bu a:=zF b (n+1) r p=a
Bw a:=wD r a 0 [] dQ
aLV:=dT (dp (a5O D e) (a5N D e))
Bx a:=by rw[a,hq,hq];simp[a0]
By a:=aP m x (m<n->a->zP x≠.empty)
fH d e f:=by rw[iR d (u zX y_ X e f)]
aLW:=oD (rY df) DH gU i z
aLX:=oD aGd WI lG i z
Bz a:=jk bS DY T.Ue.h (ez a0p) a6 T.Ue.b .nil fp (dY a)
aLY:=by {intro p c2;rw[iC i (zt c2)];simp[*]}
BA a:=by rw[ru];rw[a]at h8;exact h8
BC a:=aP x l (alj->a)
BD a:=fun j x y=>x= .int (cd j)/\aa a y
aLZ:=agV b o e n S
CZ a:=bD (o4 _) (fun u b5⟨y,b7,Y,r2,q2⟩=>a)
a7Q:=(j::a.1,lN a.2 j)
BE a:=axO t a 13 p ay
aL0:=aEX D e.1 e.2.1 e.2.2
aL1:=ax u (gQ e) u
aL2:=aV e4 le zs nu
BG b:=CG (z k (aq' b x L k) (Q k L))
aL3:=j b O (fr tK) (hB tK)
f_ a b c:=by induction a generalizing i with|nil=>{trivial}|cons J t j=>cases i with|zero=>{exact dl (b▸J)}|succ i=>exact c
aL4:=∀a b c,aF0->k b c=ab->k a c=ab
nX a d:=(eo b u e).qs (fun c v b0 q=>k c v ?_ q) a d
aL5:=c V ek ek Hp (cu VK)
C0 a:=aAw u CR A H k dx a Q
aL6:=CE ez P w H s Q u c1
nm a b:=(ath (m:=O6) (l:=jG a) (fun h c7 q=>b))
BH a:=xlAt a [] s&&recOk [] s
aL7:=by obtain⟨zs,L,a5⟩:=st
aL8:=by have id:=as3 al f J w x
aL9:=.Pass (d 0 0 0 0)
aL_:=[k,J,g,ls]
fI a b c:=by refine aPV (n:=a) (fun i L=>b) c ?_ ?_
BI a:=∃(ar:aM)(n:Nat),a
BK a:=by obtain⟨gl,k2,p0,o2⟩:=a
aL':=c4 b _ q (J z)
aMa:=bma x c r b0
aMb:=bmb ak' X.A cF oN
BM a:=aBq _ _ a b U
aMc:=bmc sl i5 c .none
aMd:=a6F lo hi ae n
aMe:=zy p q J s
aMf:=zy pz rl (bp m.1) (bp m.2)
aMg:=VZ r t z e
fJ a b c:=SInv (ab (Nr x [])) n a P b c
aMh:=S3 r v row a
BO a:=aRU C.net NJ C.aeF a H
aMi:=aur r (vh r aFo) (vh r aFn) l
nn a b:=ReadsW R e9 a u b Y
n0 b c:=afw bJ [bc,pD] b (CL c) E0
cl a b c d:=aOm (O:=a) b c (mL (cx d)) ?_ ?_
BQ a:=afU cN w a a7 l
aMj:=a4M (bmd r e1) a7
fK a b c:=W.af8 j _ _ a b (jC c)
aMk:=lay H l Y L
aMm:=ne v d3 z q
BR b:=a r.w r.h de bX b
BS a:=by {rw[bD (fin ?_)];have:a:=ah;delta oD;rw[tT]}
BT a:=fun g e g' _ h=>a
aMn:=fun i H hi s=>?_
aMo:=by rw[w (ar qS) aFX aFX aFX]
n1 b c:=m DX zd b _ (aJ c (v2 3))
ga a b d:=by rw[aj a b (fun c o z=>by have l9:=d9 c o z;exact d)]
v a b c d e f:=E a 2 4 (E b 2 8 (E c 2 12 (E d 2 14 (E e 2 16 f))))
fL a b c:=aP y k (ap a y k->b\/(c/\K f y k))
a7R:=eB (k it bK o e)
aMp:=dO (ge ((k,x)::J)) (v k f ((k,v)::J) ((k,x)::ge J))
aMq:=b_ (ac [vn l] n1) (bs [vn l] (v1 (b-1)) n2) (ac [vn J] u)
aMr:=fun H v(m:G_)=>br v eL
cn a c d f:=by have a:bd (b≠x) (be c) (be d):=fun b o a5 e=>f
no a b:=Y ["data","place",a] ["data","place"] b
BU a:=by rw[Y e a0 b U a]
BV a:=hy a ((fK f<0->fK e<0)/\(0<fK e->0<fK f))
fW a b c:=by have a:∀p q:Pt,b:=fun p q=>c
aMs:=by have z1:lA=zm:=by rw[<-bme];rfl
aMu:=by have h6:Vs=NA:=by rw[<-bmf];rfl
aMv:=(afn K mg e G)
aMw:=zv->bk l (x∈m)->d_<=aE0
BW a:=by rw[ax c b0 r1 r2 a]
BX a:=∀(o:Obj),a->vY=Af
aMx:=bH ch ((b∈CF\/Hc<=b)/\X4/\a7f)
aMy:=av (i<fL) (ct de HW Yf) ae
a7S:=d3 au s M H _ I h
BY c:=wa (x b o a f c)
a7T:=d0 au b5 M b7 x y v u _ Y r1 r2 q2
aMz:=aa (Mr "dict",(ae:nf),nmN.map nP,(#[]:Eu))
aMA:=cw≠jy+8*c5 12 2+4*c5 14 2+12*c5 16 2
a7U:=upd (ap e5 (bV xi)) e6 (.tup (bV xi))
aMB:=by obtain⟨O,x,e0,S⟩:=d8
aMC:=aCv r al f Z d
aMD:=let⟨o,d0,J⟩:=x;v o (e _ d0) J
B0 a:=jk bP gG a6H (ez ayZ) a6 a6G .nil fp (dY a)
fX a b c:=∀{Z:Row}{g:Nat},a->b->fv c
aO b c d e f:=by rw[fx];refine b;obtain⟨c,b7,Y,d,a,e,ex,g,q2⟩:=P;rw[lW,Es];exact f
aME:=a1c b o e n U S
r c d g h i j k:=a c d g h (a f n i a3 (v8 (nQ j k))) h.n1 h.n2
B6 a:=e8 (ahf x Eb aO R.f e3) (a).Ky (RM st)
s a b c d e f g:=RL aAT (aAS a ((b).nsMap CG "__annotations__")) (aAQ (aAR aFN) c d) e f (bmg g)
n2 b c:=[kJ,ac x,ac lt,b,Ax,i1,j5,ac I,ae,ac N,c,bE k,l6]
aMF:=dz->bk i l (A bX l->a i l=alo)
np a b:=by obtain⟨a5,nd,mem,nx⟩:=d5.rot a b
aMG:=by rcases O y k h with⟨rfl,rfl⟩|⟨q,h⟩
B7 a:=.of_wp (fun cN w A R s h=>a)
aMH:=a0 cN w _ _ ?_
fY b c d:=bmh (m gk _ (CV (a:=aO) (o:=b) (t':=dE) (ip (bT q)) a_ c) d)
B8 a:=arx (aS3 (K:=K) rfl) a (oq bE) (oq bE)
B9 a:=yu (aPy aj8 bmj bmi aPE a)
aMI:=aD4 O j r lo hi
B_ a:=vJ f=aa (d D m (.func a) z)
fZ c f g:=by rw[e l b c 2 ?_ f ay g]
co c d e f:=by rw[g _ c l b d e a5 ⟨ay,fun a8 a4=>f⟩]
aMJ:=by rw[ac i j l l l]
C1 a:=L_ dq lF P w D a y x e7 d X c7 I
aMK:=by rw[ce m (a6I "min"++a6I ".loop":gy) "min.loop"]
Cd a:=∀m:fA,bmk->bk m (x∈a)->aE0<9000
aML:=by rw[ad e ne w d (Mx p c2)]
nt b c:=by rw[e a D b2 X G rfl b c]
Cf a:=fun _ _ _ _ _ st h=>a
aP a b c d e:=av T.TV.h aVI T.aVA T.TV.b (GL a b c d e)
Cg a:=av T.T7.h aZ3 T.aVD T.T7.b (dY a)
aMM:=eC=0\/eC=1\/eC=2\/eC=3\/eC=4
C2 a:=aP u (aqX (s:=tF) e c d ay a)
aMN:=by intro i j hi b8 l e
nv a b:=by obtain⟨J,g,ls,a,rfl,b,hR,Y⟩:=h
n3 b c:=∃(o:Obj)(ar:dU)(n:Nat),be (vJ a)/\vY=b/\c
u a b c d e f:=by have step:a=ai->ae (j<i+1) b c d e:=fun U j d7 b8 O=>f
aMO:=v9 (2<=ff/\ff<=64/\cz row O5)
a7V:=a1d b o e n U S
aMP:=["self","width","height","points","lines","marks"]
nw a b:=fin h' (av _ d3) (av _ a) r V Z b
aMQ:=by rcases cs with e|e|e|e|e
nx a b:=by obtain⟨c9,f,⟨a,b,n⟩,a3,a9⟩:=st
f0 a b c:=E (cw<a) 1 cw (E (xi≠b) 1 0 c)
f1 a b c:=va P w K mg aj a b f c c5 e8
f2 a b c:=by cases q:a with|false=>{rfl}|true=>rw[ci b,a4 c,aj aEC];rcases q with q|⟨d2,q2⟩;{rw[el]};{rw[aK (x Av),aEC,bj (fX (acX z.n (mh q2)))]at h;rw[lX];lia-abstractProof}
cp b c d e:=by obtain⟨l,b,c,d,rfl,rfl,a,e,c9,q⟩:=h
cr b c g h:=by rw[e x b _ c rfl ak (f c2 b2 X G g jI jI ⟨jI,jI⟩) h]
Ch c:=by rw[b ?_ ?_ ?_ ?_ ?_ ?_ ?_ ?_ c]
Ci a:=af7 cN w a T I a8 aj n St p
aMR:=by obtain⟨zs,f,a3,a9,m,B⟩:=st
cs b c d e:=a x _ dx _ rfl (Y b c) gG d (as e)
aMS:=fun i H x L s hi y=>?_
aMT:=by rw[gt B (aO6 kz OI a t c u)]
aR a b c d f:=e aji a (e7 b c (gi d)) (cj "place" 4) (ci 4 aji) kK (bC (b4 f bR))
nA a c:=Meets a (fun _ R s=>c7 l {cls:=rp,dict:=j,data:=jq f,slots:=sl}/\c7 b (au rp o i n2 p)/\eT (.bool c) s)
ct a b c e:=[tR,rx,ac lo,OQ,ae,i1,j5,a,b,c,e]
Cj b:=by {obtain⟨o,a7,e1,d0,J⟩:=c4;exact a o a7 e1 (k _ o b d0) J}
f3 a b d:=em St (W 0 m M H) (V ak7 ((a).stop i H) OH ((b).go i H) (∃N:pK,(ala)/\j x L (rX d) (gb M (r2 N))))
aMU:=@aE4 _ _ _ _ _ _ ?_
gb b c d:=∀(a:Addr)(b:Gla.Plan)(b2 X G:Addr)(c:Nat),d
aMV:=va P w K mg aj sh k R.f R.fd c5 e8
f4 d e f:=∀(c1:Shared)(M:bg)(C:Nat),b Ve sQ (a5i=zi) (Vf=CH) (a6n d=aa (hi (hu (M.map dm)) C)) (i (Va=n) (nP M mD) e f)
aMW:=by rw[a0 g0 L I q];exact d g0 L I.FY q
C3 b:=a a b2 X G e b c9 g9 e1 j5
Ck a:=se (Sk (aYF (K:=K) (w:=w) rfl rfl rfl wj) bI T.set aS8 (dY a))
aMX:=∀{Q:nz}{O:K}{b:Addr},zS bh O b->X_->a7g
Cl b:=by cases e with|true=>{rw[aK (B.mp rfl)]at hR;wp_walk;exact a rfl rfl _ _ _ _ H C (v F (x (aQ1 E)) hR)}|false=>rw[bj (ai (cy (B.mpr q) Hr))]at hR;have J:=b;wp_walk using J;exact dl (ax hR)
Cm a:=by obtain⟨z,ar,J,o,d0,b0,n,hd⟩:=eo _ _ a
Co c:=by wp_walk using a6J a5,a6J U,a6B _ (fun m b c1=>b.1=ae/\c1=OI/\∃(vs ws:aM)(I k:aT),m=vs.zip ws/\sV vs I/\sV ws k/\bmm+Vs=bml+lA/\eT (.bool c) OI) _
Cq a:=by rcases a with⟨o,rfl⟩|⟨j,q,c0,e0,c,rfl,b0⟩
C4 a:=aOr b3 U I h (fun v u b5 x y b7 Y R Z q=>a)
aMY:=by case h=>exact a rfl rfl a6r aBs ns d8 rfl hi b8 OJ h
Cr b:=by obtain⟨a,b2,X,G,e,d,c9,g9,e1,j5⟩:=b
aMZ:=(afn a.K a.mg a.e a.G).Ok a.P a.w a.base 16 (LH a.K)
nC a c:=by rcases zs with⟨a,a7,a0⟩|⟨d,b,u,j,c,b1,G,c0⟩
aM0:=by obtain⟨c2,b2,X,G,rfl,j,b0,a0,e0,d1⟩:=J
Cs d:=by rw[xu,c a b ns d8 rfl b3 U q h,hO];cases Z;obtain⟨ar,r1,e9,_⟩:=CJ b3;rw[kd r2 (CJ U)];exact d
Ct a:=∀(i j:Int)(t u:Tok)(s:Shared)(Q:aU)(E:aU),a
a7W:=aS (N-i) ((N-i_)+1) (L N i lt N (i+1)) (L N (i+1) lt N i)
a7X:=by rcases g with⟨F,k,e,c3,l⟩|⟨F,k,b,e,c3,f7,l⟩
t b d e f g i k:=by obtain⟨⟨y,j,a,sl⟩,d0,b0,n,hd⟩:=id a5;obtain⟨⟨c,o,data2,p⟩,u,m,n2,d7⟩:=id U;simp only at b0 hd m d7;subst b0 hd m d7;exact bmn (op:=b) (bm d0) (bm u) d e f g (v d0 u (show vK i≠bmo/\jZ k from io (ab (nomatch x)))) hu
a7Y:=by simp[dI]at b8
C5 a:=bmp "special-get-raises" a
n4 a b:=byRow2 "special-get-raises" a b
a7Z:=G7 "default"
a70:=.lst (a6K toV)
a71:=.tup (a6K toV)
C7 a:=M1 a (by size_fits)
a72:=wF WData.int
a73:=PlainAttrs T
a74:=N.Pairwise (mn R)
a75:=Z.den_pos a0
a76:=by unfold Plan.joined at this
a77:=m.Pairwise R
a78:=R.cs.headD al3
a79:=f.any (Cn l)
a7_:=ns.filter (eb Jk)
a7':=hG.set.qs kp
a8a:=left.take al1
a8b:=a4Q "internal:collect"
a8c:=J.wellSaid=ab
gc a b c:=by obtain⟨_,a,_⟩:=b;exact c
C8 a:=by rw[bW d0 a5 I.look];exact a
a8d:=by subst_vars;rfl
C9 b:=bl (eqIsQuiet b bc)
a8e:=fun e m=>?_
a8f:=fun x m=>?_
Da a:=oA (!(am a i ai))
a8g:=Cu "__classdict__"
a8h:=fa (bF (aET ?_))
a8i:=by split<;>grind-abstractProof
a8j:=cr (eV (gq))
n5 a b:=by delta a;rw[bA];exact b
a8k:=by rw[jM (fun x _=>?_)]
a8l:=Q (ac aO) nr
a8m:=v o e ex.2.1
a8n:=(ay:bk (cd 0))
Db a:=seqIndex? i a=aa j
a8o:=ad a (.dK Yb)
a8p:=ad a (.dT Yb)
a8q:=oY (au I d0)
a8r:=by refine qG (fun ne=>?_)
a8s:=tf O (O[i]+1)
a8t:=fun b o e=>?_
a8u:=(Ho (·.pop))
a8v:=fun v b7 b5 r2=>?_
a8w:=nn (e0 (gM pos))
a8x:=o3 (st.at a7R)
Dd a:=fun _ _ M H _ I h=>a
a8y:=Q (ac aO) tF
a8z:=fun b7 r2=>?_
n6 a b:=by rw[ck t (dv (jF a) J),bY];exact b
a8A:=dj 0 (hw Pg)
a8B:=v o d0 hex.1
a8C:=fun y b6 e=>?_
a8D:=ax c (aA' y.1) c
Df c:=∀{l:ao}{a b:Nat},c
a8E:=a _ _ _ _ (bd yH)
a8F:=by {rw[Ek,El,r8 (aAF h)];rw[e];rw[vG k];constructor}
Dg a:=fun b N q _ _ _=>a
a8G:=ea (fX (gv z E.g))
Dh a:=by rw[a4 a];simp_all
Dj a:=by simp[cR,a];simp+arith [*]
a8H:=aj le (bh (d7 lo))
a8I:=an (du 0 (hI E)) ie
a8J:=ae (sY e) ⟨a0,q⟩
a8K:=vg r ed (jk v)
a8L:=fun b7 b5 f5=>?_
Dk a:=by rw[cH,Ef];exact aW a
a8M:=v7 (ac ow ow (o7 h))
Dl a:=fun c o e5 e6 c1 i0 e=>a
a8N:=it F (d-1) g∈IW
a8O:=lB bc "dict"
a8P:=lB ny "dict"
a8Q:=M3 (ab (kV x.1))
a8R:=a2 (eV (hj))
a8S:=a2 (eV (hk))
a8T:=(al b (bO U)).1
a8U:=fun a h=>?_
a8V:=fun t' h=>?_
a8W:=ef cm (mO lQ)
a8X:=fun x c e=>?_
a8Y:=fun x l e=>?_
gd a b c:=by have:0<a:=by rw[al (mO 0 b),l q];{have:=Ng (eW c) q;lia}
a8Z:=hA T "__len__"
a80:=hA T "__length_hint__"
a81:=hF "__init__" f
a82:=hR "__init__" q
ge a c d:=bD a (fun b1 b5 e0=>dL c r2 d)
a83:=wl ⟨a07,Yc⟩
a84:=by obtain⟨g9,e1⟩:=m
a85:=by obtain⟨g9,e1⟩:=vL a0
gi a b c:=v (mN a) (fun i H v L=>b) (mN c)
a86:=(l b o (b∉a8) gY ha)
a87:=(l b o (b<aO) gY ha)
a88:=G _ _ (afc b4)
a89:=d_ 1 [] (wO akE)
a8_:=d_ 13 [] (wO akE)
a8':=bo (i=0) 1 0
a9a:=bp (aFk nv) num Hm
a9b:=bp (aFk nv) num (nv X0)
Dm a:=Gb i (qy R t) a*BI R t
a9c:=i e*qy R t e*BI R t
n7 c d:=by rw[dw (a+1+b) ((a+b)+1)];simp[c,d]
Dn a:=fun c o e5 e6 c1 e=>a
cv a c d e:=by rw[akQ];cases x with|bC=>{rw[a4 R a]}|bl b=>{rw[a4 R c]}|int b=>{rw[r3 d]}|str b=>{rw[r3 e]}|_=>trivial
cw a c d e:=by cases Z;cases x with|bC=>{rw[a4 R a]}|bl b=>{rw[a4 R c]}|int b=>{rw[r3 d]}|str b=>{rw[r3 e]}|_=>trivial
cx a b c d:=by rw[hO];cases y with|bC=>{rw[a4 Z a]}|bl j=>{rw[a4 Z b]}|int j=>{rw[ju c]}|str j=>{rw[ju d]}|_=>trivial
cy a b c d:=by rw[xg];cases y with|bC=>{rw[a4 Z a]}|bl j=>{rw[a4 Z b]}|int j=>{rw[ju c]}|str j=>{rw[ju d]}|_=>trivial
a9d:=t.dummies= #[]
n8 a b:=(aBz (J (h7 a b (aEJ z))))
a9e:=ey Yz aum._auto_1
a9f:=ea (ai (nomatch q))
a9g:=a1B j (aBA fM)
a9h:={c8 with heap:=aB0 (a10 aGc) mI}
Do a:=Io (.builtin "list.append") a
Dp a:=Dc (cf (aNl e5) (aS a 1))
a9i:=aEx (jC (bT z))
a9j:=fun D m=>?_
a9k:=by (intro;lia-abstractProof)
a9l:=(k.1.length+1)
a9m:=fun b z=>cy z (G b)
a9n:=by rw[al (aFw (d.ne Y))]
a9o:=fun b c5 e=>o0 bB
a9p:=(Pb\/tf lJ d=i+1)
a9q:=(O7->I)->I
a9r:=by rw[dk (WK a5) (fun c7 Y=>?_)]
a9s:=PT X alZ (uZ Yt)
a9t:=xl=ab\/alz=i
a9u:=fun j b8 h=>?_
a9v:=V e pS (y<=c e)
a9w:=aa (aGi,p.2.map aa)
a9x:=oJ (cv (j<i))
a9y:=oM (as (.inl Pf))
a9z:=fun b o U e=>?_
a9A:=e3 (dt (Nr x []) (y<n))
a9B:=by induction h with|nil=>{rfl}|cons J t i=>rw[i];rw[hM];rfl
a9C:=z u (b1=[u]) pL
of a b:=fun g0 j1=>z f7 (f7<a) b
a9D:=uW X.K H a O
a9E:=bm dG b2 pts
ok a b:=by rw[P sm a (cx b W (.ins dJ W [])) Pw]
a9F:=fW X.K H a O
a9G:=by obtain⟨dy,b6⟩:=Xp
a9H:=N4 a7 aGj (h,v)
ol a b:=by rw[a];intro e;rw[b];simp
a9I:=E (cw<p+AQ) 6 cw ae
a9J:=(x,c)∈zo mC d B
om a b:=∀l:ba,Mi (hm (p e) a)=b
a9K:=ew lL (j<MD) (ad j)
on b d:=by show c_ (qC (aDs a.1)) b;rw[Ci c a.1,d]<;>rfl
a9L:=mw K C m x st c5
a9M:=k8 (vN x)\/jU (vN x)
Dr a:=wi M H (fun d0 a8=>a)
a9N:=(h,v)::a4t fy
oo a b:=o h' a (pa b) (Q ai tF)
Ds d:=by rw[bn b U (m b _ pH dr d)]
a9O:=an (J.drop EB) (alX-EB)
Dt a:=fY (L M H (fun v a8=>CH (A M b7 a)))
a9P:=by have:fl []=ng:=bI;rw[this,Ge];rfl
Dw a:=fun b o h2 e2 z=>a
a9Q:=(Nr k []).foldl BV (J,Nq)
a9R:=rd bh TO a b
a9S:=hX eE eF p=ab
Dx c:=M (eW a b) (BA c d6 c3)
DA a:=∀(N:cI)(c J g:Nat),a
a9T:=ap H ro (aOz J) q
DC a:=by have c0:a=0:=by have:=I.adT 0 VJ;simp_all
a9U:=fun j y t b4 b9 e7=>?_
DD a:=fun au s M H Q I hw=>a
a9V:=⟨4,16+aDk⟩
a9W:=⟨bI,x cT⟩
DE a:={P with main:={P.main with body:=a}}
a9X:=ey (arC b) aun._auto_1
DH a:=zf (cj (e5 ⟨a,k⟩))
a9Y:=cv (v a<=b)
a9Z:=e (a3.trans z)
a90:=by (try with_reducible refine ED)
a91:=aK (W.mpr e5)
a92:=.ys EI (.lst OT)
a93:=.ys EJ (.tup OT)
a94:=s.heap.Ns oL m
a95:=cv (y.1∈aB2 fM)||cv (y.1∉N)
a96:=r.R_ c1 (ahk c1)
a97:=r.pin (b,o) a7B
a98:=max (eK lP) (eK lT)
a99:=IsTup.new _ _
a9_:=O.any (e7 (yD y x))
a9':=Ho (au (#[]:dU))
a_a:=by rw[<-UQ ag,<-UQ C]
a_b:=by rw[<-K3 h nd,<-ad4 h nd]
a_c:=ah2 (oK 1++G9 1)
a_d:=a6l ⟨al,I9⟩
a_e:=so _ (yG ah)
a_f:=bN (saveRecord wM)
DK a:=have z:=D_ (lE e).1;a
a_g:=.lst (av e) ?_
a_h:=b_ (o:=cP O o) c0
a_i:=b_ (o:=aGz) u0
op a b:=ajl (k:=a) (ab (ph b x))
a_j:=(Ob dm).toArray.push gk
DL a:=by rcases a with⟨_,q,_⟩|⟨_,_,_,q,_⟩
DM a:=by rcases a with⟨_,_,q⟩|⟨_,_,_,_,q,_⟩
a_k:=Gla.cuts a5x df
a_l:=bmq (agh D B) gU
a_m:=DU (DU 0 alY) aGK
a_n:=lM (GC c6) b8
a_o:=lM (GC b3) r2
a_p:=c6.imp (ai (aZL q))
a_q:=e9 e (fb a0)
a_r:=RU (k:=B) d5.l
a_s:=inK (K:=K) rfl
a_t:=aFB (bn [p.x,p.y])
a_u:=B.head?=aa 0
a_v:=Nz te z=aa (Gj r g)
a_w:=MR y.1=aa y.2
gl a b c:=by have:a:=qG (ai (wv b));exact io (bn this c)
a_x:=r5 (DL j xq)=ab
a_y:=a6E zI J.asked a=ab
a_z:=l.1.below l.2=ab
a_A:=fun q e0=>?_
a_B:=fun u hu=>?_
a_C:=fun le j3=>?_
a_D:=L (iV mS m) AN
a_E:=t a2i (a2s I.bk)
a_F:=p (k+j) x=ai
a_G:=NO tV++[mU[tV]]
DN a:=by {intro c o g7 nc;rw[bW (J ah)];exact a}
DO a:=by rw[zq]at J;rw[hM];exact a
a_H:=fun _ _ _ _ n=>n
a_I:=as ⟨ay,ay⟩
DP a:=bn (nc (at4 b p a))
a_J:=ff "cell" (.cell ae)
a_K:=ai (L.ne Y zz)
a_L:=ad J (aC CR (g2 e))
a_M:=ad r (afY w r a7)
a_N:=fF (fun c1=>?_) (fun c1=>?_)
a_O:=fF (fun d=>?_) (fun d=>?_)
a_P:=fF (fun e6=>?_) (fun e6=>?_)
a_Q:=(dm a==dm b)
a_R:=by rw[bJ (ait (si (t pj a0)))]
DR a:=ea (aCN i) (bo (! a))
a_S:=ce (t aGa=n)
a_T:=am t (zs.map cp)
a_U:=bj (dd c2) Q
a_V:=by refine fF (fun f=>?_) (fun f=>?_)
a_W:=by refine fF (fun a3=>?_) (fun a3=>?_)
a_X:=aK Z (O x≠[])
DS a:=ac (sk EK) (sk b8) a
DT a:=f4 (aFu C H L v a tk)
oq a b:=Y a ["neighbours","came_from"] b
a_Y:=dJ (f[i]?==xr)
a_Z:=c8 (g (W.sub _ h))
a_0:=by rw[cb (x (aCT f) W)]
a_1:=by rw[cy (x (sY f) W)]
a_2:=fun(n:Nat)=>cK
a_3:=eb (vz t ((g0 (13+n)).j+o))
a_4:=(OW).head?.map bp=aa c
a_5:=(OW).getLast?.map bp=aa c
a_6:=¬gO (jH r d3)=gO xB
a_7:=fs (cr (r a) (r b)<0)
DU a:=an ["value"] "value" a
a_8:=ce ((aGa).findIdx? fM=ae)
a_9:=em (l+b) (J+a)
a__:=em (b+d+1) (a+c)
a_':=eo (l+b) (J+a)
a'a:=eo (b+d+1) (a+c)
a'b:=ds 5 [k,q.x,q.y]
DW a:=(ax (tr H) (Mb (GM.aut C a)))
a'c:=(aa (aeH r l),aa (aeI r l))
a'd:=dt (ig x) (g1 y)
a'e:=typeOf X9=eU (.type "method_descriptor")
a'f:=L k=aa (aC A (sL xk))
or a b:=vZ a b (fun _ _ z=>MO z)
DX b:=hv (L b (fun o=>(a,o)))
a'g:=eS (F a b) (G a b)
DY a:=(eC=0->∃n:UInt8,a)
a'h:=fun j x S=>?_
D0 a:=by {rw[YD,l a,l aGJ]}
a'i:=(Je+v hi)/2
a'j:=aB8 d alI sW cF
a'k:=hr "__setattr__"=aa (aa (.builtin "object.__setattr__"))
D1 a:=bm a p.x*bm q.y p.y
os a b:=cd (Ni c2) (J (Mx p a)) b
a'l:=hf (iV ic bmr) p
a'm:=qA Z v (ew d3)
a'n:=eI AJ j.1.2.1
a'o:=hN (Yl/\e.2<aJ)
D2 a:=hR (z o a (∀v,gB≠.cell v))
a'p:=fun _ _ _ e=>e
a'q:=iE EH (c+1) J
a'r:=go (ako i) (II row)
D3 a:=z m a (∀c,aBv c m=aa (j c))
ot a b:=ln (∀w∈a5 v,a->Z v<=b)
a's:=fI "links" X
a't:=by injection a9 with a9 _
a'u:=by injection d' with c5 _
a'v:=PG X (gM pos) (KC i)
a'w:=(w g-w g')*c e
a'x:=Z (T v) (dL (lB (c5 e))) 0
a'y:=df (du 0 (hI E)) (ie+VY+1)
a'z:=ahW R J i t w
a'A:=iK H (mY r t)
a'B:=oF K p.1 (dp p.1)
a'C:=DW B (e.1,e.2)
a'D:=E b (b∉B) (par b=ae)
D4 b:=z a (mg x=aa bc) b
D5 a:=by rw[bA];have:=a;exact cf this fw
a'E:=fv d5 A t h4 E s
a'F:=fun v a8 a4 p=>gJ
a'G:=a (.int oQ) H ro (rt (dE+1)) q
D6 a:=ayl h' e it a d ab u
a'H:=.ins C aO []
a'I:=iE N ec (dj hh E)
D7 a:=by cases a with|some e=>{rfl}|none=>rfl
a'J:=fun J h1 e0=>?_
a'K:=le e.2++[e.1]
D8 a:=aJ (by rw[bJ (HM S)];exact Y.Lf a ag)
D9 b:=fun o d0=>f o _ (.inr d0) b
Eq a:=fun M H R=>h8 M H a
Ev a:=by have:=a;rw[bX bms (qP aQ)];exact this
a'L:=by rw[cz,wH (bU hi i0.l)]
a'M:=br i0.l d1 fw
a'N:=by induction h with|nil=>{exact s}|cons J t i=>rw[cA J i]
a'O:=fun w hw=>h w (ck hw)
a'P:=tj (Wz AM) mS d8
EP a:=vp (fun i1 j5=>M=a)
a'Q:=.Compare a [j,f] [b,c] pos
a'R:=by obtain⟨g4,g8⟩:=aXs e0 g0
a'S:=∀f∈bH J,Yw
a'T:=mV i _ (dd a5)
cz a b c d:=by have a:K a3 b c:=by have:=gz (J z[0]?) d;rw[gf]
a'U:=cz de (p.y<=r.h)
a'V:=by have⟨dx,hd⟩:=mV
a'W:=iU "min" "min"
a'X:=⟨(ag),fun t c6=>?_⟩
a'Y:=pb (a1p cF x u)
a'Z:=GH K mg x (kv cp)
ou a b:=aj d (bV (a++go (akK i) (gF b)))
a'0:=pc (F3 e8 [] E0 t)
EQ a:=(f b o (b∉a8) (b≠r) (be (b1.get? b)) a)
a'1:=Iw _ _ a5u (XM _ _ aEF z1)
a'2:=Cg R K G l Y
E0 a:=i2 (aR H c1) (.bool a)
a'3:=Sk (aYg rfl) bI aj2 au0 (dY aq)
ov a d:=CD (e [cC,jN] tH alR a d)
ow a b:=∃F,yU (L d=aa a) (hY<=i) b
a'4:=∀v,aa (ajk j pC) pC
a'5:=cg (h6 (sp (all z (ck c9))))
E1 a:=kq b9 (en b o a d0)
E2 a:=i aY tW (J x H Q) a
go a b c:=i aY a (t b M H Q) (dg c (fun _ c1=>pi (Q g0 L)))
a'6:=lL++[((hJ).hash F,dm (ad i))]
E3 a:=fun b o e0=>by rw[aJ e a0 e0];exact a
a'7:=ce jz (dJ (ai_ b (p+2+8*i)))
a'8:=ad x (x<n) nq
a'9:=uW X.K H p d7
a'_:=fun v i3 d6 h6=>?_
a'':=fun j x y=>aa O x/\aa d7 y
baa:=fun i x R S=>?_
bab:=fun m x c4 S=>?_
bac:=a [] H I .nil h
bae:=by rw[i0 s (av (br e5) ag)]
baf:=fW X.K H p d7
bag:=(mI x&&mI y)
bah:=v7 (t ow AB)
oz a b:=by {refine i3 Z a;rw[fE y y];subst e y;exact b}
bai:=by obtain⟨C,a3⟩:=g 0
Fa a:=∃ar:aM,EA/\a/\Jg
Fg a:=∃vs:aM,a1 iO/\Px/\a
baj:=fun f W=>eW (a3.2 f W)
bak:=bj (cj (e6 (d8.mp k)))
bal:=by rcases b3 with b3|rfl
Fk a:=∃g7∈dR Z,∃g8∈dR Z,a
bam:=er (iM b:j+1<n)
ban:=fn x=aa (ac (dp x))
bao:=by rw[C (aFL d0 d ?_)]
bap:=by rw[C (aFL d0 hd Yi)]
baq:=ax sl (gQ b) {o with slots:=sl}
bas:=bo (aeL r eL&&dk tP)
bat:=aJ (hw x (by simp[du]at S⊢;exact .inr bG))
bau:=by rw[v (v o e ex.1) (fun a b9=>?_)]
bav:=wc (MF e (aa (gM E)) MG cF)
baw:=by rw[aj b5 a7U (dL (b_ a3) a9)]
bax:=bv h.b (jS b4.n)
bay:=bv h.t (jS b9.n)
baz:=by {next h=>rw[lX];simp[h]}
baA:=by rw[ae b4 (i e) (w g-w g')]
baB:=(n,.free)∈d
baC:=(x,.cell)∈d
baD:=a1 ?_ ?_ ?_
Fr b:=∀(l:ao)(a:Nat),b
baE:=bp (bh (lA alF)) e.2 (gZ (cd aGl+1))
baF:=b7 (a6M Ir aEO) N_ a6L
baG:=b7 (a6N Ir ajR) N_ ajQ
baH:=bm (za O) a Z
FB a:=M (er "list" a7j) (aX_ a d6)
FM a:=M (er "list" a7k) (aX9 a d6)
baI:=by have e1:h∉bX:=J (bv (fZ _ z) (gv et q))
baJ:=by have e1:hg∉bX:=J (l7 (fZ _ z) (gv et q))
baK:=(IC D (f_ 0),jO,jL D.w)
baL:=(IC D (ga 0),jO,hi D.h)
baM:=v vs ak (oX p)
cA a b c d:=by have a:b<=z_:=by rw[ik c,bX sO cj];exact d
baN:=r_ (J=w/\fY J c1)
baO:=r_ (J=a7v/\Q (m6 ck) c1)
oC a d:=bD a7c (fun c b5 e0=>dL a r2 d)
gr a b c:=by cases q:a with|true=>{rw[fw b]}|false=>rw[fw (d1 (by rw[aO c]) _ eg)]
FQ b:=fun c8 O=>bi b b7 O q2
baP:=x (acV f (aC c9) (aC d1))
baQ:=x (acV e5 (aC c9) (mh d1))
FR a:=wn (B c o (sm c o e) a)
FS a:=∀(pins:bw)(s:Shared)(M:St)(H:Hp)(Q:AI),cv Pl a aGP
baR:=wb (cb (lp w) aGv agN)
baS:=wb (cb (lp w) (wp w) alW)
oD a b:=S_ r (HK r a) b ⟨r.w,r.h⟩
baT:=WR (bo (alQ&&dk Jj)) tv gS
baU:=f6 _ _ f5 j2
baV:=Ct th pd D j x
baW:=Ct OC Ei D j x
FT a:=Un (uT oM) ch H L bh a
baX:=nN (f_ D.h) (hi D.h)
baY:=nN (ga D.w) (jL D.w)
oE a b:=i 3 akl a (dP bb (dO (b4 aw4 bb))) b
gt a b c:=i 3 a (bh azq aw b) (dP bb (a7 azS bb)) c
baZ:=a1 a6O/\k=(v a6O !=0)
ba0:=a1 a6P/\k=(v a6P !=0)
ba1:=by rw[e Z L t hK t hK]
ba2:=by rw[e Z L t (eq cW) t (eq cW)]
ba3:=fun g0 L u=>kc n Pm
ba4:=fun g0 L u=>kc bx (aS bx i)
oF d e:=∀a b,j I1 OF (a≠0) (b≠0) d e
oG d e:=∀a b,j I1 OF (a≠u) (b≠u) d e
ba5:=(fw a.x p.x+alf*bm a.y p.y)
ba6:=(fw b.x p.x+alf*bm b.y p.y)
ba7:=by rw[ml a7D (items_int hi)]
ba8:=⟨(a9 x m).1.go t,(a9 x m).2⟩
ba9:=by obtain⟨t,a⟩:=ave a
ba_:=by obtain⟨b1,a3⟩:=O.at_
ba':=by obtain⟨c2,M⟩:=d.at_
bba:=by obtain⟨e0,g0⟩:=a
FU a:=(at8 (fun i p c2=>a))
bbb:=mU[R.d]::aC' jJ
bbc:=show bmt a eT from p
bbd:=j.1.2.2 p c2
bbe:=eV rk ed (bp b)
bbf:=mn iq Oz (v,b)
FV a:=(jG a).reverse.map rv
bbg:=asM n (fm (h t Jd))
bbh:=k b7 (B xt b5)
bbi:=aDO (bt (yO mS m))
bbj:=P (Iv bt (n-1)) v
FW a:=x (FQ (aC a) (mh b3))
bbk:=by rw[a4 Gz];unfold readSteps;rw[Pn]
FX a:=E H (j a H) (k H)
oH a b:=M (.Constant a j pos) (tC b)
bbl:=a1 (bx+zs.length)
bbm:=ax (ne h2) c9
oJ a b:=by {rw[tJ,a9 J d5 a];have E:=vT;exact b}
bbn:=fun i v=>z e aGn (v=e.2)
bbo:=by rw[a4 r1 (vS (v a8 r q))]
bbp:=ap (a5 t) (c t) y
bbq:=by have e:v R.d+1=ae jJ:=by rfl
oK a b:=by {next l=>rw[bJ a];have:=eb _ m;exact b}
bbr:=(fW K H p d7\/nb d7)
bbs:=CP (ah6 (aCz alG e e))
bbt:=fun v e4 d9 d3=>?_
cE a b c d:=by have a:X≠b:=by have⟨lk,e,_⟩:=c;exact em d
bbu:=bo (v<0) (gw v cK) (j6 a1R)
FY a:=∀(m:Nat)(h:Ln),a
bbv:=bV (f++gF 2 0)
FZ a:=by rw[aK (akK (i+1)) (akK i) n a]
bbw:=¬(bp j).below eG=ab
bbx:=rI (.seq a1' C)
bby:=by rw[al (mO (cr x J) 0),l q];{have:=s_ q (eW hw);grind}
F0 a:=d [] ak a_ (an a)
bbz:=ab p ?_ eg (aP b U)
bbA:=(GM.aeq Z t).1 e
bbB:=by {intro p c2;simp[Lz]at c2;grind}
bbC:=U d4 d (bV e)
F2 c:=l a b (R a b) (R b a) c
bbD:=HV w h pts aiD tk
F3 a:=PC X .NotIn i o (ayg a w ab A l)
bbE:=by obtain⟨a7,e5,i9⟩:=LE
bbF:=D uY aq nK cu
F4 a:=∀(j:Nat)x y,Ep->K l (j+1) y->a
bbG:=O[c0]?=ae\/d7[f7]?=ae
F6 a:=N_ _ _ e6 (Ir _ _ e5 a)
bbH:=j h' D (OZ) (Q .none nr)
bbI:=by rw[r le (vn Ez) (av F) EE a7x]
bbJ:=bH e (A (bH iZ) e) (hw iZ) (j_<0)
F7 d:=∀a b,c (a<n) (P a) (b∈Nr a []) d (P b)
F8 d:=by rw[c dl b (gO rm) f _ rfl h3 d]
bbK:=by obtain⟨lk,q2,d⟩:=h.k
bbL:=this _ x S jR
bbM:=(a4Y a4Z).blt (C_ ht) (ls.map ht)
F9 a:=aFr r.w r.h a Pp a7O
oL b c:=b->F6 K H O c7->cs bc c
F_ a:=P e (k<=j) W e a
Ga a:=fun b c5 q=>o0 (by rw[bW a,q];rfl)
bbN:=by intro b7 d7 b5 b9 f6
bbO:=by intro e4 d7 d9 g5 e2
oM a b:=by have a:((Expr.Name y r).pos.line==b)=ab:=a5
Gb a:=f8 "number" "number" a
Gc a:=o L Az (dH L (ih a)) (r6 1)
Gf a:=e [cC,ny] alH (bh d O_) (j5 n) a
bbP:=CT (Z.ok.lt e m.1).2
bbQ:=CU (bv wz (cn An this))
bbR:=pg (by rw[nl it,bY];obtain⟨o,e,c,d⟩:=st;exact a7G)
Gg c:=∀(a b:Nat)(h:Ln),c
Gi a:=∀(l:I5)(i:Nat)(c:I5),a
bbS:=by intro e4 ns d9 g5 e2
Gj a:=by obtain⟨b6,Z⟩:∃z,z=a:=ei
bbT:=by {rw[bj (J (q (ayD z))),W m];simp[q]}
bbU:=by rw[CX (asW d5 Y G P)]
oO a b:=fun(n,k)=>if a then(n,b)else(n,k)
oQ a b:=c0 ⟨a,p⟩ _ _ ?_ b lQ
bbV:=(kv (c8 (o8 m))).foldr (· + ·) 0
bbW:=aEN _ _ _ T (fun b d0 o e=>?_)
bbX:=by rw[nW Ja (CR (W b z).1)]
bbY:=bl O K O ((hJ).is bh O (ad j))
bbZ:=fun e a x a8 m a4 d0 n=>?_
bb0:=CZ (bD a7T (fun d c8 P=>?_))
aS a b c d f:=e a b (oo bS) (cj "row" c) (ci d f) kK (mq bE)
bb1:=n2 (aa y) (bE t)
Gk a:=opI (fun i j _ _ _ _ _ b0 q=>a)
gw b c e:=a x e7 d X c7 I i b (a rfl c e Z (fun b7 b5 O=>?_))
bb2:=by {rw[dC,dC,ph,ph];decide}
bb3:=by obtain⟨n,j2⟩:=d1 d3
bb4:=by obtain⟨j8,l9⟩:=U.at_
bb5:=(0::gF 1 ff:aDP)
oR a b:=∀p:Pt,bE ((a).contains p) b
bb6:=iC (MR y)/\(jU (aB6 y)\/iC (aB6 y))
bb7:=["p","q","r"]
bb8:=[xb,.ref i7,b8]
bb9:=clF K (dp p.1) p.2
bb_:=oE p.1 p.1 p.2
bb':=by refine k _ _ (wV xD) (WN a5) ?_
Gl a:=.inr (v y (bO b6) a)
bca:=p z.1 rn z.2.2
bcb:=by injection b4 with b9 e7
bcc:=by injection b9 with g5 i2
bcd:=show bmu<gD from hu
bcf:=by rcases c3 with c3|c3
bcg:=by rcases b6 with b6|b6
bch:=Mod X.K mG sP
bci:=∀d∈c7,aGr
bck:=by obtain⟨_,o,d0,_⟩:=bmv U
oS a b:=c0 a (by delta uT;rw[He,W];exact b)
bcl:=by obtain⟨x,S,_⟩:=mx p pJ
bcm:=by obtain⟨i,hi,_⟩:=a8 m x Z G
bcn:=z.sameBut c0 (f y c e)
bco:=.Tuple c B T
oT a b:=f7 a _ alL (h.azL (dx:=dx) b)
cF b c d e:=CV (a:=aO) (o:=b) (h':=c) (t':=dE) d a_ e
bcp:=by simp only[aiW,CA]at b9
bcq:=max (v+cK) 0
bcr:=BD (vn B) (hz e.1 e.2)
bcs:=a6Q _ (oO j.1) rfl
bct:=fun{a}l=>he l b2
bcu:=by rcases mem e with⟨a3,_⟩|⟨a3,_⟩
Go a:=eW (x (rX a U b3))
Gq a:=low a (by delta iD;lia-abstractProof)
bcv:=N.SW (Ny iT) G H
Gr a:=ahN (i:=v) (j:=e.2) m.2.2 a
bcw:=aRQ Y (ai (c (a5C q)))
bcx:=aCY (ch (vP (hX pz rl)))
bcy:=by rintro(l|⟨a7,d5⟩)
bcz:=aSi C q.2.symm q.1.symm
Gt a:=auD W (fun Y i l h=>a) d1
oV a b:=yU (SB [X] a L) (C1 L) b
bcA:=aWs (bU c7 C.g)
Gv a:=d6 (m:=a2Q x) n2.2 (oU a)
bcB:={p with j:=p.j+1,more:=iW-1}
bcC:=putSet_of D t' hd
bcD:=hG.keys.qs (fun b o U=>kp b o (.inr U))
gx a b c:=d6.extBut _ _ a (R.extBut _ _ b c)
bcE:=afl a7P bP (GN K aq)
bcF:=GM.BX r (bp t) akS
bcG:=v z.1 (c6 _ _ rn) z.2.2
bcH:=by obtain⟨k,h9,r,h8⟩:=c;exact again r h8
oW a b:=by {rw[bD a];delta vF Xy;simp[pe b]}
bcI:=jX/\dz/\alV
oX b c:=by have U:b=t:=by delta iD;rw[a.2];exact c
cG a b c d:=by {have a:b=j:=by{rw[a13 b1 c]at a3;exact c_ a3};exact d}
bcJ:=E B (k=aa B) (aiI B)
bcK:=by rw[C (aXQ c9 b1 (fun b3 k sa=>?_))]
bcL:=by rw[C (aYv c9 b1 ?_)]
bcM:=U g6 z [xb,xb]
bcN:=Inv X au (aBl i pC) H c1
gy a b c:=by {rw[q];obtain⟨_,a,_⟩:=b;exact ft c}
bcO:=a1 (t (B++a6R f))
bcP:=j.cls=rp/\aj<=d
bcQ:=Z (sq j) a a7Q
bcR:=V l g (l.1∈pts/\l.2∈pts)
bcS:=ax (ls hu) (aP u ak)
oY a b:=an (eR (mr a b e) (wm e))
bcT:=ce ((i.endLine==a.line)=ab)
bcU:=by rw[bC i u (all v fu)]
bcV:=ch (gF 2 l.1++gF 2 l.2)
Gw b:=bN (T.GX b s e c2 a0) a
bcW:=(z x xN (p i x=ab))/\P x (j<i) l x (p j x=ai)
bcX:=by rw[v cT (fun n k7=>?_)]
bcY:=bl (Io (.builtin "min") [cC] dfl)
bcZ:=(p,w)::aBK vs
bc0:=a0 (iD f e) kE (a2J _ _)
bc1:=a0 (oU f e) g_ (a2I _ _)
oZ a b:=o vs a (dD (R H) vs O) b
Gz b:=fun a h=>by have:=b;rw[aQ7];simp[*]
bc2:=X "answers" acL ["calls"]
GA a:=hf (l M H (jA (A M a8 a)))
bc3:=ad t (t<n) (0<=f t)
GD a:=aj lq nB a (dO nB)
bc4:=bU (wy bx oQ) z1
bc5:=as (dd a5) q n
bc6:=by rw[aO n d1 (axL k i j)]
bc7:=fL ((mH MM).push (U6 C aO))
bc8:=db (e6 b U).clean
bc9:=by {rw[c0,<-a7,UW];rfl}
GE a:=by rw[dm t' (dv (∃t',v=W5 j t') a)]
bc_:=bm ald alc*z.x
GF a:=by {rw[jM nO];have:=a;rw[Hx (fX (gv z.g fj))]}
o0 a b:=by have i7:a=b:=by delta tu;exact bA _
bc':=by rw[bF U J (oA p (y O (zH q)))]
bda:=aC C (kk f y G)
cN a b c d:=by rw[ak e8 a b (by rw[jw ir,b2 Ym];exact⟨c,d⟩)]
bdb:=by rw[cb jd (v e (.inl a0) (sj sd))]
bdc:=j a s (Q a s) (h4 a s)
bdd:=by have W:=B (cP s) (GC (o:=cP O o) c6)
bde:=by rw[fw (fin h6 _ eg)]
bdf:=bp (tm vn) e (gZ (cd Ed+1))
GH a:=om P w H (h.push aGc) mC a
bdg:=br hd.l alE b8
GK a:=c_ ((a).isNs CG) ((UX []:fq Vc).size==0)
bdh:=fd (k _ _ xD a5 ?_)
bdi:=k7 (be E F G)
GL a:=by rw[fG ((hJ).pyHash r1 a fN)]
GM a:=gP (cy (show p∈a from c2) jI)
bdj:=by intro au s M H x v Q I R h
GN a:=by have b4:[e].filter a7J=a:=by simp[f5]
o1 a b:=X a b ["call","numbers","row"]
bdk:=fun b u q _=>⟨u,Yc⟩
bdl:=by delta H0;rw[h];simp only[at9 F,a0]
GO a:=fun b o e5 e6 q=>a
bdm:=∀j,xj≠.dummy
bdn:=∀b6,Gla.take f_ alS≠.ok b6
bdo:=b2 "call" "numbers" "row"
GP c:=∃i L,N (Inv Jn [] (ahq M alk) L c1) (l i mD) Ys c
bdp:=(NL<=100000/\∃B:eh,eB<9000/\aK pts nq)
GQ b:=fs cm (m t O o b)
GR b:=i J _ dx _ hd gH b
GS b:=i x _ dx _ S gG b
o2 a b:=dG a (hX pz rl)||dG b (Lm r l)
bdq:=rd cN w bh q b
bdr:=by rw[(c_ a),(c_ b)]at e
bds:=by obtain⟨_,_,_,_,o,_,_,e,_⟩:=x;exact hc
GU a:=dD (zc u gh H) vs a
GV a:=PG X (.Tuple a7 k pos) (aqS a n t)
bdt:=by delta Gla.STEPS;simp at c1;lia
bdu:=lq ((AE).1 (a1P d3).1)
GW a:=fun b o _ U _ e n=>a
bdv:=∀i x M H,nh->akV->be x M H aGm
bdw:=nH (j (i+1) (U e4 D (eA B))) (j (i+1) d4)
bdx:=dm iu::(b1++c7)
bdy:=k b u (U b n) q
bdz:=by rw[Pz];exact⟨u,bj e (vG k)⟩
bdA:=m0 (o z u hu)
GX a:=by rw[c9 (zD l a) h (cy this (mv _))]
GY a:=lF (E p (Y p) (Q fO a))
bdB:=by {rw[Ek,El];rw[vG h];rw[r8 (aAK k)];rw[e];constructor}
bdC:=oY (be I d0 K)
bdD:=akr n++gR t::Om n
GZ b:=by rw[He,aCX,b];rw[li (p a)]
gz a b c:=(bi (bp a).y z.y&&(bT z.y (bp b).y&&c))
bdE:=fun b o U z=>x b o (e7 (U (ar y))) z
gA a b c:=dst lR a=cu b (ly [0,0]) (aa (o9 c),[0,1])
bdF:=nm (z O YA (h.DictOfH (U8 tI) a O))
bdG:=o3 (k it bK _ st)
bdH:=ey (l+b=J+a) akJ
bdI:=M3 (jp (kV d.1,d.2))
bdJ:=d ae ae ae rfl
o3 a b:=by rw[Ef];cases(a0 T a A);exact⟨b,fun _ e=>nomatch e⟩
bdK:=j b c5 (fr (.Kt c5)) (ax a (L b) (.Kt (c5++a)))
bdL:=bm q.y z.y*bm z.x p.x
o4 d f:=∀a b O d7,e [bc,cW] Yv (fW K a8 b d7) d f
o5 c d:=b _ _ rfl rfl c _ rfl d
G1 a:=Iw _ _ e6 (XM _ _ c1 (Iy _ _ e5 a))
bdM:=∀v,ap ak5 o rx
bdN:=(AD).push (l6 "list_iterator" #[Yh,hz 0])
o6 a b:=av ak (er O a (ay9 n (lw (e7 t b))))
bdO:=by have g7:X8=a7m:=afy c5 gg e.2
bdP:=by rw[aS b (cd 256^4) (2^32)]
bdQ:=bn [gM E] e pos (adf b8 (KC i))
G3 c:=∃a b:Int,∀z,c=a*z.y+b*z.x
bdR:=by obtain⟨w,n,W⟩:=ahe a9
bdS:=by obtain⟨n,d1,a7⟩:=axL k (g0 13).i e
bdT:=oE "__init__" p.2.1 p.2.2
bdU:=oE p.2.1 (aS p) p.2.2.2
gB b c d:=∀a,i (x=bc) (∃O,b) (R c a8) d
G5 a:=by obtain⟨vs,a3,a9,e2⟩:=a
G6 a:=by obtain⟨vs,d2,q2,q3⟩:=a
bdV:=er (cw hi a:i+1<n)
bdW:=Oa N d5 (f7+1)
bdX:=Oa c2 a7 (c0+1)
bdY:=(tn cA i f).2
G_ a:=by refine Lf Z al (HM a).1 ?_;simp[*]
bdZ:=by {rw[cE b8 b8];exact ei}
Hc b:=by rw[j ?_ NN b Y.Lx (v aiM Y.st aks)]
gC b c d:=by rw[w vs rfl d0 g b];obtain⟨a9,c0⟩:=c;exact d
o7 a b:=by {rw[ea a];rw[ajD,cO];rw[aj (ea (J b))];exact bF (mQ (cg xw))}
gD a c d:=f x dx a c (dx≠x) (e8 (kN::(vs++b)) d (fun v b7=>v= .bC/\Q kN b7) E)
bd0:=bk ls (gN x.1/\gN x.2)
bd1:=fun(p q:Pt)=>xM
bd2:=fun c v _ q=>k c v q
bd3:=by rw[Q rfl dp _ (as (jm.t (k:=tZ) c3 U))]
He a:=∃i j,x=hP/\y=IY/\a
bd4:=by have s:=ex (au gA) fY (i8 fY)
Hf a:=by have b4:i1 h.1 h.2=a:=by rw[ud];rw[d2,q2];grind-abstractProof
cP a b c d:=by have a:b:=fun p c2=>⟨ht (aCR p c2) c,ht (Y.BO p c2) d⟩
bd5:=XM _ _ D.TOi1 (Iy _ _ aEQ n)
gE b c d:=a Vb agY zh aif b CI Hf Mz c eo d
bd6:=fun v b7 b5 p=>iN eN
bd7:=wo (by rw[bY,a4 cr];grind)
cR c d e f:=b T.TU agu (dq c) ls d rfl rfl (aJ e f)
Hg a:=C M H (fun o a8=>ti M a8 (fun i b7=>a))
Hi a:=ch "data" "told" "data" a
Hj a:=by rw[S g b4 aGO g (kk a b4)]
Hk a:=by rw[S sl b4 a7V sl (kk a b4)]
bd8:=f9 a7j (g6 (e0 (jP "enumerate" [e])) [])
bd9:=f9 a7k (g6 (e0 (jP "zip" XR)) [])
bd_:=b7 (b7 (a6M Iy aEO) XM a6L) Iw a5s
bd':=b7 (b7 (a6N Iy ajR) XM ajQ) Iw D.l2TO
bea:=by rw[fe b (J.2*J.2) J.2]
beb:=⟨cf et fj,cV fj⟩
bec:=by exact ft (show bA a _ from x)
Hl b:=∀(cs:bL Codec)(a:aDA cs),b
bed:=by obtain⟨I,m2,m3⟩:=(XC dk f9 (v ns g5 e2))
bee:=by have q:qC d=ab/\sC c7=ab:=D_ p
bef:=fun n k c=>rfl
beg:=[vn z.y,vn z.x,vn num]
Hm a:=∃f:ba,a=ajX O/\aK f (x∈Z)
gF a b c:=∀F,i (bh d tY) (hY<=a) (b) c
beh:=by simp only[hy,fJ,aCw]at S
bei:=au1 K mg "NUMBERS" au4
bej:=by obtain⟨_,_,_,q⟩:=c0;exact MO q
Hn a:=by have:=a;rw[am (Mn (VW h))];exact this
Hp a:=by rw[ci I.eq];rw[a7W,a]at q;exact q
bek:=j j x (f j=aa x) (x.1=j)
bel:=fun z a8 a4 a3=>?_
bem:=ac (alM++[f5]) t
o8 a b:=by rw[xg];obtain⟨b6,d3⟩:a:=e;rw[tJ];exact b
ben:=by have⟨b1,q2,_⟩:=h.s
Hq a:=ac (dw (J+2) (1+(J+1))) LU a
Hr a:=aiA++(le 4 r.w++(le 4 r.h++a))
beo:=da (f5.bs b o e).1
bep:=by rw[y le a7 (av (iP e5)) ?_]
ber:=ep B (bH B (dw a<dw b->OF->Po))
bes:=hu (an (a1Y rA) (Jm-rA))
cS a b c d:=by have a:b:=by rw[c];rw[cZ (ik i d),l z,az]
bet:=ap i hi (sk hi) e
beu:=F4 (aOC rfl) bI T.max aS_ aGq
Hs a:=by have H:=x a (show y∈ig i by rw[J d1 Ab])
Ht b:=∀(i:Nat)(a:Addr),Ey->b
bev:=mr g Z e=aa (g7,g8)
bew:=o x (cs x) (x.1=v) (o y (cs y) (y.1=0) (hI x y))
bex:=by rw[bo (ld (eq cW)) B U Z]
Hw c:=by cases q:c with|nil=>{rw[Yp]}|cons a b=>rw[q]at d1;simp only[oY]at d1;grind-abstractProof
bey:=eC (cc l6 l5) (tq (B (cP d7) l6) rv)
bez:=by have a0:A gU gU[i]:=pJ
beA:=by {rw[pk s];exact as (dx a7 ag) (br e5) pG}
beB:=bF tW nL (J x O H Q) (Io X9 (v::b1))
o9 c d:=b hd dR jA jq G rfl (cc c) d
Hy a:=ws (cx (b9 _ _ (c5 _ _ (g _ _ a))))
beC:=by rw[c p O i z rfl e0 a0 q h]
Hz a:=jk bb rg T.GO.h (sx aze) a6 T.GO.b .nil fp (dY a)
beD:=by rw[wD (ap c5 (br a3) qY a_)]
HB b:=∃(a:Addr)(vs:aM),iX b al0
beE:=W7 (a:=(dm it,[])) bI (bF (bmw c a (bF (a4O d0 hd (LX x.ti) ?_))))
o_ a b:=v (mi bI g4) (Dn _ _ bI ?_ a) b
HG a:=fun b u q n _=>Y a n
beF:=by {rw[dk pQ aGE,fW l_,J dC (ax cm lQ)]}
beG:=by rw[m g6 u o h5 h1 c0]
beH:=fun h' D k=>a _ H (MH k) ?_ q
gG d e f:=by rw[Q b d U e c0,cl (lt U),sw (u dh rfl b _ (b c dh rfl b _ _ rfl f))]
gH a b c:=aeX sx a0e a (eb (aa b)) f c ?_ ?_
beI:=by rw[y J dx hd gH (n1 dx hd)]
HH a:=by obtain⟨E,N,C⟩:=asI Y J _ a_ a d3
beJ:=f_ q (c_ h) (j h)
beK:=u ID L5 B (vn a[n]) (v (av d8) Pa (k _ rfl))
pa c e:=by rw[ev c (b hd dR H7 yW a dx _ (j hd dR H6 GR a _ (nV hd e)))]
HI g:=C2 (a x H (a7t) m g f (db (Ej).1))
beL:=n3 rp (gB=jq ar/\a1 MD/\iM O MC)
beM:=bZ (U0×cb×cb)
pc a b:=(ac eS (show a=b+1 by grind) k6)
gM a b c:=(l8 (jm.t (k:=L3 a) c7 b) (numOf _ c))
beN:=(ab,ab,aa (aa (a47 "object.__setattr__")),p.2.map a7q)
beO:=by obtain⟨h,i,P⟩:=a0
beP:=ey (lastMarks [j,f] [b,c]=ai) auh._auto_1
beQ:=p z.1 rn (aS z) z.2.2.2
HJ a:=∃(k:Nat)(l6:jK),a
HK a:=by obtain⟨W,⟨c9,b2⟩,turn⟩:=a
beR:=by rcases I.ok.stk with e|⟨e,W⟩
beS:=∀z∈Z++d,z≠y->Dh (r x) (r y) (r z)=ab
beT:=ew (x.above y c (oO h))
beU:=-bm ald alc*z.x
beV:=by obtain⟨j,Y,J,_,_,_⟩:=arb eo e
beW:=q y (ac Li (aK S) b6)
beX:=a1S lo hi 1 cK
beY:=by simp only[a3f,bmx,qN,MZ]
gN c d e:=asm (a:=a) (b:=b) a3 a9 (y:=c) d e
beZ:=by simp only[bH,da,oY]at c2⊢
HN a:=aRf iT N.frame T h a
be0:=ahN (i:=e.1) (j:=v) (h3 An) d3
be1:=aR0 F (a3t so++(aCY Gs++a3s yP))
cV a b c d:=atM (aep Y a) b a3 c (jV ah) (jV (aeK.mp d i hi))
HO a:=bmy (id':=a) En rfl cB En
be2:=aXh w r e1 a7
HP a:=(hJ).keeps a d0 hd c0
be3:=kp b u Yk (c3 b u z)
be4:=bmz (name:=G7 "__bool__") Z bmA ?_
be5:=wh (name:=a7p) Z bmB ?_
be6:=GM.BU a5 B par lo
be7:=Cg.mono dk R (v I (av m2) m3)
be8:=by obtain⟨f,⟨F,q,_,_,_⟩,_⟩:=f7
pd c d:=bmC c (fun a b h z=>h (iG z)) d
be9:=XA D lR (aa M) e
HR a:=by simp only[a21,fe,da,zq];exact a
be_:=by rw[l (asl nd (bo (by rw[(al b m).1]at U;cases U)))]
pe a b:=d a7s a b (fun p g a9 po a0=>?_)
be':=L ((l.zipIdx k).find? (fun(x:I×Nat)=>p x.2 x.1)) (fun(x:I×Nat)=>x.2)
HS a:=by {rw[cF o d0 a];exact v o (bT d0) J}
pf a b:=by {have:0<a:=by{rw[k1 (bmD h),l (a2V g g),l (hD g g)]};exact b}
bfa:=J (e (F8 aFO U I9))
HT a:=by rw[C (fd i _ (fun c o e5 e6 c1 q=>a))]
HU a:=by rw[C (aXl x c0 (fun e d a0 g0=>?_) a)]
pg b c:=by rw[j 0 p.j ag (fun f7 x q=>b) c]
bfb:=p.1=q.1/\iL q.2.1 (p.1.map kV)/\gP p.2 q.2.2
bfc:=m (.ref Vv) b7 d0 (q _ _ N)
bfd:=ab (cv (iI x=x/\x≠0))
HV a:=by rw[w b4 nd (ar i0) (fun i b U=>d [] ?_ a (al b (bO U)).2.2)]
bfe:=by rw[al (I.1.sound j b8 h)]
bff:=bN (bN (aFd d9) f9) R
bfg:=by have u4:num<a5S:=by rw[J p0 (bx t9)]
bfh:=by have⟨h,i,P⟩:=a0
pi a b:=o v (e.1<v) (v<e.2) (a≠b)
bfi:=bv (ar1 F k v) pN
bfj:=by obtain⟨ar,rv,e9,z1⟩:=CM b2
bfk:=I x (a1 v x) nq (Z v=nk\/gx (a5 x) (dw w=Z v))
bfl:=z i gX (eG=p)
bfm:=z h dF (alD=x)
HW a:=d_ 3 [ij,ih,jx,kB] a
pj a b:=fun v b7 b5 b8=>r4 (ef a (mO b))
bfn:=bm z.y p.y*bm z.x q.x
pk a b:=by rw[cb (aC2 l (sub l a5)) (v a (d b l a5 (ar HZ)) CP)]
aV a b c e f:=I c4 a (v vs (dR d2 b) c) (v b1 (dR q2 e) f) ake
bfo:=aK "steps" ls (aK "cartoons" g [])
gO d e f:=by rw[n a7 d5 d e ⟨f,fun l3 u=>?_⟩]
bfp:=by rw[eS (ax9 w r e1 a7)]
HX a:=bA i1 (Y i1) (dB eR L i1 a) (.ref i1)
bfq:=k7 (aa E F G H)
bfr:=ll F2 (ll yw (mP aq) (mP bS)) (ll yw (mP aw) (mP aq))
bfs:=v b (t (bj ne) h2) (J _ _ (n0 _ _ e2))
gP c d f:=by rw[na e0];refine c;rw[Q (.ref fI) d (r.laid (t':=ahA) (sl xm) a_ f) (q _ (ahk a_))]
bft:=gy×gy×gy×ax
bfu:=dw (k+(j+1)) (k+1+j)
bfv:=by rw[aK (Xv (k+1)) (Xv k) (z,num) o8]
bfw:=w g*c e-w g'*c e
pl a b:=by have:0<a*cS b:=x (rX id.n f6 e9)
HY a:=bU 3 a (c4 (hG bP aq) (d9 aw) (ss rr))
gQ a b c:=by have a:b=j:=by rw[a12 alB c]at a3;rw[Hn,<-a5];exact c_ a3
bfx:=cu n R.d (v n 1 ub bmE)
bfy:=by obtain⟨os,a,e,b⟩:=id c0
H0 b:=Im d ((Yy).update a (N7 Yr d8)) b
bfz:=by rw[aO m9 e.1 df (js C.1 C.2)]
pm a b:=fW a (vT (∃i j,O=[hP,IY]/\mV (if b then j else i)))
H1 a:=jk bS gG a6H (ez ayZ) a6 a6G .nil fp (dY a)
H2 a:=Y ["data","place"] ["data","place"] a
cZ c d e f:=b _ _ rfl rfl c _ d (ax rfl e (LQ f) ?_)
bfA:=bk i x (fh ls->(i<n↔NU x.1 x.2 z<0))
H4 a:=∀(pins:bw)(s:Shared)(M:St)(H:Hp)(D:Ends),cv (t D M H) a (SP X au D)
bfB:=by rw[e3 a6S F.ax6 (qL F.ax6 a6S F.aXb ?_ (F.aXd _))]
bfC:=oY (aa I d0 K Z)
bfD:=by have:min i cw<=3:=alO
bfE:=∀(p:Nat)e b,Ye->e.2=cW->¬aF8
bfF:=by refine f t (hz e.1 e.2) (.inr (cx ak)) (ai rfl ?_)
bfG:=bC (b+d) y (a+c) x
bfH:=bC (b+d+y) w OP z
bfI:=bD (b+d) y (a+c) x
bfJ:=bD (b+d+y) w OP z
bfK:=en _ _ (nT a l) z
bfL:=by rw[e3 Z a6T (qL a6T Z bmG ?_ (bmF _))]
H5 a:=∃O b,v=a/\zS bh O b
bfM:=by obtain⟨j,c,h,a⟩:=id L
H6 a:=by rw[fx];refine Oc (FX I d8 c4 d3 a d1 l)
bfN:=by rw[l (B ((aCE x S t Dn).keep r) g)]
pn a b:=by rw[C (ajU (aEe a s _ _ b z (fun v h' D C T Y=>?_)))]
bfO:=by have f5:alC=vg r z iZ++BX r z iZ:=by delta vg BX;rw[zC]
c1 d f g i:=by have d:de f (t<e.2):=fun e h=>by rw[ak b c g];rcases qO c with c|c;rw[l c];{have:=wo e a;have:=i;simp_all}
bfP:=em (b+d+y+1) OP
bfQ:=em (b+d+y+w+1) alq
bfR:=eo (b+d+y+1) OP
bfS:=eo (b+d+y+w+1) alq
bfT:=a.1*b.2-a.2*b.1
po a b:=jv (sc (kv a)) (sc (aDq b))=ar l m
H7 d:=b rfl c dh rfl b _ _ d
c2 a c d e:=by have a:bH Y c:=fun b U z=>by rw[wr (aFi U)];obtain⟨g,_,⟨vs,q,_⟩,_⟩:=d;rw[b2 e q,kG]
bfU:=by have g5:=VF (b6 e bK) (hw g bK)
bfV:=(bmH t a d pos).pos.line
bfW:=a6U (bE (f6 l.1) (f6 l.2) (f6 l.1) (f6 l.2))
bfX:=a6U (bE (hf OO l.1) (hf OO l.2) (hf OO l.1) (hf OO l.2))
bfY:=v c o e5 e6 q
bfZ:=a c m d2 q2 q3
bf0:=by unfold run;rw[a6Y,a6X,a6W,a6V];kernel_rfl
H8 c:=by {rw[bY];have:a=b:=c_ (bmI U);rw[gm];exact d ns (My (bx f5)) c c6}
gR c d e:=by have c:J.y=d->p.y<q.y->cE:=fun a b=>e
bf1:=bk F (GZ H x.2.1 x.1/\RB x.2.2)
c5 a b c d:=(ai (aj uX (dN aq) a (ij T.aVu)) (bU 2 b (j7 c)) (bo (dP xF (a7 azS xF)) d))
c6 d e f g:=by rw[n e5 e6 d e ⟨br f g fw,fun c1 j5=>?_⟩]
pp c d:=by rw[Q gk _ (CV (t':=dE) (o:=c) a7C a_ d) (q _ pR)]
c9 a b c d:=by have e6:a<=b:=by rw[k1 (mO c d)];{have:=bmJ g k3;omega};rw[l g]
bf2:=by rw[fb l1 c1 (iT j7 (fun le g6 f9 j3 LE=>?_))]
bf3:=l9 "min.loop" ⟨ea I .none r,dfl⟩
bf4:=b0 au c8 M d4 _ O q3
pq a b:=by have d2:t a=8*b:=ajl (ab (b0 qW cj ph ph)) _
H_ a:=by {exfalso;have k:kE=a:=by{delta iD;grind-abstractProof};rw[k]at g7 ov;grind-abstractProof}
pr a b:=by {exfalso;have k:g_=a:=by{rw[Jc];exact b};rw[k]at a5 ov;grind-abstractProof}
bf5:=ey (l+(b+d)=J+(a+c)) akJ
bf6:=ey (l+(b+d+y)=J+(a+c+x)) akJ
bf7:=afk y j c7 _ g p a9
bf8:=by simp only[iE,dj]at c;rw[c.1]
bf9:=["points","row","first","last","joined"]
bf_:=by obtain⟨v,o,d0,hd⟩:=aGt
bf':=by obtain⟨e5,e6,c1,i0⟩:=d1 c b0
Ia a:=∀(Z d5:Row)(g:Nat),a
bga:=by rintro⟨c,b0,d2,q2,q3⟩
aW a b c d e:=by {rw[I6];have:¬a<b:=fX (yr z c d);simp[this,rv,e]}
Ib a:=d (m9 J) CO a (fun o k6=>?_)
bgb:=aC bJ (vu C c ls X u)
bgc:=fun t l q u x=>?_
bgd:=ce (ag9 o c cF (e0 o)=e0 o)
bge:=by rw[ab b9 (m2 (bH ((e,g')::J))) (i e*c e+m2 (bH J))]
bgf:=db (d (cE Ej) (aV Ej) (bX Ej) (jm Ej))
ps a c:=fun v l=>a2 (e0 b) (fun u g=>a2 a c oN g) oN l
Id a:=by {rw[bJ a];have:=Hy e m.1 m.2;simp[*]}
bgg:=by {rw[a3 x S a0];have:=a3k S;rw[gf]}
Ie a:=by {rw[iI x S];exact v x S a}
If a:=by have⟨Y,n,n1,N⟩:=GM.auC a
pt a b:=∀{l:ba}{m:nG},fZ F->dD F a b
bgh:=∀x:Str,a6'->D x=vR x
bgi:=by rw[l h1 g6 g6 u o Y]
bgj:=Got cN w h' aO K a7 N
bgk:=by replace z1:aga g7 z TI TO .ellipsis fl:=z1
bgl:=ar7 a3R c0 (bD YE (fun u a4⟨x,a8,r,R,d2⟩=>a7F))
c_ a b c d:=∀(p s:Nat)e,a->b->Uu c k d e.1 s
pu a b:=v N [] (sX eK a b) (eb (x<ec) (eK x) x)
Ig a:=f7 z (.type "zip") (.fields #[a,I7,.bool ai,.ref TI,.ref TO])
bgm:=by have d8:eB<=n:=by rw[dj Xe (eJ n) (aJ (a08 (lt x S))),gf]
Ij b:=by rw[K _ (Uk (bl axi (cx ak))) (Uk (ns:=b) d0) (aJ tU tU)]
bgn:=mg O (fun J c1 h'=>by obtain⟨rfl,e0⟩:=h';exact cg (R▸e0))
bgo:=CY (aa (ct (L (dy aJ a7A) bp) (L (iU ak4) (mw Eg)) (a3A j)))
pv c d:=by rw[b x _ W _ rfl c gG d (as (aZj _ _ _ _))]
Ik a:=by have h:=a;delta aDI;rw[ajd,h.1,ajb,m7 h.2];rfl
bgp:=let⟨q,_,_,e0,_⟩:=p;alJ
bgq:=by rw[di,pB,di,pB,di,pB,di,cO]
px b c:=gb D n (A [bc,jf] Ag (j9 b) c)
da b c f g:=C3 (I c2 b (d.p.sb dk s h7 c) (d.l.sb iI s h7 f) (d.m.sb jo s h7 g))
bgr:=C4 (d0 au b5 M b7 x y v u Q Y R Z q)
bgs:=ag9 e f cF tD=tD
bgt:=(share (s:=a4) g7 g8 a5)
py a b:=(j l b7 (UC a8 b7 l a b) (Q cC b7))
p0 d e:=fun⟨a,b,c⟩=>v d e c
bgu:=topFrom aFN p w N (a (i hr) (UX []) d k os)
bgv:=by rw[HC,(aGG).1,LU,l.1,a7]
Il a:=∃a7,IsEnum h e it a a7
bgw:=cn (aPh O lo hi) c9
p1 a d:=∀p O i v,b x fO (y=hP) a (sr i) (AH->d)
bgx:=p z.1 rn (aS z) Ee (a2 z)
Im b:=∃(O:af)(x:V),jg/\b
bgy:=Inv (Vi E) au M H s
bgz:=PIE X au M c7 R
bgA:=a5 i M H hi p
bgB:=by simp only[n1,n2,u,y,f]
p2 a b:=by obtain⟨a,z1,h6,rfl,c9,_⟩:=id b
bgC:=by obtain⟨⟨a7,a0⟩,L,R⟩:=st
In a:=∀(N:cI)(c J:Nat),a
p3 a b:=by rw[o_ ag,a,hq (fy+(u+1)-fy) (u+1)]at b
bgD:=by rintro M L⟨rfl,v,rfl⟩
bgE:=aQF Y J F hw c6
bgF:=aRS N Y d (g x S) k5
bgG:=Tv X.K mG x st c5
bgH:=LO xA XS Ak I2 Pj
bgI:=aq_ lq lq bE (di cJ) bP
bgJ:=aD0 t DJ h r p
bgK:=W_ (bF (aFK c9 rfl (x:= .ref TO) rfl (bF (DP c9 pT (fun g7 z1 a4=>?_)))))
bgL:=IsZip h z TI TO .none
bgM:=fn c=aa (ac (dp c))/\ClP K (dp c)/\∀f∈l,b8 (dp c) f
Io a:=by rw[xu,dZ rfl h];cases Z;refine a;cases x<;>first|(rw[hO];rfl)|(rw[xg];rfl)
bgN:=by {obtain⟨_,_,_,_,o,_,_,e,ex,_⟩:=eo p _ c3;exact v o e ex}
bgO:=Al*g h+Am*g h
bgP:=by obtain⟨a3,b4⟩:=Xh a;rw[eB a9 (Xh b)];exact x (bmK hN) (a3x a3y)
bgQ:=by have e8:am (Nu z b) z 0=b:=aYJ (bU a0 u.g)
bgR:=l v L (cZ G L) (aj d (bV (B++a6R f))) (mF ak5 L)
Iq c:=i fI [fI] _ a8 (sh Pk) c (v Pq tX q)
bgS:=by rw[w (Y a5Q a6Z) aFO (t M0 aju) (fun j b U=>?_)]
bgT:=(bi (-v 2^63) z&&cv (z<2^63))
p4 a b:=f i j (x=hP) (y=IY) (mV a) b
w a b c d e f:=by have k1:bo (a>b) c d=e:=by rw[v4 f];{rw[aK (U3 k),HA (ew k)]};{rw[bj (bmL (aA5 k)),VG k]}
p5 a e:=j (bmM a) (afX bh a4L) (aO<=p) (gQ p=aa (a6z "list" d c)) (OZ) e
Ir a:=by show fv _ kz (a>>=_) _ _ _
bgU:=E h9 dy (.own y) y aGC
bgV:=fun(m:Nat)=>O[(xv+v m*1).toNat]?
Is a:=by have:=VF (by rw[k1 (qO hi),l (eW (Df g a))];simp[*]) (eW s);grind-abstractProof
bgW:=by have g9:Ob ng=Vq n 0:=by rw[<-i0];exact afI Y
u a b c e f g h:=by rw[eM (aRw (d:=Wj) (n:=aJ) (i:=a) (first:=b) (P:=P) c (ar Dq) (fun x y b6=>e) f g h)]
bgX:=by delta eV cr dir dx dy;grind-abstractProof
It a:=by {have:=a;simp[ic]at this q;exact cd (FR this q) (cj (ix k)) (cj (ix k.2))}
bgY:=aR L {s with heap:=h',gens:=g',drawn:=d',toks:=t'}
p6 a b:=by {rw[aK a]at G;rw[ea b];exact⟨es,fm (G _ _ (wZ cm) lQ)⟩}
Iu a:=by rw[d4 j i,l (cy a h),l g]
p7 a b:=by delta W8;rw[bmN (id:=a) (n:=(b).toList) (o:="rotareti_tes".toList) En aXc];kernel_rfl
Iv a:=by have h2:l=rm:=by delta aFp at a5;rw[cz,a0]at a5;exact a
a1 a b c d e:=cb (bmO aFN a w b) (bh,sQ,zi,dE) (c,UX [],d,e)
bgZ:=by rw[Q v vs e7 f5 (aUI x)]
bg0:=match k with|none=>o2 (Gp r)|some B=>if Wm=bX/\pd=de then ae else o2 (Tj B r)
bg1:=by rw[R d3 (bp k) p (sk c3) e]
bg2:=by rw[R i0 eM df len qY]
Iw a:=Y ["drawing","before","fault"] ["drawing","before"] a
Ix b:=M (eW e (.Slice lo hi ae f6)) (tSl b b8 h8 a)
Iy a:=by rw[Z c3 e2 a4 c5 (ax3 Y (i:=p) a)]
gS a b c:=by rw[aGs];delta NQ;rw[d3 h a];{rw[aK h,b];rfl};{rw[bj h,(c).1];rfl}
p8 b c:=by rw[e b ij ih jx kB rfl (dK YB 2 6) c]
Iz a:=aP m x (m<a->iW kI x->z i (zP x=Yj) (l e b (A a7 e) (e.2=cW) (¬aF8)))
IB a:=v (fun i _=>i<n) (fun i H x L=>L=H/\x=a) a7u
IC a:=by {rw[a];simp only[Gm U,hC];rw[iL j,aZ];{simp[q]}}
qq a d:=∀b o,j X4 a Ja gY gp d
qr a b:=a1 a 11 (a60 r i) (a1 b 12 (a60 r i) (E (fL<Nm) 13 r.size ae))
bg3:=en _ _ h2 (kp b o h2 e2 z)
bg4:=by rw[n d3 j u rfl y u rfl]
gT a b c:=∀(d:WData)(v:Value),i a (qC d=ab) b c
gU a b c:=∀(c7:pP)(vs:aM),i a (sC c7=ab) b c
ID a:=fun i s Q E st g=>a
bg5:=by obtain⟨z,D,z1,h6⟩:=I.zero (by obtain⟨e,a0,_⟩:=b1;have:=jd;exact cn tx fj) b1
bg6:=by rw[l (B (aBT _ _ (fun h:r=b=>g ag)) e)]
bg7:=by have g7:ca kF 0 4=bV xi:=afz b 0 4
bg8:=bH B (b≠0->I a (dK b a) I1 (OF/\dw a<dw b))
bg9:=by rw[dk a5 (fun e5 a3=>cg e5 _ (.inl ⟨av ak,fun e6 a9=>?_⟩))]
bg_:=by have d5:t tN=R.d:=by rw[eS];have:=wL;exact kO
bg':=av (k<aJ) (ct a7I (a3B (mw ((v l.1 k p pz),(v l.2 k p rl)))) dQ) ae
IE b:=∃(ar:aM)(o:Obj)(n:Nat),EA/\pM/\vY=b/\gB=jq eT
IF c:=sv (∃a b ns d8,x=bc/\y=cW/\mE xK/\a7z/\dB c)
IG a:=by rw[xg];cases y with|iC j=>{rw[ju a]}|_=>trivial
bha:=a61 q lo (UY a0L) Xt ab G6
bhb:=∀b o u,fr ali->hB ali
bhc:=by rintro i m H⟨rfl,hi,p⟩
bhd:=T.BS a v b bo l w
bhe:=T.BS b bo a v l (V8 _ _ w)
bhf:=by unfold run lk;rw[a6Y,a6X,a6W,a6V,bmP];kernel_rfl
bhg:=c=2\/c=4\/c=8\/c=12
IH a:=aJ (hw x (by have:=Hw x S;have:=J.ox (t:=a) (t':=R.n) ej a_;exact pN))
bhh:=fun v d4 c8 m=>fs c8 m
IJ a:=Bz X Af (vT (∃p d7,O=[fO]/\a/\E l xf (Q cC (ap l d7))))
qs a b:=Bz X rp (vT (∃p d7,O=[fO]/\((a/\E l xf (Q cC (ad l alv)))\/(b/\Q fO H))))
bhi:=by have h6:∀n,t (bV (gF 2 n))=2:=eb bI
bhj:=by rw[aa c5 (oD B) lY c5 (B+1)]
IK a:=by {refine .inr a;rw[z]at b1;have:=b0 _ b1;rw[am G];exact cy (aEJ this) ay}
gV a b c:=v (mN (∃O x,a/\nh)) (fun i H x L=>b) (mN (z O c (bx<=i)))
IN a:=∀(l:Addr)(Y:bg)(n:Nat)(a5:lZ),a
qt d f:=by rw[wy (m dh _ e ⟨n,fun F b7 b5 O Z=>d2 e F b7 d eN (gV O) f⟩)]
bhk:=by rw[mj (i4 _ _ z6) (D wb num (cx (i4 _ _ z7)) rC (f I _ _ num rfl k2 (LQ (t bA u4)) ?_))]
g0 a b d:=by have D:(gA xi (v Ia))=a↔xi=b:=aVU (c:=d)
bhl:=fun v d3 w hw c2=>by have:=Z.b v d3 cT w hw;unfold UD at this;simp_all
IO a:=fun b u q n _ _=>a
IR b:=[kJ,ac b2,OQ,aa x,aa y,v,b]
bhm:=by rintro _⟨a,b2,X,G,rfl,j,_⟩
bhn:=by {have:=jd;rw[ak (rv e) (.inr a0),I6];rw[bj (hC rv (ew et)),ad3,b9]}
bho:=(i=0/\a7M)\/(i≠0/\z c (dK c i) (dw i<=lo c))
g1 a f g:=e [jN,cC,O8] aGu a (h7 je) (i (fW K H c0 (aB1 vn)) (oT<100000) f g)
qx a b:=i 2 ajY (bh a aq bb) (dP aw alT) b
qz a b:=by rw[alP,aGB];simp only[a39,Nc,WT,DK,a];rw[T b i,aZ,aZ]
v a b c d e f g:=mz (ll bP) (V 2 a 3 b) (ai (fc c d e) (dl (gD (dZ KI aq cu) (mk bb aq)) f) (fE (bU 1 g bb)))
Kd b:=wu (sn (CH (∃a o,x=bc/\jm b7 a y o/\Q (.bl b) b7)))
bhp:=match m8 As with|some x=>cu XO ae a7d|none=>a7d
bhq:=fun y b6 e=>by rw[v4 (a6Q y b6 e),l (aBg _ O9),l (aBg _ (.inr k))]
Kp b:=match b with|some (some (.ref a))=>a|_=>0
qA a b:=match vJ f with|some ⟨_,_,.func fd,_⟩=>a|_=>b
bhr:=m (i+(j-i)) j j i l j i
qB e f:=by rw[c k dx c3 EG k dx (m c0 v b (d c3 e f (c2 _ ?_)))]
qC c d:=by have yH:Cm c b7 cW d (i+1):= .inr (f i z c9 (aP b U))
bhs:=∃x y u v,O=Jl/\pL/\Yo/\gQ b=aa (jt #[u,v])
g2 a b c:=e akq a pI (bk "a" 4 "b" 5) (bC (V 4 akq 5 akq)) (lf (dZ b aq (as bR cJ))) (bC c)
bht:=by rw[ga h1 h5 (O c o (S c o z) fR)]
Kq a:=v (v6 r.w) (v6 r.h) (mT 4 POINTS aJ=ai) (mT 4 LINES dP=ai) (mT 1 MARKS fL=ai) a
Kr d:=(∀e a x L,b d Ah bQ (L a=aa (cP x .bC)) (GD L x rB) Pe)
bhu:=(tLc wi g c3 b8 alk)
bhv:=by have n7:oI [c7] b7:=fun a m O q=>by rw[gc c4 i4,OX];rw[m,c4]at q;rw[kG]
bhw:=fun e1 i7 i4 j8=>(k d i7 i4 nd ?_)
g3 a c d:=∃Y:bg,vo (aj a Ar) (eM=i) aDT (bH Y (aj b []/\c/\d))
qD a b:=by refine bmQ a (fun h' a0 L G c3=>b)
qE c d:=sM (ay4 Z (b7 a.1 a.2) (b7 b.1 b.2) (c).1) (ay4 Z a.2 b.2 d)
bhx:=p z.1 rn (aS z) Ee (cr z) (a2 z.2)
qF a b:=ahC eA X.w X.K c7 d0 a b l
bhy:=by obtain⟨a,e,⟨O,e0⟩,q⟩:=d2
bhz:=c0 i x M _ (y O q) p
db a b c d:=bmR p a d0 b0 hd (fun h' C kp e=>fin ar B c9 h' C b c) d
Kt a:=∀{Z:Row}{g:Nat}{y:Int},a
bhA:=by rcases Su c4 with c4|⟨a3,a9,e2⟩
qG a b:=aej Z (v:=v) I4 [] aQ a b .nil
bhB:=by rw[di,pB,di,pB,di,cO]
Ku a:=by rcases(ax a)with q|q|q|q|q
bhC:=R.Ok mg P w aj (k+1) e8
bhD:=by rintro rfl⟨a,rfl,b3⟩c2 k
g4 a b c:=by rintro i z M a c9⟨rfl,⟨b,rfl⟩,c⟩
Kv a:=by rintro a⟨a4,Y,b4,len,nd,al⟩
qH a b:=aN7 a b (aWn (K:=K) rfl) bE aqV a6w
qJ a b:=by obtain⟨a,i7,b8,rfl,b,I,c4,_⟩:=c0
bhE:=oH eA X.w H a f n
qK a b:=call_zip_2 ajT a (fun h' c9 f n a3 a9 G c3=>b)
bhF:=CmpOf cN w kz .Lt P bt
bhG:=by rintro i M L hi⟨_,s,e,_⟩
bhH:=GM.Tf r (azu (fun a b ne=>aFl ne) O (dO.imp (ai (aZJ q))))
g5 a b c:=by {rw[a]at M l;exact axN t DJ h nd r b _ c (v j M e)}
bhI:=J ((h c z).2.2.1 x c e rfl)
Kw a:=M (.Call (.Name "min" p) [e] [v (aa "default") (.Constant .none B q) kp] pos) (aYt a d6)
Kx a:=by {rw[a3 l a5 q,hW a5];exact DV a}
bhJ:=by rw[a g8 h9 q2 (akL i) q2 (akL i)]
bhK:=by rw[i h9 q2 (akL i) i3 g8 i4]
qL a b:=by rw[cl (aQO Y d5 C (P.nodup d5 Y G a_) W (fun x X=>P.closed d5 Y G X) a b)]
Ky a:=by rw[da b f7];simp at e1 b;subst e1;subst b;exact a
bhL:=bD (b0 au s M H _ I h) (fun d a4 P=>?_)
bhM:=PS X (.For c7 Hk a [] pos) (aOh wi g c3)
bhN:=z (c7 p.1 p.2) (Y p.1) (p.1≠oL) (p.1∉vO) (∀v,p.2.data≠.cell v)
dc a b c d:=z a b c d (aDW=n/\GM.DInv a5 B par (ab Yn) dI/\alU/\eB<=n/\aDY<=eB)
Kz a:=by {rintro⟨l,a5,rfl⟩;rw[al a,dV,l (v (Th l) q (by simp only[Th];grind))]}
qN a b:=∀d e,j (cs x d) (cs y e) (iD d) (iD e) a b
bhO:=aA0 c j h a d Z kV p b3 g e3 ct
dd a c d e:=(∃F k,a/\y=kV k/\c)\/∃F k b,d/\y=cW/\e
bhP:=by rw[T d6 h5 (U h5 d2 X8) m4]
bhQ:=by rw[T h1 g6 (U g6 n []) k7]
bhR:=by rw[T i4 h9 (U h9 q2 (akL i)) m5]
de a b c d:=by have TE:∀i l,agh D a i l=Ct b c D i l:=fun i l=>d
bhS:=∀(w:World)(h:Heap),b w h->(K hr).In h
a2 a b c d e:=F4 (aSV (K:=K) rfl rfl) bI T.all aTa (dY (BE rfl a (oo b) (cj c 1) (ci 1 d) kK (bC (aq9 yx yx bE aq (gi e)))))
KA b:=∀{a:Jh}{m:dM},(∀v,(x,v)∉a)->b=m x
bhT:=by {rw[bD (v (oB yH) b5 (ML ?_))];delta oD;simp only[ok];subst o;rfl}
KB b:=a d ij ih jx kB rfl (dK aGQ 1 5) b
KD a:=Y ["p","q","r"] ["p","q","r"] a
KE a:=Y ["call","numbers","row"] ["call","numbers","row"] a
bhU:=a w h (Lz w h) [(0,1),(0,2),(1,3),(2,3)] [m]
qO a b:=∀{Z:Row}{g:Nat}{e:Ln},a->b
KF b:=a b agY zh aif vP CI Hf Mz Mx eo Hg
a3 c d e f g:=by rw[eq b7 N (aX' (t':=ahs) (P:=c) r (fun b u z=>d) e at_ i0 f (fun j a b3=>g))]
KG b:=by obtain⟨l,O,y,rfl,rfl,a,b,q⟩:=h
bhV:=fun c o e5 e6 c1 i0 q=>c3 c o e5 c1 i0 q
qP c e:=by rw[ev c (b hd dR gb fX a dx _ (j hd dR kC ku X rfl e))]
qQ b c:=∃o a7 e1,pM/\a19/\gB=Pr/\lL=b/\c
df b d f h:=g h' dE (a _ _ S b6 v) (c b d k7 l9 (Iu m (eB f)) (Iu B (eB h))) aGo
bhW:=by have n:tM=alw++(AF++alx):=by rw[sZ,hq,hq]
bhX:=by have e0:a4_=aO:=by rw[a.1,sb.1,sa.1]
g6 c e f:=by rw[b x p ns c e B S z (d ?_ f ?_ g)]
bhY:=by {refine nX aGx (ip q);rw[cZ b0,aZ,aZ]}
qS a c:=M (dN m a pos) (aOW C m e8 b E d6 c)
dg d e f g:=by rw[n e0 g0 M b9 ⟨x (RR (bmS d e) f g fw),fun d0 j5=>?_⟩]
bhZ:=∀c o,c (c≠z) (c≠c2) (c≠N) (gE c) (be (gQ c))
KH c:=b T.TR agt (dq d2) g vs rfl rfl (aJ d2 c)
bh0:=fun g6 g ls B b9 e1 b6=>gJ
qT a b:=by refine a1F (Oc (FX I d8 c4 a (nI (Cv d) b) ay ay))
bh1:=by obtain⟨j,a3,a9,e2,e5,f⟩:=aPj a0
bh2:=by obtain⟨b,i2,h7,i7,rfl,U⟩:=hB
bh3:=by rcases l with⟨c3,c4⟩|⟨c3,c,b0,a⟩
dj a b c d:=by have a:b=tj (Di r) ic (c):=(aRX (fun(m:Wt)=>eL) (Di r) ic d)
qU a b:=by rw[Yx,CS akO];delta a3N;have e2:¬(a<cw):=by{rw[xI]};simp only[bj e2];rw[kr b r]
bh4:=bE (oZ q) (p.y<q.y\/(p.y=q.y/\p.x<q.x))
qV d e:=by rw[n d0 R D g5 ⟨t cj (aqf d e fw),fun y F=>?_⟩]
a4 c d f g h:=by have b1:c:=fun i e a0=>b O b b4 b9 e7 d (a O b b4 (en b9 f g h) e7)
bh5:=by have kp:bd a7K gY Pd:=fun b o U d0=>by refine aEc b o ?_ d0;rcases U with rfl|⟨e,a0,q⟩;{omega};{rw[gB q2 (a e a0)];rw[q]at q2;cases q2;exact V j b8}
bh6:=Walks cN w kz I a8 d n P St
KI a:=by have sm:∀{b:Addr}{o:HO},Pc->(∀d7,o≠.lst d7)->aly:=fun{b o}e n=>dR e a
bh7:=LeftO P q3 l3 X3 (fun s=>YH bh) (au gA) 10068
k a b c d e f g h:=(abN.map a,itN.map (bn b),tpN.map c,d,atN.map e,fnN.map f,meN.map g,FP.map h)
dk a b d e:=by refine aXW (s:={a4 with heap:=h'}) W a b ay d rfl e (fun c1 Y c g7 g8 a5 at_ i0 it kp=>?_)
bh8:=p z.1 rn (aS z) Ee (cr z) OG (eV z)
bh9:={strHash:=ng,shareClass:=ng,mergeTok:=id,idOf:=ng,idOfShared:=h2 0,followText:=au ab,idOfImm:=ng}
bh_:=by obtain⟨x,a8,r,r1,A,d2⟩:=P
qW a d:=∀(X:Cx),b eA P (X.w=w) fB fQ (∀(i:Nat)(pins:bw)(s:Shared)(M:St)(H:Hp)(E:aU),c aY (V b a8 (iO H)) (l i bh) a (fv (ju P w) X.A (ahr nJ) (fun J a4=>d) E s))
bh':=[tR,rx,ac t,ae,ac p,i1,j5]
bia:=bmT (bD a7S (fun J a4⟨v,a8,r,rv,d2⟩=>bD a6_ (fun u b5⟨x,b7,Y,R,q2⟩=>wj (hi au b5 M b7 _ Y q2)))) c0
bib:=by rcases I.SJ x S with rfl|⟨e,a0,_,b4|b9⟩
KJ a:=Slot.of (n:=a) (owner:="set_iterator") YC cB cB cB (by first|rw[o6 bz]|rw[mT cB]) a7y
KK a:=by rintro rfl⟨dx,S⟩⟨f,a5,d⟩a k
KL b:=d (bv a6Z) aFO aju (fun i a b3=>let⟨ns,e,q,n⟩:=aGD;d ns e b n)
KM a:=D al2 (Sk (aSX (K:=K) rfl) bI T.tuple aS7 (dY (rZ bS))) a ua
KN a:=by {have:t.2∈EF:=a;rw[am b9,aO x S (zt this),xJ];exact ne x S}
KO a:=(∃(p:Nat)(e:akN)(b:Addr),Ye/\e.2=cW/\aF8)->a
d a b c d e f h i j:=by have a:b=ae:=by cases q:c with|none=>{rfl}|some o=>rw[M d e c7 (by rw[km c4 (bmU r2)];have:=f;rw[fq h this,nj])];have:=i;rw[am j,nj]
KP a:=∀l L b9,c Az xf (aj l (b9.map cp)) a (Q cC L)
bic:=B F L o N (cG s) O Z (gd s) rfl XZ
bid:=by obtain⟨h6,t,n2,r2,B,b9⟩:=a6y hB
KR a:=CA (V (W i m H) alK a Pu (∃w:jb,(a67)/\j x L PB (gb tA a65)))
bie:=fun c o U q=>c3 c o ak6 ak6 ak6 ak6 q
KS b:=by obtain⟨a,i7,b8,e,q,l,b,a3⟩:=z
qX a b:=g h' a (as _ S k7) (v b h6 (Iu a5 (lx (v _ _ c1 f q)))) aGp
bih:=BE rfl IJ (oo cJ) (cj "line" 4) (ci 4 IJ) kK (bC (di bR))
qY a b:=∀{P:cX}{vs:aM}{i:Nat}{m:dM},c P.Nodup (fh P) (A vs v) a (b=aa v)
qZ c d:=by rw[b (bm _) (fG s f5) (Y a7 e) (Y b1 c4) (Nu z b) aGy (t M0 u) (lq (t (aYI d3) (o v d3))) (v c aGb d)]
bii:=by {rw[v (ay) (fun t c6=>?_),fW z];exact k t _ [0] R (cG cm) c6 ak (gd cm) Y rfl}
KU a:=by {rw[v (ay) (fun t c6=>?_),ec z];exact k t _ [1] _ (eX (cG cm)) (agD a4 (k6 (a3.live m)) c6) ak (akt cm) (a).2 rfl}
KV c:=a l b c 2 ?_ jT ay (fun b7 b5=>?_)
g7 c d e:=by have i:=c;refine aRV (R:=d) aGN (ab (B (h x) (bt (i.2 x)))) s i.1;rw[cR e,kG]
KW e:=by rw[a2 (r _ _ hd) (s gb fX b2 (k2 (r _ _ a3)) (fun i0 i8=>d dG dk dk (gd r).p.ls (bn (jM (jF e p) p)) i8 bM))]
bij:=by have g4:N h5 d2 X8 d2 a7m:=by rw[ak,g7]
b c e f g h k n o q r s t:=by rw[ev (L c cu e (df cu)) (a hd dR f g h c5 rfl (av a3) (bv k (bi (LB (fun l m p=>M=[kJ,aa l,m,p]/\Cm n L l o i)) bQ (ae (j<i) q r s t)) (v (m .bC ae ae (.inl xG)) eg (fun j y b8=>Au))))]
KY a:=by rw[xu,Q i j rfl q Vg,xg,akQ];exact rule i j t t' s _ _ a
a7 c e f g i:=by rw[ev (cn c) (a hd dR e f g vs rfl (cc c0) (a a D b2 X G iO rfl h i))]
w d e f g h i j:=by {rw[n b c d e ?_];rw[f];have f7:g=h:=by{delta oD;subst c0;simp only[ok,a5V,e0];rfl};refine fF (fun c1=>?_) (fun c1=>?_);rw[l (fin i),cw (oB yH) b5 (ML j)]}
g8 c d e:=arW (O:=c5) (fun i L=>c) (s (b_ d) [] ak aCc a7r) (fun i L _ z=>av (z.1 _ _ e)) ?_ ?_
KZ a:=fun i s Q E hi st C g=>a
bik:=U d au a4 M a8 Q r d2
dl a b c d:=Hl a b c (a2m ak' X.A oN a3 d5 EC sW) d
g9 a b e:=a2O Y (cc Ae w IW) (v:=a) (fun x X e7=>bj (asV Y d5 W ahQ (e9 _ ahQ (by show x.1≠g.1;rw[e7];exact b))) (ph X)) c e i8 rfl
q0 d f:=bmV (S:=fs AL) (fun{a b}q(e:a=b)=>c a d) f
bil:=bmW q j m b J d [] (fun f vs=>PySem.call f vs)
bim:=by obtain⟨g8,e1,t,k,u,hex,hd,_⟩:=H
q1 a b:=∀(l:Addr)(x y g q:Nat),A [cC] (h7 (ii Py)) a b
K0 b:=WalkOS q j m (fun _ h=>b) J d a run
dm a b d f:=by have a:∀(on:OK)(c:Pt),b->HL c=ab:=by rw[bZ on c];cases e:d with|none=>{simp_all}|some i=>rw[aj e];exact ae (atQ Y) (v i (HM f).1 (c_ h))
bio:=by delta Xa;rw[r1 (vX d),a7H];rw[iQ];rw[C (bmZ b1 ?_)];simp only[bmY,CY,iR];rw[r1 I7];cases b with|true=>{rw[J (bj (show¬((vK ab !=vK ab)=ab)from Hr)) (cg (g _ c9 (bmX _ _)))]}|false=>rw[aK (g4 (vK ai !=vK ab) rfl)];rw[C (DP c9 AG (fun e2 e7 c8=>cg (g e2 e7 c8)))]
a8 b d e f g:=by have b:∀(on:OK)(c:Pt),i (on c=ab) (o i gX (on eG=ab) d) (HL c=ab) e:=by intro on c D f b0;rw[ak al s (x (atQ Y) b0),J g Av]
bip:=by rw[a2 (gl hd) (u kC ku X xc (ev (av (gl a9)) (dX l2) (b (gl hd) dR gb fX C _ _ (b rfl rfl (cx l4) dh C _ _ (b rfl rfl (cx l4) dr b2 rfl (av (gl a3)) (fun d2 m4=>?_))))))]
b e f g h j k m n o p q:=by rw[a2 e (a jA jq a b2 X G r f (i le G g dQ h j (a k m (d n _ o (aJ S)) p (f7 pU) Yu q)))]
biq:=by {rw[a7w,o2 i m hi];have:(i∈cN (Xv k)++[((z,num):alA)].map eY)↔aF':=ar q;by_cases q2:aF';{rw[aK q2,aK (this.mpr q2)]};{rw[cE q2 (e7 (q2 (this.mp y)))]}}
he b c e:=[kJ,bE D.w,bE D.h,ac Z,ac b8,ae,ae,rx,i9,b,c,e]
bir:=by rw[a0 F a b c];exact d F (bv a) b c
K1 a:=by rw[xu];obtain⟨d,e,hd,a0,sd,p,q⟩:=h;rw[fu r1 (MX I d x v hd R)];obtain⟨bs,r2⟩:=MX I e y u a0 Z;exact a
hf a b c:=by rw[xg];cases y with|bC=>{rw[a4 Z a]}|int j=>{rw[ju b]}|str j=>{rw[ju c]}|_=>trivial
bis:=by obtain⟨a,b,O,d7,ex,b2,c6,q⟩:=d2
x a b c d e f:=by rw[iO Od (d6 (j+1) _ a b (gy (hn (aC n (j+1+1) Z) (aS n (j+1)) WZ) (hn Ij (aC n (j+1) b8) (aS n (j+1+1)))) Z c d e f)]
a9 c d f g h:=a Vb agY zh (a alu alu agV (fun b o e S=>?_) a1g a1f a1e) c d Hf Mz uc (K (v f g h) c0) (ax Hg)
q2 a b:=∀p q J,j (aVF H vs p q J) (gN p) (gN q) (gN J) a b
K2 a:=fun r i h h'⟨b2,b0⟩st k=>a
biu:=p z.1 rn (aS z) Ee (cr z) OG (f3 z) (eV z.2)
hi a c d:=dD (fun(e:Int×cS)(O:bL Int)=>z b (e.2=cW) ((hJ).is a O b)) c d
dn b c f g:=by obtain⟨a,i7,b8,e,q,l,k,a3⟩:=h;exact a a i7 b8 e b c f g
K3 c:=by rw[b Ar (Y a3v e) (by rw[bA];rw[jY]) (fG (il (b_ U)) c) (Y++[b]) ?_ (ar len) ?_ ?_]
q4 a b:=by rcases h with(h|⟨o,h⟩)|h;rw[dQ (.inl a),dQ (eX o b),co h]
biv:=fun a b v w y n M=>s.2.2.2.1 a (lt a v) y M b w
q5 a c:=CV (a1H (h₀:=sP) a1I a (bD akX (fun b1 a4 e0=>b vs a8 r J q e0 ⟨r.Kx,c⟩)) a0 b8)
hm a b c:=by rw[hO];cases y with|bC=>{rw[a4 Z a]}|bl j=>{rw[a4 Z b]}|str j=>{rw[ju c]}|_=>trivial
biw:=["enumerate","zip","dict_itemiterator","dict_reverseitemiterator","odict_iterator","itertools.zip_longest","itertools.pairwise"].contains n
bix:=p z.1 rn (aS z) Ee (cr z) OG (f3 z) (f3 z.2) (a2 (a2 z))
ho b c d:=aqO (v:=bc) d8 b3 rfl b au s M H c I d
dp a d f g:=∀(k dx l:Addr)(v:V)(b:Gla.Bytes),e [Yg,cC] (lD v) a d (C0 f->g)
q6 a c:=by rw[a7X];{rw[jW,wh (Sy eo e)];refine a;rw[<-(VB k).adJ,<-l];exact h _ ro};{rw[jW,aGF,wg (Sz eo e)];refine c;rw[ci (VB k).adJ,cR aCb];rw[<-q,<-l];exact h _ ro}
q7 b c:=by obtain⟨b1,a3,a9,e2⟩:=j a b3;rw[cZ hu b1 vs];subst hu;rw[dI a9];cases c3:vJ a with|none=>{rw[mT (.inr (aW (bj (afj b3 c3 e) b)))]}|some o=>rw[gr (y a o c3)];rw[e]at b9;obtain rfl:=c_ b9;exact .inr c
K5 c:=by rw[cA (h 0 x u rfl rfl) (i (aDp c) (fun j y v a b=>h (j+1) y v a b))]
biy:=by intro j s i c c3 b8 z y b2 hR
biz:=va eA X.w X.K mG sP sh j R.f R.fd c5 e8
biA:=by {intro c b0;rw[iF b0];{rw[ci (al c m)];exact v (ac (bW q.2.2) (bW (J (by rw[cR z];rw[q.1]at U;cases U))) q.1) q.2.1 q.2.2};{rw[OX];subst m;exact v (wt a5) (XE U) a5}}
biB:=by have a9:wk (fun _ v(b:ef)=>v=cW):=v Ar (av (dj wW)) (by clear N i0;rw[ww Y])
q8 b c:=by rw[bD (a a D b2 X G i rfl (gd (zW c0)) b (ef (B (zW c0) cm) ?_))];delta Xl;rw[J (CO c) lQ]
biC:=by simp only[a6F,CU,bm0,show v 1>0 by decide,mJ];rw[fJ h 0,dk h h (sl1 h)];{rw[cE h h];exact sl0 h}
biD:=k d b7 _ R (cG eN) (gV nd) b9 (gd eN) Y rfl
biE:=∀t∈["list","tuple","set","frozenset","dict","dict_keys","dict_values","dict_items"],T≠t
q9 a b:=match a with|0=>14+8*b|1=>5|2=>11|3=>15|_=>3
biF:=em H4 (W 0 m b H) (V ak7 ((OR).stop i H) OH ((OR).go i H) (∃N:eo H4,(ala)/\j x L (rX OR) (KC j x M L (fun h b7=>R7 (tBM K "list" adx (ho o) (hF (F3 e8 [] E0 (hF (ho j))))) (ag3 N) h b7))))
K6 e:=by rw[c x r0 r1 xP le _ (a _ (vn (t (akj (ch (l.2==t))))) rfl rfl q2 (su l5) lt _ (a _ (.ref c) rfl rfl d2 (nd b0) x q8 (a q9 X c7 D t y c (dc (GM.aRN Z l5)) (a m3 e q6 Z l5 n9 j7 (fun g6 n4 n5 B g4 h3 m7=>a k _ _ l6 (bd (i6 g6 n4 n5 B g4 h3 m7)))))))]
biG:=(aAZ (UY aA2) ry ak2&&aAY P ak2&&aAX a7o&&aAW ry ak2,a61 q3 l3 (UY aA2) X3 ab a7o)
biH:=p z.1 rn (aS z) Ee (cr z) OG (f3 z) (f3 z.2) aF7 (a2 (a2 z.2))
K7 a:=by obtain⟨o,e1,t,k,d0,hex,hd,T,hE,d5⟩:=a
K8 d:=∀(i:Nat)a x L(h4:VK)(N:jb),j Ey OL d (wE (f a)) (f a=ae->aGL) (gb tA aGA)
K_ a:=∃(B:ao)(par:gn)(o path:ao)(i1 j5:jK),a
hq b d f:=by obtain⟨z,y,b,J,N,a7,e1,e,c⟩:=x;exact a z y d f N a7 e1 xO c
q_ a b:=by rw[xu];obtain⟨p,O,rfl,e0,n,G,q⟩:=h;cases Z;rw[aGI];{rw[a9 J d5 OE];refine a;rw[hq (a63 (qw x)) (a62 (qw x)),arI J G];exact q};{rw[a9 J d5 IZ];refine b;rw[hq (a63 (qw x)) (a62 (qw x)),arI J G];exact q}
ra c f:=by rw[w vs rfl d0 g c];have h6:aDu c7<=1048576:=z;obtain⟨A,a3,a9⟩:=afi c7 _ g p (fun d hd=>cn (avn hd) h6);rw[ch k (fK A (a::A)) (ck U),aa (a::A) (fu ..) tX,g7 (h_ U) e,Z e (d vs (aUJ (t (avo g) (cn (bm1 c7) h6))) (m0 (bN (a3 u hu) k)) f),l (bN (a9 b m) k)]
rb c d:=dl (aqX (s:=nr) (n:="range_iterator") f rfl rfl ay (a c H (a6k (jx (B b o ag e)) F g4 h6 f4 f5) d xG f (db (Ej).1)))
biI:=cN 1 2 (cN 3 4 (cN 5 6 (cN 7 8 (cN 9 10 (cN 11 12 (p=13))))))
biJ:=bD akX (fun b1 a4 e0=>b vs a8 r r1 d2 e0 (b0 au a4 M a8 vs b1 Q r r1 d2))
biK:=by intro i s a7 l b0 hi z hG a b9 hR
biL:=fun f7 c4=>by obtain⟨g,D,Q,l,B⟩:=c4;rw[d0]at l;rw[a4 l (a _ D Q f B)]
rc a b:=by obtain⟨m,⟨o,a7,e1,d0,J⟩,_⟩:=id vP;obtain⟨sl,f⟩:=u.any d0 Hf a;exact b
biM:=fun i j u v K ls le hu d3 n L=>?_
c a b c e f g h j k l m:=by rw[iO aEf (d6 (i+1) _ a b c X (aEN _ c1 e _ T xH f) (d g h j Jf) k l (fun M b1 b2 b4 b7=>hR M b1 b2 (bm2 W.gtrans ((aEg wide).then_heap xH m) b4) b7))]
La a:=by {refine fP;rw[X1];rintro⟨⟨l,m,p,rfl,a5⟩,s,g⟩;rw[Ji];delta a;rw[axu g];rfl}
Lb a:=by have G:∀x y,c (a1 x y) (y∈B) (CW a) (Q y) (Q x):=by rw[bZ x y];induction h with|refl=>{intros;assumption}|step e h' d6=>intro I t i;rw[lv e];refine d6 (aS m) t (e9 _ _ I (V8 _ _ (aS m.2)) (t _ (.step e h') I) (t _ h' (aS m)) i)
biN:=p z.1 rn (aS z) Ee (cr z) OG (f3 z) (f3 z.2) aF7 (cr (a2 z.2)) (oy z)
biO:=∀x a L(h4:VK),c (a∈Y) (cZ G L) (R L x a) (f i1 j1 (cZ L j1) (L i1=ae) (b5 (j1 i1) (bV (f a))) (h4 (.ref i1) j1)) (e8 [x] L h4 E0)
biP:=@aE7 _ _ _ _ _ _ _ _ _ ?_
dq a b d e:=bm3 a dx _ s _ _ _ _ b m (a64 d) (a64 c) (room e)
biQ:=a ok.mod aB7 ok.glob ok.blt ok.above ok.inj ok.has ok.cab (a ok.hd ok.frames ok.stk ok.exf ok.bs ok.R0 ok.aNA ok.R1 ok.uU ok.FW)
biR:=by obtain⟨j,d4,O,u⟩:=q3;obtain⟨f7,c4,w⟩:=hN j d4 u;exact c f7 c4 j d4 O w
biS:=by rw[o d2 q2 (tq (cP d7) rv) (by rw[ca (av (i4 _ _ g4))];have:=fX (aFP d7) (sy (e.2-(e.1+1)) (Cf gg e9));rw[J bm5 this]) (by have:=cc (cP (wC d7)) (sy i i9);unfold Gla.Plan.drawn at this;rw[<-Dj]at this;exact cd g8 this) (qT (bm4 c2)) (fun J a6=>?_)]
re b c:=pj (as a OD b (bj c c2.2 (fun d5 b7 b5 n2 b9=>m a7 d5 IV b9 ⟨?_,fun l a5=>?_⟩)))
rf a d:=∀(w:World)(mg:dM)(t:Addr)(h:Heap),c (b w h) ((K hr).In h) (h.Ns CG mg) (fL d.name t) (∃fd:FuncData,(a7N)/\∀base:iL,(K hr).In aj->alN->va J.prog w (K hr) mg aj a k t fd c5 d)
biT:=fun e7 f5⟨i8,d6,o,a7,e1,e,N⟩en=>a i8 d6 o a7 e1 (en _ e) N
biU:=p z.1 rn (aS z) Ee (cr z) OG (f3 z) (f3 z.2) aF7 (cr (a2 z.2)) (cr (eV z)) (oy z.2)
Lc a:=l au d9 M e4 y d3 u c5 a a5 r2 c9 i6
Ld c:=by rcases zs with⟨c,c9,a,b,n⟩|⟨d,b,j,c9,b1,G,c0⟩
biV:=by intro i s Y c c3 hi st b2 i0 it kp hR
Le a:=by {intro i n a L h4 N d1 s S b6 c5;rw[pO,im Ph];rw[dH (show xy<=cK by simp)];rw[bD (fs eg ?_)];show CN _=CN _;rw[dW];apply aDN;rw[t_]}
rg b c:=by {intro a O c7 c0 b3 d6 u J;rw[hM];obtain⟨ar,o,n,rv,d0,b0,hd⟩:=b;rw[fu a6 (d6 ar rv)];exact aW c}
Lf c:=by rw[b _ _ rfl rfl (fh-(k+1)) c (k+1) _ (ax ?_ bB (a (((O4).sb).put aQ) (a e7 d (l2.put h8 w3 n1 n2 t2 w4) n1 n2) bB (d aGw ak (t M0 p0) (fun i m hi=>?_)) (wx ((O4).lo j e ej a0))) (hH (yT h8) (bL i4 t6)))]
Lg a:=by refine(bm6 (prog:=eA) (w:=X.w) iv it lo a n).item i s _ _ d8 st (fun v h' D d3 f B=>?_)
hr b c e:=by refine bv lH (fo (vo (GG (fun b1 e1 j9 e8=>M=b)) (cZ g6 L) (dB eR L n (L c (bo akP))) (P x (j<i) gU x (e=ai)))) (d (a _ ae ae ae rfl) h1 (pd ak) a7E)
y c e f g i j:=by rw[d _ c a D b2 dl G (a h Z e f g i j (fun a8 y x e7 d X c7 I a4 b0 n6 Y=>?_))]
biW:=by obtain⟨D,m,kV,p,b3,g,e3,ct,z,rfl,lk,S⟩:=F.ex
Lh d:=by ({rw[a3 m c4 a6];have:=c1 m (qT c4);exact⟨j4 et,j4 fj⟩});have c7:(j3 a7i (pq i))=d:=by{delta Ct;rw[bj (J (j2 (Nw z))),a5B];rfl};rw[mh a7i (pq i)];rw[c7];obtain⟨j4,j5,l5⟩:=aFa gx d7;have m6:j4.length<=lH:=by{rw[l5.length,bA];exact cn AO bz};rw[ae l6 i3 a7n (GB j5),n (dq j5) n j5 (br m6 j7 fw) ?_,P c0 g6 a7n (fG (wC d7) k7)]
Li b:=by rw[aGM];refine aJ O (bi (∃v,M=ak5) (cZ G L) (aj d (bV (B++go (WE i) f)))) (v ⟨ae,b1⟩ s cq) (mL (z.2.seq q));{rintro i x M L S⟨⟨v,rfl⟩,a4,b4⟩;rw[ak b3 J (oA p S),a7L];show R7 _ _ (bp ak5 j (aa x)) L;rw[(bm7 ..)];delta R7 tBM qu F3 r_;refine wR (c _) ⟨dq b4,wR (e _) (C x a L _ (bO b3) a4 b (fun i1 b7 b5 n2 b9=>m d i1 IV b9 (a1 ?_ ei (gb eN))))⟩;{rw[<-cj,<-qD,dC];refine cn ?_ c9;rw[dv,<-ajm f a,<-zL,<-g9];have:Y=WE (i+1)++Y.drop (i+1):=aGk;conv=>{rhs;rw[this,zL]};simp};{rw[ak,<-qD,dv,<-ajm f a,<-zL,<-g9]}};{rw[bJ L v a4 b4,db wK b4];exact k v L a4 b4}
biX:=by {rintro M L⟨⟨b1,e1,j9,e8,rfl⟩,s,b9,g⟩;rw[oF (zW s)];delta Xl;rw[a33 (fun j x S=>bz)];rfl}
biY:=bD (h pos au s M H _ I e0) (fun b1 a4⟨O,a8,r,J,z,q⟩=>as (bl vT z))
Lj b:=by rw[fx];refine bm8 (pl:=d5) (wf EL) c6;obtain⟨x,a8,r,R,a,dx,G,ex,d0,l,q⟩:=P;rw[lW,Es];refine aOK r d0 c c4 l b
biZ:=by {rw[wz (¬b<Ez),b (bm _) s e c4 f F u o (v h2 aGb i8)];rw[g9]at hw;rw[iF hw,l (e2 w m),az]}
hs c h o:=by have h8:upd L t hK n=L n:=bW (J (by rw[kn q b9,b2 Z d2];cases d2));generalize ld hK=h5 at rv b9 Z R d k9;rw[ax b U j0 j6 rv];have n9:∀m:fz,GM.Lm D e m=Cn rm akP:=bo rfl;have l0:c=ai->P x (j<i+1) gU x (h=ai):=fun W j x b8 S=>by{rw[T j i,dV,l (g j x Yq S)]};have fin:o=ab->E i3 (cZ h5 i3) (n0 i3 7):=fun W i3 d6=>cu (aFP d6) (ef (B (aFP d6) cm) ?_) Xl (CO ag);rw[aGH,bH h3 W k9]
}
example:=by rw[a]at ⊢
section z
set_option tactic.hygienic true
open PySem PySem.W PyProof.Rows
namespace HX
noncomputable abbrev P:=PySem.Challenge.rw_glassrecord_s01_answers.prog
noncomputable def RL(a ok:agJ->cb)(b:G5->agJ->bZ (G5×agJ)):i Nat G5 agJ (bZ G5)|0,_,_=>ae|n+1,s,t=>fp (a t) (aa s) (match ok t with|false=>ae|true=>match b s t with|some (c1,t')=>RL a ok b n c1 t'|none=>ae)
theorem aqa{c3:gy->bZ Builtin}{p:Program}{w:World}{d:Nat}{e:pw}:∀{n:Nat}{s J:SharedT}{t:Thread},RL aAT (aAS d e) (aAQ (aAR c3) p w) n s t=aa J->topRun c3 p w d e n G6 t=aa J.abs|0,_,_,_,h=>PJ|n+1,s,J,t,h=>by unfold RL at h;unfold topRun;cases a:aAT t with|true=>{rw[aj a,cH];rfl}|false=>rw[aj a];cases b:aAS d e t with|false=>{rw[m1 b]}|true=>rw[aj b];cases c:aAQ (aAR c3) p w s t with|none=>{rw[m1 c]}|some x=>obtain⟨b5,d8⟩:=x;rw[aj c,J (stepT_spec c) (aqa h)]
noncomputable def bt:i Nat O7 BT BT|_,[],t=>t|n,o::J,t=>bt (n+1) J (t.ins n o)
noncomputable def s0(w:World)(os:OsState):G5:=a (bt 0 (ry).objs.toList .nil) (fH ry) (ry).life #[] aAV aAU os
theorem aM1(w:World)(os:OsState):(s0 w os).abs=a ry #[] aAV aAU os:=En
noncomputable abbrev q:Mg:=view P (dy 149 (dJ (jF ([0,14,38,43,50,57,74,91,99,113]:ao) i)))
abbrev lo:cX:=["NUMBERS"]
noncomputable abbrev Xt(s:Shared):cb:=BH q
theorem left{p q:Program}{lo:cX}{Xt:vH->cb}{I:Type}{b:vH->I}{c:oJ->I}{i:agL->iL}{f:Drawn}{p2 N:Nat}{n:oJ->OsState->G5}(j:∀w:oJ,a1 p N (i hr) f p2)(u:∀w os,(n w os).abs=a (i hr) (UX []) f p2 os)(z1:∀w:oJ,GK (i hr))(run:wb (cb (s (fH (i hr)) (i hr) p w N (n w os) p) (aAZ (UY a0L) (i hr) agK&&aAY p agK&&aAX G6&&aAW (i hr) agK,bha,b G6) (ab,a0K q lo,c w))):LeftO p q lo Xt b c N:=fun w=>by obtain⟨⟨h,a,d,k,os⟩,e,d3⟩:=ze (j w);obtain⟨rfl,rfl,rfl,rfl⟩:h=i hr/\a=UX []/\d=f/\k=p2:=ax d3;obtain⟨s,J,l⟩:=ze (lp w);obtain⟨a7,d5,l3⟩:_/\_/\_:=by{simpa only[CA]using l};have t:bgu=aa G6:=by{have J:=aqa J;rw[u]at J;unfold topFrom;dsimp only;rw[z1,J];rw[gB (fp (aAZ _ _ _&&aAY p _&&aAX G6&&aAW _ _) _ _)];rw[a7]};unfold openEnds;rw[e];show L bgu _=_;rw[t];show aa (bha,b G6)=_;rw[d5,l3]
theorem bo(w:World):a1 P 10068 ry aAV aAU:=boot_open (p:=P) (N:=10068) En ay (fun s=>bI) w
theorem z1(w:World):GK (ry):=En
universe HX
universe z
section z
set_option tactic.hygienic true
namespace L2
open PySem
noncomputable def inClass(s:Stmt)(j:Nat):ax:=match s with| .ClassDef _ _ _ a _ _ _ _ _ _ _=>a.getD j aL9|_=>aL9
noncomputable def aqb(s:Stmt):Arguments:=match s with| .FunctionDef _ a _ _ _ _ _ _ _ _=>a|_=>{posonlyargs:=[],args:=[],vararg:=ae,kwonlyargs:=[],kw_defaults:=[],kwarg:=ae,defaults:=[]}
noncomputable def RM(s:Stmt):ue:=match s with| .FunctionDef _ _ b _ _ _ _ _ _ _=>b|_=>[]
noncomputable def aqc(s:Stmt):Scope:=match s with| .FunctionDef _ _ _ _ _ _ a _ _ _=>a|_=>{kind:= .function,names:=[],isGenerator:=ai,isCoroutine:=ai}
universe L2
namespace GA
open PySem PySem.Spec PyProof.Rows L2
abbrev Fg:=UZ
noncomputable def top(i:Nat):ax:=PySem.Challenge.pw_glassrecord_s01_answers.main.body.getD i aL9
noncomputable abbrev aa3:ax:=bW 5 0
noncomputable abbrev aa4:ax:=top 6
noncomputable abbrev aa5:ax:=top 7
noncomputable abbrev aa6:ax:=top 8
noncomputable abbrev aa7:ax:=top 9
noncomputable abbrev aa8:ax:=top 10
noncomputable abbrev aa9:ax:=top 11
noncomputable abbrev aa_:ax:=top 12
noncomputable abbrev aa':ax:=top 13
noncomputable abbrev aba:ax:=top 24
noncomputable abbrev abb:ax:=top 25
noncomputable abbrev abc:ax:=top 26
noncomputable abbrev abd:ax:=top 27
noncomputable abbrev abe:ax:=top 28
noncomputable abbrev abf:ax:=top 29
noncomputable abbrev abg:ax:=top 30
noncomputable abbrev abh:ax:=top 31
noncomputable abbrev abi:ax:=top 32
noncomputable abbrev abj:ax:=top 33
noncomputable abbrev abk:ax:=top 34
noncomputable abbrev abl:ax:=top 35
noncomputable abbrev abm:ax:=top 36
noncomputable abbrev abn:ax:=top 37
noncomputable abbrev abo:ax:=top 39
noncomputable abbrev abp:ax:=top 40
noncomputable abbrev abq:ax:=top 41
noncomputable abbrev abr:ax:=top 42
noncomputable abbrev abt:ax:=bW 45 0
noncomputable abbrev abu:ax:=bW 45 1
noncomputable abbrev abv:ax:=bW 45 2
noncomputable abbrev abw:ax:=bW 45 3
noncomputable abbrev abx:ax:=bW 45 4
noncomputable abbrev aby:ax:=bW 45 5
noncomputable abbrev abz:ax:=bW 45 6
noncomputable abbrev abA:ax:=top 46
noncomputable abbrev abB:ax:=bW 47 0
noncomputable abbrev abC:ax:=bW 47 1
noncomputable abbrev abD:ax:=bW 47 2
noncomputable abbrev abE:ax:=bW 47 3
noncomputable abbrev abF:ax:=top 48
noncomputable abbrev abG:ax:=top 49
noncomputable abbrev abH:ax:=top 51
noncomputable abbrev abI:ax:=top 52
noncomputable abbrev abJ:ax:=top 53
noncomputable abbrev abK:ax:=top 54
noncomputable abbrev abL:ax:=top 55
noncomputable abbrev abM:ax:=top 56
noncomputable abbrev abO:ax:=top 59
noncomputable abbrev abQ:ax:=top 60
noncomputable abbrev abR:ax:=top 61
noncomputable abbrev abS:ax:=top 62
noncomputable abbrev abT:ax:=top 63
noncomputable abbrev abU:ax:=top 64
noncomputable abbrev abV:ax:=top 65
noncomputable abbrev abW:ax:=top 66
noncomputable abbrev abX:ax:=top 67
noncomputable abbrev abY:ax:=top 68
noncomputable abbrev abZ:ax:=top 69
noncomputable abbrev ab0:ax:=top 70
noncomputable abbrev ab1:ax:=top 71
noncomputable abbrev ab2:ax:=top 72
noncomputable abbrev ab3:ax:=top 73
noncomputable abbrev ab4:ax:=top 82
noncomputable abbrev ab5:ax:=top 83
noncomputable abbrev ab6:ax:=top 84
noncomputable abbrev ab7:ax:=top 85
noncomputable abbrev ab8:ax:=top 86
noncomputable abbrev ab9:ax:=top 87
noncomputable abbrev ab_:ax:=top 88
noncomputable abbrev ab':ax:=top 89
noncomputable abbrev aca:ax:=top 90
noncomputable abbrev acb:ax:=bW 97 0
noncomputable abbrev acd:ax:=bW 97 1
noncomputable abbrev ace:ax:=bW 97 2
noncomputable abbrev acf:ax:=bW 97 3
noncomputable abbrev acg:ax:=bW 97 4
noncomputable abbrev ach:ax:=bW 97 5
noncomputable abbrev aci:ax:=bW 97 6
noncomputable abbrev acj:ax:=top 98
noncomputable abbrev ack:ax:=top 103
noncomputable abbrev acm:ax:=top 104
noncomputable abbrev acn:ax:=top 105
noncomputable abbrev aco:ax:=top 106
noncomputable abbrev acp:ax:=top 107
noncomputable abbrev acq:ax:=top 108
noncomputable abbrev acr:ax:=top 109
noncomputable abbrev acs:ax:=top 110
noncomputable abbrev acu:ax:=top 111
noncomputable abbrev acv:ax:=top 112
noncomputable abbrev acw:ax:=nQ 0
noncomputable abbrev acx:ax:=nQ 1
noncomputable abbrev acy:ax:=nQ 2
noncomputable abbrev acz:ax:=nQ 3
noncomputable abbrev acA:ax:=nQ 4
noncomputable abbrev acB:ax:=nQ 5
noncomputable abbrev acC:ax:=top 139
noncomputable abbrev acD:ax:=top 140
noncomputable abbrev acE:ax:=top 141
noncomputable abbrev acF:ax:=top 142
noncomputable abbrev acG:ax:=top 143
noncomputable abbrev acH:ax:=top 144
noncomputable abbrev acI:ax:=top 145
noncomputable abbrev acJ:ax:=top 146
noncomputable abbrev acK:ax:=top 147
noncomputable abbrev acL:ax:=top 148
noncomputable def gT(s:PySem.W.SharedT)(a:Addr):bZ Obj:=fp (Nat.blt a s.n) ((s.tree.get a).bind PySem.W.alive) ae
theorem aM2{s:PySem.W.SharedT}{a:Addr}{o:Obj}(e:be (gT s a)):be (s.abs.heap.get? a):=by unfold gT at e;rw[PR];{rename_i l;rw[aO u g (Option.bind_eq_some_iff.mp e)];exact B (PySem.W.abs_get (Nat.blt_eq.mp l) g) e};{rw[dS]}
theorem acM{g:ef->bZ Obj}{a:Addr}{o:Obj}:∀{l:bg},be (Mh a (Mi (DX (g a))))->be (g a)|[],e=>by{rw[dS]}|b::l,e=>by cases q:g b with|none=>{rw[a6 (List.filterMap_cons_none (dc q))];exact acM e}|some u=>rw[a0M (b:=(b,u)) (dc q),agM]at e;cases J:a==b with|true=>{rw[a6 J,dS,J (eq_of_beq J) q]}|false=>rw[a6 J];exact acM e
noncomputable def asN:bg:=[3,27,28,30,31,41,42,48,49,55,56,62,63,67,68,72,73,79,80,86,87,88,94,95,101,102,108,109,115,116,122,123,129,130,136,137,143,144,150,151,155,156,162,163,169,170,176,177,183,184,190,191,197,198,204,205,211,212,225,226,232,233,239,240,246,247,253,254,258,259,265,266,268,269,279,280,293,294,300,301,307,308,312,313,315,316,324,325,329,330,334,335,341,342,346,347,353,354,358,359,365,366,372,373,379,380,386,387,393,394,400,401,407,408,414,415,419,420,426,427,431,432,438,439,445,446,450,451,457,458,464,465,471,472,478,479,485,486,490,491,497,498,502,503,507,508,514,515,519,520,533,534,540,541,547,548,554,555,561,562,568,569,575,576,578,579,589,590,591,592,598,599,605,606,612,613,619,620,626,627,633,634,640,641,647,648,654,655,659,660,661,662,675,676,682,683,689,690,696,697,703,704,710,711,713,714,722,723,727,728,734,735,741,742,746,747,753,754,760,761,767,768,774,775,781,782]
noncomputable def KT(s:PySem.W.SharedT):Fg:=(asN.filterMap (DX (gT s a)))
theorem aM4(s:PySem.W.SharedT):(KT s).In agK:=sO (aM2 (acM e))
noncomputable def adr(K:Fg)(x:Str):ef:=Kp (fn x)
noncomputable def RN(K:Fg)(C:Addr)(x:Str):ef:=Kp (hr x)
noncomputable def fdOf(K:Fg)(f:Addr):U0:=qA fd Mj
noncomputable def oF(K:Fg)(q:Str)(f:Addr):beM:=qA (aa ({fd with kwdefaults:= .none,doc:= .none,pyModule:= .none,annotations:=ae,code:= .none,closureTuple:= .none},a0N K fd.code q,U1 K rz)) ae
noncomputable def oE(x q:Str)(st:Stmt):beM:=aa (aA0 x q (aqb st) (RM st) Eb .none .none .none .none ae .none .none,ab,ab)
noncomputable def abN:EO:=["len","range","enumerate","zip","reversed","sorted","set","list","tuple","max","min","all"]
noncomputable def itN:aO gy Int:=[("HEADER_BYTES",20),("POINT_BYTES",8),("LINE_BYTES",4),("MARK_BYTES",12),("LEAST_SIDE",16),("MOST_SIDE",1048575),("LEAST_POINTS",4),("MOST_POINTS",4096),("LEAST_LINES",4),("MOST_LINES",8192),("LEAST_MARKS",1),("MOST_MARKS",2048),("OUTSIDE",0),("FRAME_PLACE",20),("LEAD",0),("ERASE",1),("MOVE",2),("MARK",3),("DROP",4),("LEAST_LEAD",2),("MOST_LEAD",64),("MOST_STEPS",65536),("DONE",0),("NO_SUCH_THING",-2),("TOO_MANY_STEPS",-3),("NOT_TAKEN",-5),("FIRST_PLACE",16),("CALL_OPEN",1),("CALL_BARE",2),("CALL_LEAD",3),("CALL_ERASE",4),("CALL_MOVE",5),("CALL_MARK",6),("CALL_DROP",7),("CALL_UNDO",8),("CALL_REDO",9),("CALL_COUNT",10),("CALL_PLAN",11),("CALL_READ",13),("COUNT_DONE",0),("COUNT_UNDONE",1),("COUNT_PANES",2),("NO_RECORD",-9),("OUT_OF_RANGE",-1),("TOO_LONG",-6),("MOST_LENGTH",4294967295),("MOST_KIND",65535),("MOST_CARTOON_BYTES",131072),("MOST_SAVED_BYTES",67108864)]
noncomputable def tpN:aO gy aT:=[("OPENING",aIo),("RECORD_OPENING",aIp),("STEP_BYTES",[14,5,11,15,3]),("WITH_ROW",[1,3,13])]
noncomputable def fnN:aO gy ax:=[("point_place",aa4),("line_place",aa5),("mark_place",aa6),("byte_count",aa7),("ends_of",aa8),("numbered",aa9),("in_order",aa_),("frame_alone",aa'),("number_at",aba),("two_bytes",abb),("four_bytes",abc),("opening_fault",abd),("size_fault",abe),("header_fault",abf),("point_at",abg),("line_at",abh),("mark_at",abi),("drawing_told",abj),("point_bytes",abk),("line_bytes",abl),("mark_bytes",abm),("cartoon_bytes",abn),("turn",abo),("lies_inside",abp),("crosses",abq),("count_left",abr),("left_to_right",abA),("panes_of",abF),("lines_between",abG),("neighbours_of",abH),("first_loose",abI),("walk_deep",abJ),("first_unreached",abK),("earliest_back",abL),("first_cut",abM),("cartoon_told",abO),("judge",abQ),("same_lines",abR),("net_fault",abS),("form_fault",abT),("points_fault",abU),("lines_fault",abV),("frame_fault",abW),("edge_stands",abX),("tangle_fault",abY),("is_tangled",abZ),("ways_fault",ab0),("marks_fault",ab1),("first_misplaced",ab2),("first_repeated",ab3),("drawing_after",ab4),("redrawn",ab5),("joined",ab6),("parted",ab7),("with_lead",ab8),("with_erased",ab9),("with_moved",ab_),("with_mark",ab'),("with_dropped",aca),("refusal",acj),("saved_bytes",ack),("step_bytes",acm),("record_told",acn),("head_fault",aco),("steps_told",acp),("steps_fault",acq),("step_fault",acr),("step_size",acs),("step_at",acu),("lead_at",acv),("lengths_fit",acC),("mark_fits",acD),("in_range",acE),("mark_told",acF),("row_told",acG),("step_told",acH),("told_of",acI),("counted",acJ),("with_count",acK),("answers",acL)]
noncomputable def atN:aO gy EO:=[("Drawing",an4),("Sweep",["passed","gaps","links","sides"]),("Panes",["sweep","mark_gaps"]),("Record",["cartoons","steps","done"]),("Desk",["record"])]
noncomputable def meN:aO gy aLC:=[dl "new_region" "Sweep.new_region" abu,dl "region" "Sweep.region" abv,dl "link" "Sweep.link" abw,dl "gap_at" "Sweep.gap_at" abx,dl "gaps_above" "Sweep.gaps_above" aby,dl "pass_point" "Sweep.pass_point" abz,("Panes","home","Panes.home",abC),("Panes","homes_beside","Panes.homes_beside",abD),("Panes","how_many","Panes.how_many",abE),dm "cartoon" "Record.cartoon" acd,dm "undone" "Record.undone" ace,dm "take" "Record.take" acf,dm "forget_undone" "Record.forget_undone" acg,dm "undo" "Record.undo" ach,dm "redo" "Record.redo" aci,("Desk","answer","Desk.answer",acx),("Desk","begin_from_cartoon","Desk.begin_from_cartoon",acy),("Desk","begin_bare","Desk.begin_bare",acz),("Desk","begin_from_saved","Desk.begin_from_saved",acA),("Desk","begin","Desk.begin",acB)]
noncomputable def FP:aO gy (gy×ax):=[("Drawing","Drawing.__init__",aa3),("Sweep","Sweep.__init__",abt),("Panes","Panes.__init__",abB),("Record","Record.__init__",acb),("Desk","Desk.__init__",acw)]
noncomputable def yq:bZ pw->cb|some (some (.ref _))=>ab|_=>ai
noncomputable def RO:bZ pw->ek|some (some (.int i _))=>xr|_=>ae
noncomputable def vI:cS->ek| .int i _=>xr|_=>ae
noncomputable def RP(K:Fg)(x:Str):bZ (cS×bL ek):=match vJ (dp x)with|some ⟨c,_,.seq ar _,_⟩=>aa (c,ar.toList.map vI)|_=>ae
noncomputable def nE(e:DictEntry):Int×ek×ek:=(e.hash,vI e.key,vI e.val)
noncomputable def nP(p:Int×Int):Int×ek×ek:=(hashInt p.1,aa p.1,aa p.2)
noncomputable def nmN:aO Int Int:=[(1,0),(2,6),(3,4),(4,2),(5,3),(6,5),(7,1),(8,0),(9,0),(10,1),(11,0),(12,0),(13,0)]
noncomputable def nmF(K:Fg):bZ (cS×nf×aO Int (ek×ek)×Eu):=match vJ (dp "NUMBERS")with|some ⟨c,d,.dict a7 _,sl⟩=>aa (c,d,Ml nE,sl)|_=>ae
noncomputable def clF(K:Fg)(C:Addr)(l:EO):=(a0Q K C Str.empty&&a0P K C&&aA1 K C&&a0O K C&&U1 K xc,hr "__setattr__",kv (fun f:gy=>hr f))
noncomputable def mtF(K:Fg)(C:Addr)(m q:Str):=(yq (hr m)&&a0R K (.ref ZF),oF K q ZF)
noncomputable def facts(K:Fg):=k (fun x:gy=>fn x) (RO (fn p.1)) (bn (nX (RP K p.1))) aKu (bn (nX bb9)) (bn (nX a'B)) (bn (ln p.2.1 (aS p))) (bn (ln "__init__" p.2.1))
noncomputable def aM8:=k a7q (aa p.2) (bn (ab,a9w)) (ab,aMz) (bn beN) (bn (ab,bb_)) (bn (ab,bdU)) (bn (ab,bdT))
universe GA
universe z
section z
set_option tactic.hygienic true
open PySem PySem.W PyProof.Rows
namespace HX
noncomputable def fo{I:Type}(l:O7):a9q:= @List.rec Obj (au a9q) (cj (k [])) (fun o _ d6 k=> @Obj.rec (au I) (fun a b c d=>d6 (fun J=>k (d a b c d::J))) o) l
theorem aqe{I:Type}:∀(l:O7)(k:O7->I),fo l k=k l|[],_=>rfl|⟨_,_,_,_⟩::l,k=>aqe l _
noncomputable def kp:ao->ue->ue|[],J=>J|0::l,_::J=>kp l J|(n+1)::l,a::J=>a::kp (n::l) J|_,[]=>[]
noncomputable def q2:Mg:=DE (kp [0,13,23,4,6,6,16,16,7,13] aA2)
noncomputable abbrev Xt2(s:Shared):cb:=BH q2
universe HX
universe z
section z
set_option tactic.hygienic true
open PySem PySem.W PyProof.Rows
namespace HX
noncomputable def q3:Mg:=DE (P.main.body.drop 148)
noncomputable def l3:cX:=P.main.scope.names.map fM
noncomputable abbrev X3(s:Shared):cb:=BH q3
theorem bi1(w:World)(os:OsState):cb (s (fH ry) (ry) P (C5 ai) 10068 (s0 w os) P) (fo (a0S s.n) (ch biG)) alW:=by rw[PySem.W.Fast.te10156331382660048174,PySem.W.Fast.te11892475500146522536,PySem.W.Fast.te14364793385576792824,PySem.W.Fast.te6613529449190102663,PySem.W.Fast.te4187177175401517315];kernel_rfl
universe HX
universe z
section z
set_option tactic.hygienic true
section z
namespace HX
open PySem PySem.W PyProof.Rows
noncomputable abbrev run(w:World)(os:OsState):bZ G5:=s (fH ry) (ry) P w 10068 (s0 w os) P
noncomputable def YH(h:Heap):Prop:=∃K:Frag,uj/\a0T K=agN
noncomputable abbrev lk(w:World)(s:SharedT)(l:O7):=biG
theorem aM9(a:baS)(b:baR):bh7:=by refine Mm bo aM1 z1 (fun w os=>?_);obtain⟨s,J,l⟩:=ze (a w os);obtain⟨c1,B,i1⟩:=ze (b w os);cases J.symm.trans B;rw[aqe]at l;rw[ey a7 d5 l];refine Option.map_eq_some_iff.mpr (aJ s J);exact sM a7 (sM d5 (eq_true (av (GA.aM4 s) i1)))
universe HX
universe z
universe z
section z
set_option tactic.hygienic true
namespace HX
open PySem PySem.W PyProof.Rows
noncomputable abbrev oj(b:Bool)(w:World):=C5 b
theorem ra0(w:World)(os):cb (lp (oj ai w)) (wp (oj ai w)) alW:=bhf
theorem ra1(w:World)(os):cb (lp (oj ab w)) (wp (oj ab w)) alW:=bhf
theorem rb0(w:World)(os):cb (lp (oj ai w)) aGv agN:=bf0
theorem rb1(w:World)(os):cb (lp (oj ab w)) aGv agN:=bf0
theorem ra:baS:=n4 ra0 ra1
theorem rb:baR:=n4 rb0 rb1
theorem lft:bh7:=aM9 ra rb
abbrev R:=PySem.Challenge.rw_glassrecord_s01_answers
theorem wa:namesResolve U2=ab:=cB
theorem wb:noRoadLSs {strict:=! ez (UY agO) cThrough.contains,foot:=ae,bare:=a0U (readsOut U2 agO) [G7 "vars",G7 "dir",G7 "locals"]} agO=ab:=cB
theorem wc:namesMeet U2 agO (fun _ n=>attrL n)=ab:=cB
theorem ws:R.wellSaid=ab:=by have g:∀{a b:Bool},a=ab->b=ab->c_ a b:=jD (Bool.and_eq_true_iff.mpr ⟨x,y⟩);have e:looksOpen U2=ab:=g (g (g (g (g cB cB) wa) cB) wb) wc;exact g (g (g (g (g e cB) cB) cB) cB) cB
theorem co:c_ (chainsOk q3) (opensWell U2):=cB
theorem br:R.prog.bare:=f rfl rfl rfl (bd cB)
theorem xa:z i (R.pre i=ab) (a0V i=ab):=v [.list (mC 8)] cB cB
universe HX
universe z
theorem cV{a b l J:Nat}(h:cM)(e:a_9):gL:=Nat.le_of_add_le_add_right (cn e (a0W h J))
theorem aNd{a b l J:Nat}(h:cM)(e:a_'):gL:=cV h e
theorem cf{a b c d l J:Nat}(h:cM)(i:eP)(e:bC b d a c):gL:=cV FC e
theorem RQ{a b c d l J:Nat}(h:cM)(i:eP)(e:bD b d a c):gL:=cf h i e
theorem hn{a b c d x y l J:Nat}(h:cM)(i:eP)(j:gu)(e:bfG):gL:=cf FC j e
theorem aqf{a b c d x y l J:Nat}(h:cM)(i:eP)(j:gu)(e:bfI):gL:=hn h i j e
theorem uR{a b c d x y z w l J:Nat}(h:cM)(i:eP)(j:gu)(k:rO)(e:bfH):gL:=hn FC j k e
theorem RR{a b c d x y z w l J:Nat}(h:cM)(i:eP)(j:gu)(k:rO)(e:bfJ):gL:=uR h i j k e
theorem Kp{a b c d x y z w u v l J:Nat}(h:cM)(i:eP)(j:gu)(k:rO)(m:u<=v)(e:bC (b+d+y+w) v alq u):gL:=uR FC j k m e
theorem bi2{a b c d x y z w u v l J:Nat}(h:cM)(i:eP)(j:gu)(k:rO)(m:u<=v)(e:bD (b+d+y+w) v alq u):gL:=Kp h i j k m e
theorem aN0{l J:Nat}(e:em l J):gL:=e
theorem aNe{l J:Nat}(e:eo l J):gL:=aN0 e
theorem aF1{a b:Nat}(h:cM)(e:em (b+1) a):cE:=jr _ (cn e h)
theorem bi3{a b:Nat}(h:cM)(e:eo (b+1) a):cE:=aF1 h e
theorem gv{a b c d:Nat}(h:cM)(i:eP)(e:a__):cE:=aF1 FC e
theorem bi4{a b c d:Nat}(h:cM)(i:eP)(e:a'a):cE:=gv h i e
theorem yr{a b c d x y:Nat}(h:cM)(i:eP)(j:gu)(e:bfP):cE:=gv FC j e
theorem bi5{a b c d x y:Nat}(h:cM)(i:eP)(j:gu)(e:bfR):cE:=yr h i j e
theorem aF4{a b c d x y z w:Nat}(h:cM)(i:eP)(j:gu)(k:rO)(e:bfQ):cE:=yr FC j k e
theorem bi6{a b c d x y z w:Nat}(h:cM)(i:eP)(j:gu)(k:rO)(e:bfS):cE:=aF4 h i j k e
theorem aF5{a b c d x y z w u v:Nat}(h:cM)(i:eP)(j:gu)(k:rO)(m:u<=v)(e:em (b+d+y+w+v+1) (OP+z+u)):cE:=aF4 FC j k m e
theorem bi7{a b c d x y z w u v:Nat}(h:cM)(i:eP)(j:gu)(k:rO)(m:u<=v)(e:eo (b+d+y+w+v+1) (OP+z+u)):cE:=aF5 h i j k m e
theorem aQ1{a b l J:Nat}(h:a=b)(e:bdH):l=J:=a0X (aA3 (gz _ h))
theorem aQ2{a b c d l J:Nat}(h:a=b)(i:c=d)(e:bf5):l=J:=aQ1 aoU e
theorem aQ3{a b c d x y l J:Nat}(h:a=b)(i:c=d)(j:x=y)(e:bf6):l=J:=aQ2 (a:=a+c) aoU j e
theorem rW{a b l J:Int}(h:cM)(e:a_9):gL:=Int.le_of_add_le_add_right (aA4 e (Int.add_le_add_left h J))
theorem aqj{a b l J:Int}(h:cM)(e:a_'):gL:=rW h e
theorem Kq{a b c d l J:Int}(h:cM)(i:eP)(e:bC b d a c):gL:=rW Rb e
theorem FQ{a b c d l J:Int}(h:cM)(i:eP)(e:bD b d a c):gL:=Kq h i e
theorem rX{a b c d x y l J:Int}(h:cM)(i:eP)(j:gu)(e:bfG):gL:=Kq Rb j e
theorem acV{a b c d x y l J:Int}(h:cM)(i:eP)(j:gu)(e:bfI):gL:=rX h i j e
theorem aI4{a b c d x y z w l J:Int}(h:cM)(i:eP)(j:gu)(k:rO)(e:bfH):gL:=rX Rb j k e
theorem bi9{a b c d x y z w l J:Int}(h:cM)(i:eP)(j:gu)(k:rO)(e:bfJ):gL:=aI4 h i j k e
theorem aI0{l J:Int}(e:em l J):gL:=e
theorem bi_{l J:Int}(e:eo l J):gL:=aI0 e
theorem aG1{a b:Int}(h:cM)(e:em (b+1) a):cE:=Int.lt_irrefl _ (aA4 e h)
theorem bi'{a b:Int}(h:cM)(e:eo (b+1) a):cE:=aG1 h e
theorem Kr{a b c d:Int}(h:cM)(i:eP)(e:a__):cE:=aG1 Rb e
theorem acX{a b c d:Int}(h:cM)(i:eP)(e:a'a):cE:=Kr h i e
theorem RS{a b c d x y:Int}(h:cM)(i:eP)(j:gu)(e:bfP):cE:=Kr Rb j e
theorem bja{a b c d x y:Int}(h:cM)(i:eP)(j:gu)(e:bfR):cE:=RS h i j e
theorem aG4{a b c d x y z w:Int}(h:cM)(i:eP)(j:gu)(k:rO)(e:bfQ):cE:=RS Rb j k e
theorem bjb{a b c d x y z w:Int}(h:cM)(i:eP)(j:gu)(k:rO)(e:bfS):cE:=aG4 h i j k e
theorem RT{a b l J:Int}(h:a=b)(e:bdH):l=J:=eO
theorem aP2{a b c d l J:Int}(h:a=b)(i:c=d)(e:bf5):l=J:=RT aoU e
theorem aP3{a b c d x y l J:Int}(h:a=b)(i:c=d)(j:x=y)(e:bf6):l=J:=aP2 (a:=a+c) aoU j e
theorem Eq.l{a b:Nat}(h:a=b):cM:=qF h
theorem Eq.g{a b:Nat}(h:a=b):b<=a:=qF agP
theorem Eq.m{a b:Int}(h:a=b):cM:=a0Y h
theorem Eq.n{a b:Int}(h:a=b):b<=a:=a0Y agP
theorem aNl{a b:Nat}(h:¬cM):b+1<=a:=G8 h
theorem qq{a b:Nat}(h:¬a<b):b<=a:=zf h
theorem aMl{a b:Int}(h:¬cM):b+1<=a:=Int.lt_of_not_ge h
theorem aMt{a b:Int}(h:¬a<b):b<=a:=agQ h
theorem aDe{a b:Nat}(h:a9Y=ab):cM:=Int.ofNat_le.mp (CB h)
theorem Bs{a b:Nat}(h:bT (v a) b=ab):a<b:=Int.ofNat_lt.mp (CB h)
theorem aDf{a b:Nat}(h:¬a9Y=ab):b<a:=G8 (J (h (dH (aA5 z))))
theorem Bt{a b:Nat}(h:¬bT (v a) b=ab):b<=a:=zf (J (h (dH (U3 z))))
theorem aS(x y:Nat):x<=x-y+y:=Nat.sub_le_iff_le_add.mp a_
theorem aR{x y:Nat}(h:y<=x):x-y+y<=x:=qF (Mn h)
theorem aC{x y:Nat}(h:gu):v x<=y:=aA5 h
theorem Ks(x:Nat):xy<=x:=Int.natCast_nonneg x
theorem mh{x y:Nat}(h:x<y):v x+1<=y:=U3 h
theorem aW{a b:Nat}(h:cM)(n:¬a=b):a<b:=aA6 h n
theorem aV{a b:Nat}(h:cM)(n:¬b=a):a<b:=aA6 h (hs n)
theorem RU{I:Type}{l:ba}{k n:Nat}(h:d_<=n):t (G9 k)+t (oK (k+1))<=n:=by rw[eS,sO];lia
theorem FR{a b c d e f:Nat}(h:a<b\/a=b/\d<e)(g:b<c\/b=c/\e<f):a<c\/a=c/\d<f:=mL (.inl (g.elim (js h) (fun g=>g.1▸h))) (g.elim (fun g=> .inl (h.1▸g)) (fun g=>eX (h.1.trans g.1) (js h.2 g.2)))
section z
theorem FT:∃e:(∀{I:Type} [eI I],(cu I)->I),∀{I:Type} [eI I](p:cu I),p (e p)->∀z,p z:=⟨bn (a00 (J (¬p z))),fun p h z=>qG (eb (a0Z (p:=J (¬p z)) ⟨z,n⟩ h))⟩
noncomputable def RV{I:Type}(_:eI I)(p:cu I):I:=agR FT p
def Kd{I:Type}(_:I)(q:Prop):Prop:=q
theorem aE1{I:Type} [o:eI I]{p:cu I}(h:Kd (RV o p) (p (RV o p))):∀z,p z:=aA7 FT p h
variable{A B C D E F G H I d0 K Z:Type}
noncomputable def xE2(o:eI (A×B))(p:au A B):A×B:=g4 (p z.1 z.2)
theorem aE2 [o:eI (A×B)]{p:au A B}(y:au (aoq).1 (aoq).2 (p (aoq).1 (aoq).2)):∀a b,p a b:=fs (bO (A×B) (p z.1 z.2) rM)
noncomputable def RW(o:eI apC)(p:be A B C):apC:=g4 bca
theorem aE3 [o:eI apC]{p:be A B C}(y:au (Rc).1 (aV Rc) (Kd (Rc).2.2 (p (Rc).1 (aV Rc) (Rc).2.2))):∀a b c,p a b c:=fun a b c=>bO apC bca (a,b,c)
noncomputable def xE4(o:eI apT)(p:aa A B C D):apT:=g4 beQ
theorem aE4 [o:eI apT]{p:aa A B C D}(y:au (FD).1 (aV FD) (au (bU FD) (FD).2.2.2 (p (FD).1 (aV FD) (bU FD) (FD).2.2.2))):zX (p a b c d):=fun a b c d=>bO apT beQ (a,b,c,d)
noncomputable def xE5(o:ie E)(p:k7 (cu E)):hm E:=g4 bgx
theorem aE5 [o:ie E]{p:k7 (cu E)}(y:T ym ym ym ym (Kd (a2 (ym)) (p (ym).1 (aV ym) (bU ym) (cE ym) (a2 (ym))))):∀a b c d e,p a b c d e:=fun a b c d e=>bO (hm E) bgx (a,b,c,d,e)
noncomputable def xE6(o:ie (E×F))(p:k7 (au E F)):hm (E×F):=g4 bhx
theorem aE6 [o:ie (E×F)]{p:k7 (au E F)}(y:T rT rT rT rT (au (bX rT) (jm rT) (p (rT).1 (aV rT) (bU rT) (cE rT) (bX rT) (jm rT)))):∀a b c d e f,p a b c d e f:=fun a b c d e f=>bO (hm (E×F)) bhx (a,b,c,d,e,f)
noncomputable def xE7(o:ie apD)(p:bdi):hm apD:=g4 bh8
theorem aE7 [o:ie apD]{p:bdi}(y:T oi oi oi oi (au (bX oi) (ct oi) (Kd (eV (oi)) (p (oi).1 (aV oi) (bU oi) (cE oi) (bX oi) (ct oi) (eV (oi)))))):∀a b c d e f g,p a b c d e f g:=fun a b c d e f g=>bO (hm apD) bh8 (a,b,c,d,e,f,g)
noncomputable def xE8(o:ie apU)(p:bfq):hm apU:=g4 biu
theorem aE8 [o:ie apU]{p:bfq}(y:T lh lh lh lh (au (bX lh) (ct lh) (au (dv lh) (eV (lh).2) (p (lh).1 (aV lh) (bU lh) (cE lh) (bX lh) (ct lh) (dv lh) (eV (lh).2))))):∀a b c d e f g h,p a b c d e f g h:=fun a b c d e f g h=>bO (hm apU) biu (a,b,c,d,e,f,g,h)
noncomputable def xE9(o:kx I)(p:oY (cu I)):ko I:=g4 bix
theorem aE9 [o:kx I]{p:oY (cu I)}(y:T jj jj jj jj (au (bX jj) (ct jj) (au (dv jj) (d5 jj) (Kd (a2 (a2 (jj))) (p (jj).1 (aV jj) (bU jj) (cE jj) (bX jj) (ct jj) (dv jj) (d5 jj) (a2 (a2 (jj)))))))):∀a b c d e f g h i,p a b c d e f g h i:=fun a b c d e f g h i=>bO (ko I) bix (a,b,c,d,e,f,g,h,i)
noncomputable def aqC(o:kx (I×d0))(p:a8q):ko (I×d0):=g4 biH
theorem aqD [o:kx (I×d0)]{p:a8q}(y:T hV hV hV hV (au (bX hV) (ct hV) (au (dv hV) (d5 hV) (au (fp hV) (a2 (jm hV)) (p (hV).1 (aV hV) (bU hV) (cE hV) (bX hV) (ct hV) (dv hV) (d5 hV) (fp hV) (a2 (jm hV))))))):∀a b c d e f g h i j,p a b c d e f g h i j:=fun a b c d e f g h i j=>bO (ko (I×d0)) biH (a,b,c,d,e,f,g,h,i,j)
noncomputable def aqE(o:kx apB)(p:bdC):ko apB:=g4 biN
theorem aqF [o:kx apB]{p:bdC}(y:T hj hj hj hj (au (bX hj) (ct hj) (au (dv hj) (d5 hj) (au (fp hj) (k3 hj) (Kd a8R (p (hj).1 (aV hj) (bU hj) (cE hj) (bX hj) (ct hj) (dv hj) (d5 hj) (fp hj) (k3 hj) a8R)))))):∀a b c d e f g h i j k,p a b c d e f g h i j k:=fun a b c d e f g h i j k=>bO (ko apB) biN (a,b,c,d,e,f,g,h,i,j,k)
noncomputable def aqG(o:kx apS)(p:bfC):ko apS:=g4 biU
theorem mi [o:kx apS]{p:bfC}(y:T gq gq gq gq (au (bX gq) (ct gq) (au (dv gq) (d5 gq) (au (fp gq) (k3 gq) (au a8j (oy (gq).2) (p (gq).1 (aV gq) (bU gq) (cE gq) (bX gq) (ct gq) (dv gq) (d5 gq) (fp gq) (k3 gq) a8j (oy (gq).2))))))):∀a b c d e f g h i j k l,p a b c d e f g h i j k l:=fun a b c d e f g h i j k l=>bO (ko apS) biU (a,b,c,d,e,f,g,h,i,j,k,l)
universe z
section z
open PySem
instance nA:eI Around:=⟨{}⟩
instance nS:eI vH:=⟨{}⟩
instance nQ:eI agL:=⟨bh9⟩
instance nW:eI oJ:=nQ.elim (bn ⟨⟨h2 0,p⟩⟩)
instance nP:eI U4:=⟨al3⟩
instance nT:eI Gla.Pt:=⟨jO⟩
instance nM:eI G_:=⟨v jO 0 0⟩
instance nF:eI Mo:=⟨jO⟩
instance nE:eI CC:=⟨.drop 0⟩
universe z
namespace L2
open PySem PySem.Spec PyProof.Rows
abbrev Key:=Sum Int Str
noncomputable def RX:dI Key cS| .inl k,v=>Value.isInt k v| .inr x,v=>Value.isStrOf x v
noncomputable def aNk(w:World):Key->Int| .inl k=>hashInt k| .inr x=>hashStr w x
theorem aNm:∀{k:Key}{v:Value},RX k v=ab->(∃i t,k=ht i/\v=QJ)\/(∃x t,k=U5 x/\v=aor)| .inl i,v,h=>by{rw[ck t (aA8 (k:=i) (v:=v) h)];exact .inl (cg i t e)}| .inr x,v,h=>by rw[ck t (a01 (x:=x) (v:=v) h)];exact bj x t rfl e
theorem ac1(i:Int)(t:Tok):RX (.inl i) (eZ i)=ab:=Qb
theorem aNn(x:Str)(t:Tok):RX (.inr x) (.str x t)=ab:=Qb
theorem aNo(a b:Int):ar (ht a:Key) (ht b)=(a==b):=Be
theorem aNp(a b:Str):ar (U5 a:Key) (U5 b)=ar a b:=aQ
theorem aNq(a:Int)(b:Str):ar (ht a:Key) (U5 b)=ai:=a9f
theorem aNr(a:Str)(b:Int):ar (U5 a:Key) (ht b)=ai:=a9f
noncomputable def RY(prog:Program)(w:World):PySem.KeyKind cN w Key where is:=RX;hash:=aNk w;inj:=fun v a b b3 U=>by{rw[vb b3];{rw[n U j u e y u e];{rw[aKq];rw[b4]};rw[cY]};{rw[n U j u e y u e,cY];{rw[aKq];rw[b4]}}};byValue:=fun k v h=>by{rw[vb h]<;>rfl};pyHash:=fun d3 h=>by{rw[vb d3,l (wpAny_pyHash_int h),l (wpAny_pyHash_str h)]};eqBool:=fun hu d3 h=>by{rw[vb hu];{rw[bg4,gM aNo (wpAny_eqBool_int h),gM aNq (a03 i t y u _ _ _ _ h)]};{rw[bg4,gM aNr (a02 x t j u _ _ _ _ h),gM aNp (wpAny_eqBool_str h)]}};«strs»:=fun k x t v h=>by rw[n h i u e y u e,cY];{rw[aKq,Jq,li v]}
theorem aNs(prog:Program)(w:World)(i:Int)(t:Tok):(RY cN w).is (.inl i) (eZ i)=ab:=ac1 i t
theorem aNu(prog:Program)(w:World)(x:Str)(t:Tok):(RY cN w).is (.inr x) (.str x t)=ab:=aNn x t
universe L2
namespace L2
open PySem PySem.Spec PyProof.Rows
set_option genInjectivity true in inductive V where|bC|bl(b:Bool)|int(i:Int)|str(x:Str)|iC(b:fq Mq)|RZ(b:UInt64)|ref(a:Addr)|ty(n:String)deriving DecidableEq
instance nV:eI V:=⟨.bC⟩
def RelV:au V cS| .bC,u=>u=CD| .bl b,u=>u=vK b| .int i,u=>jF QJ| .str x,u=>jF aor| .iC b,u=>jF (a05 b t)| .RZ b,u=>jF (a04 b t)| .ref a,u=>u=dm a| .ty n,u=>u=Mr n
abbrev Vals:au af aM:=dD gP
theorem Vals.length{O:af}{b1:aM}(J:nL):bx=ly:=Ms J
theorem Vals.get{O:af}{b1:aM}{i:Nat}{x:V}(h:nL)(e:nh):z u (A b1 u) pL:=f_ h (c_ e) (j e)
theorem Vals.set{x:V}{u:Value}(J:pL){O:af}{b1:aM}(i:Nat)(h:nL):iM (O.set i x) (b1.set i u):=by induction h generalizing i with|nil=>{rw[kL]}|cons q t j=>cases i with|zero=>{rw[cA J t]}|succ i=>rw[cA q (j i)]
theorem Vals.append{O d7:af}{b1 ws:aM}(h:nL)(s:iM d7 ws):iM (O++d7) (b1++ws):=a'N
theorem Vals.take{O:af}{b1:aM}(n:Nat)(h:nL):iM (O.take n) (b1.take n):=by induction h generalizing n with|nil=>{rw[a06,a06];exact .nil}|cons J t j=>cases n with|zero=>{rw[kL]}|succ n=>rw[cA J (j n)]
theorem Vals.drop:∀{O:af}{b1:aM}(n:Nat),nL->iM (Ha n) (b1.drop n)|_,_,0,J=>J|_,_,_+1,.nil=> .nil|_,_,n+1,.cons _ t=>Vals.drop n t
def rY:au jK pw|some v,some u=>jh|none,none=>gA|_,_=>cE
def KV{c:Type}:au hT Fp:=dD (fun(p:c×V)(q:c×cS)=>p.1=q.1/\gP p.2 q.2)
noncomputable def kV:Key->V| .inl i=>hP| .inr x=>Jr
set_option genInjectivity true in inductive HO where|lst(O:af)|tup(O:af)|dK(F:gs)|dT(F:uy)|set(r:Int->cb)(n:Nat)|ins(C dx:Addr)(G:hU)|own(x:Addr)|xd(G:hU)|met(f x:Addr)|rng(lo hi:Int)|ys(o:Obj)(u:HO)|Kt(c5:dU)|ext(i:cu iL)
instance nH:eI HO:=⟨al'⟩
abbrev Hp:=ef->bZ HO
noncomputable def upd(H:Hp)(a:Addr)(o:HO):Hp:=h8 (av (b=a) o (H b))
theorem ak{H:Hp}{a:Addr}{o:HO}:be (upd H a o a):=by delta upd;rw[cO]
theorem bW{H:Hp}{a b:Addr}{o:HO}(h:b≠a):upd H a o b=H b:=by delta upd;rw[aO h]
theorem yt{H:Hp}{a:Addr}{o u:HO}:upd Qu a u=ad a u:=by funext b;delta upd;split<;>rfl
theorem qr{H:Hp}{a b:Addr}{o u:HO}(h:Y4)(h':fr u)(d:o≠u):AL:=fk
theorem fm{H:Hp}{a b:Addr}{o:HO}(h:Y4)(h':gp):AL:=fk
section z
variable(P:Program)(w:World)
def om(H:Hp)(h:Heap)(a:Addr):cu HO| .lst O=>Jg/\BI (EA/\bA a JX)| .tup O=>Jg/\∃ar:aM,EA/\Mt h a eT| .dK F=>nm apP| .dT F=>nm (∃O:J6,dD (fun(p:bL Key×V)(q:bL Key×ef×cS)=>bfb) F O/\qQ (Hb (entryOfKey (U8 tI))) (c7 (Hb fM)))| .set r n=>h.SetOf (aA9 P w) a r n| .ins C dx G=>z (bh dx YR) (U7<=1000) (dx≠a) (bA a (U6 C dx)) (I j (agS dx j) (∀f,aJu) a9g)| .own _=>∃o,pM| .xd G=>z j (agS a j) (∀f,aJu)| .rng lo hi=>∃t u v,bA a (l6 "range" a69)| .ys o u=>pM/\om H h a u| .Kt c5=>bA a {cls:= .none,data:= .fields c5}| .met f x=>bA a (PySem.W.methodObj rz kN)| .ext i=>i h/\(∃o,pM)/\∀a3 a9:iL,i a3->ad o (be (a3.get? a)) (be (a9.get? a))->i a9
def Bu(H:Hp)(h:Heap):Prop:=j a o Y4 (g7 o)
universe z
section z
variable{P:Program}{w:World}{H L:Hp}{h h':Heap}{a:Addr}{o:HO}
theorem om.lt(x:g7 o):a<mC:=by revert x;revert P w H h a o;refine aa2;rw[n P w H h a o];intro x;cases o with|lst O=>{obtain⟨_,_,_,_,e⟩:=x;exact hc}|tup O=>{obtain⟨_,_,_,p⟩:=x;exact p.lt}|dK F=>{rw[bds]}|dT F=>{rw[bds]}|set r n=>{obtain⟨o,_,_,_,e,_⟩:=x;exact hc}|ins C dx G=>{obtain⟨_,_,_,e,_⟩:=x;exact hc}|own y=>{rw[r8 x];exact hc}|xd G=>{obtain⟨_,⟨_,_,_,e,_⟩,_⟩:=x;exact hc}|rng lo hi=>{obtain⟨_,_,_,e⟩:=x;exact hc}|ys N u=>{obtain⟨e,_⟩:=x;exact hc}|Kt c5=>{rw[bec]}|met f y=>{rw[bec]}|ext i=>obtain⟨_,⟨_,e⟩,_⟩:=x;exact hc
theorem Paired.aqH{I d:Type}{F G:ql}{c:ba}{e:nG}(h:dD F c e)(f:a'g):dD G c e:=by induction h with|nil=>{rw[kL]}|cons J t i=>rw[cA (f _ _ J) i]
theorem om.qs(x:g7 o)(k:ly (b=a\/fr YR) (zg b))(d0:E b (fr YR) (hB YR))(c6:aL3):om P w L h' a o:=by induction o with|lst O=>{rw[X ar n J e x];exact a z ar n J xO}|tup O=>{rw[j z ar J N e c x (c z ar J N xO c)]}|dK F=>{rw[hq vs vs J]}|dT F=>{rw[hq O O (Paired.aqH J (fun p q z=>bcG))]}|set r n=>{rw[j N a7 e1 t e c x (c N a7 e1 t xO c)]}|ins C dx G=>{obtain⟨d,z,ne,e,j,⟨m,a7,e1,b9,c⟩,J⟩:=x;exact a (d0 _ d) z ne xO j (a m a7 e1 (ax (.inr d) b9) c) J}|own y=>{rw[ck N x];exact⟨N,xO⟩}|xd G=>{obtain⟨j,⟨m,a7,e1,e,c⟩,J⟩:=x;exact v j (a m a7 e1 xO c) J}|rng lo hi=>{obtain⟨t,u,v,e⟩:=x;exact d t u v xO}|ys N u d6=>{rw[dZ e x];exact⟨xO,d6 q⟩}|Kt c5=>{exact k a _ gj x}|met f y=>{exact k a _ gj x}|ext i=>obtain⟨p,⟨o,e⟩,st⟩:=x;exact v (st _ _ p (lx (ax gj q))) (no xO) st
theorem Bu.lt(x:la)(e:Y4):a<mC:=(x a o e).lt
theorem Bu.fresh(x:la)(e:mC<=a):Y a:=by cases q:H a with|none=>{rfl}|some u=>rw[dQ (fH (x.lt q) e) (jr _)]
theorem Bu.kept(x:la)(k:anm):fg H h':=fun a o e=>(x a o e).qs (fun b u _ q=>Yc) aGx (ip q)
theorem Bu.laid(x:la)(k:anm)(c2:mC<=a)(a6:om P w Qu h' a o):fg Qu h':=sl (by have d1:=x.fresh c2;rw[N U b a];{subst U;rw[a6 ak,dS];exact a6};{rw[a6 (bW U)];exact(x b u e).qs bd2 (fun c q=>QH) (zD QH)})
universe z
def Rd(H:Hp)(a:Addr)(u:HO):Prop:=cw u\/∃o,cw ali
theorem Rd.ok{P:Program}{w:World}{H:Hp}{h:Heap}{a:Addr}{u:HO}(J:kA u)(x:la):g7 u:=by rcases J with J|⟨o,J⟩;rw[l (x a u J)];{obtain⟨_,q⟩:=x a _ J;exact q}
def uS:cu (bZ HO)|some (.lst _)=>gA|some (.dK _)=>gA|some (.dT _)=>gA|some (.set _ _)=>gA|some (.ins _ _ _)=>gA|some (.ext _)=>gA|_=>cE
section z
variable{P:Program}{w:World}{H:Hp}{h h':Heap}{x e:Addr}{g:HO}
theorem Bu.write(ok:la)(h8:aG5)(a0:aLE)(k:ly (b≠e) (zg b))(a:aL1)(a6:om P w (ad x g) h' x g):fg (ad x g) h':=qu (by have d:j c y (bh c (.own y)) (c≠x):=fun c y J z=>BA J;rw[N U b x];{subst U;rw[cR ak,kG];exact a6};{rw[cR (bW U),N f b e];{rw[mp c4 (fr Ec)];rw[q]at c4;cases c4;obtain⟨v,d3⟩:=a;exact rt v};{refine(ok b u q).qs (fun c v b0 J=>k c v ?_ J) (fun c J=>Y (d c b J) J) (fun c O J=>Y ((fun c O J z=>BA J) c O J) J);rw[dd b0 b0,cY,cL]}})
universe z
structure Un(G ex:bg)(H L:Hp)(h h':Heap):Prop where
 keep:∀b o,c md gp (b∉G) Y9 ha
 slot:∀b o,c md gp (b∈G) Y9 baq
 free:f b o md gp Y9 IT
 there:bd md Y9 (ax g (gQ b) g)
 Ku:aL3
 FU:bhb
 Kv:bdK
section z
variable{G b ex d:bg}{H a8 b7:Hp}{h a3 a9 h':Heap}{a x e:Addr}{o:HO}
theorem Un.any(u:jx a8 a3){b:Addr}{N:Obj}(q:bA b N)(n:gp)(S:Y9):ax sl (a3.get? b) {N with slots:=sl}:=by by_cases U:b∈G;rw[l (u.slot b N q n U S),l ⟨N.slots,u.keep b N q n U S⟩]
theorem Un.kept(k:anm):jx H h':=a (Dg (k b N q)) (Dg ⟨N.slots,k b N q⟩) (fun _ _ _ n _=>n) (fun b N q _=>⟨N,k b N q⟩) (ip q) (fun _ _ _ q=>q) (fun _ c5 q=>o0 bB)
theorem Un.refl:jx H h:=agT (ip q)
theorem Un.laid(k:anm)(c2:mC<=a)(d1:Y a):jx Qu h' where keep:=wl Yc;slot:=a83;free:=HG (he (ft q) c2);there:=bdk;Ku:=xd QH;FU:=ys QH;Kv:=Ga (fm q d1)
theorem Un.write(h8:aG5)(a0:aLE)(k:ly (b≠e) (zg b))(a:aL1):jx (ad x o) h':=by have S:E b gp (b≠x):=fun b n z=>BA n;have U:E b gp (b≠e):=fun b n z=>ah;have c4:l b u (fr u) (¬uS (aa u)) (b≠x):=fun b u q d1 z=>ah;rw[j (IO bdy) (IO ⟨a07,bdy⟩) (HG (S b n)) (fun b u q _=>?_) (v (xd (Y aL' q)) (ys (Y aL' q)) (Ga aL')),N f b e,l IQ,aZ]
universe z
noncomputable def trk(h:Heap)(H:Hp):bg:=dy mC (hv (dk (H a)))
noncomputable def ac4(h:Heap)(H:Hp):iL:=PySem.W.hideAll h (trk h H)
theorem aNv(h:Heap)(H:Hp):fH anN=mC:=PySem.W.hideAll_size _ _
theorem aNw{h:Heap}{H:Hp}{b:Addr}{o:Obj}(e:md)(n:gp):iE anN:=PySem.W.hideAll_get _ e (fun c4=>by rw[ci (vL c4).2,cR n];simp at q)
theorem aNx{h:Heap}{H:Hp}{b:Addr}{o:Obj}(e:iE anN):md/\gp:=by have d3:=PySem.W.of_hideAll (trk h H) e;rw[dI d3];cases q:H b with|none=>{rfl}|some x=>have z:di anN b=ae:=PySem.W.hideAll_none (trk h H) (U9 ⟨a08 (ft d3),x Av⟩);rw[a6 z,dS]
universe L2
namespace L2
open PySem PySem.Spec PyProof.Rows
structure Mod(K:PySem.W.Frag)(mg:dM)(base:Heap):Prop where
 kin:vM aj
 glob:alN
 blt:z D (a09 aA_ D) bgh
 nolimit:base.NoLimit
structure Cx where
 prog:Mg
 w:oJ
 K:UZ
 mg:dM
 base:iL
 A:Around
 N:cX
 FV:vH
 Kw:Hp
 env:Env
 outer:ka
 stack:ka
 ex:bg
 fn:Str->cb
 calm:cb
 pn:bw
 xe:aU
instance nX:eI Cx:=⟨a Mj Classical.ofNonempty [] uw Mj {} [] {} (a uw Mj [] [] [] (au ab) ab [] Ay)⟩
noncomputable def uT(l:ka):bg:=Mi (·.frame)
noncomputable abbrev Cx.fs(X:Cx):bg:=uT Mu
def Vis(a:Scope)(x:Str):Prop:=k8 (vN x)\/jU (vN x)\/iC (vN x)
def Loc(a:Scope)(x:Str):Prop:=a9M
def Look(env:Env)(h:Heap)(m:dM)(x:Str)(u:Value):Prop:=(k8 (agU x)/\ev (m x))\/((jU (agU x)\/iC (agU x))/\z c (aA' x=aa c) (h.IsCell c (aa u)))
structure Cx.Ok(X:Cx):Prop where
 mod:bch
 kind:sz aBd
 glob:a0'=CG
 blt:X.env.builtins=aA_
 above:Hc<=oL
 inj:∀x y c,aFT->am1->x=y
 has:E x (jU (aBc x)\/iC (aBc x)) (ax c (U_ x) c)
 cab:l x c (aBb x=ab) aFT (Hc<=c)
 hd:fQ->X.A.handled=ae
 frames:X.A.frames=aa oM
 stk:oM=Mu\/(oM=cF::Mu/\X.env.frame=aa oL)
 exf:bH CF (X4/\r7 b)
 bs:s5 (be (aBa b)/\X.Kw b=ae)
 R0:X.base.objs.size<=Hc
 aNA:s5 (b∉CF)
 R1:bH CF amI
 uU:a0_ sP Mu
 FW:bH vO (X.Kw b=ae)
structure Inv(X:Cx)(pins:bw)(M:bL jK)(H:Hp)(s:Shared):Prop where
 ok:X.Ok
 os:CH=X.FV.os
 bare:Hd sQ
 base:Un vO CF X.Kw H X.FV.heap bh
 loc:z m a94 (∀(i:Nat)(x:Str)(v:V),i ya anG aos (z u jh (Look cF bh m x u)))
 cell:r0 (∃v,a1a c v)
 free:Y oL
 bjd:r0 (Y c)
 pin:vY bhN
 dt:id H bh
 len:Va=X.N.length
section z
variable{X:Cx}{pins:bw}{M:bL jK}{H L:Hp}{s:Shared}{h':Heap}
theorem Cx.Ok.aNB(ok:X.Ok){b:Addr}{o:Obj}(e:be (a1b b)):amI:=fun U=>by have:=(ok.uU.mem U).1;rw[am e,nj]
theorem Inv.bs(I:aY):s5 (gY/\gp):=da ⟨a1c b o (apw).1 (apw).2 (I.ok.aNB e) (aBe b o e),agV b o (apw).1 (apw).2 (aBe b o e)⟩
theorem Inv.bk(I:aY):s5 gY:=da (I.bs b o e).1
theorem Inv.mod(I:aY):bch:=aBf
theorem Inv.Kx(I:aY):X.K.In bh:=I.ok.mod.kin.keeps I.bk
theorem Inv.lt(I:aY):oL<aO:=let⟨_,d1,_⟩:=vP;d1.lt
theorem Inv.sz(I:aY):Hc<=aO:=cn Mv (ew I.lt)
theorem Inv.aNC(I:aY){a:Addr}(h:aO<=a):a∉vO:=fun U=>by rw[bck];exact ix (fH PX (cn I.sz h))
theorem Inv.cne(I:aY):r7 oL:=fun x c e z=>by rw[bf_];obtain⟨m,⟨g,a7,e1,l,p,_⟩,_⟩:=vP;rw[b2 l d0];cases d0;rw[p]at hd;cases hd
theorem Inv.uU(I:aY):agW sP Mu:=by have all:∀(l:ka),V b (uT l) (b∈vO)->a0_ sP l->agW sP l:=by{rw[rF];induction l with|nil=>{intro _ _;trivial}|cons env J d6=>intro c0 a5;obtain⟨c3,⟨Z,o,W,d1,d0,hd⟩,a6⟩:=a5;rw[eS (oS Z fu),ck sl (a1d Z o d0 (I.ok.FW Z f) f (J (I.ok.R1 Z z f)))];exact v c3 (c Z _ W d1 e hd) (d6 (db (oS b (ck U))) a6)};exact all Mu (fun _ U=>U) I.ok.uU
theorem Inv.stack(I:aY):agW sP oM:=by rw[beR,Z e I.uU];{rw[e];obtain⟨m,d1,_⟩:=vP;refine .cons (by rw[sR];decide) W d1 (Heap.get?_none_of_le (cn agX Mv)) I.uU}
theorem Inv.aND(I:aY):fK (uT oM) (oL::vO):=db (by rw[beR,az];{rw[e]at U;delta uT at U;rw[He,W]at U;exact U})
theorem Inv.aqK(I:aY):bH (uT oM) gp:=db (by rw[i6 (zb U) U,Z e Hf];{rw[bck];exact agV b o d0 (I.ok.FW b U) (J (I.ok.R1 b z U))})
theorem Inv.step{g':fq Vc}{t':Nat}{d':Drawn}{ch:bg}(I:aY)(h:aMx)(keep:qq amI ha)(slot:qq (b∈vO) baq)(free:f b o Ja gY gp IT)(there:bd Ja gY (ax g (gQ b) g))(Ku:aL3)(FU:bhb)(Kv:bdK)(ns:E m a94 (h'.Ns oL m))(dt:id L h')(d8:Hd g'):bgY:=by have p3:hr (aBa b) X4:=da (he hc Mv);have r:bd (be (aBa b)) (b∉CF) Ja:=fun b o e S U=>by{rw[cZ (QT).1,cY,cF (fH hc z) (jr _)]};have t:r0 (E v (a1a c v) (h'.IsCell c v)):=fun x c e v e0=>by{rw[bJ d0 hd e0];have j:=bhI;by_cases b0:c∈vO;{rw[dZ sl (jt c o (I.cne x c e) b0 j d0 aI_)];exact av q hd};rw[l (v o (en c o (I.cne x c e) b0 j d0 aI_) hd)]};rw[b Vb agY d8 (a alu alu (fun b o e n S=>?_) (fun b o e S=>?_) (w6 (Ku b O (a1g b O e))) (fun b o O e=>FU b o O (a1f b o O e)) (fun b c5 e=>?_)) ?_ a8X ?_ a8X (v uc dt Hg),l (en b o (p3 b o e) U apR aME aLZ)];{obtain⟨sl,b4⟩:=a7V;rw[eB f (jt b _ (p3 b o e) U apR b4 aLZ)];exact⟨f,b9⟩};{rw[km b4 aGO];exact free b g apR b4 aLZ};{rw[km b4 aGO];exact there b g apR b4};{obtain⟨g9,b4⟩:=a1e b c5 e;rw[eB e1 (Kv b _ b4)];exact⟨g9++e1,ag⟩};{rw[aoj,aa m (ns m d1) (fun i x v b4 b9 e7=>?_),fF b4 b9 e7,ak u J];rcases l with l|⟨k,c,e,z⟩;rw[dQ l,co (d k c e (t x c e _ z))]};rw[S v z aGt v (t x c e v z)];{obtain⟨m,⟨o,_,_,d0,_⟩,_⟩:=vP;exact free _ o (un (h _ z)) d0 Hf};{rw[bf_];exact free c o bhI d0 aI_};{rw[aML];have j:=J ((h p.1 z).2.2.2 p c2 rfl);exact a (en p.1 p.2 ne w j e n) (free p.1 p.2 j e n) ne w d}
theorem Inv.un{t':Nat}(I:aY)(u:Un vO [] H L bh h')(dt:id L h'):aR L uE:=rc jI (Mw (g':=sQ) (d':=zi) (ch:=[]) (sN (nomatch z)) (GW (u.keep b o e n U bB)) (GW (u.slot b o e n U bB)) (fun b o _ e n=>u.free b o e n bB) (fun b o _ e=>u.there b o e bB) u.Ku u.FU u.Kv biL dt zh)
theorem Inv.call{g':fq Vc}{t':Nat}{d':Drawn}{ch:bg}(I:aY)(u:FT h')(dt:id L h')(d8:Hd g')(h:aMx):bgY:=rc (un (h _ z)) (Mw (ch:=ch) h (fun b o f U b0 e n=>u.keep b o e n (J (cd (zb z) f U)) b0) (fun b o _ _ b0 e n=>u.any e n b0) (fun b o b0 e n=>u.free b o e n b0) (sV (u.there b o e b0)) u.Ku u.FU u.Kv biL dt d8)
theorem Inv.turned{t':Nat}{it:Addr}(I:aY)(k:bd (b≠it) gY ha)(d1:Y it)(f:it≠oL)(a3:it∈CF\/Hc<=it)(a9:r7 it)(e2:vY (p.1≠it)):aR H uE:=by rw[nW (b≠it) ah];refine Mw (g':=sQ) (d':=zi) (ch:=[it]) tX (sb aHW) (yt aHW) a_H (sV (no aHW)) (sO e) a'p a9o aoc aH4 zh;{rw[el]};rw[Cj (hs f),bhY]
theorem Inv.tok(I:aY)(t:Nat):aR H (oH t):=I.un (h':=bh) (t':=t) Un.refl eo
theorem Inv.kept{t':Nat}(I:aY)(k:ZE):aR H uE:=I.un (agT k) (I.dt.kept k)
theorem Inv.laid{a:Addr}{o:HO}{t':Nat}(I:aY)(k:ZE)(c2:aO<=a)(a6:cE Qu a o):aR Qu uE:=I.un (Un.laid k c2 (zj c2)) (I.dt.laid k c2 a6)
theorem Inv.write{x e:Addr}{o:HO}{t':Nat}(I:aY)(h8:aG5)(a0:aLE)(k:ly (b≠e) (Hh b))(a:aL1)(a6:cE (ad x o) x o):aR (ad x o) uE:=I.un (Un.write h8 a0 k a) (I.dt.write h8 a0 k a a6)
theorem Inv.weak{g0:bL jK}(I:aY)(a5:g0.length=Va)(w:bk i v (A g0 pC->anG)):Inv X au g0 H s:=gE (let⟨m,d1,h1⟩:=vP;v m d1 (fun i x v b4 b9 e7=>h1 i x v b4 (w i v b9) e7)) Mx (a5.trans Hg)
theorem Inv.aqL{a:bw}(I:aY)(h:cz a bhN):Inv X a M H s:=gE vP (gP (os (vQ _ z) (h p))) Hg
theorem ac7{N:cX}(hN:N.Nodup){i j:Nat}{x:Str}(a:fh N)(b:aa N x):i=j:=bgP
theorem aqM{d5:Model}{A:Around}{E:aU}{i:Nat}{x:Str}{v:V}{u:Value}{Q:Qe}(I:aY)(hN:X.N.Nodup)(hi:ya)(S:J9)(J:jh)(h:o c1 bcN (z a (Hi a bh mD) (a=oL\/U_ x=aa a)) (Q () c1))(W:Kh):a'Y:=by rw[bW d1 a5 (id vP),bN Y (aBd== .class||(aBd== .module&&oL !=a0')) ai sR,z G (i<Va) Hg (bx hi),eS I.cne];have K:∀{a:Addr}{h':Heap},(z o (gE a) (Y a))->pa a->id H h':=fun{a h'}b3 c0 b N e=>by{obtain⟨_,_,L⟩:=b3;refine(eo b N e).qs (fun c c5 b0 q=>ac c0 c ?_ q) aGx (ip q);rintro rfl;rw[dd b0 b0,az,az]};rw[f1 c3 c3];{refine wpAny_storeName_local c3 d1 (fun h' j2 c0=>?_) Y;obtain⟨Z,_,_,l,_⟩:=id d1;refine h _ (a9 (av j2 a9U) aIg Z l Hf) (av c0 gj);rw[l (kk Mv aME),Hk Mv,Hj Mv];{rw[N b8 j i];{subst b8;rw[hi]at b4;cases b4;rw[My G]at b9;rw[a4 b9 (v u J (dq c3 (x cO)))]};{rw[Vd (hs b8)]at b9;rw[aJ F B (a5 j y t b4 b9 e7),ak F B];rcases q with⟨k,e⟩|⟨k,c,e,z⟩;{refine .inl (as k);have:QG:=an (b8 (ac7 hN b4 (e▸hi)));simp[this,e]};rw[co (d k c e bcn)]}};rw[S c5 z (CI y c e) c5 bcn];{rw[aML];exact a (ac c0 p.1 ne e) n ne w d}};{rw[ca r (aBb x=ab),da b0 (aBg x (.inl c3))];obtain⟨c5,z⟩:=CI x c b0;refine wpAny_storeName_cell sR c3 b0 z (fun h' O c0=>?_);obtain⟨D,P,a0⟩:=id z;refine h tF (a9 (v m (d1.sameBut c0 (hs (f x c b0))) a9U) (fun y C e=>?_) D P (Mz x c b0)) (v c c0 (.inr b0));rw[l (kk aMa aME),Hk aMa,Hj aMa];{rw[N b8 j i];{subst b8;rw[hi]at b4;cases b4;rw[My G]at b9;rw[a4 b9 (v u J (bj (.inl c3) c b0 O))]};{rw[Vd (hs b8)]at b9;rw[aJ F B (a5 j y t b4 b9 e7),ak F B];rcases q with q|⟨k,C,e,d3⟩;rw[dQ q];{refine bj k C e (d3.sameBut c0 ?_);rintro rfl;exact b8 (ac7 hN b4 (I.ok.inj _ _ _ e b0▸hi))}}};{rw[N R C c];{subst R;exact aW O};rw[S T h6 (CI y C e) T (h6.sameBut c0 R)]};{rw[aML,j (ac c0 p.1 ?_ e) n ne w d,fS];rw[q,P]at e;have c4:D=p.2:=c_ e;exact d c5 (bl c4 a0)}}
theorem ac8{d5:Model}{A:Around}{E:aU}{i:Nat}{x:Str}{v:V}{u:Value}{Q:Qe}(I:aY)(hN:X.N.Nodup)(hi:ya)(S:J9)(J:jh)(h:i2 bcN ())(W:Kh):a'Y:=aqM I hN hi S J (fun c1 K _=>h c1 K) W
theorem Inv.aNE{c1:Shared}{ch:bg}(I:aY)(d0:Vf=CH)(u:FT mD)(dt:id L mD)(d8:Hd Ve)(h:aMx):Bg:=by obtain⟨h',g',d',t',g⟩:=c1;rw[xR];exact I.call (g':=g') (t':=t') (d':=d') u dt d8 h
universe z
abbrev XK:=be cS nf Hp
abbrev St:=bL jK
abbrev VK:=eo V
abbrev TE:=l5 St
abbrev TT:=tl AI
abbrev TA:=tl (eo af)
structure Ends where
 nx:pK
 rt:VK
 bk:pK:=JC
 ct:pK:=JC
instance nN:eI Ends:=⟨d Ay Ay Ay Ay⟩
abbrev TS:=be Ends St Hp
noncomputable abbrev Ends.sq(D:Ends)(u:TS):Ends:=d (u D) D.rt D.bk D.ct
noncomputable abbrev Ends.lp(D:Ends)(N:pK):Ends:=d N D.rt mF N
inductive EP(X:Cx)(pins:bw)(M:St)(Q:VK)(u:Value)(c1:Shared):Prop|mk:f v L Bg jh (Q v L) (fY u c1)
def TP(X:Cx)(pins:bw)(M:St)(Q:AI)(b:Bool)(c1:Shared):Prop:=z L Bg (Q b L)
inductive AP(X:Cx)(pins:bw)(M:St)(Q:eo af)(b1:aM)(c1:Shared):Prop|mk:f vs L Bg Fh (Q vs L) (AP X au M Q b1 c1)
def SP(X:Cx)(pins:bw)(D:Ends)(f:Flow)(c1:Shared):Prop:=match f with| .next=>pi (mF g0 L)| .brk=>pi (D.bk g0 L)| .cont=>pi (D.ct g0 L)| .ret u=>∃v g0 L,aFY/\jh/\D.rt v L
def PE(X:Cx)(e:Expr)(t:TE):Prop:=∀(pins:bw)(s:Shared)(M:St)(H:Hp)(Q:VK),aY->Pl->dg tD IS
def PT(X:Cx)(e:Expr)(t:TT):Prop:=FS (agZ e cF tD)
def PW(X:Cx)(e:Expr)(t:TT):Prop:=∀(c:XY)(pins:bw)(s:Shared)(M:St)(H:Hp)(Q:AI),cv Pl (agZ e cF c) aGP
theorem PW.pt{X:Cx}{e:Expr}{t:TT}(h:PW X e t):PT X e t:=h _
def PA(X:Cx)(a7:fC)(t:TA):Prop:=∀(pos:Pos)(pins:bw)(s:Shared)(M:St)(H:Hp)(Q:eo af),cv Pl (spliced (aBh pos (MA a7 cF))) (AP X au M Q)
def PS(X:Cx)(st:Stmt)(t:TS):Prop:=H4 (exec st cF)
def qt(X:Cx)(st:ue)(t:TS):Prop:=H4 (execs st cF)
theorem bD{I:Type}{t:Sem I}{Q h4:dE I}{d5:Model}{A:Around}{E:aU}{s:Shared}(h:pb t)(g:bdc):a'E:=lu h g
universe L2
namespace L2
open PySem PySem.Spec PyProof.Rows
section z
variable{X:Cx}
def ho(i:Nat):TE:=hf (match M[i]? with|some (some v)=>AH|_=>cE)
theorem ho.out{i:Nat}{M:St}{H:Hp}{Q:VK}(h:ho i M H Q):z v anG AH:=lG ho (av bG h)
theorem ho.mk{i:Nat}{M:St}{H:Hp}{Q:VK}{v:V}(e:anG)(h:AH):ho i M H Q:=by delta ho;rw[e];exact h
def tC(v:V):TE:=lF AH
theorem aNF{i:Nat}{x:Str}{pos:Pos}(hN:ya)(d3:aos)(hd:mf)(S:a8g):M (gM pos) (ho i):=by rw[fx,dn e h Vg,aoj,fF hN e d3];have fin:fY u s:=a v H I J h;rw[bh3,l (aBi (a1i sR c3 d1 c4 fin) hd)];{rw[bcf,l (aBi (a1h sR c3 b0 a fin) hd),l (aBi (wpAny_loadName_free sR c3 b0 a fin S) hd)]}
theorem bE{i j pos}:oH hP hP:=qN (wpAny_Constant_int (a hP H ro ei h))
theorem mj{b j pos}:oH I7 EU:=qN (Constant_bool (eU b h))
theorem cu{j pos}:M (.Constant .none j pos) (tC .bC):=qN (Constant_none (m .bC H I h))
def Gl(X:Cx)(x:Str):Prop:=aBc x=aa .globalImplicit
theorem aqN{E:aU}{pins:bw}{s:Shared}{M:St}{H:Hp}{x:Str}{u:Value}{pos:Pos}{Q:aU}(I:aY)(d8:qh)(c4:ev (mG x))(h:Q u s)(hd:mf):a8w:=a1j sR d8 (Calls.loadGlobal_global a_E c4 h) hd
theorem FX{E:aU}{pins:bw}{s:Shared}{M:St}{H:Hp}{x:Str}{u:Value}{pos:Pos}{Q:aU}(I:aY)(d8:qh)(c4:f8 x)(d3:ev (vR x))(h:Q u s)(d1:aHy)(hd:mf):a8w:=aC D a3 a9 I.mod.blt (a1j sR d8 (Calls.loadGlobal_builtin a_E c4 (t I.ok.blt (a3.keeps I.bk)) (B (a9 x d1) d3) h) hd)
theorem aqO{x:Str}{v:V}{u:Value}{pos:Pos}(d8:qh)(c4:ev (mG x))(J:jh)(hd:mf):M (gM pos) (tC v):=qN (aqN I d8 c4 (a v H I J h) hd)
variable{a b:Expr}{d6 c3:TE}{pos:Pos}
def PC(X:Cx)(j:CmpOp)(a b:Expr)(t:TE):Prop:=∀(pins:bw)(s:Shared)(M:St)(H:Hp)(Q:VK),cv Pl (e0 a) (ps (MB j v u) IS)
def jB(Q:AI)(x:V)(H:Hp):Prop:=match x with| .bl c=>Q c H|_=>cE
theorem jB.out{Q:AI}{x:V}{H:Hp}(h:jB Q x H):z c (x= .bl c) (Q c H):=lG jB (dl h)
def tB(t:TE):TT:=jE (jB Q)
theorem Bv{j:CmpOp}{t:TE}(h:PC X j a b t)(a3:ey Yz auk._auto_1):PT X alZ (tB t):=by rw[na hw];refine a1k (bD (im _ I) (fun v a4 a3=>bD a3 (fun u b5 a9=>wj a9))) a3;rw[JR,aJ d rfl d2.out,bbo]
theorem uV{e:Expr}{t:TE}(h:M e t)(a0:ey (∀c,agZ e cF c=(do{let v<-c;standAt e.pos;holding [v] (truthy v)})) ag0):PT X e (tB t):=by rw[na hw];refine aBj (bD (im _ I) (fun v a4 e0=>?_)) (a0 _);rw[ip x e0,aJ d rfl d2.out,bbo]
variable{g e:TT}{m:fC}
def aNG(t u:TT):TT:=mG (u M a8 Q) (Q ai a8)
def tOr(t u:TT):TT:=mG (Q ab a8) (u M a8 Q)
def aqP(t:TT):TT:=jE (fun c a8=>Q (! c) a8)
theorem aNI(b3:ZC):mB [a] g:=by intro d au s M H Q I h;refine isTrue_and (bD (rg Q) (fun c a4 e=>?_));rw[dX c (isTrue_and_nil e) e]
theorem aqQ(b3:ZC):mC [a] g:=by intro d au s M H Q I h;refine isTrue_or (bD (rg Q) (fun c a4 e=>?_));cases c with|false=>{exact isTrue_or_nil e}|true=>exact e
theorem aNJ(b3:ZC)(U:mB (b::m) e):mB (a::b::m) (aNG g e):=by intro d au s M H Q I h;refine isTrue_and (bD rN (fun c a4 P=>?_));rw[cj a8 r P,dX c bik (v a8 r d2)]
theorem ac9(b3:ZC)(U:mC (b::m) e):mC (a::b::m) (tOr g e):=by intro d au s M H Q I h;refine isTrue_or (bD rN (fun c a4⟨a8,r,d2⟩=>?_));cases c with|true=>{trivial}|false=>exact bik
theorem ac_(b3:ZC):PT X (.UnaryOp .Not a pos) (aqP g):=nF (isTrue_not (rg (fun c a8=>Q (! c) a8)))
def aNK(d6 c3:TE):TE:=qv (z c (x= .bl c) (Z c (c3 M a8 Q) (Q (.bl ai) a8)))
theorem R3{j}{t:TE}(h:M a t):M (iH j [a]) t:=DD (BoolOp_one (im Q I))
theorem Bw(b3:fU)(U:M (iH .And (b::m)) c3):M (iH .And (a::b::m)) (aNK d6 c3):=by rw[fx];refine BoolOp_and (kt rN);rw[JR,cj c rfl d2];cases r1;refine vS ?_;rw[dX c (o4 Q) (bi ai a8 r d2)]
def tIf(t:TT)(d6 c3:TE):TE:=mG (d6 M a8 Q) (c3 M a8 Q)
theorem R4{c:Expr}(b0:PT X c g)(b3:fU)(U:lg):M (.IfExp c a b pos) (tIf g d6 c3):=by rw[fx];refine wpAny_IfExp bhL;rw[cj a8 r P,dX d (nc Q d2) (o4 Q)]
universe z
universe L2
namespace L2
open PySem PySem.Spec PyProof.Rows
def fW(K:PySem.W.Frag)(H:Hp)(a:Addr)(O:af):Prop:=kA (.lst O)\/n3 Af (o.dict=ae/\gB=jq ar/\a1 MD/\iM O MC)
def uW(K:PySem.W.Frag)(H:Hp)(a:Addr)(O:af):Prop:=kA tK\/beL
noncomputable def aNM:cS->jK| .none=>al4| .bool b=>aa EU| .int i _=>aa hP| .str x _=>aa Jr| .bytes b _=>aa (.iC b)| .float b _=>aa (.RZ b)| .ref a=>kJ| .type n=>aa (.ty n)|_=>ae
theorem RelV.abs{x:V}{u:Value}(J:pL):aNM u=aa x:=by cases x with|bC=>{rw[Fm]}|bl _=>{rw[Fm]}|int _=>{rw[Qn]}|str _=>{rw[Qn]}|iC _=>{rw[Qn]}|RZ _=>{rw[Qn]}|ref _=>{rw[Fm]}|ty _=>rw[hM];rfl
theorem RelV.inj{x y:V}{u:Value}(J:pL)(q:kY):x=y:=c_ (J.abs.symm.trans q.abs)
theorem Vals.inj{O d7:af}{b1:aM}(h:nL)(k:ey d7):O=d7:=by induction h generalizing d7 with|nil=>{cases k;rfl}|cons J t d6=>cases k with|cons B t'=>rw[J.inj B,d6 t']
section z
variable{X:Cx}{pins:bw}{M:St}{H:Hp}{s:Shared}{a:Addr}{O d7:af}
theorem fW.of{K:PySem.W.Frag}(h:am a O):jg:= .inl AB
theorem uW.of{K:PySem.W.Frag}(h:cw tK):uI:= .inl AB
theorem Inv.list(I:aY)(h:a9F):Fa (PlainL bh a eT):=by rcases h with h|⟨o,ar,n,c3,b0,hd,c0,c9,J⟩;{rw[X ar n J e (h.ok eo)];exact d ar J (m _ n e xG) z};{rw[bZ MC J (c o n (vU a o c3) b0 hd eO),de vT];simp only[Vh]at e;exact IQ}
theorem Inv.tuple(I:aY)(h:a9D):Fa (Mt bh a eT):=by rcases h with h|⟨o,ar,n,c3,b0,c0,c9,J⟩;{obtain⟨z,ar,J,p⟩:=h.ok eo;exact d ar J p z};{rw[bZ MC J (a o (vU a o c3) b0 n eO),de vT];simp only[Vh]at e;exact IQ}
theorem Inv.ac'(I:aY)(h:a9F)(h':fW X.K H a d7):O=d7:=by obtain⟨ar,J,⟨o,n,e,_,_,d⟩,_⟩:=sS h;obtain⟨its',B,⟨g,C,d3,_,_,d'⟩,_⟩:=sS h';rw[Zj];cases d3;rw[d]at d';rw[a'u];have:ar=ME:=ah;rw[gm];exact J.inj B
theorem Inv.aNN(I:aY)(h:a9D)(h':uW X.K H a d7):O=d7:=by obtain⟨ar,J,⟨o,e,_,n,d⟩,_⟩:=CJ h;obtain⟨its',B,⟨g,d3,_,C,d'⟩,_⟩:=CJ h';rw[Zj];cases d3;rw[d]at d';rw[a'u];have:ar=ME:=ah;rw[gm];exact J.inj B
universe z
noncomputable abbrev Cx.R5(X:Cx)(E:aU):Cx:={X with xe:=E}
noncomputable abbrev Cx.Ky(X:Cx):Cx:=Vi JC
theorem Cx.Ok.R5{X:Cx}(ok:X.Ok)(E:aU):(Vi E).Ok:=biQ
theorem Cx.Ok.FY{X:Cx}{E:aU}(ok:(Vi E).Ok):X.Ok:=biQ
section z
variable{X:Cx}{pins:bw}{M:St}{H:Hp}{s:Shared}{E:aU}
theorem Inv.R5(I:aY)(E:aU):bgy:=KF (I.ok.R5 E)
theorem Inv.FY(I:bgy):aY:=KF I.ok.FY
theorem SP.FY{D:Ends}{f:Flow}{c1:Shared}(h:SP (Vi E) au D f c1):SP X au D f c1:=by cases f with|next=>{rw[aMW]}|brk=>{rw[aMW]}|cont=>{rw[aMW]}|ret u=>rw[j v g0 L I J q h (c v g0 L I.FY J q)]
theorem qt.Ky{st:ue}{t:TS}(h:qt X.Ky st t):qt X st t:=fun au s M H D I hw=>or (im D (I.R5 _)) (ip q.FY)
universe z
section z
variable{X:Cx}{st:Stmt}{m:ue}{t u:TS}{e:Expr}{b8:TE}{pos:Pos}
def ada:TS:=fY OH
def Bx(t u:TS):TS:=fY (t (D.sq u) M H)
theorem By:qt X [] ada:=Dd (ag1 aJi)
theorem R6(a3:PS X st t)(a9:qt X m u):qt X (st::m) (Bx t u):=by rw[kW];refine a1l (bD (a3 au s M H (D.sq u) I h) (fun f a4 q=>?_));cases f with|next=>{obtain⟨g0,L,K,q⟩:=q;exact a9 au a4 g0 L D K q}|ret v=>{exact q}|brk=>{exact q}|cont=>exact q
theorem fE(a3:PS X st t):qt X [st] t:=by rw[kW];refine a1l (bD (a3 au s M H D I h) (fun f a4 q=>?_));cases f with|next=>{exact ag1 q}|ret v=>{exact q}|brk=>{exact q}|cont=>exact q
def aNO:TS:=fY (D.ct M H)
theorem aNP:PS X (.Continue pos) aNO:=Dd (wpAny_Continue aJi)
theorem Inv.quiet{pins:bw}{M:St}{H:Hp}{s:Shared}(I:aY):a1m cF=ai:=eJ a1m sR
def R7(b8:TE):TS:=fY (of (fun _ a8=>mF M a8))
theorem yu(a0:rQ)(c0:wc (MF e ae MG cF)):PS X (.Expr e pos) (R7 b8):=by rw[kW];exact wpAny_Expr_any (jo EL (d M a8 r d2)) I.quiet c0
def R8(b8:TE):TS:=fY (of D.rt)
theorem aNQ(a0:rQ):PS X (.Return rB pos) (R8 b8):=by rw[kW];exact wpAny_Return_some (jo EL (c x M a8 r r1 d2))
def R9(c:TT)(t u:TS):TS:=fY (mD (t D M a8) (u D M a8))
theorem rZ{c:Expr}{a b:ue}{i:TT}(b0:PT X c i)(b3:qt X a t)(U:qt X b u):PS X (.If c a b pos) (R9 i t u):=by rw[kW];refine wpAny_If bhL;rw[cj a8 r P,dX d (nc D d2) (o4 D)]
universe z
abbrev TG:=aa V St Hp (pK)
abbrev yv:=aa af St Hp (pK)
def PG(X:Cx)(a:Expr)(t:TG):Prop:=∀(pins:bw)(s:Shared)(M:St)(H:Hp)(v:V)(u:Value)(Q:pK),go jh v (Vj a cF u)
def Kz(X:Cx)(g:fC)(t:yv):Prop:=∀(pins:bw)(s:Shared)(M:St)(H:Hp)(vs:af)(b1:aM)(Q:pK),go Fh vs (assignInOrder (cN (ag2 g cF)) b1)
abbrev KA:=c V V V Hp (cu (jb))
def adb(X:Cx)(t:KA):Prop:=∀(pins:bw)(s:Shared)(M:St)(H:Hp)(o i v:V)(ov c u:Value)(Q:jb),j aY (gP o ov) (gP i c) jh (t o i v H Q) (dg (a1n ov c u) (fun _ c1=>z L Bg (Q L)))
abbrev FZ:=Fq
def PIp(X:Cx)(j:Operator)(t:FZ):Prop:=∀(pins:bw)(s:Shared)(M:St)(H:Hp)(x y:V)(v u:Value)(Q:VK),bF tW kY (t x y H Q) (aBk j v u)
section z
variable{X:Cx}{pos:Pos}
def KC(i:Nat):TG:=fun v M H Q=>Q (aBl i pC) H
theorem aNR{i:Nat}{x:Str}(hN:X.N.Nodup)(hi:ya)(S:J9)(W:Kh):a'v:=by rw[it v u];exact a1o (ac8 I hN hi S J (fun c1 K=>as H K h) W)
def aNS:yv:=fun vs M H Q=>match vs with|[]=>Q M H|_=>cE
def aNT(t:TG)(u:yv):yv:=fun vs M H Q=>match vs with|v::J=>t v M H (fun g0 L=>u J g0 L Q)|[]=>cE
theorem aqR:Kz X [] aNS:=by rw[Zx];cases J with|nil=>{exact assignInOrder_nil aJi}|cons=>exact Hj
theorem KD{e:Expr}{a7:fC}{t:TG}{u:yv}(a3:PG X e t)(a9:Kz X a7 u)(c0:ce (cN (ag2 rj cF)=Vj e cF::cN aGa)):Kz X rj (aNT t u):=by rw[Zx];cases J with|nil=>{exact Hj}|cons J C=>rw[c0];refine assignInOrder_cons (bD (a3 au s M H _ _ _ I J h) (fun _ a4 e0=>by obtain⟨d,a8,r,d2⟩:=e0;exact a9 au a4 d a8 _ _ Q r C d2))
inductive aqS(K:PySem.W.Frag)(n:Nat)(t:yv)(v:V)(M:St)(H:Hp)(Q:pK):Prop|mk:∀a O,b v bc uI (bx=n) (t O M H Q) (aqS K n t v M H Q)
theorem aNU{a7:fC}{k:Nat}{t:yv}{n:Nat}(b0:fQ)(h:Kz X a7 t)(d1:a_S)(z:a_8):GV X.K:=by intro au s M H v u Q I J hw;obtain⟨a,O,b4,e0,a5,hw⟩:=hw;rw[Jq,hM,a9 rv c6 IZ];refine assign_Tuple_tuple iv c6 (by simp[d1,<-a5,CK]) z (fun h' S=>?_);exact h au _ M H O _ Q (MH (t':=dE) (da (S b o (gC hc) e))) ag hw
def aNV(C ti:TE)(t:KA):TG:=fun v M H Q=>Hg (t o i v b7 (fun d4=>Q M d4))
theorem aNW{o i:Expr}{C ti:TE}{t:KA}(d0:am9)(hi:M i ti)(c0:adb X t)(b3:ey (∀v,Vj (eW o i) cF v=(do{let ov<-holding [v] (eval o X.env);let c<-holding [v,ov] (eval i X.env);standAt pos;holding [v,ov,c] (setItem ov c v);release [v,ov,c] []})) ag0):PG X (eW o i) (aNV C ti t):=by rw[it v u];rw[b3];rw[C (vV (bD YE (fun ov a4 e0=>b x a8 r r1 d2 e0 (bF (vV (oC y (bF (aBm (bF (vV (bD (c0 au b5 M b7 x y v ov c u _ Y r1 r2 J q2) (fun _ c8 e0=>aC d4 O q3 e0 (wpAny_release (d M d4 O q3))))))))))))))]
def adf(b8:TE)(g:TG):TS:=fY (of (jA (g x M a8 mF)))
theorem aNX{c7 e:Expr}{b8:TE}{g:TG}(a0:rQ)(d8:aKs)(c0:wc (swapsWithSole [c7] e MG cF))(hw:ce (swappedStores [c7] e cF=eU ae))(a3:ce (cN (ag2 [c7] cF)=[Vj c7 cF])):bn [c7] e pos (adf b8 g):=by rw[kW];refine wpAny_Assign_stores (kt EL) c0 hw;rw[JR];rw[a3];exact bD (d8 au a4 M a8 x v _ r r1 d2) (fun _ b5 q=>q)
theorem aqT{i:Nat}{x:Str}{e:Expr}{b8:TE}{E:Pos}(hN:X.N.Nodup)(hi:ya)(S:J9)(a0:rQ)(c0:bav)(W:Kh):bdQ:=by rw[kW];refine wpAny_Assign_Name (kt EL) c0;rw[ip y P];exact ac8 r hN hi S r1 (fun b5 Y=>as a8 Y d2) W
def aNY(i:Nat)(b8:TE)(ti:FZ)(D:Ends)(M:St)(H:Hp):Prop:=ho i M H (fun x _=>of (sn (ti x y a8 (fun z b7=>mF (aBl i (aa z)) b7))))
theorem aNZ{i:Nat}{x:Str}{e:Expr}{b8:TE}{j:Operator}{ti:FZ}{E:Pos}(hN:X.N.Nodup)(hi:ya)(S:J9)(a0:rQ)(d0:PIp X j ti)(W:Kh):fr (gM E) e (aNY i b8 ti):=by rw[kW,dn b4 h (ho.out h),aoj];have d:aos:=by{rw[f1 k k,mT k];exact .inr O9};rw[fF hi b4 d];refine wpAny_AugAssign_Name ?_;have go:dg tD (fun w g=>a2 (aBk j u w) (fun J b=>a2 (a1p cF x J) (au (SP X au D .next)) oN b) oN g):=by{refine bD EL (fun w a4 e0=>?_);rw[ip y e0];refine bD (d0 au a4 M a8 v y u w _ r J r1 d2) (fun z b5 P=>?_);obtain⟨f,b7,Y,r2,q2⟩:=P;exact ac8 Y hN hi S r2 (fun c8 O=>as b7 O q2) W};rw[bh3,l (a1i sR c3 d1 c4 go)];{rw[bcf,l (a1h sR c3 b0 a go)];{rw[f1 k k];{have:iC (MI x):=c3;rw[am k,nj]};{have:iC (MI x):=c3;rw[am k,nj]}}}
def aN6(C ti b8:TE)(a:Fq)(b:FZ)(f:KA):TS:=fY (Hg (a o i b7 (fun x d4=>b8 M d4 (fun y e4=>b x y e4 (fun z g6=>f o i z g6 (fun h5=>mF M h5))))))
def aqU(X:Cx)(t:Fq):Prop:=∀(pins:bw)(s:Shared)(M:St)(H:Hp)(o i:V)(ov c:Value)(Q:VK),bF (gP o ov) (gP i c) (t o i H Q) (zk ov c)
theorem aN7{o i e:Expr}{C ti b8:TE}{a:Fq}{b:FZ}{f:KA}{j:Operator}{T:Pos}(d0:am9)(hi:M i ti)(d8:aqU X a)(a0:rQ)(c2:PIp X j b)(c0:adb X f)(b3:ey (∀ov c a6,augStore i ov c a6=(do{holding [a6,ov,c] (setItem ov c a6);release [a6,ov,c] [];pure .next})) aui._auto_1):fr (qZ T) e (aN6 C ti b8 a b f):=by rw[kW];refine wpAny_AugAssign_SubscriptAny (bD YE (fun ov a4 e0=>b e7 a8 r r1 d2 e0 (oC f5 (bD (d8 au b5 M b7 e7 f5 ov c _ Y r1 r2 q2) (fun a7 c8 e0=>b d d4 O m q3 e0 (bD (a0 au c8 M d4 _ O q3) (fun v d9 e0=>b g e4 a5 c9 i6 e0 (bD (c2 au d9 M e4 d g a7 v _ a5 m c9 i6) (fun a6 f9 e0=>b l1 g6 A p e2 e0 (bD (c0 au f9 M g6 e7 f5 l1 ov c a6 _ A r1 r2 p e2) (fun _ h1 e0=>aC h5 F c6 e0 (d M h5 F c6)))))))))))) b3
def ipI(f:aIm):FZ:=sv (He (mV (f i j)))
theorem aqV:PIp X .Add (ipI (ox (i+j))):=by intro au s M H x y v u Q I r1 r2 h;obtain⟨i,j,b4,b9,q⟩:=h;rw[Jq];subst b9;rw[ep r1,dm t' r2];exact iadd_int (n4 _)
universe z
section z
variable{X:Cx}{pos:Pos}
def aqW(c:TT)(c3:TS):TS:=fY (∃W:dJ St Hp,(∃m,W m M H)/\∀m M H,W m M H->mD (∃N:pK,(Cw (vt (W f7 g0 L)))/\c3 (ag3 N) M a8) (mF M a8))
theorem F0{c:Expr}{a:ue}{i:TT}{c3:TS}(c2:aMb)(b0:PT X c i)(U:aIW):PS X (.While c a [] pos) (aqW i c3):=by rw[kW,HK h];refine wpAny_While (codeAny_whileLoop (fun n c1=>pi (W n g0 L)) ?_ c9 (d M H I b2));rintro n a4⟨d,a8,r,e⟩;rw[pl (bD (b0 au a4 d a8 _ r (eV n d a8 e)) (fun b b5 P=>?_))];obtain⟨b7,Y,q2⟩:=P;cases b with|true=>{obtain⟨N,hN,q2⟩:=q2;rw[cO];rw[pl (bD (U au b5 d b7 _ Y q2) (fun f c8 q3=>?_))];cases f with|next=>{rw[biR]}|cont=>{rw[biR]}|brk=>{exact q3}|ret v=>exact q3}|false=>rw[J OA (ag1 (d d b7 Y q2))]
universe z
structure It where
 go:Y7
 yld:aa Nat Hp V Hp
 stop:Y7
instance nI:eI It:=⟨v Ay (fun _ _ _ _=>gA) Ay⟩
def adg(X:Cx)(pins:bw)(H:Hp)(b:Addr):Prop:=z gp X4 amI (b∈CF\/Hc<=b) a7f
theorem Inv.R_{X:Cx}{pins:bw}{M:St}{H L:Hp}{s:Shared}{b:Addr}(I:aY)(U:aO<=b)(d1:IT):iO L:=by rw[o d1 (vW (fH I.lt U)) (I.aNC U) (.inr (cn I.sz U)) (fun x c e z=>?_) (fun p c2 z=>?_)];{rw[dZ v aGt];exact ix (fH q.lt ag)};rw[cF (fH (ft (Mx p c2).1) ag) (jr _)]
structure Turn(P:Program)(w:World)(K:PySem.W.Frag)(c7:Expr)(d0:It)(a8:bg)(it:Addr)(l:QL):Prop where
 mem:it∈a8
 obj:j i h (l i h) (D2 md)
 keep:∀i h h',l i h->V b a8 (E o md ha)->l i h'
 item:qW Pu (z u (ev J) (fv (ju P w) X.A (MK c7 nJ u) (fun _ b5=>∃x L,z (aR L b5) pL PB (l (i+1) ag4) (hR IT)) E a4))
 done:qW alK (J=ae/\aR H a4)
 self:∀(A:Around)(i:Nat)(s:Shared)(Q:aU)(E:aU),l i bh->Q nJ s->fv (ju P w) A (MJ nJ) Q E s
abbrev TI:=tl rK
inductive PIE(X:Cx)(pins:bw)(M:St)(c7:Expr)(R:rK)(e1:Value)(b5:Shared):Prop|mk:∀(it:Addr)(a8:bg)(l:QL)(d0:It)(L:Hp),b e1 nJ (aR L b5) (qF a8 it) (l 0 ag4) (V b a8 (iO L)->R d0 L->PIE X au M c7 R e1 b5)
def PI(X:Cx)(c7 iter:Expr)(wi:TI):Prop:=∀(pins:bw)(s:Shared)(M:St)(H:Hp)(R:rK),cv (wi M H R) (e0 Hk) (fun v a4=>a2 (MJ v) bgz oN a4)
theorem aqX{d5:Model}{A:Around}{E:aU}{s:Shared}{c7:Expr}{it:Addr}{u:Value}{o:Obj}{n:String}{vs:dU}{Q:Qe}(d0:gE it)(b0:vY= .type n)(hd:gB= .fields vs)(d1:biw=ai)(g:Q () s):pb (MK c7 nJ u):=by delta MK;cases c7<;>first|exact cg g|(cases u<;>first|exact cg g|(rw[C (wpAny_load d0 ?_)];rw[b0,hd];show pb (ml (biw&&vs[0]?==aa (vX _)));rw[aO (by rw[eD];rw[d1,ag5]at h;rw[cH])];exact cg g))
noncomputable def Sa(K:PySem.W.Frag)(a:Addr):It:=gV jg (L=H/\E O jg nh) jg
noncomputable def Itt(K:PySem.W.Frag)(a:Addr):It:=gV uI (L=H/\E O uI nh) uI
noncomputable def Sb(lo:Int)(n:Nat):It:=IB aop
theorem aN'{P:Program}{w:World}{K:PySem.W.Frag}{c7:Expr}(a it:Addr):jA (Sa K a) (CL it a i)where mem:=bK;obj:=bbR;keep:=a8x;item:=by{intro X C hw g b0 i au s M H E I W st d8;rw[uP,aMB,ZD,ZY,yl];refine wpAny_pyNext_list_item st qH (x:=u) ag aKy;rw[aIE];exact HI aLb};done:=by{intro X C hw g b0 i au s M H E I W st d8;rw[uP,aLM,ZD,yl,f0 CK];exact wpAny_pyNext_list_end iv st qH ah aaP};self:=Cf (wpAny_pyIter_listiter st h)
theorem aOa{P:Program}{w:World}{K:PySem.W.Frag}{c7:Expr}(a it:Addr):jA aai (h.IsTupleIter it a i)where mem:=bK;obj:=bbR;keep:=a8x;item:=by{intro X C hw g b0 i au s M H E I W st d8;rw[uP,aMB,oN IZ,ZY,yl];refine wpAny_pyNext_tuple_item st bbc (x:=u) ag aKy;rw[aIE];exact HI (bd (fun d7 b6=>t (I.aNN b6 e0) S))};done:=by{intro X C hw g b0 i au s M H E I W st d8;rw[uP,aLM,oN IZ,yl,f0 CK];exact wpAny_pyNext_tuple_end iv st bbc ah aaP};self:=Cf (wpAny_pyIter_tupleiter st h)
theorem aOb{P:Program}{w:World}{K:PySem.W.Frag}{c7:Expr}(it:Addr)(lo:Int)(n:Nat):jA (Sb lo n) (a1t h it (lo+cd i*1) (cK-cd i) 1)where mem:=bK;obj:=pg (by rw[nl it,bY];exact av st (fun v z=>YF));keep:=bdG;item:=by{intro X C hw g b0 i au s M H E I W st d8;rw[uP,yl,Lg 1,ep d3];refine rb aop (as t);rw[a1s]};done:=by{intro X C hw g b0 i au s M H E I W st d8;rw[yl];exact a1r iv st (ez (n<=i) d8 (nw this)) aaP};self:=Cf (a1q st h)
universe L2
namespace L2
open PySem PySem.Spec PyProof.Rows
section z
variable{X:Cx}{c7:Expr}
inductive jL(K:PySem.W.Frag)(R:rK)(x:V)(a8:Hp):Prop|mk:gB Yv (Sa K a) (jL K R x a8)
def aOc(K:PySem.W.Frag)(h8:TE):TI:=Eq (jL K R)
inductive jU(K:PySem.W.Frag)(R:rK)(x:V)(a8:Hp):Prop|mk:gB (uW K a8 a O) aai (jU K R x a8)
def aOd(K:PySem.W.Frag)(h8:TE):TI:=Eq (jU K R)
theorem oo{d:PySem.W.Frag}{l:Expr}{h8:TE}(a5:M l h8)(g:Bb):ho l (aOc d h8):=by rw[rD,JG];refine kt (a5 au s M H _ I h);rw[JR,bhy,bY];cases r1;rw[oN (CM e0)];refine aBn qH (Iq (aN' a _));rw[nl fI,bY];exact aJA
theorem adi{d:PySem.W.Frag}{l:Expr}{h8:TE}(a5:M l h8)(g:Bb):ho l (aOd d h8):=by rw[rD,JG];refine kt (a5 au s M H _ I h);rw[JR,bhy,bY];cases r1;rw[oN (r.tuple e0)];refine wpAny_pyIter_tuple (show a4.heap.IsTuple a eT from p) (Iq (aOa a _));rw[nl fI,bY];exact aJA
theorem aOe{pins:bw}{M:St}{H:Hp}{s:Shared}{R:rK}{E:aU}{lo hi:Int}{t u v:Tok}{D:Nat}(I:aY)(a3: -(2^62)<=lo)(a9:lo<2^62)(e2: -(2^62)<=hi)(e5:hi<2^62)(q:R (Sb lo apl) H):a2 (MJ gk) bgz E (dn aaG D):=by refine a1u (a1v ..) (small_one a3 a9 e2 e5) ?_;have r:aR H (dn aaG D):=MH Pk;rw[c (fH aaG) [fH aaG] _ _ H (ag6 (t':=D) Pk) (aOb _ lo apl) (v ?_ tX q)];{rw[aS b4 (lo+ae 0*1) lo];have b9:ae apl-ae 0=Vk lo hi 1:=by{rw[rangeSize_one];split<;>grind};rw[b4,b9];exact gI};{rw[nl (fH aaG),bY];exact aJA}
inductive jR1(R:rK)(vs:af)(a8:Hp):Prop|mk:∀j:Int,e [IY] (-(2^62)<=j) (j<2^62) (R (Sb 0 aBo) a8) (jR1 R vs a8)
def aOf(d6:TA):TI:=qE (jR1 R)
theorem aOg{a:Expr}{d6:TA}{p pos:Pos}(d8:Gl X "range")(c4:f8 "range")(b3:PA X [a] d6)(c0:f9 [a] [(ai,e0 a)]):ho (er "range" [a]) (aOf d6):=by rw[JG];refine jB boot_range rfl;rw[JS];obtain⟨j,e,d2,q2,q⟩:=d2;rw[bY];cases r1 with|cons J C=>rw[nU,Ef];exact call_range_1 (aOe r aQ aQ d2 q2 ag)
def aOh(wi:TI)(g:TG)(c3:TS):TS:=fY (Dr (em St (W 0 m M a8) (V ak7 alK OH Pu (∃N:pK,(ala)/\j x L PB (gb M (r2 N))))))
noncomputable def KG(a8:bg)(h:Heap):bw:=a8.filterMap (h8 (L (zg b) (fun o=>(b,o))))
theorem aOi{a8:bg}{h:Heap}{b:Addr}{o:Obj}(U:b∈a8)(e:md):(b,o)∈KG a8 h:=List.mem_filterMap.mpr (v b U (x Av))
theorem aOj{a8:bg}{h:Heap}{p:ef×Obj}(c2:p∈KG a8 h):p.1∈a8/\bA p.1 p.2:=by rw[aO b U (List.mem_filterMap.mp c2)];cases q:zg b with|none=>{simp_all}|some o=>rw[a6 q];have d3:=c_ e;rw[tJ];exact⟨U,q⟩
theorem Inv.pinned{pins:bw}{M:St}{H:Hp}{s:Shared}{a8:bg}(I:aY)(W:hR (iO H))(d0:D2 gY):Inv X (au++KG a8 bh) M H s:=I.aqL (gP (os (qI _ z) (J (by rw[ck U (aOj z)];obtain⟨F,g4,h3,_⟩:=W p.1 U;rw[bJ d3 d (d0 p.1 U),Zj,a4 d3 (a e F g4 h3 d)]))))
theorem Inv.Sd{pins d5:bw}{M:St}{H:Hp}{s:Shared}(I:Inv X (au++d5) M H s):aY:=I.aqL (gP (Mx p (qI _ (vQ _ c2))))
theorem aOk{iter:Expr}{a:ue}{wi:TI}{g:TG}{c3:TS}{pos:Pos}(c2:aMb)(b0:fQ)(hi:aaD)(d8:aKs)(U:aIW)(c0:anE):bhM:=by revert c2 b0 hi d8 U c0;revert X c7 iter a wi g c3 pos;refine Ko;generalize aG=X,aA=c7,aF=iter,aE=a,aD=wi,aB=g,aH=c3,aI=pos;intro c2 b0 hi d8 U c0;rw[kW];refine wpAny_For (bD aF9 (fun v a4 a3=>bD a3 (fun e1 b5 a9=>?_))) c0;obtain⟨it,a8,l,d0,b7,e,Y,T,b4,h3,W,⟨c9,b2⟩,turn⟩:=a9;rw[bY];have V:∀{L:Hp},Ys->hR (iO L):=fun d1 b U=>⟨d1 b U,(aot).2⟩;refine codeAny_forLoop_any (fun n c1=>∃i g0 L,N aFY (l i mD) Ys (W i n g0 L)) ?_ c9 (a 0 M b7 Y b4 (db (aot).1) b2);rintro n c8⟨i,j,d4,O,d2,q,w⟩;rcases eV i n j d4 w with⟨stop,y⟩|⟨go,N,hN,step⟩;{refine aBp c2 (bD (T.done X rfl rfl rfl b0 i au c8 j d4 oN O (V q) d2 stop) (fun J d9 e0=>?_));rw[kt a6 a5];subst a6;exact ag1 (d j d4 a5 y)};{rw[pl (bD (T.item X rfl rfl rfl b0 i au c8 j d4 oN O (V q) d2 go) (fun J d9 e0=>?_)),bl a6 e5 e0];subst a6;rw[pl (bD e5 (fun _ f9 e0=>?_))];obtain⟨x,g6,A,p,z,d3,B⟩:=e0;rw[pl (bD (d8 _ f9 j g6 x u _ (A.pinned (V B) (aBq _ _ d3)) p (ML x g6 z)) (fun _ h1⟨C,h5,F,c6⟩=>aBp c2 (bD (U _ h1 C h5 _ F c6) (fun f R c=>?_))))];have again:∀{k:St}{h9:Hp},Inv X (au++KG a8 f9.heap) k h9 R->N k h9->s3 (∃i g0 L,N (Inv X au g0 L R) (l i R.heap) Ys (W i m g0 L)):=fun{k h9}r h8=>by{obtain⟨f7,c4,E⟩:=hN k h9 h8;rw[b f7 c4 (i+1) k h9 r.Sd (ag7 _ _ _ d3 (s_ (a97).1)) tX E,bJ e d (BM d3)];exact aV a97};cases f with|next=>{rw[bcH]}|cont=>{rw[bcH]}|brk=>{obtain⟨k,h9,r,c⟩:=c;exact d k h9 r.Sd c}|ret v=>rw[j t k h9 r b1 c c (c t k h9 r.Sd b1 c)]}
universe z
theorem aOl{K:PySem.W.Frag}{a:Addr}{O:af}{g:TG}{c3:TS}{D:Ends}{M:St}{H:Hp}(j:aHH)(b1:amV)(a5:lA Qw jg)(c0:bdv)(hd:to bx):f3 Qy Qy Qy:=by rw[eW bx Qw bx,ap7,ci bgA,fJ Z bx];{refine i3 (d O O[i] q (x pG)) ba4;rw[fE y y,bY];exact bhz};{have e:i=bx:=by{rw[aIA]};rw[bY];exact dq aKP apx}
theorem aOm{K:PySem.W.Frag}{a:Addr}{O:af}{g:TG}{c3:TS}{D:Ends}{M:St}{H:Hp}(j:aHH)(b1:amV)(a5:lA Qw uI)(c0:bdv)(hd:to bx):f3 (aai) (aai) (aai):=by rw[eW bx Qw bx,ap7,ci bgA,fJ Z bx];{refine i3 (d O O[i] q (x pG)) ba4;rw[fE y y,bY];exact bhz};{have e:i=bx:=by{rw[el]};rw[bY];exact dq aKP apx}
theorem aOn{lo:Int}{n:Nat}{g:TG}{c3:TS}{D:Ends}{M:St}{H:Hp}(j:aHH)(b1:amV)(c0:lA (i<n) (be aop M H aGm))(hd:to n):f3 PL PL PL:=by rw[eW n Ql n,ap7];by_cases Z:i<n;rw[oz ba3 (c0 i M _ Z p)];{have e:i=n:=by{rw[aIA]};rw[bY];exact dq a_ apx}
theorem aOo{c:TT}{c3:TS}{D:Ends}{M:St}{H:Hp}(j:pK)(a:St->Hp->Nat)(b1:j M H)(c0:j M H (j M H) (mD (c3 (ag3 (fun g0 L=>j g0 L/\a g0 L<a M H)) M a8) (mF M a8)))(d:∀M H Q h4,(j b a8 (Q b a8) (h4 b a8))->c M H Q->c M H h4):aqW c c3 D M H:=by rw[ak (fun m M H=>m=a M H/\j M H) (dl b1)];rintro m M H⟨rfl,p⟩;refine d M H _ _ (fun b a8 q=>?_) (c0 M H p);cases b with|true=>{exact av (fun g0 L e0=>by rw[kt u l];exact as l rfl u) q}|false=>exact q
universe L2
namespace L2
open PySem PySem.Spec PyProof.Rows
abbrev R2:=Fq
def KH(X:Cx)(f:aab)(J:R2):Prop:=∀(pins:bw)(s:Shared)(M:St)(H:Hp)(x y:V)(v u:Value)(Q:VK),bF tW kY (J x y H Q) (f v u)
def UnR(X:Cx)(f:cS->XY)(J:l5 V):Prop:=∀(pins:bw)(s:Shared)(M:St)(H:Hp)(x:V)(v:Value)(Q:VK),E2 (dg (f v) IS)
def Bz(X:Cx)(f:Value)(J:l5 af):Prop:=∀(pins:bw)(s:Shared)(M:St)(H:Hp)(O:af)(b1:aM)(Q:VK),i aY nL (J O H Q) (xs f)
def aOp(X:Cx)(J:be V Hp (AI)):Prop:=∀(pins:bw)(s:Shared)(M:St)(H:Hp)(x:V)(v:Value)(Q:AI),E2 (dg (aBr v) aGP)
def BA(J:R2)(d6 c3:TE):TE:=qv (c3 M a8 (p6 (J x y b7 Q)))
def tUn(J:l5 V)(d6:TE):TE:=qv (J x a8 Q)
inductive rI(C:au Int Int)(g:aIn)(x:V)(y:V)(H:Hp)(Q:VK):Prop|mk:∀i j,b x hP (y=IY) (C i j) (Q rS H) (rI C g x y H Q)
def F1(g:aIn)(x:V)(y:V)(H:Hp)(Q:VK):Prop:=match x,y with| .int i,.int j=>Q rS H|_,_=>cE
theorem F1.out{g:aIn}{x y:V}{H:Hp}{Q:VK}(h:F1 g x y H Q):He (Q rS H):=lG F1 (oM h)
inductive rU(g:Int->V)(x:V)(H:Hp)(Q:VK):Prop|mk:o i (x=hP) (Q (g i) H) (rU g x H Q)
section z
variable{X:Cx}{a b c:Expr}{d6 c3 i:TE}{pos:Pos}
theorem aOr(b3:fU)(U:lg){pins:bw}{s:Shared}{M:St}{H:Hp}{R:be V V Hp}(I:aY)(h:d6 M H (jA (c3 M a8 (p6 (R x y b7))))){Q:aU}{f:aab}(W:∀v u b5 x y b7,c (aR b7 b5) tW kY (R x y b7) (a2 (f v u) Q oN b5)):dg (e0 a) (ps (f v u) Q):=by refine jo rN (bD (o4 _) (fun u b5 e0=>dL y r2 (W v u b5 x y b7 Y r1 r2 q2)))
theorem ll{j:Operator}{J:R2}(d0:f4 j J)(b3:fU)(U:lg):M (.BinOp a j b pos) Yt:=nF (wpAny_BinOp bgr)
theorem aqZ{j:UnaryOp}{J:l5 V}(d0:UnR X (unaryOp j) J)(b3:fU):M (.UnaryOp j a pos) (tUn J d6):=nF (UnaryOp_ (jo rN (d0 au a4 M a8 x v Q r r1 d2)))
theorem opI{f:aab}{C:au Int Int}{g:aIm}(rule:Ct (C i j->yK rS->nn aJz)):KH X f (lo C rS):=by rw[xu];obtain⟨i,j,rfl,rfl,b0,q⟩:=h;rw[xg,akQ];exact rule i j t t' s _ _ b0 (n4 rS)
theorem adk{f:aab}{g:aIm}(rule:Ct (yK rS->nn aJz)):KH X f (p9 rS):=KY (n4 rS)
theorem aOs{f:aab}{g:dI Int Int}(rule:Ct (jZ rS->nn aJz)):KH X f (oJ rS):=KY (eU rS q)
def aOt(i j:Int):Prop:=0<j/\j<1073741824
def adl(i j:Int):Prop:=(-(2^64)<i/\i<2^64)\/(-(2^64)<j/\j<2^64)
theorem adl.ok{i j:Int}(h:adl i j):IntMulOk i j:=by rcases h with⟨a3,a9⟩|⟨a3,a9⟩;rw[l (.of_left (a1w a3 a9)),l (.of_right (a1w a3 a9))]
theorem bjg(k:Nat):xy<=2^k:=by rw[t_]
theorem aOu:f4 .Add (p9 (i+j)):=adk (iN q (add_int q))
theorem yw:f4 .Sub (p9 (i-j)):=adk (iN q (sub_int q))
theorem F2:f4 .Mult (lo adl (i*j)):=opI (fun _ _ _ _ _ _ _ b0 q=>mul_int q b0.ok)
theorem aq1:f4 .FloorDiv (lo aOt (i/j)):=Gk (by rw[gv b0.1,fe b0.2];exact floordiv_int (fX (Kr z.m a3)) bz (.inl (a1x eO)))
theorem aOv:f4 .RShift (lo (fun _ j=>0<=j) (i/2^aBo)):=Gk (rshift_int b0 bz)
theorem Se:f4 .BitAnd (p9 (Builtin.bitAnd i j)):=adk (iN q (and_int q))
theorem unI{f:cS->XY}{g:Int->Int}(rule:∀(i:Int)(t:Tok)(s:Shared)(Q:aU)(E:aU),yK (g i)->nn (f (eZ i))):UnR X f (rU (dJ (.int (g i)))):=by rw[bdj,aJ i rfl h,xg];exact rule i t s _ _ (n4 (g i))
theorem aq2:UnR X (unaryOp .USub) (rU (dJ (.int (-i)))):=unI (fun _ _ _ _ _ q=>neg_int q)
universe z
noncomputable def aq3:dI V V| .bC,.bC=>ab| .bC,.int _=>ab| .int _,.bC=>ab| .bC,.bl _=>ab| .bl _,.bC=>ab| .bC,.str _=>ab| .str _,.bC=>ab| .int _,.int _=>ab| .bl _,.bl _=>ab| .str _,.str _=>ab| .iC _,.iC _=>ab| .int _,.str _=>ab| .str _,.int _=>ab| .bl _,.str _=>ab| .str _,.bl _=>ab|_,_=>ai
inductive rEq(x y:V)(H:Hp)(Q:VK):Prop|mk:aq3 x y=ab->dB (ar x y)->rEq x y H Q
inductive rNe(x y:V)(H:Hp)(Q:VK):Prop|mk:aq3 x y=ab->dB (! ar x y)->rNe x y H Q
theorem dN{i j:Int}:ar (cp i) (cp j)=(i==j):=fR
theorem aq6{i j:Bool}:ar (CN i) (CN j)=(i==j):=Be
theorem aq7{i j:Str}:ar (V.str i) (V.str j)=(i==j):=Be
theorem aq8{i j:fq Mq}:ar (V.iC i) (V.iC j)=(aBs==j.toList):=by rw[iN];cases i;cases j;simp
section z
variable{X:Cx}{a b c:Expr}{d6 c3 i:TE}{pos:Pos}
theorem aOx{pins:bw}{M:St}{H:Hp}{s:Shared}{Q:VK}{k G:Bool}(I:aY)(q:dB k)(e:k=G):fY (.bool G) s:=by rw[bY];exact eU k q
theorem gM:be .Eq rEq:=by rw[xu,dZ c0 h];cases x with|bC=>{rw[cx (PySem.EqNone.eq_none_none uD) (PySem.EqNone.eq_none_bool uC) (PySem.EqNone.eq_none_int uC) (PySem.EqNone.eq_none_str uC)]}|bl i=>{rw[hm (PySem.EqNone.eq_bool_none uC) (eq_bool (h4 aq6)) (PySem.EqMixed.eq_bool_str uC)]}|int i=>{rw[hf (PySem.EqNone.eq_int_none uC) (eq_int (h4 dN)) (PySem.EqMixed.eq_int_str uC)]}|str i=>{rw[cy (PySem.EqNone.eq_str_none uC) (PySem.EqMixed.eq_str_bool uC) (PySem.EqMixed.eq_str_int uC) (eq_str (h4 aq7))]}|iC i=>{rw[IG (PySem.W.eq_bytes (h4 aq8))]}|_=>cases y<;>rw[t7 c0]
theorem Sf:be .NotEq rNe:=by rw[xu,dZ c0 h];cases x with|bC=>{rw[cx (PySem.EqNone.ne_none_none uC) (PySem.EqNone.ne_none_bool uD) (PySem.EqNone.ne_none_int uD) (PySem.EqNone.ne_none_str uD)]}|bl i=>{rw[hm (PySem.EqNone.ne_bool_none uD) (ne_bool (sQ aq6)) (PySem.EqMixed.ne_bool_str uD)]}|int i=>{rw[hf (PySem.EqNone.ne_int_none uD) (ne_int (sQ dN)) (PySem.EqMixed.ne_int_str uD)]}|str i=>{rw[cy (PySem.EqNone.ne_str_none uD) (PySem.EqMixed.ne_str_bool uD) (PySem.EqMixed.ne_str_int uD) (ne_str (sQ aq7))]}|iC i=>{rw[IG (PySem.W.ne_bytes (sQ aq8))]}|_=>cases y<;>rw[t7 c0]
theorem lq:be .Lt (oJ (cv (i<j))):=sD (lt_int q)
theorem yx:be .LtE aaN:=sD (le_int q)
theorem uX:be .Gt a9x:=sD (gt_int q)
theorem uY:be .GtE (oJ (bi j i)):=sD (ge_int q)
theorem yy:be .Is (sv (y= .bC/\dB (ar x .bC))):=Io (is_none_gen (h4 ?_))
theorem KI:be .IsNot (sv (y= .bC/\dB (! ar x .bC))):=Io (isnot_none_gen (h4 ?_))
theorem BB(b:Expr){j:CmpOp}(h:ey (j≠.In) Vl)(a9:ey (j≠.NotIn) Vl):Yz:=by have b4:(j==CmpOp.In)=ai:=by{rw[xI]};have b9:(j==CmpOp.NotIn)=ai:=by{rw[xI]};cases b<;>first|rfl|(show(_&&(j==_||j==_)&&_)=ai;rw[b4,b9,aBt,ag8,ag5])
theorem KJ{j:CmpOp}{J:R2}(d0:Rt)(b3:fU)(U:lg)(c4:Yz):M alZ Yt:=nF (wpAny_Compare1 bgr c4)
def uZ(t:TE):TT:=jE (jB Q)
theorem KL{j:CmpOp}{J:R2}(d0:Rt)(b3:fU)(U:lg)(c4:Yz):a9s:=by rw[fx];refine a1k (lx rN (CZ (bD a7T (fun c c8 e0=>?_)))) c4;rw[X d4 O m q3 e0];obtain⟨k,e,q3⟩:=q3.out;rw[bY];cases m;exact vS (v d4 O q3)
def KN(J B:R2)(d6 c3 i:TE):TE:=qv (c3 M a8 (p6 (J x y b7 (fun z d4=>z k (z= .bl k) (Z k (i M d4 (fun c5 e4=>B y c5 e4 Q)) (Q (.bl ai) d4))))))
theorem aq9{j f:CmpOp}{J B:R2}(d0:Rt)(l:be f B)(b3:fU)(U:lg)(b0:aau)(c4:beP):M a'Q (KN J B d6 c3 i):=by rw[fx];refine Compare_chain (lx rN (chain_link bb0)) c4;obtain⟨z,d4,O,m,k,e,q3⟩:=P;rw[bY];cases m;refine vS ?_;cases k with|false=>{exact ite_ff (bi ai d4 O q3)}|true=>exact ite_tt (chain_last (bD bf4 (fun c5 d9 e0=>b d3 e4 a5 c9 i6 e0 (Lc Q))))
theorem aq_{j f:CmpOp}{J B:R2}(d0:Rt)(l:be f B)(b3:fU)(U:lg)(b0:aau)(c4:beP):PT X a'Q (uZ (KN J B d6 c3 i)):=by rw[fx];refine isTrue_chain (lx rN (test_link bb0)) c4;obtain⟨z,d4,O,m,k,e,q3⟩:=P;rw[bY];cases m;refine vS ?_;cases k with|false=>{exact ite_ff (v d4 O q3)}|true=>refine ite_tt (test_last (bD bf4 (fun c5 d9⟨d3,e4,a5,c9,i6⟩=>bD (Lc _) (fun d' f9 e0=>?_))));obtain⟨h6,g6,A,p,e2⟩:=e0;obtain⟨f7,b9,e2⟩:=e2.out;subst b9;rw[a4 p (vS (v g6 A e2))]
def aq'(K:PySem.W.Frag)(x:V)(H:Hp)(k:Bool):Prop:=match x with| .bC=>k=ai| .bl b=>k=b| .int i=>k=(i !=0)| .str y=>baZ| .iC y=>ba0| .ref p=>(z O ZK (k=! aBu))\/(z O (nb O) (k=! aBu))\/z F (bh p pX) (k=! F.isEmpty)|_=>cE
theorem aOy{c:Type}{F:hT}{vs:Fp}(J:tS):(! vs.isEmpty)=! F.isEmpty:=sB J
theorem aOz{O:af}{ar:aM}(J:EA):(! ar.toArray.isEmpty)=! aBu:=sB J
theorem Sg:cd hv<2^63:=by rw[qJ];decide
theorem aOA:aOp X (fun x H Q=>z k (aq' X.K x H k) (Q k H)):=by rw[bdj,aJ k e h];have c0:=qJ;cases x with|bC=>{rw[hO,bY];exact truthy_none (v H I q)}|bl b=>{rw[hO,bY];exact vS (v H I q)}|int i=>{rw[xg,bY];exact PySem.P.truthy_int (v H I q)}|str y=>{rw[o8 baZ (PySem.P.truthy_str bM (v H ro q))]}|iC y=>{rw[o8 ba0 (PySem.W.truthy_bytes (bn b6 c0.l) (v H ro q))]}|ref p=>{rw[hO];have d3:=e;rcases d3 with⟨O,S,d3⟩|⟨O,S,d3⟩|⟨F,S,d3⟩;rw[oJ (sS S) (wpAny_truthy_list zl bz a9T),oJ (CJ S) (truthy_tuple d5 bz a9T)];{rw[tJ];obtain⟨c9,b2,vs,J,m⟩:a1 hY/\lc p/\z vs tS (s.heap.DictOf aJs p vs):=eo p _ S;have E:=Ms J;exact wpAny_truthy_dict b2 m bM (ap H ro (aOy J) q)}}|_=>exact(dv cE e).elim
theorem aOB(b3:fU)(a0:apu):BG X.K:=nF (aBj (jo rN (aOA au a4 M a8 x v Q r r1 d2)) (a0 _))
theorem vals1{x:V}{b1:aM}(J:ey [x]):a9C:=by cases J with|cons r1 r2=>rw[a4 r2 (dl r1)]
theorem vals2{x y:V}{b1:aM}(J:ey Jl):∃u c5,b1=[u,c5]/\pL/\gP y c5:=by cases J with|cons r1 r2=>cases r2 with|cons m c9=>rw[a4 c9 (f _ _ r1 m)]
theorem aOC(b0:fQ):pm "max" (j>i):=by rw[Zw,a0 i j rfl q];obtain⟨u,c5,rfl,⟨t,rfl⟩,⟨t',rfl⟩⟩:=vals2 J;refine max_two_ints iv beH;by_cases b8:j>i;rw[dk b8 b8 ei,bdZ]
theorem aOD(b0:fQ):pm "min" (j<i):=by rw[Zw,a0 i j rfl q];obtain⟨u,c5,rfl,⟨t,rfl⟩,⟨t',rfl⟩⟩:=vals2 J;refine min_two_ints iv beH;by_cases b8:j<i;rw[dk b8 b8 ei,bdZ]
universe z
universe L2
namespace L2
open PySem PySem.Spec PyProof.Rows
structure KO(h:Heap)(x dx C:Addr)(j:dM):Prop where
 obj:bA x (U6 C dx)
 ns:agS dx j
 ne:dx≠x
set_option tactic.hygienic true in theorem aOE{h:Heap}{dx:Addr}{j:dM}(n:agS dx j):D3 (bA dx m):=by obtain⟨o,a7,e1,d0,hd,c3,_,c4⟩:=n;rw[aa o d0 (fun c=>?_),de (c4 c)];unfold nsFind findBy at e;rw[ps Array.find?_toList];delta aBv;rw[hd];dsimp only;split;rw[az];{rename_i q;rw[a6 q];have a:a7.toList.any (·.refKey)=ai:=by{rw[List.any_eq_false];intro y b6;obtain⟨z,t,b⟩:=c3 y (Array.mem_toList_iff.mp b6);simp[DictEntry.refKey,b]};rw[aO ag];exact gz aa e}
theorem KO.look{h:Heap}{x dx C:Addr}{j:dM}(I:KO h x dx C j):D3 (PySem.W.InstAt h x (U6 C dx) C (aa m)):=let⟨m,d0,a5⟩:=aOE I.ns;v m (bj I.obj rfl d0) a5
section z
variable{prog:Program}{w:World}{A:Around}{E:aU}{s:Shared}{K:PySem.W.Frag}{x dx C f:Addr}{j:dM}{c:Str}{v:Value}
theorem get_map{a:Bool}{Q:aU}(X:vM bh)(I:aJb)(d8:sH c)(c7:aHf)(b3:hr c=aa ae)(d3:j c=aa v)(g:a1y v=ab)(h:Q v OY):bl (aBx kN c a):=C8 (PySem.W.get_value X d0 (aBw d8).1 (PySem.W.findObj_own c7 b3 rfl ag) g h)
theorem aOF{d5:amb}{Q:dE (cS×aM)}(X:vM bh)(I:aJb)(d8:sH c)(W:hF c f)(c6:p0 rz)(d3:j c=ae)(h:Q (rz,[kN]) s):bl (a1A kN c d5):=C8 (PySem.W.method_fn X d0 (aBw d8).1 (aBw d8).2 W (a1z c6) (by show L (aBv c m) (·.isSome)=aa ai;rw[a5,d3];rfl) h)
theorem aOG{ns:cX}{Q:Qe}(X:vM bh)(I:aJb)(c0:a'k)(c2:aA1 K C=ab)(c6:aBy K C c=aa ae)(c7:aHf)(hw:a1B j ns)(G:a1 zm)(h:o h' (KO h' x dx C (e7 (av (y=c) v (j y)))) (pa dx) (Q () (dn h' (dE+2)))):bl (setAttr kN c v):=by rw[bW d0 a5 I.look];refine PySem.W.set_plain X d0 c0 (PySem.W.osa_open (s:=OY) (r:=ae) X d0 c2 c6 (fun b=>?_));obtain⟨R,b0,p⟩:=PySem.W.any_some c7;rw[C (fa (bF (wpAny_loadPart I.obj (bF (PySem.W.Looks.here (s:=OY) (PySem.W.looks_clsIn X b0) ?_)))))];rw[p];refine cg (a:=aa dx) (bF (fa (wpAny_nsSet1 (s:=OY) I.ns (fun h' j7 a=>?_))));obtain⟨g,i,k,d,e,f⟩:=j7.count (PySem.Within.cons c v hw);rw[C (wpAny_lookBehind d (t e (pastItsLine_dict (cn f (x (Vm G))))) (cg (h _ (v (ac a _ (hs I.ne) I.obj) j7 I.ne) a)))]
theorem aOH{R:Qf}{vs:aM}{a:Jh}(X:vM bh)(c4:amu)(hi:a81)(W:PySem.W.typeIn K rz=aa (.type "function"))(h:Hl XQ (CF (xc::vs)) (.call rz ⟨.ref iu::vs,a⟩) (PySem.W.InitBack iu R) bc7):vU (.call xc ⟨vs,a⟩):=b c7 g d t os s (PySem.W.make_core (PySem.W.makes_of X c4) (PySem.W.looks_findIn X hi) (fun self=>PySem.W.bind_fn X self W) gj h)
universe z
noncomputable def kk(f:Str)(v:V):hU->hU|[]=>[(f,v)]|(g,x)::J=>v g f ((g,v)::J) ((g,x)::ge J)
theorem di(f g:Str)(v:V):∀G:hU,fh (ge G) g=av (g=f) v (Vn g)|[]=>by{show Mh g [(f,v)]=_;rw[N h g f,aZ,aZ]}|(k,x)::J=>by rw[aMp];rw[aLD,cL];{rw[aO c3,N h g k,aZ];{simp only[Mh,(aBz h)];exact(di f g v J)}}
theorem adm(f:Str)(v:V):∀G:hU,f∈gU (ge G)/\E g (g∈aBA fM) (g∈gU (ge G))|[]=>⟨bK,fun g h=>ah⟩|(k,x)::J=>by obtain⟨c2,N⟩:=adm f v J;rw[aMp];rw[aLD,aZ,cL]
theorem ara(f:Str)(v:V):∀G:hU,bd (ge G) (U7+1)|[]=>aGT|(k,x)::J=>by have d6:=ara f v J;rw[aMp];rw[aLD,aZ,aZ]
theorem rY.some_of{v:V}{o:pw}(J:rY pC o):z u (ev o) jh:=by cases o with|none=>{trivial}|some u=>exact aP u J
theorem rY.none_of{o:pw}(J:rY ae o):o=ae:=by cases o with|none=>{rfl}|some u=>exact(dv cE J).elim
theorem aOI{v:V}{u:Value}(J:jh):a1y u=ab:=by cases v with|bC=>{rw[Fm]}|bl b=>{rw[Fm]}|int i=>{rw[t6 QJ]}|str x=>{rw[t6 aor]}|iC b=>{rw[t6 (a05 b t)]}|RZ b=>{rw[t6 (a04 b t)]}|ref a=>{rw[Fm]}|ty n=>cases(a0 u (Mr n) J);rfl
section z
variable{P:Program}{w:World}{H L:Hp}{h h':Heap}{a C dx:Addr}{G b:hU}
theorem arb(dt:la)(e:amK):I j (KO h a dx C j) (∀f,aJu) (a9g/\U7<=1000/\bh dx YR):=by obtain⟨d,z,ne,N,j,n,J,q⟩:=dv (g7 (aC C G)) (dt a _ e);exact c j (v N n ne) J q z d
universe z
structure yz(K:PySem.W.Frag)(C:Addr):Prop where
 pg:sH Str.empty
 hd:aHf
 po:aA1 K C=ab
 sa:a'k
theorem yz.get{K:PySem.W.Frag}{C:Addr}(c:Zn)(f:Str):sH f:=c.pg
def Sh(K:PySem.W.Frag)(C:Addr)(f:Str):Prop:=hr f=aa ae
theorem Sh.aOJ{K:PySem.W.Frag}{C:Addr}{f:Str}(n:anH):aBy K C f=aa ae:=f7 aBy (show hr f=aa ae from n)
structure Meth(K:PySem.W.Frag)(C:Addr)(m:Str)(f:Addr):Prop where
 at_:hF m f
 fn:p0 rz
 kp:aIf
section z
variable{X:Cx}{pins:bw}{M:St}{H:Hp}{s:Shared}{a C dx:Addr}{G:hU}{f:Str}{v:V}{A:Around}{E:aU}
theorem arc{b:Bool}{Q:aU}(I:aY)(e:amK)(c:aaj)(n:Sh X.K C f)(l:aHv)(h:l u c1 (aR H c1) jh (Q u c1)):mo (aBx bc f b):=by rw[beV,bl hu m (a1C (v:=v) (o:=j f) cq)];exact get_map vU Y (c.get f) c.hd n hu (aOI m) (h u _ ro m)
theorem aOK{m:Str}{g:Addr}{d5:amb}{Q:dE (cS×aM)}(I:aY)(e:amK)(c:aaj)(k:y1 g)(l:Vn m=ae)(h:Q (.ref g,uh) s):mo (a1A bc m d5):=by rw[beV];exact aOF vU Y (c.get m) k.at_ k.fn (rY.none_of cq) h
theorem ard{y:V}{u:Value}{Q:Qe}(I:aY)(e:amK)(c:aaj)(n:Sh X.K C f)(a5:U7<1000)(Z:kY)(h:i2 (aR (ad a bda) c1) ()):mo (setAttr bc f u):=by obtain⟨j,Y,J,wi,_,d0⟩:=arb eo e;refine aOG vU Y c.sa c.po n.aOJ c.hd wi (ac bA qJ (cV a5)) (fun h' d sb=>h _ ?_);refine Vo (x:=a) (e:=dx) (jz e) (.inr d0) (fun b q U z=>sa z) (let⟨o,_,_,d3,_⟩:=d.ns;no d3) (a (Y Y.ne d0) ?_ Y.ne d.obj _ d.ns (fun g=>?_) (fun g d8=>?_));rw[cb (ara f y G) pN];{rw[di];rw[T g f,dk q q Z,aZ]};{rw[T g f,Z q (adm f y G).1];{refine(adm f y G).2 g (wi g (J (d8 ?_)));show(av (g=f) u (j g))=ae;rw[J (bj q) z]}}
theorem Inv.made(I:aY):aR (upd (ad aO (.own iu)) iu a'H) bc7:=by rw[ad b4 (di (mH MM) aO) MM (aBB bh rfl)];refine(cF (.own iu) (mH MM) (qu (bT q)) (aW b4)).laid (a:=iu) (o:=a'H) (t':=dE) (qu (bT q)) (qF (lz _ _)) ?_;have ne:aO≠iu:=gC jR;rw[e (wt ne) cT ne (by have:=aBB (mH MM) (o:=U6 C aO) rfl;rwa [lz]at this) uw ((Heap.Ns1.of_empty (a MM #[] _ b4 (ai (f2 (cy a0 ah)) gW))).at (lx (bT q))) (au CO) (oU (cy rfl b6))]
theorem aOL{prog:Program}{w:World}{env:Env}{e:Expr}{f:Str}{pos:Pos}{s:Shared}{Q:aU}(U:ag9 e f env (kd e)=kd e)(h:ig (kd e) (fun o l=>am (aBx o f ab) Q E l)):bl (kd a7l):=Attribute_any_ h (bj arm_eval_Attribute U)
universe z
inductive jF(K:PySem.W.Frag)(f:Str)(Q:VK)(x:V)(a8:Hp):Prop|mk:∀a C dx G v,b x bc aIN Zn anH (aHv->Q v a8->jF K f Q x a8)
def aOM(K:PySem.W.Frag)(d6:TE)(f:Str):TE:=k9 (jF K f Q)
inductive jS(K:PySem.W.Frag)(f:Str)(N:jb)(y x:V)(b7:Hp):Prop|mk:∀a C dx G,b x bc (b7 a=aa (aC C G)) Zn anH (U7<1000->N (upd b7 a bda)->jS K f N y x b7)
def aON(K:PySem.W.Frag)(d6 L:TE)(f:Str):TS:=fY (L M H (sn (d6 M a8 (jS K f (mF M) y))))
def adn(X:Cx)(j:Operator)(F:Fq):Prop:=∀(pins:bw)(s:Shared)(M:St)(H:Hp)(x y:V)(u v:Value)(Q:VK),bF pL Yo (F x y H Q) (aBk j u v)
def aOO(K:PySem.W.Frag)(d6 L:TE)(F:Fq)(f:Str):TS:=fY (d6 M H (jA (∃a C dx G v,x=bc/\aIN/\N Zn anH aHv (L M a8 (p6 (F v y b7 (fun z d4=>∃t b,d4 a=aa (.ins C t b)/\cw<1000/\mF M (qx (.ins C t (kk f z b))))))))))
section z
variable{X:Cx}{o e B:Expr}{f:Str}{pos E T:Pos}{d6 L:TE}
theorem aOP(a0:M e d6)(U:bgs):zq X.K:=by rw[fx];refine aOL U (wf EL);obtain⟨x,a8,r,R,a,C,dx,G,v,ex,d0,c,n,l,q⟩:=P;rw[lW,Es];exact arc r d0 c n l (fun F b5 Y m=>a v a8 Y m q)
theorem aOQ{d:PySem.W.Frag}(b3:amM)(d3:aof)(c0:A8 (j2 f E))(g:Bb):bn [j2 f E] B pos (aON d d6 L f):=by rw[rD,kW];refine plainObj_wpAny_Assign_Attribute (bD a7S (fun u a4⟨y,a8,r,Z,q⟩=>bD (nc _ q) (fun ov b5 P=>?_))) c0;obtain⟨x,b7,Y,R,a,C,dx,G,ex,d0,c,n,l,q2⟩:=P;rw[lW,fp (ov=dm a) R];exact ard Y d0 c n l Z (fun c8 O=>d M _ O q2)
theorem ado{d:PySem.W.Frag}{j:Operator}{F:Fq}(b3:amM)(d3:aof)(i:adn X j F)(g:Bb):fr (j2 f T) B (aOO d d6 L F f):=by rw[rD,kW];refine wpAny_AugAssign_AttributeAny (bD rN (fun ov a4 P=>?_));obtain⟨x,a8,r,R,a,C,dx,G,v,ex,d0,c,n,l,q⟩:=P;rw[lW,fp (ov=dm a) R];refine arc r d0 c n l (fun u b5 Y m=>bD (d3 au b5 M a8 _ Y q) (fun w c8 e0=>b y b7 O Z q3 e0 (bD (i au c8 M b7 v y u w _ O m Z q3) (fun p d9 e0=>by obtain⟨z,d4,a5,e,t,b,k,i1,i6⟩:=e0;exact ard a5 k c n i1 e (fun f9 A=>d M _ A i6)))))
inductive arf(x:V)(y:V)(H:Hp)(Q:VK):Prop|mk:p4 (i+j) (arf x y H Q)
inductive arh(x:V)(y:V)(H:Hp)(Q:VK):Prop|mk:p4 (i-j) (arh x y H Q)
theorem ari:adn X .Add arf:=by rintro pins s M H x y u v Q I R Z⟨i,j,rfl,rfl,q⟩;rw[ep (dv (jF QJ) R),GE Z];exact PyProof.Rows.iadd_int (n4 (i+j))
theorem aOR:adn X .Sub arh:=by rintro pins s M H x y u v Q I R Z⟨i,j,rfl,rfl,q⟩;rw[ep (dv (jF QJ) R),GE Z];exact PyProof.Rows.isub_int (n4 (i-j))
universe z
section z
variable{X:Cx}{pins:bw}{M:St}{H:Hp}{s:Shared}{A:Around}{E:aU}{Q:aU}{c:Value}{b:Bool}
universe z
universe L2
namespace L2
open PySem PySem.Spec PyProof.Rows
structure hW(k:Nat)(A:Around):Prop where
 hd:od
 dp:ag_+3*k+5<a1D
 un:sT+16*k+200<gD
theorem hW.mono{j k:Nat}{A:Around}(J:JP)(h:j<=k):hW j A:=v J.hd (bv J.dp (uR this h h h)) (by have:=ag';lia-abstractProof)
theorem hW.deeper{k:Nat}{A:Around}(J:hW (k+1) A)(env:Env):hW k (aha env):=v J.hd (by have:=J.dp;show ag_+1+3*k+5<_;exact Ew) (by have:=ag';show sT+3+16*k+200<_;exact Ew)
theorem aOS{A:Around}{C:Addr}{b1:aM}{a:Jh}:(aom).depth=ag_+1:=by first|rfl|simp[aBD,Code.weight,Code.isCreation,Code.isGuard,Code.isCaller,a1E,aBC,guardIds]
theorem aOT{A:Around}{C:Addr}{b1:aM}{a:Jh}:(aom).units=sT+1:=by first|rfl|simp[aBD,Code.cUnits,a1E,aBC]
theorem hW.make{k:Nat}{A:Around}(J:hW (k+1) A)(C:Addr)(b1:aM)(a:Jh):hW k aom:=v J.hd (by have:=J.dp;rw[aOS];exact Ew) (by have:=ag';rw[aOT];exact Ew)
theorem hW.depth{k:Nat}{A:Around}(J:JP):ag_<a1D:=bv J.dp Ew
theorem hW.units{k:Nat}{A:Around}(J:JP):ks 64:=aIT
theorem hW.bjh{k:Nat}{A:Around}(J:JP):sT<gD:=aIT
def r_:TA:=lF (Q [] H)
def qu(d6:TE)(o:TA):TA:=qv (o M a8 (fun O b7=>Q (x::O) b7))
section z
variable{X:Cx}{e:Expr}{a7:fC}{b8:TE}{t:TA}{pos:Pos}
theorem Si:PA X [] r_:=fun _ _ _ _ H Q I h=>aBE bac
theorem u_(b3:rQ)(a6:aHL)(c0:Bp):PA X rj (qu b8 t):=by intro pos au s M H Q I h;rw[c0];refine a1F (bD rN (fun u a4 e0=>b x a8 r r1 d2 e0 (ge (a6 pos au a4 M a8 _ r d2) O (a (x::O) b7 Y (.cons r1 r2) q2))))
inductive KP(o:af->HO)(Q:VK)(O:af)(a8:Hp):Prop|mk:Jg->ad p (gz p) (Q fO (upd a8 p (o O)))->KP o Q O a8
def aOU(t:TA):TE:=jE (KP .tup Q)
def aOV(t:TA):TE:=jE (KP .lst Q)
theorem KQ{e7}(h:aHL):M (.Tuple a7 e7 pos) (aOU t):=gP (wpAny_Tuple_spliced biY) (upd a8 fI tK) (a z b1 J _ gI rfl _ rfl)
theorem yA(h:aHL):M (.List a7 pos) (aOV t):=gP (wpAny_List_spliced biY) (U a8 fI O) (a z b1 0 J gI)
universe z
abbrev Sp:=aa af Hp VK XK
abbrev ml:=c ka Hp vH XK aU
structure adp(P:Program)(w:World)(K:PySem.W.Frag)(mg:dM)(base:Heap)(A:Around)(outer:ka)(s:Shared)(H:Hp):Prop where
 frames:A.frames=aa ez
 mod:Mod K mg aj
 bs:hr (base.get? b) (gY/\gp)
 R0:base.objs.size<=aO
 uU:agW aj ez
 FW:bH (uT ez) gp
 dt:fg H bh
 bare:Hd sQ
inductive CE(outer:ka)(P:Program)(w:World)(H:Hp)(s:Shared)(Q:VK)(u:Value)(c1:Shared):Prop|mk:∀v L,b Vf CH (Hd Ve) (Un (uT ez) [] H L bh mD) (fg L mD) (jh->Q v L->aL6)
def CR(T:ml)(outer:ka)(P:Program)(w:World)(H:Hp)(s:Shared)(Q:VK)(E:XK)(J:Result)(c1:Shared):Prop:=match J with| .ok (.ret u)=>aL6| .ok _=>cE| .error e=>T ez H s E e c1
structure va(P:Program)(w:World)(K:PySem.W.Frag)(mg:dM)(base:Heap)(T:ml)(k:Nat)(f:Addr)(fd:FuncData)(c5:cX)(e8:Sp):Prop where
 len:alr
 run:∀(A:Around)(outer:ka)(s:Shared)(H:Hp)(i:Args)(b1:aM)(vs:af)(Q:VK)(E:XK),j JP (vh A) (aBF s fd i (MN b1)) Fh aFU (Hl (ju P w) A (.call rz i) (CR T ez P w H s Q E) s)
theorem va.mono{P:Program}{w:World}{K:PySem.W.Frag}{mg:dM}{base:Heap}{T:ml}{j k:Nat}{f:Addr}{fd:FuncData}{c5:cX}{e8:Sp}(F:f1 T j fd)(h:j<=k):va P w K mg aj T k f fd c5 e8:=⟨F.len,fun A ez s H i b1 vs Q E a6=>F.run A ez s H i b1 vs Q E (ahb h)⟩
theorem adp.make{P:Program}{w:World}{K:PySem.W.Frag}{mg:dM}{base:Heap}{A:Around}{outer:ka}{s:Shared}{H:Hp}(e:vh A)(C:Addr)(b1:aM)(a:Jh):vh aom:=a (by first|exact e.frames|(simpa[aBD,Code.envs,aBC,pushEnvs]using e.frames)) e.mod e.bs e.R0 e.uU e.FW e.dt e.bare
section z
variable{X:Cx}{pins:bw}{M:St}{H:Hp}{s c1:Shared}
theorem Inv.arj(I:aY):adp eA X.w X.K mG sP X.A oM s H:=a a1G aBf I.bs (cn agX I.sz) I.stack I.aqK eo zh
theorem Inv.after{Q:VK}{u:Value}(I:aY)(h:CE oM eA X.w H s Q u c1):fY u c1:=by obtain⟨v,L,os,bare,un,dt,J,q⟩:=h;obtain⟨c7,g,d,t,a⟩:=c1;rw[fp (a=CH) os];exact a v L (I.call (h':=c7) (g':=g) (d':=d) (t':=t) (ch:=[]) un dt bare (fun b z=>cy z jI)) J q
universe z
def F3(e8:Sp)(b:af)(E:XK)(t:TA):TE:=xz (e8 (vs++b) a8 Q E)
inductive jM(C:Addr)(m:Str)(e8:Sp)(b:af)(E:XK)(t:TA)(M:St)(Q:VK)(x:V)(a8:Hp):Prop|mk:∀a dx G,b x bc aIN (Vn m=ae) (t M a8 (fun vs b7=>e8 (x::(vs++b)) b7 Q E)) (jM C m e8 b E t M Q x a8)
def aOW(C:Addr)(m:Str)(e8:Sp)(b:af)(E:XK)(d6:TE)(t:TA):TE:=k9 (jM C m e8 b E t M Q)
def ark(C:Addr)(e8:Sp)(b:af)(E:XK)(t:TA):TE:=xz (gD (gz x) (gz dx) (cx a8 dx Zc))
def Binds(K:PySem.W.Frag)(fd:FuncData)(c5:cX)(c7:aM):Prop:=∀(s:Shared)(b1:aM),vM bh->t (b1++c7)=kx->aBF s fd (d_ b1) (MN (b1++c7))
theorem Binds.all{K:PySem.W.Frag}{fd:FuncData}{c5:cX}(h:∀b1:aM,Cx fd):aaB:=fun s b1 _ a5=>by rw[qK]at a5⊢;exact .of_eq (h b1 a5)
def Passes(T:ml)(X:Cx)(E:XK):Prop:=∀(pins:bw)(M:St)(H:Hp)(s:Shared)(e:Value)(c1:Shared),aY->T oM H s E e c1->oN e c1
section z
variable{X:Cx}{T:ml}{k:Nat}{f C:Addr}{fd:FuncData}{c5:cX}{e8:Sp}{b:af}{c7:aM}{E:XK}{x m:Str}{p pos i:Pos}{e o:Expr}{a7:fC}{d6:TE}{t:TA}
theorem adq{pins:bw}{M:St}{H:Hp}{s:Shared}{Q:VK}{b1:aM}{vs:af}(F:Km)(a6:Qo)(U:Kg)(hd:J8)(S:Ki)(I:aY)(J:Fh)(h:e8 (vs++b) H Q E):xs rz:=by have r2:=Vp hd;refine aBG (MP (F.run X.A oM s H (d_ b1) (b1++c7) (vs++b) Q E a6 I.arj (U s b1 vU (bl r2.length (F.len _ _ _ _ h))) r2 h) (fun J c1 e0=>?_));cases J with|error e=>{exact S au M H s e c1 I e0}|ok fl=>cases fl with|ret u=>{exact I.after e0}|next=>{assumption}|brk=>{assumption}|cont=>exact MO e0
theorem aOX(F:Km)(a6:Qo)(d8:qh)(c4:jD (mG x) f)(c3:U1 X.K rz=ab)(U:Kg)(hd:J8)(S:Ki)(b3:Fv)(l:mf)(a0:Bp)(b8:JU):pc (F3 e8 b E t):=q5 c3 (adq F a6 U hd S r J q)
theorem jk{d5:amb}(a0:amM)(c:aaj)(c4:y1 f)(F:Km)(a6:Qo)(U:Kg)(hd:J8)(S:Ki)(b3:Fv)(z:Bp)(b8:JU)(c6:ce (e0 (dN m rj pos)=(do{let ov<-eval o X.env;standAt i.atName;let(f,first)<-holding [ov] (getMethod ov m d5);callWith pos f first (backTo pos (starEach (e::a7) X.env)) (backToKw pos (keywordEach [] X.env))}))):qS rj t:=Lj (a1H (first:=uh) (h₀:=sP) a1I c4.kp (bD (b3 pos au a4 M a8 _ r q) (fun b1 b5 e0=>dL vs J ⟨Y.Kx,adq (b1:=bc::b1) (vs:=bc::vs) F a6 U hd S Y (.cons rfl J) q2⟩)) z b8)
theorem Sj{d5:amb}(a0:amM)(c:aaj)(c4:y1 f)(F:Km)(a6:Qo)(U:Kg)(hd:J8)(S:Ki)(c6:ce (e0 (dN m [] pos)=(do{let ov<-eval o X.env;standAt i.atName;let(f,first)<-holding [ov] (getMethod ov m d5);callWith pos f first (backTo pos (starEach [] X.env)) (backToKw pos (keywordEach [] X.env))}))):qS [] r_:=Lj (a1J (first:=uh) r.Kx c4.kp (adq (b1:=uh) (vs:=uh) F a6 U hd S r (hp rfl) q))
structure Mk(K:PySem.W.Frag)(C f:Addr):Prop where
 makes:amu
 init:a81
 fn:p0 rz
 kp:aIe
theorem arl{pins:bw}{M:St}{H:Hp}{s:Shared}{Q:VK}{b1:aM}{vs:af}(d5:aJf)(F:Km)(a6:aIs)(U:Kg)(hd:J8)(S:Ki)(I:aY)(J:Fh)(h:gD (Y x) (Y dx) (d7 (ad dx Ec) Zc)):xs xc:=by have e0:=h iu aO (zj (a1K _)) pR (gC jR);have Y:=Inv.made (C:=C) I;have r2:iM (gR iu::(vs++b)) bdx:= .cons rfl (Vp hd);refine aBG (aOH (f:=f) vU d5.makes d5.init (a1z d5.fn) (MP (F.run _ oM _ _ (d_ (dm iu::b1)) bdx _ _ E (a6.make C b1 []) (Y.arj.make C b1 []) (U _ (dm iu::b1) Y.Kx (by rw[de r2.length,a6 (F.len _ _ _ _ e0)];exact CP)) r2 e0) (fun J c1 a=>?_)));cases J with|error e=>{exact S au M _ _ e c1 Y a}|ok fl=>cases fl with|ret u=>{obtain⟨v,L,O,rv,B,q3⟩:=aBH a;subst B;exact a rv (gR iu) L O (bd q3)}|next=>{assumption}|brk=>{assumption}|cont=>exact MO a
theorem aOY(d5:aJf)(F:Km)(a6:aIs)(d8:qh)(c4:mG x=aa xc)(U:Kg)(hd:J8)(S:Ki)(b3:Fv)(l:mf)(a0:Bp)(b8:JU):pc (ark C e8 b E t):=q5 d5.kp (arl d5 F a6 U hd S r J q)
theorem arn(d5:aJf)(F:Km)(a6:aIs)(d8:qh)(c4:mG x=aa xc)(U:Kg)(hd:J8)(S:Ki)(l:mf):M (er x []) (ark C e8 b E r_):=CV (a1J vU d5.kp (arl (b1:=[]) d5 F a6 U hd S I .nil h))
universe z
section z
variable{X:Cx}{T:ml}{k:Nat}{f C:Addr}{fd:FuncData}{c5 K:cX}{e8:Sp}{E:XK}{x m:Str}{p pos i a:Pos}{e o:Expr}{a7:fC}{b:bL aBI}{b8 d6:TE}{t D:TA}{d1:bZ Str}
variable{g:aM->aM->aM}{a:af->af->af}
universe z
structure ads(N P:cX)(a:Scope):Prop where
 kind:sz a1L
 co:a.isCoroutine=ai
 gen:a.isGenerator=ai
 nd:N.Nodup
 pre:N.take P.length=P
 par:aK P a9M
 aOZ:dt aBJ (y.2≠.free)
theorem aro{kindOf:amG}{x:Str}:KA (ahc CQ a m x)|[],_,_=>rfl|(n,v)::J,m,h=>by unfold bindL;rw[aro a'O];split;rw[cL];{rfl}
theorem arp{kindOf:amG}{x:Str}:KA (ahd CQ a m x)|[],_,_=>rfl|(n,v)::J,m,h=>by unfold bindC;rw[arp a'O];split;{rfl};rw[dV]
theorem arq{kindOf:amG}{x:Str}{v:Value}:qY (k8 (CQ x)) (ahc CQ (aBK vs) m x)|[],_,_,_,_,h,_,_=>bB|_::_,[],_,_,_,_,h,_=>bB|p::P,w::vs,0,m,nd,a3,a9,c3=>by{simp at a3 a9;subst a3;subst a9;show ahc CQ bcZ m p=_;unfold bindL;rw[aro bdu,aK c3];exact cO}|p::P,w::vs,i+1,m,nd,a3,a9,c3=>by unfold bindL;exact arq (i:=i) (AE).2 bB bB c3
theorem ars{kindOf:amG}{x:Str}{v:Value}:qY (CQ x≠aa .local) (ahd CQ (aBK vs) m x)|[],_,_,_,_,h,_,_=>bB|_::_,[],_,_,_,_,h,_=>bB|p::P,w::vs,0,m,nd,a3,a9,c3=>by{simp at a3 a9;subst a3;subst a9;show ahd CQ bcZ m p=_;unfold bindC;rw[arp bdu,bj c3];exact cO}|p::P,w::vs,i+1,m,nd,a3,a9,c3=>by unfold bindC;exact ars (i:=i) (AE).2 bB bB c3
noncomputable def start(N:cX)(vs:af):St:=Vr aa++Vq (iP-iO) ae
noncomputable def yB(T:ml)(P:Program)(w:World)(K:PySem.W.Frag)(mg:dM)(base:Heap)(N:cX)(j:Str)(d:Scope)(f:Addr)(R:Value)(A:Around)(outer:ka)(s:Shared)(H:Hp)(E:XK):Cx where prog:=P;w:=w;K:=K;mg:=mg;base:=aj;A:=aha J5;N:=N;FV:=s;Kw:=H;env:=J5;outer:=ez;stack:=J5::ez;ex:=[];calm:=ab;fn:=au ab;pn:=[];xe:=fun e c1=>fv (ju P w) (aha J5) (leaving J5 e) (fun _ M=>T ez H s E e M) (fun d3 M=>T ez H s E d3 M) c1
theorem art{a:Scope}{n:Nat}{x:Str}(h:jU (vN x)):ax c (fh (zo n aBJ []) x) c:=x (a1M (a1N aBJ n [] AB))
theorem aO0{T:ml}{P:Program}{w:World}{K:PySem.W.Frag}{mg:dM}{base:Heap}{N c5:cX}{j:Str}{d:Scope}{f:Addr}{R:Value}{A:Around}{outer:ka}{s a4:Shared}{H:Hp}{E:XK}{b1:aM}{vs:af}(r:ads N c5 d)(hd:od)(f5:vh A)(a5:iO=kx)(J:Fh)(x:InCallC s aO (ahc (J5).kindOf (MN b1) uw) (zo iu mI []) (ahd (J5).kindOf (MN b1) uw) a4):Inv (yB T P w K mg aj N j d f R A ez s H E) [] (MQ N vs) H a4:=by have b8:kx<=iP:=by{rw[ik r.pre,am eS];exact cn CS (oP kx iP)};obtain⟨a3,D,rfl,c3⟩:=x.done;have G:∀b:ef,b∉(yB T P w K mg aj N j d f R A ez s H E).ex:=fun b z=>z6 z;rw[b (a f5.mod r.kind rfl rfl a_ (fun y z c a3 a9=>?_) Q5 (fun y c _ h=>?_) (a (au hd) (Around.frames_deeper f5.frames) (.inr xG) a9m f5.bs f5.R0 (fun b _ _=>G b) a9m f5.uU f5.FW)) rfl f5.bare (agT c3) (av x.toInCall.ns (fun i y v a3 a9 e2=>?_)) (fun y c h=>aW (x.cell y c h)) (a1O a_) (fun y c h=>?_) (aJ (GM ([]:bw)) (f5.dt.kept c3)),l (name_of_addr x.apart (oO a3) (oO a9))];{have b6:=b6;rw[bcg,l (art b6),cF rfl (r.aOZ _ (oO b6))]};rw[l beT];{have hi:i<iO:=by{delta MQ at a9;rw[fJ hi iO,l hi,dV]};have b3:A vs v:=by{delta MQ at a9;rw[hx hS,cz]at a9;cases e:vs[i]? with|none=>{simp_all}|some a=>simp_all};rw[bl hu rv (ahe b3)];have c2:A c5 y:=by{rw[<-r.pre,sU ah];exact a3};rw[br g c5.Nodup r.pre (r.nd.sublist (aBM _ _)),ak u rv,v4 (r.par y (bO c2)),dQ ⟨k,arq g c2 hu k⟩];{rw[ck c (art (n:=iu) k)];refine .inr (a1 O9 c e);rw[ci (x.cell y c e),cR (ars g c2 hu (by show MR y≠_;rw[k];decide))];exact q}};rw[l (a1O beT)];{delta MQ;show _=iP;rw[cj,bA,aBL];simp[*]}
theorem aO1{T:ml}{P:Program}{w:World}{K:PySem.W.Frag}{mg:dM}{base:Heap}{k:Nat}{f:Addr}{c j:Str}{h:Arguments}{a:ue}{d:Scope}{Z kV p b3 e3 ct D:Value}{g m:nf}{z:Eu}{N c5:cX}{e8:Sp}(lk:B_ bhO)(S:aLA)(r:ads N c5 d)(len:alr)(l:∀(A:Around)(outer:ka)(s:Shared)(H:Hp)(vs:af)(Q:VK)(E:XK),e8 (ahf j d aO f e3) (yB T P w K mg aj N j d f e3 A ez s H E) a):f1 T (k+1) bhO:=by rw[v len (fun A ez s H i b1 vs Q E a6 f5 U J C=>?_)];have y:=f5.mod.kin.keeps beo;refine codeAny_call_function a6.depth (y _ _ lk) rfl r.co r.gen rfl (PySem.W.codeRec_of y S) (U _ _ _ _ (wpAny_newFunctionEnv_cells r.kind (fun⟨n,v⟩b6=>by rw[al (r.par n (a1P b6).1),l AS,co ⟨q,a1N _ _ _ (.inl q)⟩]) (fun env a0 a4 x=>?_)));subst a0;rw[v ((f5.mod.nolimit.keeps beo).keeps x.toInCall.keep) (codeAny_func ?_)];obtain⟨t,c6,e0⟩:=l A ez s H vs Q E (a6.deeper _) C;refine vZ (c6 [] a4 (MQ N vs) H _ (aO0 r a6.hd f5 (len _ _ _ _ C) J x) e0) (fun fl c1 c0=>?_) (fun e c1 c0=>c0);have fin:∀{g0:St}{L:Hp}{v:V}{u:Value},i (Inv (yB T P w K mg aj N j d f e3 A ez s H E) [] g0 L c1) jh (Q v L) aL6:=fun{g0 L v u}d0 rv q=>a v L d0.os d0.bare d0.base d0.dt rv q;cases fl with|ret u=>{rw[j v g0 L d0 rv q c0 (fin d0 rv q)]}|next=>{obtain⟨g0,L,d0,q⟩:=c0;exact fin (v:=Hm) (u:=CD) d0 rfl q}|brk=>{rw[bej]}|cont=>rw[bej]
universe L2
namespace L2
open PySem PySem.Spec PyProof.Rows
section z
variable{X:Cx}{x:Str}{p pos:Pos}{e:Expr}{a7:fC}{t:TA}{id T:String}{J:l5 af}
def KR(J:l5 af)(t:TA):TE:=xz (J vs a8 Q)
theorem F4(b0:fW id J)(d8:qh)(c4:f8 x)(d3:vR x=aa X9)(b3:Fv)(d1:aHy)(l:mf)(a0:Bp)(b8:JU):pc (KR J t):=H6 (PyProof.Rows.callWith_builtin1 biJ a0 b8)
theorem Sk(b0:Bz X (.type T) J)(d8:qh)(c4:f8 x)(d3:vR x=aa (.type T))(b3:Fv)(d1:aHy)(l:mf)(a0:Bp)(b8:JU):pc (KR J t):=H6 (ahg biJ a0 b8)
universe z
universe L2
namespace HT
open PySem PyProof.Rows
noncomputable def lexLt:aJ8|[],[]=>ai|[],_::_=>ab|_::_,[]=>ai|x::O,y::d7=>v x y (zp O d7) aGW
theorem aO2(x y:Int)(O d7:aT):zp (x::O) Q0=v x y (zp O d7) aGW:=rfl
theorem aO3:zp [] []=ai:=rfl
theorem aO4(y:Int)(d7:aT):zp [] Q0=ab:=rfl
theorem aO5(x:Int)(O:aT):zp (x::O) []=ai:=rfl
theorem aO6(A:Around)(s:Shared)(a:Int)(t:Tok)(c:Int)(u:Tok):z e (aBN A s (eZ a) (mD c) e) (bE e (a=c)):=v (a==c) (a1Q a t c u) aQ
theorem aO7(A:Around)(s:Shared)(a:Int)(t:Tok)(c:Int)(u:Tok)(prog:Program)(w:World)(E:aU)(Q:aU)(h:jZ (bT a c)):zu .Lt:=na (PyProof.Rows.lt_int h) .Lt
section z
open PySem.SeqAt
open PySem.AutoSeq1(wpAny_loadPart')
open PySem.MeetsSeq PySem.MeetsSeq2 PySem.MeetsSeq3
theorem aO8(l b:Addr)(f i:dU)(n n2:Nat)(j o:nf)(sl p:Eu)(ns d8:aT)(hi:QU)(b8:Rg):nA (Builtin.«tuple.__lt__» aJ_) aov:=B7 (by rw[m9 os s,cz a5 U h];have h3:=aBO;rw[aMs,aMu,Co (zp I k)];(case turn=>rintro⟨y,x⟩m b c1⟨j6,rfl,vs,ws,I,k,c9,v,r,E,hR⟩;cases v with|nil=>{trivial}|cons a t C=>cases r with|nil=>{trivial}|cons c u F=>rw[alh];injection c9 with G H;rw[aLf];subst b6 S;rw[aO2]at hR;rw[aH_,aMT,C aMH,Cl (aO7 kz OI a t c u cN w)]);(case fin=>rintro⟨h2,e2⟩c1⟨j6,rfl,vs,ws,I,k,c9,v,r,E,hR⟩;rw[aG6];subst j6;have d3:zp I k=bT lA Vs:=by{cases v with|nil=>{cases r with|nil=>{rw[fg MS aO3 aIq]}|cons c u hw=>rw[kl aO4 (m7 E.g)]}|cons a t d3=>rw[m3 aO5 aIq]};rw[d3]at hR;wp_walk;exact aLG);rw[aMY])
universe z
section z
variable{prog:Program}{w:World}{A:Around}{E:aU}{s:Shared}
theorem aO9{l b:Addr}{f i:dU}{ns d8:aT}{Q:aU}(a5:aIX)(U:aKw)(hi:QU)(b8:Rg)(hu:sT<gD)(h:jZ aov):zS .Lt:=t .Lt PySem.F.slot_tuple_lt PySem.F.entry_tuple_lt (PySem.F.args_tuple_lt_2 _ _) (aO8 l b f i n n2 j o sl p ns d8 hi b8) aov aov
noncomputable def yC(n d:Nat):ek->Nat|none=>d|some v=>if v<0 then gw v cK else j6 a1R
theorem aru(n d:Nat):yC n d ae=d:=rfl
theorem bji(n d k:Nat):yC n d (gG k)=j6 k:=by show(if v k<0 then gw (v k) cK else j6 (v k).toNat)=j6 k;rw[bj aQ,iQ]
theorem aO_(n d:Nat)(hd:d<=n)(o:ek):yC n d o<=n:=by cases o with|none=>{exact hd}|some v=>show bbu<=n;by_cases d3:v<0;rw[ER,ER]
theorem arv(v:Int)(n d:Nat):(if v<0 then bcq else min v cK)=j5 d pC:=by show bo (v<0) bcq (min v cK)=ae bbu;by_cases d3:v<0;rw[aZ,cL]
theorem aO'(lo hi:ek)(n:Nat):beX=(apa,j5 n hi):=by have a3:¬(v 1<0):=by{decide};delta a1S;simp only[a3,iR];refine sM ?_ ?_;{cases lo with|none=>{rfl}|some v=>exact arv v n 0};{cases hi with|none=>{rfl}|some v=>exact arv v n n}
theorem aPa(i j:Nat):ahh xv (v j) 1=j-i:=by delta ahh;have a3:v 1>0:=by{decide};simp only[a3,mJ,Int.ediv_one];split<;>simp_all
theorem arw{v:Value}{o:ek}{Q:dE ek}(p:MT v o)(h:Q o s):bl (Builtin.Slice.slicePartIndex v):=by cases p with|none=>{exact a1T h}|int i t=>exact slicePart_int h
theorem aPb{sl:Addr}{i5 c:Value}{lo hi:ek}{n:Nat}{Q:dE (Int×Int×Nat)}(c0:aMc)(d5:aJC)(a9:MT c hi)(h:Q (apa,1,yC n n hi-yC n 0 lo) s):bl (a1U al7 (eU cK)):=by rw[bfy];delta a1U Builtin.Slice.sliceFields;rw[fG (mX i5 (bF (mX c (bF (mX .none (fa (a1T ?_))))))),aO ay,C (arw d5 (bF (arw a9 (bF fN)))),oT (match beX with|(lo,hi)=>eU (lo,v 1,ahh lo hi 1))];rw[aO' lo hi n];rw[oT (eU (apa,v 1,ahh apa (j5 n hi) 1)),J aPa xw]
theorem aPc(O:dU)(i k:Nat):hu (i8 k bgV)=hu (an (a1V i) k):=by have e:(bgV)=bo O[i+m]?:=funext (bo (by rw[a1s,<-Int.natCast_add,iQ]));rw[e];have:=pick_run O i k;rw[am List.filterMap_map,ab b9 ((ab O[x]?)∘ab (i+x)) (bo O[i+m]?),am b9,nY]
theorem aPd{t sl:Addr}{f:dU}{i5 c:Value}{lo hi:ek}{Q:aU}(c6:Mt bh t f)(c0:aMc)(d5:aJC)(a9:MT c hi)(hw:¬(rA=0/\Jm=lA))(h:Q gk (fL (mH (jt bes))))(G:a1 lA):bl (zk nu al7):=by revert c6 c0 d5 a9 hw h G;revert prog w A E s t sl f i5 c lo hi Q;refine@mi _ _ _ _ _ _ _ _ _ _ _ _ _ _ ?_;generalize pZ=prog,p_=w,qa=A,qb=E,qc=s,qd=t,qe=sl,qf=f,qi=i5,qj=c,qm=lo,qn=hi;refine ap3;rw[uX Q];intro c6 c0 d5 a9 hw h G;have d:sizeOk (.seq bes):=by{show a1 (an (a1Y rA) (Jm-rA)).toArray.size;rw[Hn,eS,sO,Vh];exact cn (oP (Jm-rA) (lA-rA)) (cn (qM lA rA) G)};have b8:Jm<=lA:=aO_ _ _ a_ hi;rw[bfy];have g:lB al7 "slice":=v os a e;delta zk;rw[a90];(first|rw[Qc]|skip);rw[C (wpAny_sequenceKey ahi ay ?_),C (cd "__getitem__" ahi a1X (qL a1X ahi entry_tuple_getitem ?_ (args_tuple_getitem _ _))),s8 (a1W nu),C (tupleItemsOf_ c6 ?_),w3 g];rw[aK ay];rw[C (aPb c0 d5 a9 ?_),ca c5 (¬(c_ (ae rA==0&&v 1==1) ((Jm-rA)==lA))),oT (ml (ae rA==0&&v 1==1&&(Jm-rA)==lA))];rw[bj c5,aPc];first|exact uY (pr xw)|exact uY (bF (mQ (dl xw)))|exact bF (uY (mQ (dl xw)))|exact bF (uY (pr xw))
universe z
universe HT
namespace L2
open PySem PySem.Spec PyProof.Rows
abbrev TO:=tl (eo ek)
def PO(X:Cx)(e:PD)(t:TO):Prop:=∀(pins:bw)(s:Shared)(M:St)(H:Hp)(Q:eo ek),cv Pl (evalPart e cF) (fun u c1=>∃o L,Bg/\MT u o/\Q o L)
def aPe:TO:=lF (Q ae H)
def jP(Q:eo ek)(x:V)(H:Hp):Prop:=match x with| .int i=>Q xr H|_=>cE
theorem jP.out{Q:eo ek}{x:V}{H:Hp}(h:jP Q x H):z i (x=hP) (Q xr H):=lG jP (dl h)
def aPf(t:TE):TO:=jE (jP Q)
theorem intsAre_of{ns:aT}:∀{b1:aM},ey xK->sV b1 ns:=by induction ns with|nil=>{intro b1 J;rw[zq]at J;rw[hM];exact .nil}|cons n ns d6=>intro b1 J;rw[da]at J;cases J with|cons r1 r2=>rw[ck t r1,bY];exact .cons n t (d6 r2)
section z
variable{X:Cx}{e:Expr}{b8:TE}{lo hi:PD}{h8 a:TO}{pos f6:Pos}
theorem Sl:PO X ae aPe:=by rw[fx];rw[a1Z];exact cg (a ae H I .none h)
theorem oq(h:rQ):PO X rB (aPf b8):=by rw[na hw];rw[evalPart_some];refine wf (im _ I);rw[JR,aJ i rfl d2.out,ep r1];exact a xr a8 r (eZ i) q
def KS(X:Cx)(J:aL5):Prop:=∀(pins:bw)(s:Shared)(M:St)(H:Hp)(x:V)(v i5 c:Value)(lo hi:ek)(sl:Addr)(Q:VK),l aY tW aMc aJC (MT c hi) (J x lo hi H Q) (∃T id,aBP (.type T) "__getitem__"=eU (aa X9)/\lB v T/\dg (zk v al7) IS)
def tSl(J:aL5)(b8:TE)(h8 a:TO):TE:=hf (of (jA (h8 M a8 (fun l b7=>a M b7 (fun u d4=>J x l u d4 Q)))))
theorem arx{J:aL5}(a6:KS X J)(a0:rQ)(a5:PO X lo h8)(hu:PO X hi a):Ix J:=by rw[fx];refine aBQ (lx EL (wpAny_Slice (bD (a5 au a4 M a8 _ r d2) (fun i5 b5⟨l,b7,Y,d5,q2⟩=>wj (hu au b5 M b7 _ Y q2)))));obtain⟨u,d4,O,a9,q3⟩:=P;rw[a1Z];rw[nZ];obtain⟨T,id,Z,c6,d8⟩:=a6 au {c8 with heap:=a10 (l6 "slice" #[i5,c,.none])} M d4 x v i5 c l u sW Q (O.kept (t':=c8.toks) a7C) r1 (Heap.IsSliceOf.new ..) d5 a9 q3;exact tail_any (ops:=[.ref sW,v]) c6 Z d8 (by with_unfolding_all rfl)
noncomputable def jl(O:af)(lo hi:ek):af:=an (Ha EB) (alX-EB)
theorem aPh(O:af)(lo hi:ek):bd aaT bx:=by delta jl;rw[eS,sO];exact cn (oP (alX-EB) (bx-EB)) (qM bx EB)
inductive adt(K:PySem.W.Frag)(x:V)(lo:ek)(hi:ek)(H:Hp)(Q:VK):Prop|mk:∀a O,b x bc uI (¬(EB=0/\alX=bx)) (ad p (Y p) (Q fO (ad p (.tup aaT)))) (adt K x lo hi H Q)
theorem aPi:KS X (adt X.K):=by intro au s M H x v i5 c lo hi sl Q I R c0 d5 a9 h;obtain⟨a,O,rfl,S,hw,q⟩:=h;rw[hO,a9 J c6 (CJ S),R E v_ bx Hn J.length.symm,j "tuple" _ PyProof.Rows.slot_tuple_getitem.lookup ahi (HT.aPd c6 c0 d5 a9 I9 ?_ I9)];rw[E];rw[pp (.tup aaT) (d bgw _ a9O a99)]
inductive ary(K:PySem.W.Frag)(x:V)(y:V)(H:Hp)(Q:VK):Prop|mk:∀a b ns d8,b x bc (y=cW) (mE xK) a7z (dB (mK ns d8)->ary K x y H Q)
theorem arz(hu:zr<gD):be .Lt (ary X.K):=Cs (HT.aO9 e9 f6 (MU r1) (MU r2) hu (eU (mK ns d8) q))
universe z
universe L2
namespace L2
open PySem PySem.Spec PyProof.Rows
noncomputable def qv(n:Nat)(i:Int):iY:=if 0<=i then(av (i<n) Vt ae)else av (-cK<=i) (gw i n) ae
noncomputable def BC{I:Type}(O:ba)(i:Int):bZ I:=(qv bx i).bind (iQ O[j]?)
theorem arA{n:Nat}{i:Int}{j:Nat}(h:qv n i=aa j):N (Db n) (j<n) (-cK<=i) (i<n):=by rw[a4 qv];by_cases b1:0<=i;{rw[aj (aK b1)];by_cases a3:i<n;{rw[aj (aK a3),de (c_ h)];exact d (bj (a13 b1 a3) e) fk (x (FQ (Ks n) b1)) a3};rw[az]};{rw[iW b1];by_cases a3: -cK<=i;{rw[aj (aK a3),de (c_ h)];exact d (bj (a12 alB a3) e) fk a3 (x (a11 (aMl b1) (Ks n)))};rw[az]}
theorem aPj{I:Type}{O:ba}{i:Int}{v:I}(h:sr i):I j (Db bx) ans (j<bx/\ -v bx<=i/\i<bx):=by rw[a4 BC];cases e:qv bx i with|none=>{simp_all}|some j=>rw[aj e,u6 (arA e)];exact c j a3 h a9 e2 e5
theorem dX{I:Type}{O:ba}{j:Nat}{v:I}(h:ans):sr (v j):=by have b8:=bx h;have e:qv bx (v j)=aa j:=by{delta qv;rw[aK aQ,aK (x (mh b8))];simp};delta BC;rw[e];exact h
theorem arB{I:Type}(O:ba)(v:I):BC (O++[v]) (-1)=aa v:=by rw[aC a5 (t (O++[v])) (bx+1) cj];have e:qv (t (O++[v])) (-1)=aa bx:=by{delta qv;rw[a5,bj ay,aK OJ];rw[dW];simp+arith [*]};delta BC;rw[e];simp
def arC(b:Expr):Prop:=∀o i,ahj b ai o i=aBR [o,i] (zk o i)
def KU(X:Cx)(J:R2):Prop:=∀(B a:Expr)(pins:bw)(s:Shared)(M:St)(H:Hp)(x y:V)(v u:Value)(Q:VK),j aY tW kY (J x y H Q) (ahj a ai v u=aBR [v,u] (zk v u)) (dg (a14 B a v u) IS)
def MtR(X:Cx)(id:String)(J:QE):Prop:=∀(pins:bw)(s:Shared)(M:St)(H:Hp)(x:V)(O:af)(v:Value)(b1:aM)(Q:VK),beB
section z
variable{X:Cx}{a b:Expr}{d6 c3:TE}{pos:Pos}
theorem Sm{J:R2}(a6:KU X J)(b3:fU)(U:lg)(c0:arC b):M (eW a b) Yt:=nF (aBQ (C4 (a6 a b au b5 M b7 x y v u Q Y R Z q (c0 _ _))))
inductive Sn(K:PySem.W.Frag)(x:V)(y:V)(H:Hp)(Q:VK):Prop|mk:p1 ZK (Sn K x y H Q)
inductive So(K:PySem.W.Frag)(x:V)(y:V)(H:Hp)(Q:VK):Prop|mk:p1 (nb O) (So K x y H Q)
theorem arE:KU X (Sn X.K):=by intro B a au s M H x y v u Q I R Z h c0;rw[beC,hO,ep Z,a9 J d5 OE,bh1,bdR,f0 vT,gw Sg];have fin:fY w s:=a z H I W q;by_cases b1:0<=i;rw[cG b8 Vt f (item_listR zl b1 baP ag fin c0)];{rw[gQ b8 (gw i (v v_)) e5];exact a15 (x:=w) a17 a16 (wpAny_getItem_list_neg (Q:=baN) zl alB ah baQ cq (bd fin)) c0}
theorem arF:KU X (So X.K):=by intro B a au s M H x y v u Q I R Z h c0;rw[beC,hO,ep Z,a9 J d5 IZ,bh1,bdR,gw Sg];exact a15 (x:=w) d5.typeIs slot_tuple_getitem.lookup (getItem_tuple (j:=j) (Q:=baN) d5 baQ baP (by rw[Hn,<-vT];exact a3) ag (c rfl z H I W q)) c0
theorem aPk(ar:aM)(n j:Nat)(u:Value):Ho (·.setIfInBounds j u) JX=rI (jq (hu (ar.set j u))):=ar Ho
theorem Inv.lst{pins:bw}{M:St}{H:Hp}{s:Shared}{p:Addr}{O:af}(I:aY)(h:am p O):BI (EA/\c7 p JX/\Jg):=b z ar n J e (eo p _ h) (a ar n J e z)
theorem Inv.aPl{pins:bw}{M:St}{H:Hp}{s:Shared}{p:Addr}{O d7:af}{ar its':aM}{n C:Nat}{f:Obj->Obj}(I:aY)(h:am p O)(d0:c7 p JX)(W:f JX=bbx)(J:iM d7 ME)(c9:a1 oQ)(t:Nat):aR (ap p d7) (dn (Vu p f) t):=by have e:di (Vu p f) p=aa bbx:=by{rw[CT f d0 (by rw[W]<;>rfl),W]};refine Vo (x:=p) (e:=p) (w7 h) gj (fun b u U q=>qD q) (aW e) (a c9 ME C J e)
inductive arG(o:V)(i:V)(v:V)(H:Hp)(Q:jb):Prop|mk:∀p O k j,b o fO (i= .int k) (am p O) (qv bx k=aa j) (Q (ap p (O.set j v))->arG o i v H Q)
theorem set_list:adb X arG:=by intro au s M H o i v ov c u Q I b a rv h;rw[c p O k j rfl c2 b8 q h];cases b;rw[ep a,ad ar J d0 c9 (I.lst c2),u6 (arA b8),f0 vT,gw Sg];have K:=I.aPl c2 d0 (aPk ar n j u) (J.set rv j) hS dE;by_cases b1:0<=k;rw[cG c3 aBS e5 (PySem.W.ki_setAt d0 b1 bM ah bz)];{rw[gQ c3 (gw k (v v_)) e2];exact PySem.W.ki_setBack d0 alB ah bM bz}
theorem sl1{i:Int}{n:Nat}(h:i<0):max 0 (j6 (i+n))=ae (gw i n):=cy Int.toNat_eq_max (Int.min_eq_left (rW h)) Int.max_comm
theorem sl0{i:Int}{n:Nat}(h:¬i<0):max 0 (j6 i)=ae (j6 Vt):=by rw[dm k (Int.eq_ofNat_of_zero_le (agQ h))];rw[iQ];lia
theorem aPo(lo hi:ek)(n:Nat):(aMd).1=ae (CU n 0 lo)/\aV aMd=ae (CU n n hi)/\(aMd).2.2=1:=by rw[cp ?_ rfl];{cases lo with|none=>{rfl}|some i=>rw[biC]};{cases hi with|none=>{rfl}|some i=>rw[biC]}
theorem aPp(ar:aM)(lo hi:ek):slicePick eT lo hi ae=hu (an (ar.drop (CU Hq 0 lo)) (CU Hq Hq hi-CU Hq 0 lo)):=by rw[df a3 e2 (aPo lo hi v_)];delta slicePick;rw[a3,a9,e2];simp only[sliceRange_one,pick_run,Hn]<;>rfl
inductive Sq(K:PySem.W.Frag)(x:V)(lo:ek)(hi:ek)(H:Hp)(Q:VK):Prop|mk:f a O (x=bc) jg (ad p (Y p) (x3 aaT)) (Sq K x lo hi H Q)
theorem aPq:KS X (Sq X.K):=by intro au s M H x v i5 c lo hi sl Q I R c0 d5 a9 h;rw[w O rfl S q h,hO,a9 J c6 (sS S)];have E:=vT;rw[j "list" _ a16 c6.isList.typeIs (wpAny_getItem_list_slice c6.isList c0 d5 a9 .none ay ?_ ah)];rw[aPp,<-E];rw[pp (.lst aaT) (a bgw _ 0 a9O gI)]
noncomputable def F5:V->cb| .bC=>ab| .bl _=>ab| .int _=>ab| .str _=>ab|_=>ai
noncomputable def yD:dI V V| .bC,.bC=>ab| .bl a,.bl b=>a==b| .bl a,.int b=>bo a 1 0==b| .int a,.bl b=>a==bo b 1 0| .int a,.int b=>a==b| .str a,.str b=>a==b|_,_=>ai
theorem aPr{A:Around}{s:Shared}{y x:V}{u v:Value}(Z:kY)(R:tW)(r2:F5 y=ab)(n:F5 x=ab):aBN A s u v (yD y x):=by cases y with|bC=>{rw[cw (SeqAt.EqAt.same _) (SeqAt.EqAt.none_bool b) (SeqAt.EqAt.none_int b t) (SeqAt.EqAt.none_str b t)]}|bl a=>{rw[cw (SeqAt.EqAt.bool_none a) (SeqAt.EqAt.bool_bool a b) (SeqAt.EqAt.bool_int a b t) (SeqAt.EqAt.bool_str a b t)]}|int a=>{rw[cv (SeqAt.EqAt.int_none a t') (SeqAt.EqAt.int_bool a t' b) (a1Q a t' b t) (a03 a t' b t)]}|str a=>{rw[cv (SeqAt.EqAt.str_none a t') (SeqAt.EqAt.str_bool a t' b) (a02 a t' b t) (SeqAt.EqAt.str_str a t' b t)]}|_=>rw[t7 r2]
noncomputable def qw(x:V)(u:Value):cb:=match u with| .none=>yD .bC x| .bool b=>yD EU x| .int i _=>yD hP x| .str z _=>yD (.str z) x|_=>ai
theorem arH{x y:V}{u:Value}(J:kY)(f:F5 y=ab):qw x u=yD y x:=by cases y with|bC=>{rw[Fm]}|bl b=>{rw[Fm]}|int i=>{rw[Qn]}|str z=>{rw[Qn]}|_=>rw[t7 f]
theorem arI{x:V}{O:af}{b1:aM}(h:nL)(f:aHg):b1.any (qw x)=a9_:=by induction h with|nil=>{rfl}|cons J t i=>rw[MW,hZ]at f;rw[MV,MV,arH J f.1,i f.2]
theorem aPs{A:Around}{s:Shared}{x:V}{v:Value}(R:tW)(n:F5 x=ab){O:af}{b1:aM}(h:nL)(f:aHg)(u:Value)(hu:u∈b1):aBN A s u v (qw x u):=by induction h with|nil=>{exact iT (oR hu)}|cons J t i=>rw[MW,hZ]at f;rw[dd (h_ hu) hu,Z (arH J f.1) (aPr J R f.1 n),l (i f.2 hu)]
noncomputable def BD(x:V)(O:af):cb:=a9_
inductive KW(K:PySem.W.Frag)(neg:Bool)(x:V)(y:V)(H:Hp)(Q:VK):Prop|mk:∀p O,b y fO (ZK\/nb O) (F5 x=ab) aHg (dB (if neg then ! BD x O else BD x O)->KW K neg x y H Q)
theorem aPt:be .In (KW X.K ai):=q_ (SeqAt.in_listAt (qw x) zl ap8 ZX) (a18 (qw x) d5 ap8 ZX)
theorem aPu:be .NotIn (KW X.K ab):=q_ (SeqAt.notIn_listAt (qw x) zl ap8 ZX) (SeqAt.notIn_tupleAt (qw x) d5 ap8 ZX)
inductive KX(K:PySem.W.Frag)(O:af)(H:Hp)(Q:VK):Prop|mk:f p d7 (O=[fO]) bbr (mV oQ) (KX K O H Q)
theorem arJ:fW "len" (KX X.K):=by rw[Zw,Q p d7 e0 q h,aLJ,hO,gw Sg,aGI];{rw[aIi,Zy];exact Calls.call_len_list zl cq a'G};{rw[aIj,Zy];exact len_tuple d5 cq a'G}
theorem aPv:IJ (baf\/a'9):=by rw[Zw,Q p d7 e0 q h,aLJ,hO];have fin:∀(ar:aM),iM d7 ar->a1 oQ->∀(h':Heap)(C:Nat),(j b g (c7 b g) (gQ b=aa g))->gQ aO=aa (hi eT C)->fY gk tF:=fun ar B c9 h' C kp e=>m gk _ (CV (t':=dE) kp a_ (show cE _ _ (.lst d7)from a c9 ar C B e)) (q _ pR);rw[aGI];{rw[aIi,Zy];obtain⟨o,d0,b0,n,hd⟩:=zl;exact db gj kp e ah};{rw[aIj,Zy];obtain⟨o,d0,b0,n,hd⟩:=d5;exact db ES kp e ah}
theorem aPw:qs baf a'9:=by rw[Zw,a0 p d7 rfl h,aLJ,hO];rcases h with⟨e0,q⟩|⟨e0,q⟩;{rw[aIi,Zy];refine call_tuple_list zl (fun h' kp=>?_) ah;have r:=MH (t':=dE) kp;exact m (.ref Vv) _ (r.laid (t':=dE) Pk a_ (show om eA X.w _ _ _ alv from d c9 ar B a99)) (q _ (ahk a_))};{rw[aIj];exact call_tuple_same d5 (m fO H I q)}
def tyV(K:PySem.W.Frag)(T:String)(x:V)(H:Hp):Prop:=match x with| .str _=>T="str"| .int _=>T="int"| .ref p=>(T="list"/\∃O,ZK)\/(T="tuple"/\∃o,be (vJ p)/\vY=rp/\o.dict=ae)\/(T="dict"/\((∃F,bh p pX)\/∃F,bh p tY))\/(T="set"/\∃r n,bh p (.set r n))|_=>cE
theorem arK{pins:bw}{M:St}{H:Hp}{s:Shared}{T:String}{x:V}{v:Value}(I:aY)(J:tW)(A:tyV X.K T x H):lB v T/\E a (v=bc) (z N (c7 a N) (N.dict=ae)):=by cases x with|str z=>{rw[o3 "str" (typeIs_str s z t)]}|int i=>{rw[o3 "int" (typeIs_int s i t)]}|ref p=>{rw[hM];rcases A with⟨rfl,O,e0⟩|⟨rfl,o,c3,b0,hd⟩|⟨rfl,c3⟩|⟨rfl,r,n,c3⟩;{obtain⟨ar,_,d5,_⟩:=OE;rw[v a17 (fun a e=>?_),dS];obtain⟨o,n,e,c,hd,_⟩:=d5;exact v o e hd};{rw[v (v o (vU p o c3) b0) (fun a e=>?_),dS];exact v o (vU _ o c3) hd};{have z:z o (gE p) a19:=by{rcases c3 with⟨F,c3⟩|⟨F,c3⟩;rw[bgN,bgN]};rw[bJ e ex z,bau];cases b9;exact a8m};{obtain⟨o,_,_,_,e,ex,_⟩:=eo p _ c3;rw[bau];cases b9;exact a8m}}|_=>exact MO A
def aPx(K:PySem.W.Frag)(T:String)(J:QE)(C:TE):TE:=hf (C M H (jA (tyV K T x a8/\J x [] a8 Q)))
inductive jBM(K:PySem.W.Frag)(T:String)(J:QE)(t:TA)(M:St)(Q:VK)(x:V)(a8:Hp):Prop|mk:tyV K T x a8->t M a8 (fun O b7=>J x O b7 Q)->jBM K T J t M Q x a8
def tBM(K:PySem.W.Frag)(T:String)(J:QE)(C:TE)(t:TA):TE:=hf (C M H (jBM K T J t M Q))
variable{o e:Expr}{a7:fC}{C:TE}{t:TA}{c:Str}{i a:Pos}{T id:String}{J:QE}
theorem aPy{d:PySem.W.Frag}(u:a73)(slot:Slot T c id)(b:a'e)(c4:MtR X id J)(d0:am9)(f:bgd)(j:bcT)(g:Bb):M (dN c [] a) (aPx d T J C):=by rw[rD,fx];refine wpAny_Call_method0_late f j (kt YE);rw[bh_,ky (arK r r1 A)];exact a T id u jt b a3 a9 (a1_ rfl (PySem.evalArgs_none (c4 au a4 M a8 x [] v [] Q r r1 .nil d2)))
theorem adw{d:PySem.W.Frag}(u:a73)(slot:Slot T c id)(b:a'e)(c4:MtR X id J)(d0:am9)(b3:Fv)(f:bgd)(k:ce (c_ (ez (aBh a (MA rj cF)) (ab (! x.1))&&ez (bj9 a (bj_ [] cF)) (ab x.1.isSome)) (bT (t rj+([]:bL aBI).length+bo ([]:bL aBI).isEmpty 0 1) 30)))(j:bcT)(c0:Bp)(l:ga a a7)(g:Bb):M (dN c rj a) (tBM d T J C t):=by rw[rD,fx];refine wpAny_Call_method_late f k j rfl (kt YE);rw[bh_,ky (arK r r1 A),e T id u jt b a3 a9 ?_];have hA:=b3 a au a4 M a8 _ r d2;rw[c0]at hA⊢;refine a1_ bB (Calls.evalArgs_plain (ge hA vs (c4 au b5 M b7 x vs v b1 Q Y r1 r2 q2)))
universe z
universe L2
namespace L2
open PySem PySem.Spec PyProof.Rows
def Sr(X:Cx)(id:String)(J:QE):Prop:=∀(pins:bw)(s:Shared)(M:St)(H:Hp)(x:V)(O:af)(v:Value)(b1:aM)(Q:VK),beB
theorem Vals.one{x:V}{b1:aM}(h:ey [x]):a9C:=by cases h with|cons J h=>rw[sG (dl J)]
theorem Vals.two{x y:V}{b1:aM}(h:ey Jl):∃u v,b1=[u,v]/\pL/\Yo:=by cases h with|cons J h=>cases h with|cons q h=>rw[sG (f _ _ J q)]
theorem Vals.zero:∀{b1:aM},ey []->b1=[]|_,.nil=>rfl
theorem Vals.dropLast{O:af}{b1:aM}(h:nL):iM O.dropLast b1.dropLast:=by induction h with|nil=>{rw[kL]}|cons J t d6=>cases t with|nil=>{rw[kL]}|cons q t'=>rw[cA J d6]
theorem bjj{I:Type}(l:ba):l.eraseIdx (d_-1)=l.dropLast:=aQ
section z
variable{X:Cx}{pins:bw}{M:St}{H:Hp}{s:Shared}{l b:Addr}{O d7 zs:af}
theorem Inv.aPz{ar its':aM}{n:Nat}{f:dU->dU}{t':Nat}(I:aY)(a:am l O)(e:c7 l JX)(W:f eT=a1')(d3:iM d7 ME)(c9:a1 oQ):aR (ap l d7) (dn (Vu l (Ho f)) t'):=by rw[ci (PySem.IsL.update e f),cR W];refine Vo (x:=l) (e:=l) (t a fY) gj (fun b2 u U hu=>B (aBT bh (Ho f) (hs U)) hu) (aW q) (a c9 ME _ d3 q)
theorem Inv.aPA{ar:aM}{t':Nat}(I:aY)(d3:iM d7 ar)(c9:a1 oQ):aR (ap aO d7) (dn (mH (jo eT)) t'):=CV (ip (bT q)) a_ (a c9 ar 0 d3 gI)
theorem Inv.fresh(I:aY):Y aO:=pR
theorem Inv.bjk(I:aY)(a:am l O):Jg/\BI (EA/\bx=Hq/\c7 l JX):=b z ar n J e (eo l _ a) (c z ar n J vT e)
theorem aPB{n:Nat}(h:a1 n):a2a n=ai:=cG a2a (ea ag)
universe z
section z
variable{X:Cx}
inductive arM(x:V)(vs:af)(H:Hp)(Q:VK):Prop|mk:∀l O y,eU [y] (bx<hv) (x9 (eA O)->arM x vs H Q)
theorem aPC:Sr X "list.append" arM:=by rw[apG,KG c9,hO,bl rfl m rv.one,aa1];refine ahl F.slot_list_append (bm e) F.entry_list_append (F.args_list_append_2 _ _) (PySem.list_append l eT n u ah) (a e .bC _ (eQ (ar++[u]) aQ (Vp (hp m))) (bd q));rw[cj,aBU];trivial
inductive adx(x:V)(vs:af)(H:Hp)(Q:VK):Prop|mk:∀l b O zs,eU [cW] (am b zs) (bbl->x9 (O++zs)->adx x vs H Q)
theorem aPD:Sr X "list.extend" adx:=by rw[apG,cp b O zs hB,hO,bl rfl m rv.one];cases m;rw[aa1,bid,ca G (a1 (v_+a2b))];refine ahl F.slot_list_extend (bm e) F.entry_list_extend (F.args_list_extend_2 _ _) (AutoSeq1.list_extend_list_list_0 l eT n b Vw n2 (ac (aPB G) ag8 Hr) ah (by(constructor<;>trivial))) (a e b9 .bC _ (aP (eQ (ar++t) aQ (Vp r2)) q));rw[cj];omega
inductive arN(x:V)(vs:af)(H:Hp)(Q:VK):Prop|mk:∀l O y,eU [] (K O (bx-1) y) (Q y (ap l O.dropLast)->arN x vs H Q)
theorem aPE:Sr X "list.pop" arN:=by rw[apG,KG b6,hO,cb rv.zero];subst b;rw[aa1,bl hu m (ahe b6)];refine ahl F.slot_list_pop (bm e) F.entry_list_pop (F.args_list_pop_1 _) (MeetsSeq.list_pop_last l eT n u ah ah) (c e y _ (eQ ar.dropLast ?_ J.dropLast) m q);{simp};{simp at*;exact ahm z}
inductive arO(x:V)(y:V)(H:Hp)(Q:VK):Prop|mk:∀l b O zs,b x cC (y=cW) (am l O) (am b zs) (bbl->ad p (Y p) (x3 (O++zs))->arO x y H Q)
theorem aPF:f4 .Add arO:=by rw[xu,cp b O zs hB,hO];cases Z;rw[aa1,bid];refine PySem.P.add_list e b9 ?_ ah;rw[aS d0 (eT++Vw) (ar++t).toArray,J d0 (m (.ref _) _ (I.aPA (t':=dE) (Vp r2) hS) (q _ I.fresh))]
universe z
section z
variable{X:Cx}
universe z
universe L2
namespace L2
open PySem PySem.Spec PyProof.Rows
theorem Vals.ints:∀{ns:aT}{b1:aM},ey xK->sV b1 ns|[],b1,h=>by{rw[aj zq,cH];exact IntsAre.nil}|n::ns,b1,h=>by rw[aj da];cases h with|cons J t=>rw[dm k J];exact IntsAre.cons n k (Vals.ints t)
theorem Vals.bls:∀{bs:EN}{b1:aM},ey (Vx CN)->b1=Vx vK|[],b1,h=>by{rw[aj zq,cH];rfl}|b::bs,b1,h=>by rw[aj da];cases h with|cons J t=>rw[hM];rw[Vals.bls t,da]
theorem Vals.bjl{a:Addr}{b1:aM}(J:ey [gR a]):b1=[dm a]:=by cases J with|cons J t=>cases t;rw[hM];rfl
section z
variable{prog:Program}{w:World}{A:Around}{E:aU}{s:Shared}{l:Addr}{ar:aM}{ns:aT}{Q:aU}
universe z
section z
variable{X:Cx}
universe z
section z
variable{X:Cx}
universe z
section z
variable{X:Cx}
universe z
theorem aPG{prog:Program}{w:World}{A:Around}{E:aU}{s:Shared}{l:Addr}{f:dU}{Q:aU}(a5:CW l f)(h:∀g:vH,i (g=fL aKt) (g.heap.IsListIter aO l 0/\g.heap.IsList l f) (l≠aO) (Q gk g)):bl (MJ cC):=x (aBn a5 (h _ rfl ⟨Pq,a5.push _⟩ (gC (gc e a5 hc))))
theorem aPH{prog:Program}{w:World}{A:Around}{bs:EN}{ar:aM}(e:ar=Vx vK):TruthOf cN w A (fun i v=>A eT v) (dJ aoy):=fun i v s Q E d3 e0=>by rw[dC g (A ar v)];rw[e,cz]at g;rw[a2 b U g,ae d8 aoy b];have a:Q aoy s:=e0;rw[d8]at a;exact vS a
theorem all_range:∀bs:EN,(eJ bs.length).all (dJ aoy)=bs.all id|[]=>rfl|b::bs=>by rw[ia,ahn,MW,List.all_map,MW,<-all_range bs];all_goals rfl
section z
variable{X:Cx}
inductive ady(K:PySem.W.Frag)(vs:af)(H:Hp)(Q:VK):Prop|mk:∀(a:Addr)(bs:EN),A [gR a] (mx (Vx CN)) (dB (bs.all id)) (ady K vs H Q)
theorem aPI(b0:fQ):fW "all" (ady X.K):=by rw[Zx,w bs rfl c0 q h,aKV];rw[Vy J];have U:=rv.bls;refine call_all_walk (aPG aho (fun g b9 st R=>?_));subst b9;rw[d _ _ _ _ _ _ _ (d (aBV (A:=X.A.in1) iv _ a R eT) st (aPH U) (fun h' D c3=>a (.bl _) H (MH (fun b o y=>c3 b o (fun c=>?_) (bT y))) ?_ q))];{rcases h_ c with b4|c;rw[l (ix (b4▸ft y)),az]};{show vK _=vK _;rw[<-all_range,U,Hn,bA]}
universe z
mutual inductive Dp(K:PySem.W.Frag)(H:Hp):au V CX|bC:cs .bC .none|bl(b:Bool):cs EU I7|int(i:Int):cs hP hP|str(x:Str):cs Jr Jr|lst{a:Addr}{O:af}{c7:bL CX}:oL jg aGU|tup{a:Addr}{O:af}{c7:bL CX}:oL uI aG7 inductive F6(K:PySem.W.Frag)(H:Hp):au af (bL CX)|nil:F6 K H [] []|cons{v:V}{vs:af}{d:PyData}{c7:bL CX}:cs v d->F6 K H vs c7->F6 K H (v::vs) (d::c7)end
section z
variable{X:Cx}{pins:bw}{M:St}{H:Hp}{s:Shared}
mutual theorem Dp.reads(I:aY):∀(d:PyData)(v:V)(u:Value),Dp X.K H v d->jh->∃Y,Reads bh u d Y| .none,_,_,h,J=>yE Reads.none| .bool b,_,_,h,J=>yE (Reads.bool b)| .int i,_,_,h,J=>Dk (Reads.int i t)| .str x,_,_,h,J=>Dk (Reads.str x t)| .list c7,_,_,h,J=>by{cases h with|lst c0 b3=>rw[hM];obtain⟨ar,rv,⟨o,n,d0,b0,_,hd⟩,_⟩:=sS c0;rw[fu a6 (aBW I c7 _ ar b3 rv)];exact aW (Reads.list d0 b0 hd a6)}| .tuple c7,_,_,h,J=>by{cases h with|tup c0 b3=>rw[hM];obtain⟨ar,rv,⟨o,d0,b0,n,hd⟩,_⟩:=CJ c0;rw[fu a6 (aBW I c7 _ ar b3 rv)];exact aW (Reads.tuple d0 b0 hd a6)}| .dict _,_,_,h,_=>PJ theorem Dp.readsAll(I:aY):∀(c7:bL CX)(vs:af)(b1:aM),F6 X.K H vs c7->Fh->∃Y,ReadsAll bh b1 c7 Y|[],_,_,h,J=>yE ReadsAll.nil|d::c7,_,_,h,J=>by{cases h with|cons a3 a9=>cases J with|cons r1 r2=>rw[fu d2 (MX I d _ _ a3 r1)];obtain⟨bs,q2⟩:=aBW I c7 _ _ a9 r2;exact aW (ReadsAll.cons d2 q2)}end
universe z
section z
variable{X:Cx}
inductive adz(K:PySem.W.Frag)(x:V)(y:V)(H:Hp)(Q:VK):Prop|mk:qN (dB (jv d e)) (adz K x y H Q)
inductive adA(K:PySem.W.Frag)(x:V)(y:V)(H:Hp)(Q:VK):Prop|mk:qN (dB (! jv d e)) (adA K x y H Q)
theorem aPJ(hu:uL):be .Eq (adz X.K):=K1 (SeqAt.compareEq_shaped r1 r2 sd p hu (eU _ q))
theorem aPK(hu:uL):be .NotEq (adA X.K):=K1 (SeqAt.compareNe_shaped r1 r2 sd p hu (eU _ q))
universe z
universe L2
namespace L2
open PySem PySem.Spec PyProof.Rows
abbrev arQ(h:Heap)(c:Addr)(v:pw):Prop:=h.IsCell c v
noncomputable def aPL(d a:Scope):Scope:={d with names:=d.names.map (oO (jy k .free) .cell)}
noncomputable def se(a:ja):yb->ja->ja|[],B=>B|(n,k)::J,B=>if k== .free then se a J ((n,aIh)::B)else se a J B
theorem arR(env:Env)(f:Str×aBX->ja->Sem (ForInStep ja))(W:∀n k c,f (n,k) c=if k== .free then(do{let a<-cellOf env n;pure (.yield ((n,a)::c))})else eU (.yield c)):∀(d:yb)(B:ja),V y d (y.2= .free->a8D)->MY d B f=eU (se env.cells d B)|[],B,_=>bI|(n,k)::J,B,h=>by rw[qN,W];rw[ds (fun B=>arR env f W J B (oU (h y (ck b6))))];unfold se;rw[bC c3 (k==Vz)];{rw[aK c3,aK c3];rw[da b0 (h (n,k) fu ah)];have e:cellOf env n=eU c:=by{unfold cellOf;rw[b0]};rw[e];rw[ae b9 (eR (aA' n) 0) c];rw[b9];exact d6 _};rw[aZ]
theorem aPM{d:Scope}{env:Env}(h:yz a8D):closureFor d env=eU (se env.cells mI []):=by simp only[closureFor];rw[arR env _ bef mI [] h];rfl
theorem mem_lookup{I:Type}:∀{l:ms I}{n:Str}{c:I},(n,c)∈l->ax C (l.lookup n) C|(k,v)::J,n,c,h=>by rw[agM];cases U:n==k with|true=>{exact ei}|false=>rw[aKa,az,l (aBY h)]
set_option tactic.hygienic true in theorem Ss{a:ja}:∀{d:yb}{B:ja}{n:Str}{c:Addr},(n,c)∈aI'->(n,c)∈B\/(baB/\c=aIh)|[],_,_,_,h=>AB|(m,k)::J,B,n,c,h=>by unfold se at h;rw[eH];{rw[YI,dp (Ss h) h a9,cL,aZ]};{rw[dp (Ss h) h a9,l AS,aZ]}
theorem adB{a:ja}:∀{d:yb}{B:ja}{p:Str×ef},p∈B->p∈aI'|[],_,_,h=>h|(m,k)::J,B,p,h=>by unfold se;split;rw[l (adB (ck h)),l (adB h)]
theorem adC{a:ja}:∀{d:yb}{B:ja}{n:Str},baB->(n,aIh)∈aI'|(m,k)::J,B,n,h=>by unfold se;rw[aKa];{cases(e);exact adB fu};{split;rw[l (adC h),l (adC h)]}
set_option tactic.hygienic true in theorem Su:∀{d:yb}{h:Heap}{B:ja}{x:Str}{c:Addr},a9J->(x,c)∈B\/(baC/\mC<=c/\arQ (aB0 h d) c ae)|[],_,_,_,_,h=>AB|(n,k)::J,h,B,x,c,c4=>by unfold cellsFrom at c4;unfold pushCells;split at c4;{rw[YI];rw[aK c3];rw[<-lz h a_J]at c4;rw[bhA];{rw[i6 (h_ c4) c4];{cases(e);exact .inr (a ((ax c3)▸fu) a_ _ (a2c J _ _ _ gI) rfl)};rw[Fl]};{rw[lz]at a9;exact .inr (v (ck a3) (aBZ a9) e2)}};{rw[YI,aO c3,bhA,Fl,aZ]}
theorem Sv:∀{d:yb}{n:Nat}{B:ja}{p:Str×ef},p∈B->p∈zo n d B|[],_,_,_,h=>h|(m,k)::J,n,B,p,h=>by unfold cellsFrom;split;rw[l (Sv (ck h)),l (Sv h)]
theorem adD:∀{d:yb}{n:Nat}{B:ja}{x:Str},baC->∃c,(x,c)∈zo n d B|(m,k)::J,n,B,x,h=>by unfold cellsFrom;rw[aKa];{cases(e);exact⟨n,Sv fu⟩};{split;rw[l (adD h),l (adD h)]}
set_option tactic.hygienic true in theorem adE:∀{d:yb}{h:Heap}{B:ja}{x y:Str}{c:Addr},c (V p B (p.2<mC)) (∀x y c,(x,c)∈B->(y,c)∈B->x=y) a9J ((y,c)∈zo mC d B) (x=y)|[],_,_,_,_,_,_,hi,a3,a9=>hi _ _ _ a3 a9|(n,k)::J,h,B,x,y,c,a5,hi,a3,a9=>by unfold cellsFrom at a3 a9;split at a3;{rw[YI];rw[aK c3]at a9;rw[<-lz h a_J]at a3 a9;refine adE (h:=h.push _) uc (fun x y c a b=>?_) a3 a9;{rw[lz];rw[dd (h_ c2) c2];{simp};rw[cL]};rw[cL]};{rw[YI];rw[bj c3]at a9;exact adE a5 hi a3 a9}
theorem aPN{d5:Model}{A:Around}{E:aU}{s:Shared}{d:Scope}{globals:Addr}{a:ja}{j:Str}{b:nf}{code:Value}{e:Env}{f:Addr}{Q:dE Env}(h:Q (newEnv d aO globals (zo iu mI a) j b code rB f) (fL anO)):pb (a2f d globals a [] j b code rB f):=by rw[i7 a2f a2e,C (a2d (bF (wpAny_layCells _ bef mI a _ _ ?_)))];rw[a0 (fL X7:vH).heap.objs.size iu (lz ..)];rw[MZ];exact bF (cg xw)
theorem adF{a:Scope}:∀{d:yb}{x:Str}{k:NameKind},fh (aB1 (oO (jy k Vz) a2g)) x=aa k->z G (d.lookup x=aa G) (k=G\/(G= .free/\k= .cell))|[],_,_,h=>bB|(n,b)::J,x,k,h=>by rw[ds (@adF a J x k),ad h' (Mh x ((Z (jy b Vz) (n,a2g) (n,b))::(J.map _))) k h];cases S:x==n with|true=>{simp only[agM,S];rw[bC b0 (jy b Vz),az,az]}|false=>simp only[agM,S];rw[bC b0 (jy b Vz),cL,cL]
structure arS(N:cX)(a d:Scope)(own:JH):Prop where
 kind:sz d.kind
 uniq:dt mI a_w
 ix:cz own (K N p.2 p.1)
 free:yz (jU (vN y.1)\/iC (vN y.1))
 own:dt mI (y.2= .local\/y.2= .cell->y.1∈aB2 fM\/y.1∉N)
noncomputable def wipe(M:St):ao->St|[]=>M|v::vs=>bp tA v ae
theorem adG(M:St):∀vs:ao,t tA=Va|[]=>rfl|v::vs=>by unfold wipe;rw[M0,adG M vs]
theorem adH{M:St}{i:Nat}{x:V}:∀{vs:ao},A (tA) (aa x)->A M (aa x)/\i∉vs|[],h=>⟨h,jI⟩|v::vs,h=>by unfold wipe at h;rw[N hi v i,dV];{rw[aj (Vd hi),ky (adH h)];exact⟨a3,fR⟩}
noncomputable abbrev Cx.blk(X:Cx)(s:Shared)(H:Hp)(d:Scope)(g:Env)(a8:bg):Cx:={X with FV:=s,Kw:=H,env:=g,outer:=oM,ex:=a8,fn:=ab (MR x==aa .cell),pn:=[],xe:=JC}
section z
variable{X:Cx}{pins:bw}{M:St}{H:Hp}{s:Shared}
theorem aPO{d:Scope}{own:JH}{a8:bg}(I:aY)(ok:apr)(hN:X.N.Nodup)(h:hR (iO H/\b<aO)):Inv (j0 aH1 aO) [] (ahq M alk) H (fL anO):=by revert I ok hN h;revert X pins M H s d own a8;refine Ko;generalize aG=X,aA=pins,aF=M,aE=H,aD=s,aB=d,aH=own,aI=a8;intro I ok hN h;have L:yz (ax c (U_ y.1) c):=bhq;generalize n:aB8 d aH1 aO cF=g;have kp:xL anO:=da (y5 xm);rw[dR f g.locals aO,dR l g.cells aH1];have r:g.scope=aPL d ahp:=by{rw[<-n];rfl};rw[<-lz bh aGc]at l;have k5:∀{y c},(y,c)∈akY->am1/\c<aO:=fun{y c}c4=>by{rw[dp (Ss c4) c4 rfl,az];{rw[da b0 (L _ a3 rfl)];rw[b0];rw[j7 z (CI _ _ b0)];exact bd z.lt}};have mem:∀{y c},V (aB5 y=aa c) am1 (c<aO) (iu<=c) (arQ anO c ae):=fun{y c}e=>by{rw[a6 l];rcases Su (oO e)with c4|⟨_,a9,e2⟩;rw[dQ (k5 c4)];{rw[lz]at a9;exact eX a9 e2}};have u:∀{y},iC (MR y)->z c (aB5 y=aa c) am1:=fun{y}a5=>by{obtain⟨C,d3⟩:=aBY (Sv (d:=mI) (n:=fH X7) (adC (a:=a2j) (B:=[]) (oO a5)));rw[<-l]at d3;rw[ak C d3];rw[l]at d3;rcases Su (oO d3)with c4|⟨a3,_,_⟩;rw[l (k5 c4).1];{have:=aB4 _ a3;rw[am a5,nj]}};rw[b (by rw[b aBf (t r aB7) (bl n a2i) (bl n I.ok.blt) (t f a_) (fun y z c b4 b9=>?_) Q5 (fun y c z e=>?_) (a a2h a1G gj (db (lG (fun y c e z=>?_))) I.bs (cn agX I.sz) (fun b o e U=>?_) (fun b U z=>?_) I.stack I.aqK)];{have b4:=b4;rw[gr b9];rw[l]at b4 b9;refine adE uc (fun y z c a b=>I.ok.inj y z c (k5 a).1 (k5 b).1) (oO b4) (oO b9);rw[J lz (wd (k5 (y:=p.1) (c:=p.2) c2).2)]};{have O:o k (aB6 y=aa k) (k= .cell\/k= .free) (ax c (aB5 y) c):=fun k c3 Y=>by{delta Env.kindOf at c3;rw[r]at c3;rw[cF G e (adF c3)];have:G= .cell\/G= .free:=bz;rw[dd this rfl];{rw[da c4 (adD (n:=fH X7) (B:=akY) (oO e))];obtain⟨C,d3⟩:=aBY c4;exact⟨C,t l d3⟩};{obtain⟨c,a3,_⟩:=u e;exact⟨c,a3⟩}};rw[bcg,l (O _ b6 gj),l (O _ b6 ES)]};{have z:=z;rw[c_ z (jU (MR y)) z,de e,a6 l];rcases Su (oO e)with c4|⟨_,a9,_⟩;{rcases Ss c4 with c4|⟨a3,_⟩;rw[az];{rw[ci (aB4 _ a3),cR z,kG]}};{rw[lz]at a9;exact aBZ a9}};rw[Z f (gC (QT).2)];{rw[bcu,l ((a2 (QT).1).1 y c a3 z),dV]};{rw[cZ (aS (QT).1.2),l (aBe b o e z),cF (fH hc (cn agX z)) (jr _)]};{rw[cZ (zb z),l ((QT).1.2.1 z),l ((QT).1.2.2.1 z)]}) rfl zh (agT kp) (v uw ?_ (fun i y t b4 b9 e7=>?_)) aIg ?_ aIg (ap uc (I.dt.kept kp) adG Hg),Z f (Heap.Ns.keeps (Heap.Ns.new ..) (da (y5 e)))];{obtain⟨b9,R⟩:=adH b9;have j:bb6:=by{have O:o k (g.scope.names.lookup y=aa k) (k= .local\/k= .cell\/k= .free) bb6:=fun k c3 Y=>by{have l7:=c3;rw[r]at c3;rw[cF G e (adF c3)];have f6:¬(G= .local\/G= .cell):=fun c7=>by{rcases ok.own _ (oO e) c7 with d3|d3;{rw[h_ v (zt d3)];have e7:=ok.ix p c2;have:p.1=y:=v;rw[oQ e7];exact R (aB3 (v p c2 (ac7 hN e7 b4)))};rw[l (d3 (bO b4))]};rcases J with rfl|⟨rfl,rfl⟩;{rcases Y with rfl|rfl|rfl;rw[cF gj f6,cF ES f6,l ⟨e,.inr l7⟩]};rw[l ⟨e,.inl l7⟩]};have e7:=e7;rcases e7 with e7|e7|e7;rw[yM gj,yM (.inr gj),yM (.inr ES)]};rw[aoj,aJ w J (a5 i y t b4 b9 (cd bcs (cj (.inr O9)) (cj (o7 k)))),aa w J (.inr (as j.2))];obtain⟨c,a3,a9⟩:=u j.1;rcases q with⟨k,_⟩|⟨_,C,d3,z⟩;{rw[ad k (MI y) .local k];rcases bcs with G|G<;>rw[bs (a0 (MI y) _ G)]<;>cases k};{rw[a9]at d3;cases d3;exact v c a3 (z.keeps kp)}};{rcases mem e with⟨a3,_⟩|⟨_,z⟩;rw[S w z (CI y c a3) w (z.keeps kp),l (aW z)]};rw[Z f pR];{rw[bcu,l (Mz y c a3),l (zj (aBZ a3))]};rw[az]
theorem aPP{E:aU}{D:Addr}{O:af}{y:V}{v:Value}{Q:aU}(I:aY)(a7:am D O)(c9:bx<hv)(J:Yo)(h:i2 (aR (ap D (eA O)) c1) .none):nn (Do [EC,v]):=by obtain⟨a0,ar,n,a,e⟩:=eo D _ a7;rw[f0 mL];refine append_at (hsz:=ah) e (fun h' sb l=>h tF (Vo (t':=dE) (w7 a7) gj (fun b u U q=>sa q) (aW l) (a hS (ar++[v]) (n+1) (a.append (hp J)) ?_)));rw[l];simp
def PTs(X:Cx)(G:fC)(t:TT):Prop:=FS (MY G ab (fun c J=>Z J (do{let ok<-isTrue c X.env (eval c X.env);pure (ForInStep.yield ok)}) (eU (a2k J))))
def arT:TT:=lF (Q ab H)
theorem aPQ:PTs X [] arT:=qN (wpAny_tests_nil (v H I h))
theorem aPR{c:Expr}{t:TT}(h:PT X c t):PTs X [c] t:=DD (wpAny_tests_one (im Q I))
universe z
theorem F7{I:Type}{t:Sem I}{Q h4:dE I}{d5:Model}{A:Around}{E:aU}{s:Shared}(h:fv d5 A t Q JC s)(g:bdc):a'E:=or h g
theorem aPS{prog:Program}{w:World}{A:Around}{R:Qf}{s:Shared}{t a iter:Expr}{G:fC}{d:Scope}{pos:Pos}{it B:Value}{env:Env}(I:dE Nat)(turn:j n s (I n s) (fv (ju cN w) A (ahr it) (fun J l=>match J with|none=>R (.ok .next) l|some v=>am (MK a it v) (fun _ i=>am (Vj a env v) (fun _ g=>am (MY G ab (fun c J=>Z J (do{let ok<-isTrue c env (eval c env);pure (ForInStep.yield ok)}) (eU (a2k J)))) (fun ok b=>Z ok (am (kd t) (fun x o=>am (Do [B,x]) (fun _ p=>s3 (I m p)) RH o) RH b) (s3 (I m b))) RH g) RH i) RH l) RH s))(n:Nat)(h:I n s):vU (.compLoop (vO [d a Hk G 0]) 0 it B env):=by revert turn h;revert prog w A R s t a iter G d pos it B env I n;refine@mi _ _ _ _ _ _ _ _ _ _ _ _ _ _ ?_;generalize pZ=prog,p_=w,qa=A,qb=R,qc=s,qd=t,qe=a,qf=iter,qi=G,qj=d,qm=pos,qn=it;refine aMU;rw[al B env I n,du eV];refine codeAny_loop rfl I (fun n s q=>?_) n h;refine wpAny_noted ?_;rw[compTurn_list];rw[C (aBm (bF (vZ (eV n s q) (fun J l j=>?_) (fun _ _ h'=>h'))))];cases J with|none=>{exact cg j}|some v=>rw[C (vZ j (fun _ i r=>bF (vZ r (fun _ g f=>bF (vZ f (fun ok b k=>?_) (fun _ _ h'=>h'))) (fun _ _ h'=>h'))) (fun _ _ h'=>h'))];cases ok with|false=>{exact cg (bd k)}|true=>exact bF (bF (vZ k (fun x o u=>bF (vZ u (fun _ p y=>mQ (bd y)) (fun _ _ h'=>h'))) (fun _ _ h'=>h')))
section z
variable{X:Cx}
def tLc(wi:TI)(g:TG)(c3:TT)(b8:TE)(vs:ao):TE:=hf (Dr (E D (gz D) (KR (Q EC H))))
theorem arV{pins:bw}{s:Shared}{M:St}{H:Hp}{Q:VK}{t c7 iter:Expr}{G:fC}{d:Scope}{own:JH}{pos E:Pos}{wi:TI}{g:TG}{c3:TT}{b8:TE}{a3:bZ (cS->Sem a2n)}{d5:aU}(b0:fQ)(hN:X.N.Nodup)(I:aY)(hi:aaD)(ok:apr)(d8:aLT)(c6:aLU)(a0:aLS)(c0:a7b)(h:tLc wi g c3 b8 alk M H Q)(e4:∀D C c1 m L,c Bg (Q EC L) (c1.heap.Ns C m) (adg X au L C) (a2m ak' X.A oN a3 d5 EC C (.ok .next) c1)):dg (comprehension Ra d cF E (newList []) ai (e0 Hk) a3) d5:=by revert b0 hN I hi ok d8 c6 a0 c0 h e4;revert X pins s M H Q t c7 iter G d own pos E wi g c3 b8 a3 d5;refine@mi _ _ _ _ _ _ _ _ _ _ _ _ _ _ ?_;generalize pZ=X,p_=pins,qa=s,qb=M,qc=H,qd=Q,qe=t,qf=c7,qi=iter,qj=G,qm=d,qn=own;refine Ko;generalize aG=pos,aA=E,aF=wi,aE=g,aD=c3,aB=b8,aH=a3,aI=d5;intro b0 hN I hi ok d8 c6 a0 c0 h e4;refine wpAny_comprehension_free (use:=a3) rfl c0 (aPM bhq) aB7 (fun y b6 e=>bj (aB4 y b6) e) (bD aF9 (fun f3 a4 S=>bD S (fun e1 b5 a9=>?_)));obtain⟨it,a8,l,d0,b7,e,Y,T,b4,h3,q⟩:=a9;rw[bY];refine M1 (aPN ?_) (gD (a1 0));generalize a7:b5.heap.objs.size=D;rw[HK (q D (Y.dt.fresh (qF a7)))];generalize g9:({b5 with heap:=a2l (jo aJD)}:vH)=c8;have O:aR QB c8:=by{rw[<-g9];refine Y.laid (t':=b5.toks) Pk (qF a7) (a cT [] 0 .nil ?_);rw[<-a7];exact gI};rw[bL e2 c8.heap (a2l (jo aJD)),ch e8 (hR (b<b5.heap.objs.size)) (by rw[gl o (BM b4)];exact hc),ch h6 (hR (iO QB/\b<sW)) (by have Z:=e8 b U;rw[v (lG (aot).2) (ac e2 lz (wd Z)),J (bW bz) (aot).1])];have d2:l 0 c8.heap:=ag7 _ _ _ b4 (x6 (t e2 xm));rw[f0 (aPO O ok hN h6)];have pg:=d8 c8 QB sW alI a8;have e5:=c6 c8 QB sW alI a8;have N:=a0 c8 QB sW alI a8;show dl _ _ (.compStart Ra 0 nJ EC a'j) a9h;have e3:=db (aam).1.1;generalize P:a'j=a at a5 pg e5 N⊢;have f5:a.locals=sW:=by{subst P;rfl};generalize j1:QB=d4 at O a5 pg e5 N b2 e3 h6;generalize h4:(a9h:vH)=d9 at a5⊢;have f6:l 0 d9.heap:=ag7 _ _ _ d2 (x6 (bl h4 (y5 xm)));have V:∀{g0:St}{L:Hp}{c1:Shared},Inv Jn [] g0 L c1->Ys->hR (adg Jn [] L b):=fun{g0 L c1}K d1 b U=>c (d1 b U) (K.ok.exf b U).1 (K.ok.R1 b U) (.inl U) (fun x c e=>(K.ok.exf b U).2 x c e) (GM (([]:bw)++[]));have g4:dl ak' X.A (.compLoop Ra 0 nJ EC a) d9:=by{refine aPS (fun n c1=>GP (W i n L)) ?_ c9 (c 0 d4 a5 f6 e3 b2);rintro n f9⟨i,g6,A,d3,f,h5⟩;rcases eV i n g6 h5 with⟨stop,d7⟩|⟨go,w,h7,step⟩;{refine F7 (T.done Jn rfl rfl rfl b0 i [] f9 _ g6 JC A (V A f) d3 stop) a'J;rw[kt a6 F];subst a6;obtain⟨m,d1,_⟩:=F.loc;rw[gw d1];rw[f5]at d1;exact e4 D sW h1 m g6 (O.aNE (ch:=a8) F.os F.base F.dt F.bare (db (d (aS (aam).1.2) (aam).1.2.1 (cr (aam).1) (a2 (aam).1.2)))) d7 d1 (O.R_ a_ (by have z:=F.free;rw[f5]at z;exact z))};{refine F7 (T.item Jn rfl rfl rfl b0 i [] f9 _ g6 JC A (V A f) d3 go) a'J;rw[bl a6 b3 e0];subst a6;refine F7 b3 (fun _ R e0=>?_);obtain⟨x,h9,r,b1,i0,e6,h8⟩:=e0;refine F7 (pg _ R _ h9 x u _ (r.pinned (V r h8) (aBq _ _ e6)) b1 (ML x h9 i0)) (fun _ d6⟨e7,i3,i1,g5,h2⟩=>F7 (e5 _ d6 e7 i3 _ i1 h2) (fun b i4 e0=>?_));obtain⟨i7,g7,b9⟩:=e0;have fin:∀{c1:Shared}{L:Hp},Inv Jn ([]++KG a8 R.heap) e7 L c1->w L->s3 (GP (W i m L)):=fun{c1 L}K nx=>by{obtain⟨f7,c4,c5⟩:=h7 L nx;have g8:hR (E o (be (R.heap.get? b)) (Pd/\IT)):=s_ (let z:=K.pin (b,o) a7B;⟨z.1,rn⟩);rw[e f7 c4 (i+1) L ((K.Sd (pins:=[])).weak (by rw[<-g5,adG]) (fun j v e=>?_)) (ag7 _ _ _ e6 (s_ (g8 b U o e).1)) tX c5];{rw[ps g5];exact(adH e).1};{rw[gl o (BM e6)];exact(g8 b U o e).2}};cases b with|false=>{simp only[CY,iR]at b9⊢;exact fin g7 b9}|true=>simp only[mJ]at b9⊢;refine F7 (N _ i4 e7 i7 _ g7 b9) (fun z j2 e0=>by obtain⟨i2,j3,i5,i6,B,i8,i9,nx⟩:=e0;exact aPP (X:=Jn) i5 i8 i9 i6 (fun j4 j0=>fin j0 nx))}};exact codeAny_compStart_list g4 (T.self X.A 0 _ _ _ f6 g4)
theorem BE{t c7 iter:Expr}{G:fC}{d:Scope}{own:JH}{pos:Pos}{wi:TI}{g:TG}{c3:TT}{b8:TE}(b0:fQ)(hN:X.N.Nodup)(hi:aaD)(ok:apr)(d8:aLT)(c6:aLU)(a0:aLS)(c0:anE):M Ra bhu:=by rw[fx];rw[eval_ListComp];refine arV b0 hN I hi ok d8 c6 a0 c0 h (fun D C c1 m L K q d1 f=>v m d1 (fun l sb=>?_));rw[rs f];exact m EC L (K.turned (t':=ahs) (jx (sa e)) F g4 h6 f4 f5) q
theorem aPT{i:Nat}{y:Str}{r:Pos}{t c7 iter:Expr}{G:fC}{d:Scope}{own:JH}{pos c:Pos}{wi:TI}{g:TG}{c3:TT}{b8:TE}(b0:fQ)(hN:X.N.Nodup)(b6:A X.N y)(j:k8 (MI y))(k:MF Ra (aa aJx) c.line cF=eU ab)(hi:aaD)(ok:apr)(d8:aLT)(c6:aLU)(a0:aLS)(c0:anE):bn [aJx] Ra c (adf bhu (KC i)):=by rw[kW];rw[exec_Assign_Name_used _ _ _ _ k];rw[C (aBm Yi),C (bD (arV (d5:=fun _ c1=>SP X au D .next c1) b0 hN I hi ok d8 c6 a0 c0 h (fun Z C c1 m L K q d1 f=>?_)) (fun _ c1 e0=>mQ e0))];refine a1o (aqM (v:=gR Z) K hN b6 (.inl j) rfl (fun b5 Y P=>?_) (.inr j));rw[ak sb b3 P,rs f,aa m (d1.sameBut sb cq) (fun e2 f6=>as L (Y.turned (t':=b5.toks) (jx (ac f6 b U e)) F g4 h6 f4 f5) q)]
theorem aPU{t:Expr}{a:bL Comprehension}{d:Scope}{pos r:Pos}{y:Str}{l:Nat}{env:Env}(c3:sz env.scope.kind)(b6:k8 (env.scope.names.lookup y))(a5:(r.line==MG)=ab)(b3:(d.names.any (fun(n,k)=>n==y&&(k== .local||k== .cell)))=ai):MF (vO a) (aa aJx) l env=eU ab:=by rw[ad ky (agU y) .local b6];have U:env.blockKind= .function:=by{delta Env.blockKind;rw[c3];rfl};rw[oM b1 MG];have a3:(r.line==bfV)=ab:=a5;rw[oM a9 bfV];delta MF;simp only[U,ky,b3,a5,b1,a3,a9];rfl
universe z
theorem aPV{lo:Int}{n:Nat}{g:TG}{c3:TT}{b8:TE}{vs:ao}{M:St}{a8:Hp}{D:Addr}{k:jb}(j:Y7)(b1:j 0 aFW)(c0:l i H (i<n) (j i H) (be aop tA H bdw))(hd:FX n):d7 PL PL PL:=by rw[l3 (m4 n Ql) n,bhc];by_cases Z:i<n;rw[oz (fun L u=>kc n Pm) (c0 i _ Z p)];{have e:i=n:=by{rw[el]};rw[bY];exact dq a_ (hd H p)}
theorem arW{K:PySem.W.Frag}{a:Addr}{O:af}{g:TG}{c3:TT}{b8:TE}{vs:ao}{M:St}{a8:Hp}{D:Addr}{k:jb}(j:Y7)(b1:j 0 aFW)(a5:l i H Qw (j i H) jg)(c0:∀i x H,nh->j i H->be x tA H bdw)(hd:FX bx):d7 Qy Qy Qy:=by rw[l3 (m4 bx Qw) bx,bhc,ci (a5 i H hi p),fJ Z bx];{refine i3 (d O O[i] q ah) (fun L u=>f (bx-i_) bz Z u);rw[fE y y,bY];exact c0 i x _ (y O q) p};{have e:i=bx:=by{rw[aIA]};rw[bY];exact dq aKP (hd H p)}
noncomputable def arX(N:cX)(a d:Scope)(own:JH):cb:=(match d.kind with| .function=>ab|_=>ai)&&(a2o (e7 (cv a_w)))&&(own.all (bn (cv (K N p.2 p.1))))&&(a2o (e7 (match y.2 with| .free=>(match vN y.1 with|some .cell=>ab|some .free=>ab|_=>ai)| .local=>a95| .cell=>a95|_=>ab)))
theorem arY{N:cX}{a d:Scope}{own:JH}(h:arX N a d own=ab):arS N a d own:=by rw[a4 arX];simp only[hZ,Hs,iS]at h;obtain⟨⟨⟨a3,a9⟩,e2⟩,e5⟩:=h;rw[j ?_ a9 e2 a8C a8C];{split at a3;{assumption};rw[cY]};{rw[ci (e5 y b6)];simp only[e]at q;split at q<;>first|rw[mT xh]|rw[o6 xh]|(rw[kG])};{rw[ci (e5 y b6)];rw[i6 e e]<;>(simp only[e,aht,iS]at q;exact q)}
universe L2
namespace L2
open PySem PySem.Spec PyProof.Rows
section z
variable{prog:Program}{w:World}{A:Around}{R:Qf}{s:Shared}{t u o W c2:Expr}{a b:fC}{d:Scope}{pos:Pos}{it B:Value}{env:Env}
universe z
section z
variable{X:Cx}
universe z
universe L2
namespace L2
open PySem PySem.Spec PyProof.Rows
section z
variable{c:Type} [we c]
noncomputable def fa(F:hT)(k:c):jK:=cN (F.find? FH)
noncomputable def putK(F:hT)(k:c)(v:V):hT:=Z (VA FH) (M3 (jp (v d.1 k (d.1,v) d))) (F++[(k,v)])
theorem sf{p:c×V}{J:hT}{k:c}(e:p.1=k):fa (p::J) k=aa p.2:=bx fa oS e
theorem sg{p:c×V}{J:hT}{k:c}(e:¬p.1=k):fa (p::J) k=fa J k:=bx fa oS e
theorem KY(k:c):∀F:hT,(VA FH)=dk uG|[]=>rfl|p::J=>by rw[MV];rw[ZM];{simp only[sf e,dH e,aB_,a2e]};{rw[sg e,ea e,aB9];exact KY k J}
theorem arZ(k j:c)(y:V):∀F:hT,fa aI7 j=gA (fa F j) (v j k y x)|[]=>rfl|p::J=>by have d6:=arZ k j y J;rw[da];rw[N h p.1 k];{rw[aK h];rw[b1 p.1 j];{rw[wP (p.1,y),sf e,aB',aK (a2p h)]};{rw[wQ (p.1,y),sg e,d6]}};{rw[aO h,b1 p.1 j];{rw[wP p,sf e,aB',ff (h (aA3 z))]};{rw[wQ p,sg e,d6]}}
theorem ar0(k j:c)(y:V):∀F:hT,uG=ae->fa (F++[(k,y)]) j=av (j=k) y (fa F j)|[],_=>by{rw[b1 k j,Z (aK CP) (wP (k,y)),Z (ff (e wg)) (wQ (k,y))]}|p::J,d1=>by rw[ahu];have c3:¬p.1=k:=J (by rw[sf z]at d1;cases d1);rw[sg c3]at d1;rw[b1 p.1 j];{rw[sf e,sf e,ff (c3 (aA3 z))]};{rw[sg e,sg e,(ar0 k j y J d1)]}
theorem Sx(F:hT)(k j:c)(y:V):fa aHP j=av (j=k) y (fa F j):=by delta mM;rw[bC a (VA FH)];{rw[aK a,arZ];rw[KY]at a;rw[b1 j k];{rw[ci x S a];rw[aK e,e,S,aB',cO]};rw[az]};{rw[aO a];refine ar0 k j y F ?_;rw[KY]at a;cases q:uG with|none=>{rfl}|some x=>rw[q]at a;exact iT (a rfl)}
theorem ar1(F:hT)(k:c)(v:V):bd Yb (hY+1):=by delta mM;split;{simp};{simp}
theorem aPW{F:hT}{k:c}(v:V)(h:uG=ae):Yb=F++[(k,v)]:=by delta mM;rw[KY,h];exact bj ay
theorem rY.adJ{o:jK}{u:pw}(J:rY o u):M4=u.isSome:=by cases o with|none=>{cases u with|none=>{rfl}|some _=>trivial}|some _=>cases u with|none=>{trivial}|some _=>rfl
theorem KV.val{F:hT}{vs:Fp}(J:tS)(k:c):rY uG (CZ vs k):=by rw[aJv];induction J with|nil=>{trivial}| @cons p q c5 v h t d6=>rw[ky h,ZM];{have b:CZ (q::v) k=aa q.2:=by{simp[CZ,oS,(a2q e)]};rw[sf e,b];exact a9};{have d3:¬q.1=k:=J a9Z;have b:CZ (q::v) k=CZ v k:=by{simp[CZ,oS,d3]};rw[sg e,b];exact d6}
theorem KV.any{F:hT}{vs:Fp}(J:tS)(k:c):(VA FH)=vs.any FH:=by rw[aJv];induction J with|nil=>{rfl}|cons h t d6=>rw[MV,MV,d6,h.1]
theorem KV.adK{F:hT}{vs:Fp}(J:tS)(k:c){y:V}{u:Value}(Z:kY):KV aI7 (Vr (jp (v d.1 k (d.1,u) d))):=by delta KV at J⊢;induction J with|nil=>{rw[kL]}| @cons p q c5 v h t d6=>rw[da,da];refine .cons ?_ d6;rw[ky h,ZM,az,az]
theorem KV.put{F:hT}{vs:Fp}(J:tS)(k:c){y:V}{u:Value}(Z:kY):KV aHP (stored vs k u):=by delta mM stored;rw[J.any k];rw[bC e (vs.any FH),dk e e (J.adK k Z)];{rw[cE e e];exact a2r J (bd Z)}
theorem KV.length{F:hT}{vs:Fp}(J:tS):hY=iO:=Ms J
universe z
theorem BF{P:Program}{w:World}{k:Key}{u:Value}(J:gP (kV k) u):z2 u:=by cases k with|inl i=>{rw[n6 QJ (aNs P w i t)]}|inr x=>rw[n6 aor (aNu P w x t)]
theorem ar2{P:Program}{w:World}:∀{K:tE}{b1:aM},ey (C_ kV)->aCa tI K b1|[],_,J=>DO .nil|k::K,_,J=>by rw[da]at J;cases J with|cons h t=>rw[cA (BF h) (ar2 t)]
abbrev KT(H:Hp):au uy J6:=dD (nP bfb)
theorem KT.val{H:Hp}{F:uy}{O:J6}(J:YA)(k:tE):rY uG (cN ani):=by induction J with|nil=>{trivial}| @cons p q c5 v h t d6=>obtain⟨a3,_,a9⟩:=h;rw[ZM];{have b:zu (q::v) k=aa q.2:=by{simp[zu,oS,(a2q e)]};rw[sf e,b];exact a9};{have d3:¬q.1=k:=J a9Z;have b:zu (q::v) k=zu v k:=by{simp[zu,oS,d3]};rw[sg e,b];exact d6}
theorem KT.adK{H:Hp}{F:uy}{O:J6}(J:YA)(k:tE){y:V}{u:Value}(Z:kY):KT H aI7 (Hb (putAt k u)):=by induction J with|nil=>{rw[kL]}| @cons p q c5 v h t d6=>rw[da,da];refine .cons ?_ d6;rw[df a3 e2 h];delta putAt;rw[ZM,az,az]
theorem KT.put{H:Hp}{F:uy}{O:J6}(J:YA)(k:tE){b:Addr}{y:V}{u:Value}(U:aay)(Z:kY):KT H aHP (ahv O k b u):=by have e:(VA FH)=dk ani:=by{rw[KY,(J.val k).adJ,aCb]};delta mM ahv;rw[e];rw[bC q (dk ani),dk q q (J.adK k Z)];{rw[cE q q];exact a2r J (ai U Z)}
theorem KT.keeps{H L:Hp}{F:uy}{O:J6}(J:YA)(c6:j b d7 (fr alv) (hB alv)):KT L F O:=Paired.aqH J (vA bcG)
section z
variable{P:Program}{w:World}{H:Hp}{h:Heap}{a:Addr}
theorem ar3{u:HO}(ok:la)(e:kA u):g7 u:=e.ok ok
theorem Sy{F:gs}(ok:la)(e:kA pX):nm apP:=show g7 pX from ar3 ok e
theorem ar4{F:gs}(ok:la)(e:cw pX):nm apP:=Sy ok YO
theorem ar5{K:tE}(ok:la)(e:lL (C_ kV)):(U8 tI).is h K a:=by obtain⟨_,ar,J,o,a3,a9,n,e2⟩:=dv (g7 (.tup (C_ kV))) (ok a _ e);exact a o eT n a3 a9 e2 (ax (ar2 J))
theorem Sz{F:uy}(ok:la)(e:kA tY):bdF:=by revert ok e;revert P w H h a F;refine aa2;rw[n P w H h a F];intro ok e;obtain⟨z,y,O,J,o,a7,e1,a3,a9,e2,e5,f⟩:=dv (g7 tY) (ar3 ok e);rw[b z y O J o a7 e1 a3 (a a9 e2 e5 qk f)];have all:∀{l:uy}{m:J6},KT H l m->aK m ((U8 tI).is h x.1 x.2.1):=by{intro l m q;induction q with|nil=>{rw[Yp]}| @cons p q c5 v e0 t d6=>rw[Bm,i6 (h_ S) S,sK (ar5 ok ag),aZ]};exact all J x S
theorem aPX{F:uy}(ok:la)(e:cw tY):bdF:=Sz ok YO
universe z
def jm(H:Hp)(a:Addr)(y:V)(J:jK):Prop:=dd (kA pX) (J=uG) (kA tY) (aay/\J=uG)
def qx(H:Hp)(a:Addr)(y v:V)(L:Hp):Prop:=dd (cw pX) (hY<hv/\L=a8o) (cw tY) (aay/\hY<hv/\L=a8p)
theorem jm.k{H:Hp}{a:Addr}{F:gs}{k:Key}(e:cw pX):jm H a (kV k) uG:= .inl (m F k YO rfl)
theorem jm.t{H:Hp}{a b:Addr}{F:uy}{k:tE}(e:cw tY)(f7:aay):jm H a cW uG:= .inr (a F k b YO (ai f7 rfl))
theorem qx.k{H:Hp}{a:Addr}{F:gs}{k:Key}{v:V}(e:cw pX)(a5:hY<hv):qx H a (kV k) v a8o:= .inl (m F k e (dx a5))
theorem qx.t{H:Hp}{a b:Addr}{F:uy}{k:tE}{v:V}(e:cw tY)(f7:aay)(a5:hY<hv):qx H a cW v a8p:= .inr (a F k b e rfl f7 a5 rfl)
section z
variable{X:Cx}{pins:bw}{M:St}{H:Hp}{s:Shared}{a:Addr}{y v:V}{u J:Value}{o:jK}{A:Around}{E:aU}
theorem Inv.big(I:aY):ahw<aO:=b7 ay (a2s I.bk).lt
theorem aPY{Q:aU}(hu:JY)(I:aY)(g:jm H a y pC)(Z:kY)(h:l c5 c1 (aR H c1) (gP v c5) (Q c5 c1)):mo (zk bc u):=by revert hu I g Z h;revert X pins M H s a y v u A E Q;refine@mi _ _ _ _ _ _ _ _ _ _ _ _ _ _ ?_;generalize pZ=X,p_=pins,qa=M,qb=H,qc=s,qd=a,qe=y,qf=v,qi=u,qj=A,qm=E,qn=Q;intro hu I g Z h;rw[a7X];{rw[jW,wh (Sy eo e),m7 (CZ vs k) (t l (VB k))];exact a2u (BF Z) ahy hw (h c5 _ ro W)};{rw[jW,aGF,wg (Sz eo e),m7 (cN ani) (t l (VB k)),h_ b0 (ze hw)];refine a2t (ahx hu) aoz j c2 ?_;rw[J b0 (h c5 _ ro W)]}
theorem aPZ{Q:aU}(hu:JY)(I:aY)(g:aIB)(Z:kY)(h:E0 M4):mo (MB .In u bc):=q6 (wpAny_in_of (BF Z) hd ahy ?_) (a2v (ahx hu) aoz hd j ?_)
theorem aP0{Q:aU}(hu:JY)(I:aY)(g:aIB)(Z:kY)(h:E0 (! M4)):mo (MB .NotIn u bc):=q6 (wpAny_notIn_of (BF Z) hd ahy ?_) (a2w (ahx hu) aoz hd j ?_)
theorem SA{h':Heap}{t':Nat}{N:HO}(I:aY)(h8:uS (H a))(c0:pa a)(a0:ax q (gQ a) q)(a6:cE (ad a N) a N):aR (ad a N) uE:=Vo (x:=a) (e:=a) h8 gj (fun b q U z=>ac c0 b U z) a0 a6
theorem ar6{P:Program}{w:World}{L:Hp}{h':Heap}{F:gs}{vs:am3}(z:a1 hY)(hd:lc a)(d:tS)(j:h'.DictOf tI a vs):om P w L h' a pX:=a z hd vs d j
theorem aP4{L:Hp}{Q:Qe}(hu:JY)(I:aY)(g:qx H a y v L)(Z:kY)(rv:gP v J)(h:i2 Bg ()):mo (a1n bc u J):=by revert hu I g Z rv h;revert X pins M H s a y v u J A E L Q;refine@mi _ _ _ _ _ _ _ _ _ _ _ _ _ _ ?_;generalize pZ=X,p_=pins,qa=M,qb=H,qc=s,qd=a,qe=y,qf=v,qi=u,qj=J,qm=A,qn=E;refine Kn;rw[bV L Q];intro hu I g Z rv h;rcases g with⟨F,k,e,c3,l,b0⟩|⟨F,k,b,e,c3,f7,l,b0⟩;{subst c3 b0;rw[wh (ar4 eo e)];refine wpAny_setItem_pairs (hsz:=bl oT z) (BF Z) j (zC (h _ ?_));exact SA I (jz e) c0 bgp (ar6 bfi hd (d.put k rv) p)};{subst c3 b0;rw[aGF,wg (aPX eo e)];refine a2x (hsz:=bl (Ms d) z) (ahx hu) aoz j (zC (h _ ?_));obtain⟨q,a7,e1,e0,a9,e2,e5,_,f⟩:=p;refine SA I (jz e) c0 alJ (a (bfi) hd _ ((d.put k f7 rv).keeps (fun c d7 g7=>?_)) q a7 e1 e0 (d a9 e2 e5 f));rw[J (bW (qr g7 e (J (nomatch z)))) g7]}
universe z
section z
variable{X:Cx}{pins:bw}{M:St}{H:Hp}{s:Shared}{a:Addr}{F:gs}{k:Key}{u:Value}{A:Around}{E:aU}
universe z
def SD(i:Expr):Prop:=∀ov c,ahj i ai ov c=aBR [ov,c] (zk ov c)
theorem ar7{prog:Program}{w:World}{A:Around}{E:aU}{s:Shared}{env:Env}{B a:Expr}{pos:Pos}{T id:String}{Q:aU}(a5:aBP (.type T) "__getitem__"=eU (aa X9))(c0:SD a)(h:ig (kd B) (fun o l=>am (kd a) (fun i g=>g.TypeIs o T/\am (zk o i) Q E g) E l)):bl (kd (eW B a)):=by refine aBQ (lu h (fun o l j=>lu j (fun i g f=>?_)));obtain⟨Z,f⟩:=f;delta a14;rw[ma];rw[getitemInPython_of_ne Z.not_modules];rw[C (wh Z a5 ?_),z fin (am (ahj a ai o i) (fun J b=>am (letTemporaryGo B o J>>=au (eU J)) Q E b) E g) (c0 o i) (wpAny_operating (lu f (fun J b k=>bF (wpAny_letTemporaryGo (cg k)))))];first|exact fa fin|exact bF (fa fin)|exact bF fin
theorem aP5{X:Cx}{pins:bw}{M:St}{H:Hp}{s:Shared}{a:Addr}{y:V}{o:jK}(I:aY)(g:aIB):a8O:=by rcases g with⟨F,k,e,_,_⟩|⟨F,k,b,e,_,_,_⟩;{obtain⟨_,_,vs,_,j⟩:=Sy eo e;exact VC};{obtain⟨_,_,O,_,j⟩:=Sz eo e;exact VC}
inductive jG(Q:VK)(x y:V)(H:Hp):Prop|mk:f a v (x=bc) (jm H a y pC) AH (jG Q x y H)
def aP6(l A:TE):TE:=GA (jG Q x)
def aP7(A l:TE):TE:=Kd M4
def aP8(A l:TE):TE:=Kd (! M4)
inductive jD(N:jb)(v x y:V)(d4:Hp):Prop|mk:f a e4 (x=bc) (qx d4 a y v e4) (N e4) (jD N v x y d4)
def aP9(l A L:TE):TS:=Dt (jD (mF M) v x)
section z
variable{X:Cx}{o i e B:Expr}{pos E T:Pos}{l A L:TE}
theorem SF(hu:anf)(d0:Bh)(hi:yh)(c0:SD i):M (eW o i) (aP6 l A):=aO bgl y Z v ⟨aP5 Y g,aPY hu Y g Z (fun c5 c8 O W=>a v b7 O W q2)⟩
theorem aP_(hu:anf)(hi:yh)(d0:Bh):PC X .In i o (aP7 A l):=aO ap6 x R ov (aPZ hu Y g Z (FQ ov.isSome))
theorem SG(hu:anf)(hi:yh)(d0:Bh):PC X .NotIn i o (aP8 A l):=aO ap6 x R ov (aP0 hu Y g Z (FQ (! ov.isSome)))
theorem aP'(hu:anf)(d0:Bh)(hi:yh)(d3:aof)(c0:A8 (qZ E)):bn [qZ E] B pos (aP9 l A L):=by rw[kW];refine bia;obtain⟨y,d4,O,Z,a,e4,ex,g,q3⟩:=P;rw[lW,Es];exact aP4 hu O g Z rv (fun d9 a5=>d M e4 a5 q3)
universe z
theorem ar8{P:Program}{w:World}{H:Hp}(h:Heap)(U:ahw<mC):GH xS:=a cT (wL U) [] .nil (Heap.DictOf.new h)
theorem aQa{P:Program}{w:World}{H:Hp}(h:Heap)(U:ahw<mC):GH pY:=a cT (wL U) [] .nil _ #[] 0 gI (bj tG rfl aCc)
def aQb:TE:=GY (ad p xS)
def aQc:TE:=GY (ad p pY)
section z
variable{X:Cx}{pos:Pos}
theorem aQd:z_ aQb:=ra (fY xS (ar8 bh ahz) (h _ pR))
theorem adL:z_ aQc:=ra (fY pY (aQa bh ahz) (h _ pR))
universe z
def adM:aa aas St Hp (eo (aO V V))|[],_,H,Q=>Q [] H|(D,L)::J,M,H,Q=>D M H (jA (L M a8 (p6 (adM J M b7 (fun c5 d4=>Q ((x,y)::c5) d4)))))
abbrev VV:au (aO V V) (aO cS cS):=dD (nP (gP p.1 q.1/\gP p.2 q.2))
def SH(X:Cx)(pos:Pos)(keys:bL PD)(b:fC)(a:aas):Prop:=∀(pins:bw)(s:Shared)(M:St)(H:Hp)(Q:eo (aO V V)),cv (adM a M H Q) (evalPairs (pairTrees Ht b cF pos)) (fun vs c1=>∃c5 L,Bg/\VV c5 vs/\Q c5 L)
theorem aQe{X:Cx}{pos:Pos}:SH X pos [] [] []:=ra (pairTrees_nil_walk bac)
theorem aQf{X:Cx}{pos:Pos}{k v:Expr}{K:bL PD}{vs:fC}{D L:TE}{a:aas}(c3:M k D)(d3:M v L)(a6:SH X pos K vs a):SH X pos (aa k::K) (v::vs) ((D,L)::a):=ra (pairTrees_cons_walk (bD (c3 au s M H _ I h) (fun u a4 e0=>b x a8 r R d2 e0 (bD (d3 au a4 M a8 _ r d2) (fun T b5 e0=>dL y Z (bD (a6 au b5 M b7 _ Y q2) (fun ws c8 e0=>b c5 d4 O d q3 e0 (a ((x,y)::c5) d4 O (.cons ⟨R,Z⟩ d) q3))))))))
noncomputable def KZ(F a:gs):gs:=a.foldl (fun B d=>mM B d.1 d.2) F
theorem KV.merge:∀{a:gs}{f:am3}{F:gs}{vs:am3},KV a f->tS->KV (KZ F a) (merged vs f):=by intro a f F vs J;rw[aJv];induction J generalizing F vs with|nil=>{rw[fS];exact q}| @cons p q c5 v h t d6=>intro m;have e:KV aKc (stored vs q.1 q.2):=by{have:=m.put p.1 h.2;rw[<-h.1];exact this};exact d6 e
theorem ar9:∀(a F:gs),bd (KZ F a) (hY+mL)|[],F=>aGT|p::J,F=>by have a3:=ar9 J aKc;have a9:=ar1 F p.1 p.2;show bd (KZ aKc J) _;rw[ia];exact cf a3 a9
theorem ar_{P:Program}{w:World}:∀{F:gs}{ws:aO cS cS},VV bdI ws->z f (Carries tI ws f) (KV F f)|[],_,J=>DO (pd CO)|p::F,_,J=>by rw[da]at J;cases J with| @cons a b Y bs h t=>rw[aJ f c (ar_ (P:=P) (w:=w) t),aK1];exact v ((p.1,e2)::f) (aP (BF h.1) c) (.cons (bd h.2) q)
def aQg(a:aas):TE:=hf (E p (Y p) (adM a M (ad p xS) (fun c5 b7=>b7 p=aa xS/\∃F:gs,c5=bdI/\hY<=15/\Q fO (upd b7 p (.dK (KZ [] F))))))
theorem aQh{X:Cx}{pos:Pos}{keys:bL PD}{b:fC}{a:aas}(h:SH X pos Ht b a)(g:keys.all (·.isSome)=ab)(a5:a2y=cw)(b1:Ht≠[])(k:a2y<=15):M (.Dict Ht b pos) (aQg a):=by rw[na q];refine wpAny_Dict_walk (knd:=aJs) g a5 b1 k (bD (h au _ M _ _ (cF xS X7 (ip (bT q)) (ar8 bh ahz)) (q _ (zj (aCd aO)))) (fun ws b5⟨c5,b7,Y,d,e,F,e1,lk,q2⟩=>?_));subst e1;rw[bH c i (ar_ (P:=eA) (w:=X.w) d),X hd l m j (ar4 Y.dt e)];cases m;rw[w f c j (zC (m gk _ ?_ q2))];exact SA Y (jz e) c0 bgp (ar6 (by rw[gv (ar9 F [])];rw[MS]at a3;rw[J qJ (cf a3 lk)]) hd (i.merge .nil) p)
section z
variable{X:Cx}{pins:bw}{M:St}{H:Hp}{s:Shared}{a:Addr}{y d:V}{u J:Value}{o:jK}{A:Around}{E:aU}
universe z
section z
variable{X:Cx}{o e f:Expr}{i a:Pos}{l A b:TE}
universe z
section z
variable{X:Cx}{pins:bw}{M:St}{H:Hp}{s:Shared}{a:Addr}{F:gs}{A:Around}{E:aU}
universe z
section z
variable{X:Cx}{pins:bw}{M:St}{H:Hp}{s:Shared}{a:Addr}{y:V}{u:Value}{A:Around}{E:aU}
universe z
universe L2
namespace L2
open PySem PySem.Spec PyProof.Rows
section z
variable{prog:Program}{w:World}{A:Around}{E:aU}
universe z
section z
variable{X:Cx}
universe z
universe L2
namespace L2
open PySem PySem.Spec PyProof.Rows
theorem aQi:vR "reversed"=aa (.type "reversed"):=cB
section z
variable{X:Cx}{pins:bw}{M:St}{H:Hp}{s:Shared}{h':Heap}
theorem Inv.aQj{t':Nat}{ch:bg}(I:aY)(k:bd Ja gY ha)(W:bH ch (iO H)):aR H uE:=by rw[bbX];refine Mw (g':=sQ) (d':=zi) (ch:=ch) bgf (sb QZ) (yt QZ) a_H (sV (no QZ)) (sO e) a'p a9o aoc aH4 zh;rw[Cj (un (W _ z)),bhY]
theorem Inv.ar'{t':Nat}{ch:bg}{T:Addr}{N:HO}(I:aY)(k:bd Ja gY ha)(W:bH ch (iO H))(Z:aO<=T)(a6:cE (ad T N) T N):aR (ad T N) uE:=by rw[gw (zj Z),bbX];refine Mw (g':=sQ) (d':=zi) (ch:=ch) bgf (sb QZ) (yt QZ) (fun b o _ e n=>?_) (sV (no QZ)) (fun b O e=>?_) (fun b o u e=>?_) (fun b c5 e=>as #[]) aoc aH4 zh;rw[gN (he hc Z) n,gN (em d1) e,gN (em d1) e];{rw[bW (em d1),e];rfl};rw[Cj (un (W _ z))];{rw[N U b T];{subst U;rw[a6 ak,dS];exact a6};{rw[a6 (bW U)];refine nX (fun c q=>QH) (zD QH);rw[cZ b0,aZ,aZ]}}
universe z
section z
variable{X:Cx}
theorem asa{c7:Expr}{pins:bw}{M:St}{H:Hp}{s:Shared}{R:rK}{d0:It}{l:QL}{D:Nat}(I:aY)(o:Obj)(T:qF [aO] aO)(st:l 0 (mH o))(q:R d0 H):PIE X au M c7 R gk (dn (mH o) D):=by rw[c aO [aO] l d0 H (MH (fun b N e=>xm)) T (v st tX q),nl aO,bY];exact I.R_ a_ pR
universe z
noncomputable def Itc(lo c:Int)(n:Nat):It:=IB al9
theorem aQk{P:Program}{w:World}{K:PySem.W.Frag}{c7:Expr}(it:Addr)(lo c:Int)(n:Nat):jA Z_ (a1t h it (lo+cd i*c) (cK-cd i) c)where mem:=bK;obj:=pg ah;keep:=bdG;item:=by{intro X C hw g b0 i au s M H E I W st d8;rw[uP,yl,Lg c,ep d3];exact rb al9 (dx t)};done:=by{intro X C hw g b0 i au s M H E I W st d8;rw[yl];exact a1r iv st (ez (n<=i) d8 (nw this)) aaP};self:=vf (a1q st h)
def RgC(i j c:Int)(n:Nat):Prop:=c≠0/\c.natAbs<1073741824/\a2z i j c=ab/\Vk i j c=n
inductive jR3(R:rK)(vs:af)(a8:Hp):Prop|mk:∀(i j c:Int)(n:Nat),A [hP,IY,.int c] (RgC i j c n) (R (Itc i c n) a8) (jR3 R vs a8)
def aQl(d6:TA):TI:=qE (jR3 R)
section z
variable{X:Cx}{c7:Expr}
theorem aQm{a b c:Expr}{d6:TA}{p pos:Pos}(d8:Gl X "range")(c4:f8 "range")(b3:PA X aaS d6)(c0:f9 aaS (g6 (e0 a) [b,c]))(b8:ga pos [b,c]):ho (er "range" aaS) (aQl d6):=by rw[JG];refine jB boot_range b8;rw[JS];obtain⟨i,j,k,n,e,⟨u,e5,e6,c1⟩,q⟩:=d2;rw[bY];cases r1 with|cons J C=>cases C with|cons B C=>cases C with|cons d C=>rw[nU,Ef,dm t' B,dm f d];refine call_range_3 u (a1u (a1v ..) e6 ?_) (.inl (a1x e5));refine asa (D:=ahA) (sh Pk) _ (aQk _ i k n) ?_ q;rw[aS b4 (i+ae 0*k) i];have b9:cK-ae 0=Vk i j k:=by{exact EV};rw[b4,b9];exact gI
universe z
noncomputable def Itv(K:PySem.W.Frag)(a:Addr)(n:Nat):It:=v (mN (i<n/\Im (nT (n-1-i)))) (fun i H x L=>L=H/\E O jg (nT (n-1-i))) a7u
theorem aQn{P:Program}{w:World}{K:PySem.W.Frag}{c7:Expr}(a it:Addr)(n:Nat):jA (Itv K a n) (Ql/\h.IsRevIter it a (cK-1-cd i))where mem:=bK;obj:=pg (by have e:b=it:=by{grind};rw[bY];obtain⟨_,o,e,c,d⟩:=st;exact a7G);keep:=o3 ⟨st.1,st.2.at a7R⟩;item:=by{intro X C hw g b0 i au s M H E I W st d8;rw[uP];obtain⟨k8,O,x,e0,S⟩:=d8;rw[ZD,ZY,yl];obtain⟨_,L⟩:=st;have b4:cK-1-ae i=ae (n-1-i):=by{rw[ahB (VD k8),ahB (fb cT k8)];rfl};rw[b4]at L;refine wpAny_pyNext_rev_item L qH (x:=u) ag aKy;have b9:ae (n-1-i)-1=cK-1-ae (i+1):=by{rw[fT]};rw[b9]at f;rw[aIE];exact C2 (a x H (a7t) m aLb ⟨k8,f⟩ (db (Ej).1))};done:=by{intro X C hw g b0 i au s M H E I W st d8;rw[yl];obtain⟨k8,L⟩:=st;have j:n<=i:=d8;have b4:cK-1-ae i= -1:=by{exact a2B (nw j) (nw k8)};rw[b4]at L;exact wpAny_pyNext_rev_end iv L aaP};self:=vf (a2A st.2 h)
inductive jV(K:PySem.W.Frag)(R:rK)(vs:af)(a8:Hp):Prop|mk:∀(a:Addr)(O:af),A [bc] Yv (R (Itv K a bx) a8) (jV K R vs a8)
def aQo(K:PySem.W.Frag)(d6:TA):TI:=qE (jV K R)
section z
variable{X:Cx}{c7:Expr}
theorem ash{d:PySem.W.Frag}{e:Expr}{d6:TA}{p pos:Pos}(d8:Gl X "reversed")(c4:f8 "reversed")(b3:QM)(c0:RA)(g:Bb):ho (er "reversed" [e]) (aQo d d6):=by rw[rD,JG];refine jB aQi rfl;rw[JS,w O e e0 q d2,bY];cases r1 with|cons J C=>rw[nU,hM,a9 rv u (CM e0),f0 CK,ae b4 (ae v_-1) (v bx-1-ae 0)];refine call_reversed_list u.isList (a2A (l:=a) (i:=ae v_-1) Pq (asa (D:=ahA) r _ (aQn a _ bx) (as cT) q));rw[<-b4];exact Pq
universe z
section z
variable{prog:Program}{w:World}{A:Around}{E:aU}{s:Shared}
universe z
section z
variable{X:Cx}{pins:bw}{M:St}{H:Hp}{s:Shared}{d:Addr}{o:Obj}
universe z
section z
variable{P:Program}{w:World}{K:PySem.W.Frag}{c7:Expr}{d:Addr}{o:Obj}{a7:fq VE}{e1:Nat}
universe z
section z
variable{X:Cx}{c7 e:Expr}{l:TE}{i a:Pos}
universe z
noncomputable def Ite(K:PySem.W.Frag)(a:Addr):It:=gi (Im nh) (∃T x,v=al8/\Y T/\L=ad T (eq x)/\E O jg nh) (∃O:af,jg/\bx<=i)
theorem aQp{P:Program}{w:World}{K:PySem.W.Frag}{c:fC}{B:Nat}{T:Pos}(a e it:Addr):ahC P w K bco (Ite K a) amY e (fun i h=>(Il (ae i))/\CL it a i/\e≠it)where mem:=bK;obj:=pg (by obtain⟨⟨a7,a0⟩,⟨o,d0,b0,hd⟩,_⟩:=st;rw[cZ (ax U),aZ,aZ]);keep:=o3 (let⟨⟨a7,a0⟩,hi,R⟩:=st;v ⟨a7,k e bK _ a0⟩ (hi.at (lx (k it og o q))) R);item:=by{intro X C hw g b0 i au s M H E I W st d8;rw[uP,bgC,aMB,ZD,ZY];have d:=ft a0;refine a2D a0 L qH (x:=u) ah R (fun h' d0 f Z G c3=>dl (wpAny_letOwnedTupleGo_enum (s:=dn h' (dE+1)) d0 (fun l V sb=>?_)));have a6:om eA X.w (ad aO (eq x)) l aO (eq x):=a aIQ [.int i dE,u] (hY ei m) _ (ac sb _ (vW d) Z) rfl _ rfl;rw[Q gk _ (I.ar' (ch:=amY) (fun b N U q=>ac sb b aJV (c3 b N aJV aJV q)) W a_ a6) (v (f _ x pR aLb) (v (as u) (f.at (lx (ac sb it (hs R) q))) R) tX),cY,gN (gC (by rw[cZ (ax U),l IQ,Z z (gc q L (ft q))])) (Ej).1]};done:=by{intro X C hw g b0 i au s M H E I W st d8;rw[uP,bgC,aLM,ZD,rs (W it og),f0 CK];exact a2C iv a0 L qH ah (fun h' f7=>bd (vF (fun b o U q=>f7 b o U q)))};self:=vf (let⟨⟨_,a0⟩,_⟩:=st;aCe a0 h)
inductive jE(K:PySem.W.Frag)(R:rK)(vs:af)(a8:Hp):Prop|mk:f a O (vs=uh) Yv (R (Ite K a) a8) (jE K R vs a8)
def aQq(K:PySem.W.Frag)(d6:TA):TI:=qE (jE K R)
theorem aQr{d:PySem.W.Frag}{X:Cx}{e:Expr}{d6:TA}{p pos T:Pos}{c:fC}{B:Nat}(d8:aHt)(c4:aHA)(b3:QM)(c0:RA)(g:Bb):PI X bco (er "enumerate" [e]) (aQq d d6):=by rw[rD,JG];refine jB a2F rfl;rw[JS,w O ex e0 q d2,lW];cases r1 with|cons J C=>rw[nU,hM,a9 rv u (CM e0),qD u.isList (aCe a0 ?_),c (fI+1) [fI+1,fI] _ _ a8 (sh c3) (aQp a (fI+1) fI) (v (v ⟨.none,a0⟩ L (a2E _)) tX q)];have c1:fI<=b:=by{rw[el]};exact a96
theorem asi:vR "zip"=aa (.type "zip"):=cB
noncomputable def Itz(K:PySem.W.Frag)(a b:Addr):It:=gi (∃(O d7:af)(x y:V),N jg aJ1 nh (A d7 y)) (∃T x y,v=al8/\Y T/\L=ad T ZT/\ad O jg nh/\E d7 aJ1 (A d7 y)) (∃O d7:af,jg/\aJ1/\(bx<=i\/oQ<=i))
inductive jZ(K:PySem.W.Frag)(R:rK)(vs:af)(a8:Hp):Prop|mk:o4 (R (Itz K a b) a8) (jZ K R vs a8)
def aQs(K:PySem.W.Frag)(d6:TA):TI:=qE (jZ K R)
universe L2
section z
namespace Bits
open PySem PyProof.Rows
universe Bits
universe z
section z
namespace TL
open PySem PySem.Builtin PySem.Builtin.Str PySem.StrLaws
universe TL
universe z
namespace L2
open PySem PySem.Spec PyProof.Rows
section z
variable{X:Cx}{pins:bw}{M:St}{H:Hp}{s:Shared}{Q:VK}
universe z
section z
variable{X:Cx}
universe z
section z
variable{X:Cx}{o e:Expr}{C b8:TE}
universe z
universe L2
namespace L2
open PySem PySem.Spec PyProof.Rows
section z
variable{X:Cx}
universe z
universe L2
namespace Att
open PySem PySem.W PySem.Calls PyProof.Rows
section z
variable{prog:Program}{w:World}{A:Around}{E:aU}{s:Shared}{K:Frag}
universe z
universe Att
namespace L2
open PySem PySem.Spec PyProof.Rows
universe L2
namespace L2
open PySem PySem.Spec PyProof.Rows
universe L2
namespace L2
open PySem PySem.Spec PyProof.Rows
abbrev sh:ml:=i8 cE
abbrev E0:XK:=JO
theorem fp{X:Cx}:a2G sh X E0:=iN h Hj
structure K0(K:PySem.W.Frag)(x j:Str)(st:Stmt)(f:Addr)(fd:FuncData):Prop where
 ex:∃(D:Value)(m:nf)(kV p b3:Value)(g:nf)(e3 ct:Value)(z:Eu),fd=j1 x j/\B_ fd/\aLA
 kp:aIf
section z
variable{P:Program}{w:World}{K:PySem.W.Frag}{mg:dM}{base:Heap}
theorem K0.ok{x j:Str}{st:Stmt}{f:Addr}{fd:FuncData}{N c5:cX}{k:Nat}{e8:Sp}(F:jp j fd)(r:apE)(len:alr)(l:∀(e3:Value)(A:Around)(outer:ka)(s:Shared)(H:Hp)(vs:af)(Q:VK)(E:XK),e8 (ahf j Eb aO f e3) (yB sh P w K mg aj N j Eb f e3 A ez s H E).Ky (RM st)):f1 sh (k+1) fd:=by rw[biW];refine aO1 lk S r len (fun A ez s H vs Q E a6 C=>?_);rw[aJ t h (l e3 A ez s H vs Q E a6 C)];exact v t h.Ky q
theorem K0.binds{x j:Str}{st:Stmt}{f:Addr}{fd:FuncData}{c5:cX}(F:jp j fd)(h:hR x j):aaB:=by rw[biW];exact .all (h kV p b3 g e3 ct)
theorem aQt{x j:Str}{st:Stmt}{f:Addr}{D:Value}{m g:nf}{z:Eu}{kV p b3 e3 ct:Value}(l:B_ (j1 x j))(c:aLA)(k:aIf):jp j (j1 x j):=⟨a D m kV p b3 g e3 ct (bj z l c),k⟩
universe z
theorem aQu{A:Around}{k:Nat}(a6:JP):JY:=fb (a0W (ay:1<=64) _) wj
section z
variable{X:Cx}
theorem pv(i:Nat){x:Str}{pos:Pos}(hN:ce ya)(d3:ey aos ahD)(hd:mf)(S:a8g):M (gM pos) (ho i):=aNF hN d3 hd S
universe z
theorem bjn{A B:Prop}(h:B):lk ai:=bB
theorem asj{A B:Prop}(h:A):lk ab:=bB
theorem fF{c A B:Prop} [Hu c](a3:c->A)(a9:¬c->B):if c then A else B:=ah
theorem adP{c A B:Prop} [Hu c](b0:c)(h:B):lk (! cv c):=ag
def cZ(H L:Hp):Prop:=hr (H b) aly
theorem cZ.refl(H:Hp):cZ H H:=fun _ _ h=>h
theorem cZ.trans{H a8 b7:Hp}(a:cZ H a8)(b:cZ a8 b7):cZ H b7:=fun c o h=>b c o (a c o h)
theorem cZ.free{H L:Hp}(e:bQ){l:Addr}(h:L l=a2H):H l=a2H:=by cases q:H l with|none=>{rfl}|some o=>rw[m1 (e l o q)]
theorem cZ.seq{K:PySem.W.Frag}{H L:Hp}{a:Addr}{O:af}(e:bQ)(h:jg):fW K L a O:=q4 (e _ _ h) (e _ _ h)
section z
variable{c:Type} [we c]
theorem asl:∀{l:bL c}{k:c},zv->¬k∈l->c7 (l++[k])|[],k,_,_=>aQ|a::J,k,h,c3=>cq
universe z
theorem at_of{O:af}{z:Int}{j:Nat}{v:V}(e:z=v j)(h:ans):sr z:=t e (dX h)
theorem F8{I:Type}{l:ba}(hN:l.Nodup){i j:Nat}{x:I}(a:xN)(b:Ep):i=j:=bgP
universe L2
namespace GM
abbrev Ln:=fz
theorem asm{a b x y z:Int}(a3:a+b*x<=0)(a9:a+b*z<=0)(S:gu)(c9:y<=z):a+b*y<=0:=by rcases aCg 0 b with U|U;rw[cb (VF c9 U) (jS a9),cb (aCf U S) (jS a3)]
theorem aQv{a b x y z v:Int}(a3:a+b*x<=0)(a9:a+b*z<=0)(e2:a+b*x<0\/a+b*z<0)(S:gu)(d3:y<v)(c9:v<=z):(a+b*y)+(a+b*v)<0:=by have b4:=gN y S (x (eW (a11 d3 c9)));have b9:=gN v (x (eW (Int.lt_of_le_of_lt S d3))) c9;rw[bs b U U U];{have:b*v<b*y:=aCh d3 U;exact rX b4 b4 this};{rw[el]};{have:b*y<b*v:=ahE d3 U;exact rX b9 b9 this}
structure Arr where
 n:Nat
 lines:cI
 k:ee
 u:ee
 X:Ln->Int->Int
noncomputable def top2(e f:Ln):Nat:=min e.2 f.2
noncomputable def iD(e f:Ln):Nat:=max e.1 f.1
structure Arr.Ok(R:Arr):Prop where
 lt:km (Yl/\e.2<R.n)
 nd:R.lines.Nodup
 km:l i j (i<j) (j<R.n) (R.k i<R.k j)
 BG:km (yF (R.X e x))
 lo:km (e9 e.1=R.u e.1)
 hi:km (e9 e.2=R.u e.2)
 on:km (pi (e9 v) (R.u v))
 nc:km (∀f∈gE,kE<g_->aKX->e9 g_<=mY g_)
structure mn(R:Arr)(e f:Ln):Prop where
 ov:kE<g_
 b:e9 kE<=mY kE
 t:e9 g_<=mY g_
 s:aKX\/e9 g_<mY g_
theorem Arr.Ok.kle{R:Arr}(Y:R.Ok){i j:Nat}(h:i<=j)(b8:j<R.n):R.k i<=R.k j:=by rw[eL (qO h),l (eW (Y.km i j h b8))];simp[*]
theorem Arr.Ok.diff{R:Arr}(Y:R.Ok){e f:Ln}(a0:lV)(W:ZP):yF (R.X e x-R.X f x):=by rw[ak b h (Y.BG e a0)];obtain⟨c,d,g⟩:=Y.BG f W;rw[aa (a-c) (b-d) Jf];rw[h,g];grind-abstractProof
theorem mn.le{R:Arr}(Y:R.Ok){e f:Ln}(a0:lV)(W:ZP)(h:aaL){z:Int}(a3:P0<=z)(a9:z<=P1):R.X e z<=R.X f z:=by rw[ak b g aJE];have b4:=g P0;rw[gr (g P1)];have e7:=g z;have:=asm (a:=a) (b:=b) (x:=P0) (z:=P1) (y:=z) bax bay a3 a9;exact jS e7.m
theorem mn.two{R:Arr}(Y:R.Ok){e f:Ln}(a0:lV)(W:ZP)(h:aaL){y z:Int}(a3:P0<=y)(a9:y<z)(e2:z<=P1):R.X e y+R.X e z<R.X f y+R.X f z:=by have⟨a,b,g⟩:=aJE;have b4:=g P0;rw[gr (g P1)];have e7:=g y;have g5:=g z;have:=aQv (a:=a) (b:=b) (x:=P0) (z:=P1) (y:=y) (v:=z) bax bay (by have:=h.s;grind) a3 a9 e2;exact rX e7.m this g5.m
theorem mn.asymm{R:Arr}{e f:Ln}(h:aaL)(g:mn R f e):cE:=by have a:iD f e=kE:=a2J _ _;have b:oU f e=g_:=a2I _ _;have e2:=h.s;have g7:=g.b;have g8:=g.t;rw[el]
theorem aQw{R:Arr}(Y:R.Ok){e f:Ln}(a0:lV)(W:ZP)(h:e.1=f.1)(c6:e9 g_<mY g_):aaL:=by have le:=jd;rw[bJ (eb f W)];have U:kE=e.1:=by{delta iD;simp[*]};have b4:=wk e a0;rw[gr (wk f W)];rw[<-h]at b9;rw[w ?_ ?_ (eW c6) (.inr c6)];{delta iD oU;rw[h,Nat.max_self];exact aCi ⟨h▸le.1,m.1⟩};simp_all
theorem asn{R:Arr}(Y:R.Ok){e f:Ln}(a0:lV)(W:ZP)(ov:kE<g_)(h:aKX):aaL:=d ov (eW h) (Y.nc e a0 f W ov h) AB
abbrev Row:=aO Ln Nat
noncomputable def dj:gH Row Nat|g,[]=>g|_,(_,g)::J=>dj g J
def hp(P:J2):au Nat Row|_,[]=>gA|g,(e,g')::J=>aIZ/\hp P g' J
noncomputable def du(g:Nat)(Z:Row):ao:=g::ahF eY
noncomputable def linesOf(Z:Row):cI:=ahF fM
theorem ot:Ia (dj g (Z++d5)=dj JT d5)|[],d5,g=>rfl|(e,g')::Z,d5,g=>ot Z d5 g'
theorem ou{P:J2}:Ia (hp P g (Z++d5)↔fv P/\hp P JT d5)|[],d5,g=>eJ hp dj|(e,g')::Z,d5,g=>by simp[hp,dj,ou Z d5 g',and_assoc]
theorem hp.mono{P Q:J2}:fX (∀g e g',(e,g')∈Z->aIZ->Q g e g') (fv P) Q|[],_,_,_=>fY|(e,g')::Z,g,h,⟨a,b⟩=>⟨h g e g' bK a,b.mono (fun g7 b4 g8 m=>h g7 b4 g8 rq)⟩
theorem hp.adQ{P:J2}:jz (fv P) (de pS (Fk (P g7 e g8)))|[],_,_,e,h=>kc bH|(e,g')::Z,g,⟨a,b⟩,f,h=>by rw[jv bH];rcases h with rfl|⟨q,h⟩;rw[l (a g bK g' og a)];{rw[vc (b.adQ f (hC bH (io q))),j g7 ?_ g8 ?_ h];{rw[O1]};{rw[O1]}}
theorem si:∀(Z:Row)(g:Nat),JT∈dR Z|[],g=>aGT|(e,g')::Z,g=>by have:=si Z g';simp[dj,du]at this⊢;rw[eL this,co AS];exact o7 bG
theorem hp.swap{P:J2}{Z:Row}{g h:Nat}(q:j e g' aIZ (P h e g'))(c:fv P):hp P h Z:=by cases Z with|nil=>{trivial}|cons a J=>rw[i5 (q _ _ c.1) c.2]
noncomputable def cR(i:dA):anC|[]=>0|e::J=>i e+dL J
theorem SI(i:dA){a b:cI}(h:a.Perm b):dL a=dL b:=by induction h with|nil=>{rfl}|cons x _ d6=>{simp[cR,d6]}|swap x y l=>{simp[cR];simp+arith [*]}|trans _ _ a b=>exact a.trans b
def Wp(i:dA)(w:ee)(g:Nat)(e:Ln)(g':Nat):Prop:=w g=i e+w g'
theorem adR{i:dA}{w:ee}:∀{Z:Row}{g:Nat},Zd->w g=dL pS+w JT|[],g,_=>bx bH cR dj|(e,g')::Z,g,⟨a,b⟩=>by have:=adR b;delta Wp at a;simp[bH,cR,dj]at this⊢;simp+arith [*]
noncomputable def iE:i cI Nat Nat Row|[],_,_=>[]|[e],_,J=>[(e,J)]|e::f::a7,c,J=>(e,c)::a'q
theorem mq:In (bH Q9=N)|[],c,J=>rfl|[e],c,J=>rfl|e::f::a7,c,J=>by have:=mq EH (c+1) J;simp[iE,bH]at this⊢;exact this
theorem aso:DA (N≠[]->dj g Q9=J)|[],c,J,g,h=>aIr|[e],c,J,g,_=>rfl|e::f::a7,c,J,g,_=>by simp[iE,dj];exact aso EH (c+1) J c Rp
theorem asp:In (aK Q9 (x.2=J\/(c<=x.2/\x.2+1<c+iP)))|[],c,J,x,h=>kc iE|[e],c,J,x,h=>by{rw[jv iE];(constructor<;>(subst_vars;rfl))}|e::f::a7,c,J,x,h=>by rw[jv iE,aoh];{simp};{rw[eL (asp EH (c+1) J x h),l AS];grind-abstractProof}
theorem asq{i:dA}{w:ee}{d:Int}:DA (b (w J) d (w g=d+dL N) (ad j (j+1<iP) (w (c+j)=d+dL (N.drop (j+1)))) (N≠[]) (hp (Wp i w) g Q9))|[],c,J,g,_,_,_,h=>aIr|[e],c,J,g,a3,a9,_,_=>by{rw[lK fY];delta Wp;rw[a3,a9];simp[cR];simp+arith [*]}|e::f::a7,c,J,g,a3,a9,e2,_=>by have a:=e2 0 AG;simp at a;rw[lK (asq EH (c+1) J c a3 a Rq Rp)];{delta Wp;rw[a,a9];simp[cR];simp+arith [*]};rw[i1 (e2 (j+1) (x (Vm b8)))]
structure Sw where
 row:Row
 cnt:Nat
 aP:cD
 side:amE
noncomputable def merge(aP:cD)(a b:Nat):cD:=ab (v kM FE aal kM)
noncomputable def mr:i Nat Row Ln (bZ fz)|_,[],_=>ae|g,(f,g')::J,e=>av (e=f) (g,g') (mr g' J e)
structure Step(R:Arr)(v:Nat)(s c1:Sw)where
 A:Row
 E:Row
 B:Row
 N:cI
 row:oV=hI E
 hA:h1 A (e9 v<R.u v)
 hE:h1 E (e.2=v)
 hB:h1 B (R.u v<e9 v)
 hN:eL N lV e.1
 sN:a74
 bjo:c1.row=hI a'I
 K1:ahG=ec+(iP-1)
 lab':Hv=pu hh (dj hh E)
 adS:M5=oY hh a'I
def Kept(R:Arr)(i:dA):Prop:=E v (v<R.n) (dL (lB e.2)=dL (lB e.1))
def Sp(s:Sw)(g:Nat)(e:Ln)(g':Nat):Prop:=eK g=eK Y2/\eK g'=eK amr
structure Inv(R:Arr)(t:Nat)(s:Sw):Prop where
 mem:∀e,e∈tM↔aGf
 dO:eQ tM (mn R)
 pos:0<ec
 gap:∀g∈du 0 oV,g<ec
 bjp:E x (x<ec) (eK x<ec)
 adT:E x (x<ec) (eK x<=x)
 K2:E x (x<ec) (eK (eK x)=eK x)
 last:eK (dj 0 oV)=0
 al:hp (Sp s) 0 oV
 aQx:km (jQ->Y2<ec/\amr<ec)
 SJ:E x (x<ec) (x=0\/fr gE (jQ/\(Y2=x\/amr=x)))
 zero:0<t->(anI)->fr gE (e.1=0/\Y2=0)
universe GM
namespace GM
theorem hq(a b:Row):bH (a++b)=bH a++bH b:=ar bH
theorem asr:qO (e∉pS) (mr g Z e=ae)|[],_,_,_=>rfl|(f,g')::Z,g,e,h=>by rw[jv bH];simp[mr,h.1];exact asr (hC bH h.2)
theorem ass:jz (c7 pS) (fv (fun g7 e g8=>bev))|[],_,_=>fY|(f,g')::Z,g,h=>by rw[jv bH,v (x cO) (bN (ass (Z:=Z) (g:=g') (hs bH h.2)) (fun g7 e g8 m q=>?_))];have:e≠f:=ai (h.1 g8 (q▸m));simp[mr,this];exact q
theorem asu:qO (e∈pS) (Fk bev)|[],_,_,h=>kc bH|(f,g')::Z,g,e,h=>by rw[T e f,l (a g bK g' og (x kO))];{have:e∈pS:=by{simp[bH]at h⊢;simp_all};rw[vc (asu (g:=g') this),j g7 ?_ g8 ?_ (bx mr q h)];{rw[O1]};{rw[O1]}}
theorem adU(aP:cD)(a b:Nat):or a=or b:=by delta sX;grind-abstractProof
theorem asv{aP:cD}{a b x:Nat}(h:kM=0):or x=0:=by delta sX;split<;>simp_all
theorem aQy{aP:cD}{a b x y:Nat}(h:kM=aP y):or x=or y:=by delta sX;rw[h]
theorem SK{R:Arr}:k5 (oW (mn R)) zv:=fun{l}h=>h.imp (fun{a b}q e=>by rw[bY];exact q.asymm q)
theorem ow(g:Nat)(a b:Row):e3 (x∈dR (a++b)↔x∈dR a\/x∈du (dj g a) b):=by intro x;simp only[du,fe,hC,hy];have:E y (y=dj g a) (y=g\/y∈a.map eY):=fun y h=>by{have:=si a g;rw[h];rw[oS du]};constructor;rw[cL];grind-abstractProof
variable{R:Arr}{t:Nat}{s c1:Sw}
theorem Step.asw(r:lj){x y:Nat}(S:x<ec)(b6:y<ec)(h:eK x=eK y):Hv x=Hv y:=by rw[oX];split;rw[l (aQy h),aZ]
theorem Step.ox(r:lj):ec<=ahG:=t r.K1 xH
theorem Step.aQz(r:lj){e:Ln}(h:e.1≠t):M5 e=wm e:=by rw[r.adS];have:e∉bH aaH:=by{rw[mq];rw[fS];exact h (x (sY e) q).2};simp[asr this]
theorem Step.asx(r:lj):r.N.Nodup:=SK r.sN
theorem Step.aQA(r:lj)(I:yj):lP<ec:=by refine Hw _ ?_;rw[sZ,ow];exact al_
theorem Step.aQB(r:lj)(I:yj):lT<ec:=by refine Hw _ ?_;rw[sZ,ow,ow];exact .inr al_
theorem Step.adV(r:lj)(I:yj):∀g∈du lP aaH,g<ahG:=by rw[du g];simp only[du,hC,fJ]at h;rw[cy ame,cb amf,cl r.ox];rcases h with rfl|⟨x,S,rfl⟩;rw[l pN];{rw[eL (asp _ _ _ x S),l (fb h.l (fH b c)),Z r.K1 (cf h.2 (aS r.N.length 1))]}
theorem Step.aQC(r:lj){x:Nat}(h:ec<=x)(S:x<ahG):Hv x=x:=by rw[oX];have:r.N≠[]:=by{rw[fS];have:=r.K1;rw[am q,uk];exact yr h S this.l};rw[tT,a9k]
theorem Step.F9(r:lj):hp (fun g e g'=>M5 e=(g,g')) lP aaH:=by refine bN (ass (t mq r.asx)) (BT ?_);rw[r.adS];simp[h]
theorem asy:∀(N:cI)(c J j:Nat),j+1<iP->fr N ((e,c+j)∈Q9)|[],c,J,j,h=>ah|[e],c,J,j,h=>ah|e::f::a7,c,J,j,h=>by cases j with|zero=>{exact v e bK (x fu)}|succ j=>rw[aJ d3 m (asy EH (c+1) J j (x (a2K h))),ak d3 (x (ck bG))];simp[iE];grind-abstractProof
theorem asz{P:J2}:jz (fv P) (∀{e:Ln}{x:Nat},(e,x)∈Z->∃y,P y e x)|[],_,_,e,x,h=>ah|(f,g')::Z,g,⟨a,b⟩,e,x,h=>by rw[lX];rcases h with⟨rfl,rfl⟩|h;rw[cL,l (asz b h)]
theorem asA(Y:R.Ok)(c6:Qv)(I:yj)(r:lj):Inv R (t+1) c1:=by rw[bhW];have o:bH c1.row=alw++(r.N++alx):=by{rw[Hz,hq,hq,mq]};rw[m6 i alw,m6 H AF,m6 j alx,c1 p alw (i e h) (r.hA e h),c1 u alx (j e h) (r.hB e h)];have dO:=M8;rw[n]at dO;rw[qQ,qQ]at dO;obtain⟨c0,⟨sE,v,K⟩,L⟩:=dO;have al:=I.al;rw[sZ,ou,ou]at al;rw[dO M C al];have X:=ame;have i7:=amf;have e9:=r.ox;have b3:=Hw;rw[sZ]at b3;have w:=bah;have N:=v7 (yD AB);rw[b2 a8M];have keep:∀{g:Nat}{e:Ln}{g':Nat},j lV jQ (g<ec) (g'<ec) (Sp s g e g') (Sp c1 g e g'):=by{intro g e g' a0 a3 d8 E⟨d2,q2⟩;have sl:=Hy e a0 a3;delta Sp;rw[Hx aHe];exact⟨r.asw d8 sl.1 d2,r.asw E sl.2 q2⟩};have A:∀{Z:Row}{g:Nat},i (bk (dR Z) (x<ec)) (V e pS aGf) (fv (Sp s)) (fv (Sp c1)):=by{intro Z;induction Z with|nil=>{intros;trivial}|cons a J d6=>intro g d8 a0 b0;rw[fE g' a,bJ (a0 e bK),v (en m.1 An (d8 g bK) (d8 g' og) b0.1) (d6 (aJ (d8 x ?_)) (aJ (a0 x ?_)) b0.2)];{simp[du]at S⊢;exact .inr bG};{simp[bH]at S⊢;exact .inr S}};rw[Ch baD];{intro e;rw[o];simp only[hy];constructor;{rintro(h|h|h);rw[cw (i e h).1 (wd (aV (i e h))) (p e h)];{rw[cy (x (sY e) h)];have:=eb e a.1;exact v a.1 ag (fv a.2.g et)};exact v (j e h).1 (wd (aV (j e h))) (u e h)};{rw[aLi,T e.1 t,co (.inl (ae (sY e) ⟨a3,q⟩))];{have:=ae ir (v a3 (cw a9 q) ej);rw[am n,pp hy,A0 this,Fl];{have:=r.hE e h;rw[el]};rw[co (.inr bG)]}}};{rw[o,qQ,qQ];rw[aa c0 (v r.sN v (fun f W e a0=>?_)) (fun e a0 f W=>?_)];{rw[a_1,cb (j e a0),cl (u e a0)];have d:=eb f a.1;rw[oX (iD f e) (VG (ew b.2.1))];refine asn Y a.1 b.1 (t U (aCi ⟨a.2▸d.1,c⟩)) ?_;rw[U,<-a.2,wk f a.1,a.2];exact r.hB e a0};{simp only[hy]at W;rcases W with W|W;{rw[a_1,cb (i e a0),cl (p e a0)];have d:=eb f a.1;rw[oX kE (HA (ew b.2.1))];refine asn Y b.1 a.1 (t U (aCi ⟨c,a.2▸d.1⟩)) ?_;rw[U];have:=wk f a.1;rw[am a.2];rw[this];exact r.hA e a0};rw[aZ]}};rw[l (cf e9 X)];{rw[du g];rw[Hz,ow,ow]at h;rw[A0 h,l (fH (w g h) e9),l (r.adV I g h)];{rw[T r.N []];{rw[aj q];simp only[iE,dj,du,hC]at h;rw[eL h,l (fb h.l (fH X e9)),cb (l g (by simp only[du,hC];exact .inr h)) pN]};{rw[aj RJ];have:=l g h;exact cn this e9}}};{intro x S;rw[an8];{rw[gv (M7 x b0)];rw[oX];split;{rw[fe (M7 _ X)];have e2:=M7 _ i7;delta sX;rw[a8i]};rw[ER]};rw[Z aLj S]};{intro x S;rw[an8];{rw[gv (I.adT x b0)];rw[oX];split;{delta sX;rw[a8i]};rw[aZ]};rw[Z aLj a_]};{intro x S;rw[an8];{rw[gv (I.K2 x b0)];rw[oX];split;{delta sX;rw[T (eK x) a98];{rw[aII,cZ (M6 (eK lP) (eK lT))];{rw[qP z,(I.K2 _ X)];rw[am2]};{rw[Dc z,(I.K2 _ i7)];rw[am2]}};rw[aZ]};rw[aZ]};{have:=aLj;rw[this,this]}};{rw[f0 I.last];rw[sZ,ot,ot]at a5;rw[Hz,ot,ot];rw[aJ0];{rw[oX,aK q,q];rw[aou];cases hB:r.B with|nil=>{rw[an5,an9,J adU (asv a5)]}|cons a J=>rw[f0 g a,an5,an9];exact asv a5};{rw[RJ,oX,bj q];have:=l _ (si r.B _);simp[this,a5]}};{rw[Hz,ou,ou];rw[ak (A w i B) (r.F9.mono (BT ?_))];{delta Sp;rw[h];exact xG};{have base:=A l j C;rw[T r.N []];{rw[q];rw[aou];refine base.swap (fun e g' h=>lG h.2);rw[<-h.1,oX,aK q];exact adU _ _ _};rw[Z RJ aj]}};{intro e a0 a3;rw[T e.1 t];{rw[z m (e∈bH aaH) mq a8J,vc (asu (g:=lP) m)];have b4:M5 e=(g7,g8):=by{rw[r.adS];simp[h]};rw[b4];exact⟨r.adV I _ g9,r.adV I _ e1⟩};{rw[Hx q];have:=Hy e a0 bM;rw[Ff]}};{intro x S;rw[an8];{rcases I.SJ x b0 with h|⟨e,a0,a3,a9⟩;rw[l AS,co (d e a0 Jd (t (Hx aHe) a9))]};{rw[aJ e m (asy r.N ec lT (x-ec) (bv r.K1 (Nat.add_lt_of_lt_sub (Nat.sub_lt_left_of_lt_add (zf b0) (this▸S))))),cR (show ec+(x-ec)=x by simp_all)];obtain⟨y,b6⟩:=asz r.F9 q;rw[cy (x (sY e) m)];exact bj e a.1 ag (.inr (iG b6))}};{intro _ b1;rw[T t 0];{rw[e_,gt a3 b1];have D:=ae (sY e) ⟨a0,a3⟩;have F:r.A=[]:=by{cases hA:r.A with|nil=>{rfl}|cons a J=>have:=i a.1 (mr hA bH);simp_all};cases hN:r.N with|nil=>{rw[zy hN]}|cons f G=>have k:=x (sY f) ag;rw[bZ f k.1 k.2,cl r.F9];rw[hN,F]at c;cases G with|nil=>{rw[bf8]}|cons h3 G=>rw[bf8]};{obtain⟨e,a0,a3,a9⟩:=I.zero amt b1;exact d e a0 a3 (t (Hx fk) a9)}}
theorem asB(R:Arr):Inv R 0 aLR:=by rw[Ch baD]<;>simp[bH,du,dj,hp]
universe GM
namespace GM
variable{R:Arr}
theorem hp.SM{i:dA}{w c5:ee}:fX (bk (dR Z) (c5 x=w x)) Zd (Wp i c5)|[],_,_,_=>fY|(e,g')::Z,g,h,⟨a,b⟩=>by rw[lK (b.SM (aJ (h x ?_)))];{delta Wp at a⊢;rw[h g bK,h g' og];exact a};{rw[O1]}
theorem hp.and{P Q:J2}:fX (fv P) (fv Q) (fun a e b=>P a e b/\Q a e b)|[],_,_,_=>fY|(e,g')::Z,g,⟨a,b⟩,⟨c,d⟩=>⟨⟨a,c⟩,b.and d⟩
structure Run(R:Arr)where
 st:dg Sw
 zero:st 0=aLR
 step:E t Qv (aCj R t (st t) (st (t+1)))
theorem Run.inv(J:kb)(Y:R.Ok):x5 (Inv R t (VH t))|0,_=>t J.zero (asB R)|t+1,h=>asA Y h Z8 (M9 t h)
theorem Run.ox(J:kb):∀{t t':Nat},t<=t'->t'<=R.n->EX<=(cA t').cnt:=by intro t t' h h';induction t' with|zero=>{simp_all}|succ m d6=>rw[T t (m+1),aZ,kn (M9 m bB).ox]
theorem Step.asC{t:Nat}{s c1:Sw}(r:lj)(Y:R.Ok)(I:yj)(e:Ln):e∈AF↔lV/\e.2=t:=by rw[bhW];constructor;{rw[eD];have:=x ir ag;exact⟨et,r.hE e h⟩};{rintro⟨a3,a9⟩;rw[b2 (eb e a3)];have:=ae ir (v a3 (bU l.1 a9.l) (x a9.g));rw[am n,pp hy];have hi:=wo e a3;rw[a9]at hi;rw[A0 this,nH (r.hA e h),l h,nH (r.hB e h)]}
theorem Step.asD{t:Nat}{s c1:Sw}(r:lj)(I:yj):eQ AF (mn R):=by have dO:=M8;rw[sZ,hq,hq,qQ,qQ]at dO;exact dO.2.1.1
theorem Step.asE{t:Nat}{s c1:Sw}(r:lj)(Y:R.Ok)(I:yj):eK AF (ahH (an (e.2==t))):=ol (HB (SK (r.asD I)) (VI _)) aLk
theorem Step.aQD{t:Nat}{s c1:Sw}(r:lj)(Y:R.Ok):r.N.Perm (ahH (an (e.1==t))):=ol (HB r.asx (VI _)) (sY e)
structure Flow(R:Arr)(J:kb)(i:dA)(t:Nat)(w:ee):Prop where
 zero:w 0=0
 F_:f x y am_ (y<EX) (gx x=gx y) (w x=w y)
 Ga:zo (hp (Wp i w) 0 aHX)
 last:zo (w (dj 0 aHX)=0)
 side:km (jQ->w ((cA t).side e).1=i e+w ((cA t).side e).2)
theorem mm{a b c:Nat}(h:c=max a b\/c=aak):c=a\/c=b:=cd (M6 a b) (cj (mL (.inr (ahI (HA k))) (.inl (ahI (qP k))))) (cj (mL (.inl (ahI (VG k))) (.inr (ahI (Dc k)))))
theorem adW(Y:R.Ok)(J:kb){i:dA}(K:M_ R i):x5 (∃w,a'z)|0,_=>by{rw[o ng rfl (mq rfl) a8V lO (fun e _ h=>ah)];have:t'=0:=ah;rw[gm];rw[J.zero];trivial}|t+1,c6=>by rw[j7 F (adW Y J K t ej),eM Z8];have r:=M9 t c6;have X:=ame;have i7:=amf;rw[cl (F.Ga t a_)];rw[sZ,ou,ou]at c;rw[bJ p e6 c];have k:=adR p;have eq:dL AF=dL r.N:=by{rw[SI i (r.asE Y I),SI i (r.aQD Y)];exact K t c6};have b3:=Hw;rw[sZ]at b3;have l:=a8M;let c5:ee:=eb am_ (w x) (w lT+dL (r.N.drop (x-EX+1)));have d:E x am_ (c5 x=w x):=fun x h=>cq;have a7:zo (∀g∈du 0 aHX,c5 g=w g):=fun t' h g m=>by{rw[cy ((zw Y t' (h3 (fb h c6))).gap g m),cb (J.ox h ej)];exact d g aJ6};have u7:r.N≠[]->hp (Wp i c5) lP (iE r.N EX lT):=ai (by refine asq (d:=w lT) _ _ _ _ (d _ i7) ?_ Rq q;{simp+arith [*]};grind-abstractProof);rw[du c5 ?_ Pf,Z (d 0 VJ) ahK];{intro x y S b6 h;rw[T r.N []];{have b0:(cA (t+1)).cnt=EX:=by{rw[r.K1,q];exact HC _};rw[b0]at S b6;rw[d x S,d y b6];rw[oX,aK q]at h;rw[q]at eq;have c0:w lP=w lT:=by{rw[k,eq];simp[cR]};have O:o z (z<EX) (gx z=max (gx lP) (gx lT)\/gx z=min (gx lP) (gx lT)) (w z=w lP):=by{rw[bZ z c9];have:gx z=gx lP\/gx z=gx lT:=mm h;rw[eL this,l (lD c9 X),Z c0 (lD c9 i7)]};rw[a4 sX,eH,cL];{next a3=>rw[eH,cL,l (lD S b6)]}};{rw[oX,bj q]at h;by_cases j0:am_;{have:=M7 x j0;by_cases u:y<EX;{simp only[j0,u,mJ]at h;rw[d x j0,d y u];exact lD j0 u};simp_all};{by_cases u:y<EX;rw[nH (M7 y u)];simp_all}}};{rw[du t',T t' (t+1)];{rw[e_];rw[Hz,ou,ou];rw[ak (o.SM (aJ (d x ((bah) x S)))) ?_];{rw[T r.N []];{rw[q];trivial};rw[aZ]};{have n:=e6.SM (aJ (d x (l x S)));rw[T r.N []];{rw[q];rw[aou];refine n.swap (fun e g' h=>?_);rw[q]at eq;delta Wp at h⊢;rw[<-h,d _ X,d _ i7,k,eq];simp[cR]};rw[Z RJ n]}};rw[l ((F.Ga t' fk).SM (aJ (a7 t' fk x S)))]};{rw[du t',T t' (t+1)];{rw[e_,f0 (ahJ t a_)];rw[sZ,ot,ot]at a5;rw[Hz,ot,ot];rw[aJ0];{rw[q];rw[aou];cases hB:r.B with|nil=>{rw[an5,an9];rw[q]at eq;rw[d _ X,k,eq,a5];rfl}|cons a b=>rw[f0 g a,an5,an9];rw[d _ (l _ ?_)]at⊢;rw[cY];{rw[hB];have:=si ((f,g)::b) lT;rw[oS dj]}};rw[dq RJ (d _ (l _ (si _ _))) a5]};rw[Z (a7 t' fk _ (si _ _)) (ahJ t' fk)]};{intro e a0 a3;rw[T e.1 t];{rw[bJ a8J];obtain⟨g7,_,g8,_,a3,a9⟩:=(((u7 cq).and r.F9).adQ e (t mq m));rw[J a9 a3]};{rw[Hx q];have:=Hy e a0 (cw a3 q);rw[d _ et,d _ fj];exact F.side e a0 (cw a3 q)}}
def DC(aP:cD):dJ nD Nat|c,[],J=>c=J|c,(d,a)::l,J=>c=aP d/\DC aP (aP a) l J
theorem asF{aP:cD}{l m:nD}{c J:Nat}(h:z x (DC aP c l x) (DC aP x m J)):DC aP c (l++m) J:=by rw[cz x h g];induction l generalizing c with|nil=>{rw[sG g]}|cons a l i=>rw[i5 h.1 (i h.2)]
theorem asG{aP:cD}:A9 (aI9->DC aP J (aCk (ab (x.2,x.1))) c)|[],c,J,h=>x EV|(d,a)::l,c,J,⟨a3,a9⟩=>HR (asF (as (asG a9) rfl a3.symm))
theorem SN{aP:cD}:A9 (aI9->E i (i<d_) ((i=0->z x xN (c=aP x.1))/\ad x xN ((E y (K l (i+1) y) (aP x.2=aP y.1))/\(i+1=d_->aP x.2=J))))|[],c,J,h,i,hi=>ah|(d,a)::l,c,J,⟨a3,a9⟩,i,hi=>by cases i with|zero=>{rw[yU (au (v (d,a) (x a2L) a3)),PY];subst S;rw[v Q5 Y5];{simp at b6;obtain⟨⟨z,c9,b0⟩,_⟩:=And.intro ((SN a9 0 cq).1 rfl) fY;rw[c9]at b6;simp_all};{have:l=[]:=ah;rw[gm];exact a9}}|succ i=>rw[yU (c8 bB)];simp at S hi;have:=(SN a9 i hi).2 x S;rw[el]
noncomputable def BH(side:amE)(E N:cI):nD:=(aCl (an ((HD e).2,(HD e).1)))++N.map (an ((HD e).1,(HD e).2))
structure adX(R:Arr)(v:Nat)(s:Sw)(E N:cI):Prop where
 mE:eL E lV e.2
 sE:E.Pairwise (mn R)
 mN:eL N lV e.1
 sN:a74
 dc:∃c,DC eK c aIC c
theorem adY{s:Sw}:jz (fv (Sp s)) (DC eK (eK g) (L pS wm) (eK JT))|[],g,_=>rfl|(e,g')::Z,g,⟨a,b⟩=>by rw[dI a.1];rw[<-a.2];exact adY b
theorem adZ{aP lab':cD}(f:cD):A9 (bk l (lab' x.1=f (aP x.1)/\lab' x.2=f (aP x.2))->aI9->DC lab' (f c) l (f J))|[],c,J,_,h=>a8d|(d,a)::l,c,J,q,⟨a3,a9⟩=>by have:=q (d,a) bK;rw[dI ag,J fj (adZ f (aJ (q x rq)) a9)]
theorem Step.asH{t:Nat}{s c1:Sw}(r:lj)(I:yj):∃f:cD,E x (x<ec) (Hv x=f (eK x)):=by rw[aJ0];{rw[v (e7 (v y a98 (min (eK lP) (eK lT)) y)) (fun x _=>?_)];rw[oX,aK q];rfl};{rw[yU (e7 y)];rw[oX,bj q];exact kO}
theorem aQE{t:Nat}{s c1:Sw}(Y:R.Ok)(c6:Qv)(I:yj)(r:lj):adX R t c1 AF r.N:=by rw[j (r.asC Y I) (r.asD I) sY r.sN (as (Hv lT))];have al:=I.al;rw[sZ,ou,ou]at al;rw[f0 W (r.asH I)];have c7:=adZ (lab':=Hv) f (aJ (by simp only[fJ]at S;rw[bC e a0 S,jw aLk,b2 Ym];have:=Hy e m.1 (bU l.1 m.2.l);simp[*])) (adY al.2.1);rw[<-W _ ame,<-W _ amf]at c7;rw[fe (asG c7)];have b4:(L AF wm).reverse.map (ab (x.2,x.1))=(AF).reverse.map (an ((M5 e).2,(M5 e).1)):=by{rw[<-List.map_reverse,jw];rw[jM nO,bJ (x aLk ah),b2 Ym];rw[Hx (fX (yr z.g l.1 m.2.l))];rfl};rw[b4]at a9;refine asF (jl a9);rw[T r.N []];{rw[q];rw[oX,aK q];exact adU _ _ _};{have c:hp (Sp c1) lP aaH:=r.F9.mono (BT (sj Sp));have:=adY c;rw[bX mq RJ];exact this}
theorem asI(Y:R.Ok)(J:kb):x5 (E v (v<t) (∃E N,adX R v (VH t) E N))|0,_,v,h=>ah|t+1,c6,v,h=>by have I:=Z8;have r:=M9 t c6;rw[T v t];{rw[e_];exact av _ (aQE Y c6 I r)};{obtain⟨E,N,C⟩:=asI Y J t ej v (cw h q);rw[da d C.dc,f0 W (r.asH I),e E N VM C.sE VL C.sN (f c) ?_,ak hE E (lV/\jQ) (by rw[am4];have:=Ym;rw[el]),ak hN N (lV/\jQ) (by rw[am5,xo])];have f5:BH (cA (t+1)).side E N=BH (cA t).side E N:=by{delta BH;rw[dW,GF (hE e ah),GF (hN e a0)]};rw[f5];refine adZ f qk d;unfold BH at S;rw[beh];rcases S with⟨e,a0,rfl⟩|⟨e,a0,rfl⟩;rw[Id (hE e a0),Id (hN e a0)]}
universe GM
namespace GM
variable{R:Arr}
noncomputable def Gb(i c:dA):anC|[]=>0|e::J=>i e*c e+m2 J
theorem ad0{i c:dA}{w:ee}:Kt (j Zd (w JT=0) (bk (dR Z) alb) (hy pS Yw) a9v (w g*y<=m2 pS))|[],g,y,_,a5,_,_,_=>by{simp[dj]at a5;simp[a5,Gb,bH]}|(e,g')::J,g,y,⟨e5,e6⟩,a5,hw,c2,b6=>by have a3:hy (bH J) Yw/\a'S:=by{rw[beZ];grind-abstractProof};rw[ds (ad0 (y:=c e) e6 a5 bat a3.1 baj)];delta Wp at e5;rw[baA,bge];rw[b9,b4];rw[cZ e7 a'w bfw,bfU];exact rX g5 e7.n d6
theorem asJ{i c:dA}{w:ee}:Kt (c Zd (w JT=0) (bk (dR Z) alb) (hy pS Yw) (a9v->(∃p∈Z,0<w p.2)->w g*y<m2 pS))|[],g,y,_,a5,_,_,_,⟨p,c2,_⟩=>ah|(e,g')::J,g,y,⟨e5,e6⟩,a5,hw,c2,b6,⟨p,b3,C⟩=>by have a3:hy (bH J) Yw/\a'S:=by{rw[beZ];grind};have a:aK (du g' J) alb:=bat;delta Wp at e5;rw[baA,bge];rw[b9,b4];rw[bL e7 a'w bfw,bfU];simp at b3;have O:w g'*c e<m2 (bH J):=by{rw[dd b3 b3];{cases J with|nil=>{simp[dj]at a5;simp at C;simp_all}|cons q r2=>rw[f0 g8 q,ds (ad0 (y:=c f) e6 a5 a a3.1 (fun I t=>by simp[bH]at t;rw[dd t t];{simp};{have:=a3.1;rw[jt oY this];grind}))];have:w g'*c e<w g'*c f:=ahE (a3.2 f bK) C;exact aA4 bG bG};rw[l (asJ (y:=c e) e6 a5 a a3.1 baj (v p b3 C))]};exact rX g5 e7.n O
noncomputable def qy(R:Arr)(t:Nat)(e:Ln):Int:=e9 (t-1)+e9 t
noncomputable def BI(R:Arr)(t:Nat):Int:=R.k t-R.k (t-1)
noncomputable def vb(R:Arr)(i:dA)(t:Nat)(e:Ln):Int:=mn (jQ/\IX) a9c
noncomputable def jn(f:ee):ee|0=>0|n+1=>anp+f n
theorem ad1(f:gH Ln Int)(l:cI):∀n,jn (mK (cR (f t) l)) n=ct (jn (mK (f t e)) n) l|0=>by{simp only[jn];induction l with|nil=>{rfl}|cons a J d6=>simp[cR,<-d6]}|n+1=>by simp only[jn,ad1 f l n];induction l with|nil=>{rfl}|cons a J d6=>simp[cR,<-d6];lia-abstractProof
theorem BJ{i a:dA}:dy (V e l (i e=a e)) (dL l) (cR a l)|[],_=>rfl|e::J,h=>by have:=BJ (i:=i) (a:=a) (l:=J) anU;simp[cR,h e bK,this]
theorem Gd{i:dA}{p:Ln->cb}:l3 (dL (zx p)=ct (o1 (p e)) l)|[]=>rfl|e::J=>by rw[bC h (p e)];{simp[h,cR,Gd J]};{simp[h,cR,Gd J]}
theorem asK(Y:R.Ok){i:dA}{e:Ln}(a0:lV):E m (m<=R.n) (jn (mK (vb R i t e)) m=if m<=gg then 0 else i e*(e9 e.1+e9 (nA (m-1)))*(R.k (nA (m-1))-R.k e.1))|0,_=>bI|m+1,h=>by have l:=jd;rw[ak b g (Y.BG e a0)];simp only[jn,(asK (i:=i) Y a0 m ej)];by_cases a3:m+1<=gg;{rw[bL a9 m gg (ew bG),mp e2 (¬(e.1<m/\m<=e.2))];simp[a3,a9,vb,e2]};{by_cases e5:m<=e.2;{have f:e.1<m/\m<=e.2:=by{rw[xn]};rw[aC b3 (nA (m+1-1)) m kO];by_cases a9:m<=gg;{simp only[a3,a9,vb,f,b3,qy,BI,(eO),mJ,iR,and_self];grind-abstractProof};{simp only[a3,a9,vb,f,b3,(eO),qy,BI,mJ,iR,and_self,g];lia-abstractProof}};{rw[aC b3 (nA (m+1-1)) e.2 (Dp (m+1)),aC k (nA (m-1)) e.2 (Dp m)];simp only[a3,(eO),vb,(eO),b3,k,iR];rw[xo]}}
noncomputable def SO(R:Arr)(i:dA)(e:Ln):Int:=i e*((R.u e.1+R.u e.2)*(R.k e.2-R.k e.1))
theorem asL(Y:R.Ok)(i:dA):nS i=jn (mK aLQ) R.n:=by rw[ad1];refine BJ nO;rw[b2 jd];rw[asK Y a0 R.n a_];by_cases h:R.n<=gg;rw[Jp];{rw[aC b3 (nA (R.n-1)) e.2 (Dc (cf l.2 (aS R.n 1)))];rw[bj h,b3,wk e a0,wo e a0];delta SO;grind-abstractProof}
theorem asM{f:ee}:E n bc3 (0<=anp)|0,_=>ar jn|n+1,h=>by have:=bbg;have:=aJw;simp only[jn];lia-abstractProof
theorem asO{f:ee}:o n bc3 (z t (t<n) (0<f t)) (0<anp)|0,_,⟨t,h,_⟩=>ah|n+1,h,⟨t,a3,a9⟩=>by have a:=bbg;rw[cb aJw];simp only[jn];rw[T t n];{rw[fT]};rw[cb (asO n (fm (h t Jd)) (v t (cw a3 q) a9)) (a2M this b)]
theorem asP(Y:R.Ok)(J:kb)(i:dA){t:Nat}(c6:Qv):aLQ=Dm aoC:=by have I:=Z8;have p:eK aoC (ahH (an (cv (jQ/\IX)))):=by{rw[HB (SK M8) (VI _)];intro e;rw[ir];simp};have a3:l3 (Dm l=ct a9c l):=by{rw[rF];induction l with|nil=>{simp[Gb,cR]}|cons a b d6=>simp[Gb,cR,<-d6];grind-abstractProof};rw[a3,SI _ p,Gd];refine BJ aHz;delta vb;simp
theorem ad2(Y:R.Ok){t:Nat}{s:Sw}(I:yj)(c6:Qv)(b1:0<t):hy tM (qy R t e<qy R t f):=by refine vw M8;rw[u9 h,cy (x ir a0),a_0];delta qy;rw[bJ (eb f b.1)];refine h.two Y a.1 b.1 (ahN ?_ ?_) (Y.km _ _ (x (aR b1)) c6) (ahN ?_ ?_);{delta iD;exact Nat.max_le.mpr ⟨VD a.2.1,VD b.2.1⟩};rw[l (fb (qM t 1) c6)];{rw[Jc];exact a2N ⟨cV a.2.2,cV b.2.2⟩};{rw[Jc];exact fb (oP ahM ahL) m.2}
theorem aQF(Y:R.Ok)(J:kb){i:dA}{w:ee}(F:l8 i)(hw:aKm){t:Nat}(c6:Qv):0<=aLQ:=by rw[asP Y J i c6];rw[d3 b1 t];{subst b1;rw[J.zero];simp[bH,Gb]};{rw[eM Z8,cl (ad0 (c:=qy R t) (y:=(L aoC (qy R t)).head?.getD 0) (F.Ga t ej) (ahJ t (h3 c6)) (IH t) (ad2 Y I c6 amt) (by rw[gw (ad2 Y I c6 amt),Hw aoC]))];rw[ahK]at c;exact s_ (x (rW c)) (by delta BI;have:=Y.km (t-1) t fk c6;exact rW this)}
theorem aQG(Y:R.Ok)(J:kb){i:dA}{w:ee}(F:l8 i)(hw:aKm):0<=nS i:=t (asL Y) (asM _ (fm bgE))
theorem Run.aQH(J:kb)(Y:R.Ok){e:Ln}(a0:lV):((cA gg).side e).1∈du 0 ZI/\((cA gg).side e).2∈du 0 ZI:=by have l:=jd;have r:=M9 e.1 ZW;rw[vc (r.F9.adQ e (t mq (ae (sY e) (dx a0))))];rw[h,Hz];rw[i5 (yD (.inl g9)) (yD (.inl e1))]
theorem Run.asQ(J:kb){e:Ln}:∀{t:Nat},jQ->t<=R.n->(cA t).side e=(cA gg).side e|0,h,_=>ah|t+1,h,c6=>by rw[T e.1 t];{(subst_vars;rfl)};rw[Z ((M9 t c6).aQz q) (J.asQ (cw h q) ej)]
theorem aQI(Y:R.Ok)(J:kb){i:dA}{w:ee}(F:l8 i)(hw:aKm)(S:fr gE (0<w ((Ad).side e).1\/0<w ((Ad).side e).2)):0<nS i:=by rw[asL Y];refine asO _ (fm bgE) ?_;rw[gt h S,b2 jd,ak gg (fv l.1 l.2),aO c6 gg R.n (fb l.1 l.2),eM (zw Y gg ej)];rw[asP Y J i c6];rw[aj (J.asQ ej a_)];have g:=J.aQH Y a0;rw[gw (ad2 Y I c6 pT),cl (asJ (c:=qy R gg) (y:=(L (bH ZI) (qy R gg)).head?.getD 0) (F.Ga gg ej) (ahJ gg (h3 c6)) (IH gg) d1 (by rw[Hw (bH ZI)]) (by have:∃x∈du 0 ZI,0<w x:=cq;rw[lm c2 this];simp only[du,hC,fJ]at S;rcases S with rfl|⟨p,m,rfl⟩;rw[nH ahK];grind-abstractProof))];rw[ahK]at c;exact hD ah (by delta BI;have:=Y.km (gg-1) gg aQ c6;simp_all)
universe GM
namespace GM
variable{R:Arr}
noncomputable def rv(h:Ln):Ln:=(h.2,h.1)
def oy(R:Arr)(h:Ln):Prop:=h∈gE\/hg∈gE
theorem ad3(h:Ln):rv hg=h:=rfl
theorem oy.rv{h:Ln}(H:dF):cs hg:=H.symm
theorem oy.ne(Y:R.Ok){h:Ln}(H:dF):h.1≠h.2:=by rw[Kj,cb (eb _ H) (J (gv z.g et))];{have:=eb _ H;rw[hA ahO];exact J (gv z.l et)}
theorem oy.yE(Y:R.Ok){h:Ln}(H:dF):h.1<R.n:=by rw[Kj,cb (eb _ H) (js et fj)];{have:=eb _ H;rw[hA ahO];simp[*]}
theorem oy.BK(Y:R.Ok){h:Ln}(H:dF):h.2<R.n:=H.rv.yE Y
theorem oy.up(Y:R.Ok){h:Ln}(H:dF)(l:h.1<h.2):h∈gE:=by rw[Kj,l H];{have:=eb _ H;rw[hA ahO];lia-abstractProof}
theorem oy.dn(Y:R.Ok){h:Ln}(H:dF)(l:h.2<h.1):ahO h∈gE:=by rw[Kj,kn (eb _ H),l H]
noncomputable def sd(side:amE)(h:Ln):Nat:=if h.1<h.2 then(HD h).1 else(HD hg).2
noncomputable def ind(p:Prop) [Hu p]:Int:=mn p 1
noncomputable def BL(h e:Ln):Int:=Al-Am
noncomputable def fl:cI->Ln->Int|[],_=>0|h::l,e=>O2+ef l
def Walk:dJ cI Nat|a,[],b=>a=b|a,h::l,b=>h.1=a/\ta h.2 l b
theorem aQJ:∀{l m:cI}{a b:Nat},ta a (l++m) b↔z x (ta a l x) (ta x m b)|[],m,a,b=>ar ta|h::l,m,a,b=>by simp only[ahu,ta,aQJ (l:=l)];grind-abstractProof
theorem kn(i a:dA):l3 (ct (i e+a e) l=dL l+cR a l)|[]=>rfl|e::J=>Dj (kn i a J)
theorem BM(i:dA):l3 (ct (-i e) l= -dL l)|[]=>rfl|e::J=>Dj (BM i J)
theorem Ge:l3 (cR ng l=0)|[]=>rfl|e::J=>eJ cR (Ge J)
theorem K3(h:Ln):dy zv (ct Al l) (ind (h∈l))|[],_=>bI|e::J,nd=>by have n2:=AE;simp only[cR,(K3 h n2.2)];rw[T h e];{rw[e_];simp[ind,n2.1]};{simp[ind,q]}
theorem ad4(h:Ln){l:cI}(nd:l.Nodup):ct Am l=ind (hg∈l):=by rw[<-K3 hg nd];refine BJ aHz;delta ind rv;grind
theorem aQK(Y:R.Ok){h:Ln}(H:dF)(v:Nat):sE (lB e.2)-sE (lB e.1)=ind (h.2=v)-ind (h.1=v):=by have O:dy zv (cR (BL h) l) (ind (h∈l)-ind (hg∈l)):=fun{l}nd=>by{rw[a_b];show ct (Al-Am) l=_;rw[aLN];rw[this,kn,BM];rfl};rw[O (VI _),O (VI _)];rw[uW (H.ne Y)];{have e1:hg∉gE:=ai (l7 (eb _ q) (gv l et));simp[ind,(H.up Y l),e1]};{have e1:h∉gE:=ai (bv (eb _ q) (gv l et));have j5:(h.2,h.1)∈gE:=(H.dn Y l);simp[ind,e1,rv,j5];simp+arith [*]}
theorem asR(Y:R.Ok)(v:Nat):ti (an2->V h l dF->cR (fl l) (lB e.2)-cR (fl l) (lB e.1)=ind (b=v)-ind (a=v))|[],a,b,h,_=>by{rw[cH];have:fl []=ng:=bI;rw[this,Ge,Ge];simp}|h::l,a,b,⟨a3,a9⟩,H=>by have d6:=asR Y v a9 aJ2;have b4:=aQK Y (H h bK) v;rw[aKK];rw[this,kn,kn]at⊢;rw[el]
theorem ad5(Y:R.Ok){l:cI}{a:Nat}(W:ta a l a)(H:∀h∈l,dF):M_ R (fl l):=fun v _=>bv (asR Y v W H) (RT this)
theorem asS:k5 zv (∀e,ef l=ind (e∈l)-ind (rv e∈l))|[],_,e=>bI|h::l,nd,e=>by have n2:=AE;simp only[fl,(asS n2.2 e),BL];have e0:ind (e∈h::l)=Al+ind (e∈l):=by{delta ind;grind};have g0:ind (rv e∈h::l)=Am+ind (rv e∈l):=by{delta ind;grind};rw[e0,g0];simp+arith [*]
noncomputable def Run.lb(J:kb)(h:Ln):Nat:=(Ad).aP alD
structure Mp(R:Arr)(J:kb)(F:Fd):Prop where
 rot:qy (∃a5:ao,a5.Nodup/\(e3 (x∈a5↔cs JI))/\aP i x (fh a5->z y (K a5 (i_%aCm) y) (F (x,v)=(v,y))))
 aP:E h dF (wq (F h)=oa)
variable{J:kb}{F:Fd}
theorem Mp.half(d5:iB)(Y:R.Ok){h:Ln}(H:dF):cs (F h)/\(F h).1=h.2:=by rw[np h.2 (H.BK Y),h1 (h5 h.1 H.rv),ib b9 (nx i h.1 ag)];have e7:F h=(h.2,y):=b9;rw[J e7 (dx (x (mem y) (bO b6)))]
theorem aQM{n i j:Nat}(hi:i<n)(b8:j<n)(h:i_%n=(j+1)%n):i=j:=by rw[N a (i+1) n];{rw[N b (j+1) n,l (aQ2 a b.symm)];{rw[a,ahP,bam]at h;trivial}};{rw[N b (j+1) n];{rw[b,ahP,bdV]at h;trivial};{rw[bdV,bam]at h;simp_all}}
theorem asT{l:ao}(nd:l.Nodup){i j:Nat}{x:Nat}(hi:xN)(b8:Ep):i=j:=x (x (aCo bz nd) (hi.trans b8.symm))
theorem Mp.inj(d5:iB)(Y:R.Ok){g h:Ln}(G:cs g)(H:dF)(e:F g=F h):g=h:=by have b9:g.2=h.2:=by{rw[<-(VN Y G).2,<-(VN Y H).2,e]};rw[np h.2 (H.BK Y),aJ i hi (ib (h5 h.1 H.rv)),gB c4 (ib (h5 g.1 (bl b9 G.rv))),ib z (nx i h.1 ag)];obtain⟨d7,O,d3⟩:=nx j g.1 ag;rw[cZ h6 (F g) (h.2,d7),b2 h6 e];have c3:=YZ;rw[jW];have:=asT nd b6 O;have:=aQM hi b8 this;rw[gm];have:g.1=h.1:=ah;grind-abstractProof
theorem Mp.turn(d5:iB)(Y:R.Ok){v:Nat}(c:dA)(b0:o h dF (h.1=v) (c (F hg)=c h)){g h:Ln}(G:cs g)(H:dF)(g7:g.1=v)(a3:h.1=v):c g=c h:=by have d3:v<R.n:=by{rw[<-a3];exact H.yE Y};rw[np v d3];have all:∀(i:Nat)(x:Nat),fh a5->E y (K a5 0 y) (c JI=c (v,y)):=by{intro i;induction i with|zero=>{rw[ZA]}|succ i d6=>intro x S y b6;have m:i+1<aCm:=by{grind};have c9:A a5 (dx a5 ej):=dd ej;rw[aO d7 O (nx i _ c9)];rw[er m,S]at O;cases O;have D:cs (v,dx a5 (h3 m)):=x (mem _) (tb _);have:=b0 _ D rfl;rw[<-d6 _ c9 y b6,<-this];show c JI=c (F (a5[i],v));rw[e]};rw[aJ i hi (ib (h5 g.2 bz)),gB c4 (ib (h5 h.2 bz))];have c0:K a5 0 (a5[0]'(bU tx hi)):=dd bM;have b4:g=(v,g.2):=by{grind};rw[ms h (v,h.2)];rw[b4,b9,(all i g.2 bz _ c0),(all j h.2 bz _ c0)]
def K4(R:Arr):Prop:=∀P:mb,P 0->(l a b (cs rM) (P a) (P b))->qy (P v)
def asU(R:Arr)(v:Nat):Prop:=∀P:mb,∀s,c (s<R.n) (s≠v) (P s) (∀a b,c (cs rM) (a≠v) (b≠v) (P a) (P b)) (o x (x<R.n) (x≠v) (P x))
noncomputable def cc(side:amE)(w:ee)(l:cI)(h:Ln):Int:=w (sd HD h)-ind (h∈l)
theorem Run.bjq(J:kb)(Y:R.Ok){h:Ln}(H:dF):alD<(Ad).cnt:=by have I:=aIw;rw[I6];split;rw[oK (H.up Y l) (Hy _ m (b7 l fj)).1,oK (H.dn Y (bv (H.ne Y) (aV (cV (qq l)) this))) (Hy _ m Q7).2]
theorem aQN(Y:R.Ok){l:cI}{w:ee}(nd:l.Nodup)(W:l8 (fl l)){h:Ln}(H:dF):hI hg h:=by rw[ak O gE (hI (rv e) e) (by have lt:=jd;rw[cy (W.side e a0 aK9)];rw[asS nd]at a;delta cc sd;rw[bj (hC rv (ew lt.1)),aK lt.1];rw[ad3];simp+arith [*]),Kj,aZ,c9 (O _ H) ad3 aCp]
theorem asV(Y:R.Ok)(d5:iB){l:cI}{w:ee}{i:dA}(W:l8 i){h:Ln}(H:dF)(c4:h∈l↔F h∈l):hI (F h) h:=by delta cc;rw[(W.F_ _ _ (Dd Y (sI H)) (Dd Y H) (d5.aP h H))];simp[*]
theorem aQO(Y:R.Ok)(d5:iB)(C:K4 R){l:cI}{w:ee}(nd:l.Nodup)(W:l8 (fl l))(a5:E h dF (h∈l↔F h∈l)){g h:Ln}(G:cs g)(H:dF):hI g h:=by have d:∀v,∀{g h:Ln},c (cs g) dF (g.1=v) (h.1=v) (hI g h):=fun v g h G H g7 a3=>a2O Y (cc Ae w l) (fun x X _=>bj (asV Y d5 W ahQ (a5 _ ahQ)) (ph X)) G H g7 a3;have all:qy bew:=by{refine C (e1 bew) (fun x X e7 y c i8=>d 0 X c e7 i8) (fun a b k d6 x X e7 y c i8=>?_);rw[<-d6 rM k rfl y c i8,<-ph k];exact d b X k.rv e7 rfl};by_cases e:z y (cs y) (y.1=0);{obtain⟨y,c,i8⟩:=e;rw[all g.1 (G.yE Y) g G rfl y c i8,all h.1 (H.yE Y) h H rfl y c i8]};{exfalso;have:qy (v=0):=C (e1 (v=0)) rfl (fun a b k b3=>ah);exact e (v h H (this _ (H.yE Y)))}
universe GM
namespace GM
variable{R:Arr}{J:kb}{F:Fd}
noncomputable def it(F:Fd):gH Ln Ln|0,h=>h|m+1,h=>F (cF m)
noncomputable def ar(F:Fd):gH Ln cI|0,_=>[]|m+1,h=>h::ar F m (F h)
theorem Gf:FY (it F m (F h)=F (cF m))|0,h=>rfl|m+1,h=>eJ it (Gf m h)
theorem yF:Gg (cF (a+b)=it F a (cF b))|0,b,h=>ar it|a+1,b,h=>n7 it (yF a b h)
theorem aQP:∀{m:Nat}{h x:Ln},x∈uF↔z j (j<m) (kZ=x)|0,h,x=>ar ar|m+1,h,x=>by simp only[ar,hC,aQP (m:=m)];constructor;{rintro(rfl|⟨j,b8,e⟩);rw[l (bp 0 pT),l (v (j+1) ag (by rw[a6 Gf];exact e))]};{rw[ao6];cases j with|zero=>{rw[mT CP]}|succ j=>rw[o6 (ap j ah Gf e)]}
theorem BN:FY (t uF=m)|0,h=>rfl|m+1,h=>eJ ar (BN m)
theorem Gg:∀(m:Nat)(h:Ln)(j:Nat),j<m->aa (uF) kZ|0,h,j,b8=>ah|m+1,h,j,b8=>by cases j with|zero=>{rfl}|succ j=>simp[ar,Gg m (F h) j ah,Gf,it]
theorem aQQ(d5:iB)(Y:R.Ok){h:Ln}(H:dF):∀m,cs (cF m)|0=>H|m+1=>sI (dN H m)
theorem ad6(d5:iB)(Y:R.Ok):∀(m:Nat){g h:Ln},i (cs g) dF (it F m g=cF m) (g=h)|0,g,h,_,_,e=>e|m+1,g,h,G,H,e=>ad6 d5 Y m G H (ahR Y (dN G m) (dN H m) e)
theorem K5(d5:iB)(Y:R.Ok):∀(m:Nat){h:Ln},dF->ta h.1 uF (cF m).1|0,h,_=>rfl|m+1,h,H=>by rw[cy (VN Y H),ds (K5 d5 Y m a.1)];rw[a.2,Gf]at d6;exact bd d6
theorem SQ{I:Type} [we I]:∀{l m:ba},aMw|[],m,_,_=>x cT|a::l,m,nd,h=>by have n2:=AE;rw[ds (SQ (m:=a2Q a) n2.2 (aJ (ae (a2P (fun(e:x=a)=>n2.1 (e▸S))) (h x (ck S)))))];rw[aCq (h a fu)]at d6;exact mM d6 (h a fu)
noncomputable def SR(R:Arr):cI:=gE++R.lines.map rv
theorem aQR{h:Ln}:h∈SR R↔dF:=by delta SR oy;simp only[hy,fJ];constructor;{rintro(h|⟨x,S,rfl⟩);rw[l AS,co S]};{rintro(h|h);rw[l AS,co (bm h)]}
structure sj(F:Fd)(h:Ln)(m:Nat):Prop where
 pos:0<m
 ret:cF m=h
 min:o j (0<j) (j<m) (kZ≠h)
theorem aQS(d5:iB)(Y:R.Ok){h:Ln}(H:dF):z m Fu (m<=2*aCr):=by have ret:I d (0<d) (d<=2*aCr) (cF d=h):=by{rw[anD];have nd:c7 (ar F (2*aCr+1) h):=by{rw[VP,ahS];rw[aMN];rw[BN]at hi b8;rw[aLH];have b:=aKN;rw[dc ag a,dc ag b,bdr,ck i (j-i) (cF i) bhr];have:=yY this;exact f6 (d (j-i) (VO l) (cn alE (HE b8)) this)};have:=SQ nd (m:=SR R) (q6 (aQR.mpr anb));rw[am BN,hA SR];exact aF1 this};obtain⟨d,f,c5,c7⟩:=ret;have least:f n d (d<=n) (0<d) (cF d=h) (z m Fu (m<=d)):=by{intro n;induction n with|zero=>{intro d a b;simp_all}|succ n d6=>intro d a b c;by_cases q:I j (0<j) (j<d) (kZ=h);{obtain⟨j,u,v,w⟩:=q;rw[bW x y (d6 j (HE (fH v a)) u w)];exact v m x (cn y (ew v))};rw[cw d (v b c (fun j g k e=>q (d j g k e))) a_]};rw[bW x y (least d d a_ f c7)];exact v m x (cn y c5)
theorem sj.inj(d5:iB)(Y:R.Ok){h:Ln}(H:dF){m:Nat}(P:Fu){i j:Nat}(hi:i<m)(b8:j<m)(e:cF i=kZ):i=j:=by rw[aMJ];{rw[ck i (j-i) (cF i) bhr];exact cy (yY this) (ahT (j-i) (bn l (aS j i)) (fv alE b8))};rw[l l];{rw[ck j (i-j) kZ (m (j+(i-j)) i i j l i j)];exact cy (ad6 d5 Y j ale H this) (ahT (i-j) (bn (aS i j) l) (fv (qM i j) hi))}
theorem sj.nodup(d5:iB)(Y:R.Ok){h:Ln}(H:dF){m:Nat}(P:Fu){d:Nat}(hd:d<=m):c7 (ar F d h):=by rw[VP,ahS];rw[aMN];rw[BN]at hi b8;rw[aLH,cb aKN,dc ag a,dc ag b,bdr,h0 (P.inj d5 Y H (bU hi hd) aJ6 e) (gv CS l)]
theorem sj.closed(d5:iB)(Y:R.Ok){h:Ln}(H:dF){m:Nat}(P:Fu){x:Ln}(X:cs x):x∈uF↔F x∈uF:=by constructor;{rw[fS,bC j b8 (Nb q),b1 (j+1) m];{refine De (aJ 0 VQ);show h=F kZ;rw[dO (F kZ) (cF (j+1)),e,Na]};rw[l (De (bp (j+1) (iM e)))]};{rw[fS,aO j b8 (Nb q)];cases j with|zero=>{rw[h0 (ahR Y ale X (by rw[xJ];show cF (m-1+1)=h;rw[m (m-1+1) m m 1 b8 m 1,Na])) (De (v (m-1) (x (aR b8)) this))]}|succ j=>rw[h0 (ahR Y ale X e) (De (v j ej this))]}
theorem sj.shift(d5:iB)(Y:R.Ok){h:Ln}(H:dF){m:Nat}(P:Fu)(i:Nat):sj F (cF i) m:=by rw[cp VQ (fun j g k e=>?_)];{rw[<-yF,VR,yF,Na]};{rw[<-yF,VR,yF]at e;exact ahT j g k (yY e)}
theorem asW(d5:iB)(Y:R.Ok){h:Ln}(H:dF){m:Nat}(P:Fu):M_ R (fl uF):=by have W:=K5 d5 Y m H;rw[Na]at W;exact ad5 Y W (q6 anb)
theorem ad7(d5:iB)(Y:R.Ok){h:Ln}(H:dF):∀j,wq kZ=oa|0=>rfl|j+1=>by show wq (F kZ)=_;rw[d5.aP _ anb,ad7 d5 Y H j]
theorem SS(d5:iB)(Y:R.Ok)(C:K4 R){g h:Ln}(G:cs g)(H:dF){m:Nat}(P:aHI):h∈yc↔oa=kP:=by constructor;{rw[fS,iC j (Nb q)];exact ad7 d5 Y G j};{intro e;rw[bbU,qL G H];unfold cc at c;have a:g∈yc:=De (bp 0 VQ);rw[(W.F_ _ _ (Dd Y H) (Dd Y G) e)]at c;have c2:ind (g∈yc)=1:=by{rw[YQ];exact kO};rw[c2]at c;delta ind at c;split at c;rw[aZ,Jp]}
theorem aQT(d5:iB)(Y:R.Ok)(C:qy (asU R v)){h:Ln}(H:dF){m:Nat}(P:Fu):c7 (gU uF):=by rw[VP,ahS];rw[aMN];simp only[bA,BN]at hi b8;simp only[Nc]at e;rw[aLH,cb aKN,dc bz a,dc bz b];rw[c_ a,c_ b]at e;have L:=dN H i;have p:=P.shift d5 Y H i;obtain⟨d,hd⟩:∃d,d=j-i:=ei;have a3:(it F d (cF i)).1=(cF i).1:=by{rw[<-yF,aS (d+i) j (cf hd.l (aC j i l)) (cf (aS j i) hd.g),<-e]};generalize cF i=g at L p a3;have f:=K5 d5 Y d L;rw[a3]at f;have nd:=p.nodup d5 Y L (d:=d) bdg;rw[CX (ad5 Y f (q6 (dN L j)))];have e9:o x (cs x) (x.2≠g.1) (x∈IW↔F x∈IW):=by{intro x X f5;have n:=VN Y X;constructor;{rw[fS,aKC,N z (a+1) d];{exfalso;have:F x=ank:=by{rw[<-e,<-z];rfl};lia};rw[l (De (v (a+1) (cw b3 z) (by rw[xJ];rfl)))]};{rw[fS,aKC];cases a with|zero=>{exfalso;have d3:g=F x:=e;simp_all}|succ a=>rw[h0 (ahR Y (dN L a) X e) (De (v a ej this))]}};have all:=C g.1 (L.yE Y) (e1 (o y (cs y) (y.1=v) (sW y=sW (rv g)))) g.2 (L.BK Y) a_K (fun y c i8=>g9 g.2 a_K L.rv) (fun a b k e0 h2 d6 y c i8=>by rw[<-d6 rM k rfl,<-ph k];exact g9 b h2 k.rv);have r:E y (cs y) (sW y=sW (rv g)):=by{intro y c;rw[T y.1 g.1,kC (ph c) (all y.2 (c.BK Y) (J (c.ne Y (VS wg))) (rv y) c.rv rfl),l (all y.1 (c.yE Y) q y c rfl)]};have o:=dN L (d-1);have g9:a8N:=De (bp (d-1) (ahU (hd▸VO l) ahV));have b9:F (it F (d-1) g)=ank:=by{show it F (d-1+1) g=_;rw[Mn (hd▸VO l)]};have e1:ank∉IW:=ai (by rw[aKC];have:=p.inj d5 Y L (x (uR b3 hd.l alE b8)) bdg e;simp_all);have e5:=r _ o;have e6:=r _ (sI o);unfold cc at e5 e6;rw[(W.F_ _ _ (Dd Y (sI o)) (Dd Y o) (d5.aP _ o)),b9]at e6;have c2:ind a8N=1:=by{rw[YQ];exact kO};have N:ind (ank∈IW)=0:=by{rw[YQ];exact bj bG};rw[fT]
theorem asX(d5:iB)(Y:R.Ok)(C:K4 R)(b1:anI){g:Ln}(G:cs g){m:Nat}(P:aHI):z w (l8 (fl yc)) (E x aF_ (w x=ind ((Ad).aP x=kP)-ind (kP=0))):=by rw[bbU,ak w W,eM aIw,bg5];have f3:=eb z D;have e8:sd Ae z=0:=by{delta sd;rw[aK f3.1,h6]};rw[DC ((Ad).aP 0)];have j7:wq z=0:=by{delta Run.lb;rw[e8,c0]};have a:cs z:= .inl D;have O:E h dF (w alD=ind (oa=kP)-ind (kP=0)):=by{intro h H;rw[qL H a];unfold cc at c;rw[e8,W.zero]at c;have e0:o8 yc=ind (oa=kP):=by{delta ind;simp[SS d5 Y C G H P]};have g0:ind (z∈yc)=ind (kP=0):=by{delta ind;have:z∈yc↔kP=0:=by{rw[SS d5 Y C G a P,j7];grind-abstractProof};rw[tT]};rw[el]};rw[Bm];have SJ:bfm:=by{rw[bib,cL,bdb,bhn]};rw[bC h H SJ];exact O h H
theorem asY(Y:R.Ok)(J:kb)(b1:anI){x:Nat}(S:aF_):bfm:=by have I:=aIw;rw[bg5];have f3:=eb z D;rw[bib,cw z (.inl D) (by delta sd;rw[aK f3.1,h6]),bdb,bhn]
theorem Flow.neg{i:dA}{w:ee}{t:Nat}(W:a'z):ahW R J (an (-i e)) t (ab (-w x)):=by rw[j (ar W.zero) (fun x y S b6 h=>ar (W.F_ x y S b6 h)) a8V (fun t' h=>ar (W.last t' h)) (fun e a0 h=>by have:=W.side e a0 h;simp+arith [*])];have:jz Zd (fv (Wp (an (-i e)) (ab (-w x)))):=by{intro Z;induction Z with|nil=>{intros;trivial}|cons a b d6=>intro g c;exact⟨by have:=c.1;unfold Wp at this⊢;simp+arith [*],d6 c.2⟩};exact this (W.Ga t' h)
theorem aQU(d5:iB)(Y:R.Ok)(C:K4 R)(b1:anI){g:Ln}(G:cs g){m:Nat}(P:aHI):0<nS (fl yc)↔kP≠0:=by obtain⟨w,W,hw⟩:=asX d5 Y C b1 G P;constructor;{intro h e;have:=aQG Y J W.neg (aJ (by have:=hw x S;rw[am e];delta ind at this;grind-abstractProof));have eq:nS (an (-ef yc))= -nS (fl yc):=by{rw[<-BM];refine BJ aHz;delta SO;grind-abstractProof};rw[el]};{intro e;have b:w (sd Ae g)=1:=by{rw[hw _ (Dd Y G)];have:(Ad).aP (sd Ae g)=kP:=rfl;simp[ind,this,e]};refine aQI Y J W qk ?_;{rw[hw x S];rw[YQ];grind-abstractProof};{rcases G with a|a;{have:=eb _ a;rw[aa g a aGY];delta sd at b;simp_all};{have:=eb _ a;rw[aa (rv g) a (.inr ?_)];delta sd at b;have a3:¬g.1<g.2:=by{rw[hA rv];exact sM et};simp_all}}}
universe GM
namespace GM
open Gla
structure Lay(r:Plan):Prop where
 dO:a2S (nP xM)
 wide:cz de Qz
 BO:a'U
 lt:a'o
 nd:a2R
 on:hN (∀k,i (k<aJ) (k≠e.1) (k≠e.2) (wt eE eF (bp k)=ai))
 nc:hN (∀f∈bX,e≠f->zy eE eF ami amj=ai)
noncomputable def ky(r:Plan)(p:Pt):Int:=Y6*v p.y+p.x
noncomputable def den(r:Plan)(e:Ln):Int:=cf eF-cf eE
noncomputable def K6(r:Plan):anC|[]=>1|e::J=>J_*K6 r J
noncomputable def cof(r:Plan)(e:Ln):Int:=Ai/J_
noncomputable def Gh(r:Plan)(e:Ln)(z:Int):Int:=uM*(amP*(cf eF-z)+amQ*(z-cf eE))
noncomputable def arrOf(r:Plan):Arr:=a aJ bX (dJ (cf eG)) (dJ (kw eG)) (Gh r)
theorem sk{r:Plan}{i:Nat}(h:gX):eG=de[i]:=by delta aCs;simp[List.getD,h]
theorem yG{r:Plan}{i:Nat}(h:gX):eG∈de:=nM (sk h)
theorem mu{r:Plan}{p q:Pt}(c2:Qz)(h:xM):cf p<cf q:=by delta ky;rw[jv ic,dp h h a9];{have:Q6*(v p.y+1)<=Q6*q.y:=VF (x (mh h)) (by rw[Ff]);grind-abstractProof};rw[aZ]
theorem aQW{r:Plan}{p q:Pt}(c2:Qz)(e0:q.x<=r.w):cf p<cf q↔xM:=by rw[v (c8 aHE) (mu c2),b1 p q,az];{have:Nd p=ab:=by{simp[ic]at n⊢;by_cases y:q.y<p.y;rw[Fl];{right;have:q.y=p.y:=gy (cV n.1) (cV (qq y));rw[dI this];rcases qO (n.2 aCp)with e2|e2;rw[aZ];{exfalso;apply e;cases p;rw[kG];simp at*;simp[*]}}};have:=mu e0 this;exact Kr this h}
theorem asZ{r:Plan}:k5 (V e l (0<J_)) (0<K6 r l)|[],_=>ar K6|e::J,h=>hD (h e bK) (asZ anU)
theorem as0{r:Plan}:∀{l:cI}{e:Ln},e∈l->J_∣K6 r l|[],e,h=>ah|f::J,e,h=>by rw[lX,aoh,l (Int.dvd_mul_right _ _),l (Int.dvd_mul_of_dvd_right (as0 h))]
variable{r:Plan}
theorem Lay.below(Z:bq){i j:Nat}(h:i<j)(b8:oe):qA (bp j):=DS (Nf Z.dO i j EK b8 h)
theorem Lay.wx(Z:bq){i:Nat}(h:gX):(eG).x<=r.w:=Z.wide _ (yG h)
theorem Lay.km(Z:bq){i j:Nat}(h:i<j)(b8:oe):aKW:=mu (HF EK) (wu h b8)
theorem Lay.den_pos(Z:bq){e:Ln}(a0:iz):0<J_:=by rw[b2 ye];have:=Df l.1 l.2;delta den;simp[*]
theorem Lay.as1(Z:bq):0<Ai:=asZ (f2 a75)
theorem Lay.as2(Z:bq){e:Ln}(a0:iz):uM*J_=Ai:=Int.ediv_mul_cancel (as0 a0)
theorem Lay.aQX(Z:bq){e:Ln}(a0:iz):0<uM:=by have a:=Z.as2 a0;rw[cb Z.as1,eL (mO 0 uM),l h];{have:uM*J_<=0:=VT h (eW a75);grind-abstractProof}
theorem Lay.K7(Z:bq){e:Ln}(a0:iz)(z:Pt):dy z-Zf=uM*(Y6*j_):=by rw[<-Z.as2 a0];delta Gh den ky eV dx dy;grind-abstractProof
theorem Lay.sgn(Z:bq){e:Ln}(a0:iz)(z:Pt):(dy z<Zf↔j_<0)/\(Zf<dy z↔0<j_):=by rw[cy (Z.K7 a0 z)];have w:xy<r.w+1:=by{simp};have p:=hD (Z.aQX a0) w;have b4:uM*(Q6*j_)=uM*Q6*j_:=by{grind-abstractProof};rw[b4]at a;generalize j_=t at*;generalize uM*Q6=q at*;constructor;{constructor;{rw[eD,sT t,AX,kn (s_ (eW p) g)]};{rw[eD];have:=ahX p h;exact jS a.m}};{constructor;{rw[eD,sR t,AX,kn (Ng (eW p) g)]};{rw[eD];have:=hD p h;exact jS a.n}}
theorem aQY{p q:Pt}(h:xM):p.y<=q.y:=by rw[jv ic];lia-abstractProof
theorem K8{p q z:Pt}(a3:oZ z=ab)(a9:VU q=ab)(h:Kb=0):q1 z:=by revert a3 a9 h;revert p q z;refine ap9;rw[cp p q z,bZ a3 a9];delta wt;simp only[h,aCu,ahY,hZ,Nh,iS];simp[ic]at a3 a9;delta eV dx dy at h;rw[N Q p.y q.y];{rw[t_]};{rw[k2 (D1 z.x) (fw z.y p.y)];have k3:xy<anY:=by{lia};have y:xy<=v z.y-p.y:=by{lia};have e0:v z.y-p.y<=anY:=by{lia};generalize alf=d at*;generalize bm z.y p.y=s at*;rw[aa ?_ (cn aoD (a3.elim ew aHs)) (cn (a9.elim ew aHs) (HG _ _))];rcases M6 p.x q.x with c|c;{have f:xy<=Fn:=by{simp[*]};have h2:=s_ f y;have e2:=VF e0 f;have e5:xy<=Fo:=by{rw[sT Fo];{have:=Dg g k3;rw[fT]};rw[l g]};rw[c9 Fo Fn Fn Fo];simp_all};{rw[bL f Fn 0 (nw c)];have h2:=VT f y;have e2:=aCf f e0;have e5:Fo<=0:=by{rw[sR Fo];{have:=hD g k3;rw[fT]};rw[l g]};rw[c9 Fn Fo Fo Fn,fT]}}
theorem Lay.ok(Z:bq):(gK).Ok:=by rw[cl k (dy eE=kw eE) (by have:=Z.K7 a0 eE;have u:eV eE eF eE=0:=by{rw[ud];grind-abstractProof};rw[am u,uk];exact RT this),cl p (dy eF=kw eF) (by have:=Z.K7 a0 eF;have u:eV eE eF eF=0:=by{rw[ud];simp};rw[am u,uk];exact RT this),cl BG (yF (Gh r e x)) (by rw[aa (uM*(amP*cf eF-amQ*cf eE)) (uM*(amQ-amP)) Jf];delta Gh;grind-abstractProof),e fZ Z.nd (fun i j h b8=>Df h b8) BG k p ?_ ?_];{intro e a0 v a3 a9 q;rw[b2 ye];have c4:dy ed=kw ed:=q;have O:=qR a0 ed;have o:=K8 (wu a3 (b7 a9 l.2)) (wu a9 l.2) Bf;rw[Z.on e a0 v (b7 a9 l.2) (x (vW bG)) aHe]at o;cases o};{intro e a0 f W ov h;refine qG (fun n=>?_);have V:=a0;have t:=W;have le:=fZ e V;rw[bJ (fZ f t)];have h':dy rG<hC rG:=h;have C:am'<amR:=Int.not_le.mp n;rw[ak b d0 (BG e V)];obtain⟨c,d,g7⟩:=BG f t;have h8:g_<aJ:=by{rw[Jc];exact fb (wy ahM ahL) le.2};have s:0<b-d:=by{rw[sR (b-d),AX];{have:=aCf g (eW (Df ov h8));rw[el]}};rw[dx low (E i (i<=kE) (dy eG<hC eG)) (Is EK)];have w:o i (g_<=i) gX (hC eG<dy eG):=fun i hi a5=>Is a5;have b4:=Gq e.1;have g4:=Gq f.1;rw[gr (w e.2 (cG oU (wy ahM ahL)) ag)];have h3:=w f.2 (cG oU (oP ahM ahL)) ag;rw[k e V]at b4;rw[k f t]at g4;rw[p e V]at b9;rw[p f t]at h3;have cr:=Z.nc e V f t Qj;unfold Gla.crosses at cr;simp[(Dg ((qR V ami).1.mp g4) ((qR V amj).2.mp h3)),(ahX ((qR t eE).2.mp b4) ((qR t eF).1.mp b9))]at cr}
universe GM
namespace GM
open Gla
abbrev gw:=Int×Int
noncomputable def cr(a b:gw):Int:=bfT
noncomputable def kd(al f:Int)(a:gw):Int:=al*a.1+f*a.2
theorem as3(al f:Int)(a b c:gw):cr a b*cS c+cr b c*cS a+an_*cS b=0:=by delta cr kd;grind
theorem vc(a b:gw):cr b a= -cr a b:=w5 cr
theorem BP{J d:gw}(h:cr J d<0):Zo=0:=by delta tc;have:aps<0:=h;exact kO
theorem qz{J d:gw}(h:0<cr J d):Zo=2:=by delta tc;have a3:0<aps:=h;rw[el]
theorem as4{J d:gw}(h:cr J d=0):Zo=1\/Zo=3:=by delta tc;have a3:aps=0:=h;simp[a3];lia-abstractProof
theorem as5(J:gw):tc J J=3:=by delta tc;rw[bL a3 (J.1*J.2-J.2*J.1) 0];have a9:¬(QD+J.2*J.2<0):=by{rw[fe a QD J.1,bea];exact J (RS z a b)};simp[a3,a9]
theorem aQZ{al f:Int}{J d:gw}(h:cr J d=0)(a6:cS J<0)(hd:0<cS d):Zo=1:=by delta tc;have a3:aps=0:=h;have O:cS J*(J.1*d.1+J.2*d.2)=cS d*(QD+J.2*J.2):=by{delta kd;rw[a4 cr];grind-abstractProof};rw[fe a QD J.1,bea];have pos:0<QD+J.2*J.2:=by{have:J.1≠0\/J.2≠0:=by{refine aHE;delta kd at a6;simp_all};rw[eL this,pf QD (a2M this b),pf (J.2*J.2) (a2T a this)]};have f6:=hD hd pos;have neg:J.1*d.1+J.2*d.2<0:=by{rw[sT (J.1*d.1+J.2*d.2),AX,kn (VT (eW a6) g)]};simp[a3,neg]
theorem K9{J a b:gw}(h:tc J a<tc J b):aKL:=by delta Dh;simp[h]
theorem K_{J a b:gw}(h:tc J a=tc J b)(c:cr a b<0):aKL:=by delta Dh;have:bfT<0:=c;simp[h,this]
theorem aQ0{J a b:gw}(h:aKL):Dh J b a=ai:=by delta Dh at h⊢;lia-abstractProof
section z
variable{al f:Int}
theorem aQ4{J w x:gw}(a6:cS J<0)(hw:cS w<0)(oj:cr J w<0)(S:cr w x<0\/0<cr J x\/x=J\/0<cS x):aKM:=by have b1:=BP oj;by_cases c:cr J x<0;{rw[gv (BP c)];refine K_ (x (ahZ bG EV)) ?_;rw[u_ S,l h,Jp];{subst h;delta cr at c;grind-abstractProof};{rw[aL8];have e9:=Dg oj h;rw[aKB];have f6:ao_<0:=ahX ag hw;rw[pl (cr w x) J,sT (cr w x),AX,i1 (Ng g (eW a6))]}};{refine K9 ?_;rw[k1 (a2U (agQ c))];{rw[b1,qz g];simp};{rw[al (as4 g.symm)]<;>simp[*]}}
theorem aQ5{J w x:gw}(a6:cS J<0)(hw:0<cS w)(S:(cS x<0/\0<cr J x)\/x=J\/(0<cS x/\cr w x<0)):aKM:=by rcases S with⟨S,c⟩|rfl|⟨S,c⟩;{rw[fe (qz c),bs (cr J w) g g g,l (mN (BP g) a9),l (mN aLm a9)];{refine K_ (bj (qz g) a9) ?_;rw[aL8];have e9:=ahX g S;rw[aKB];have f6:ao_<0:=Dg ag hw;rw[al (mO (cr w x) 0),iy];{have:=Ng q (eW a6);lia}}};{refine K9 ?_;rw[as5];rw[bs (cr x w) g g g,l2 (BP g),l2 aLm,Z (qz g) jR]};{rw[aL8];have e9:=a2V c a6;rw[aKB,bs (cr J w) g g g];{rw[al (mO (cr J x) 0),l (K_ (bj (BP g) (BP q)) c)];{refine K9 ?_;rw[BP g];rw[al (a2U q),l2 (qz q)];{rw[cZ (as4 zz)]<;>simp[*]}}};{rw[ae O (cr J w*cS x) 0];have:ao_<0:=bM;have:cr x J<0:=bby;exact mN aLm (qz ah)};{have f6:=hD g S;have:ao_<0:=x (rX id.m e9 f6);have:cr x J<0:=bby;exact K_ (bj (qz g) (qz ah)) c}}
theorem aQ6{J w x:gw}(oj:0<cr J w)(S:x=J\/(0<cr J x/\cr w x<0)):aKM:=by rw[dp S rfl a9,l (K9 (ac as5 (qz oj) jR)),l (K_ (bj (qz oj) (qz a3)) a9)]
universe z
structure Clock(r:dg gw)(al f:Int)(Z d:ao):Prop where
 l:ep Z (cS (r a)<0)
 u:ep d (0<cS (r a))
 sl:Z.Pairwise a_7
 su:d.Pairwise a_7
theorem aQ7(al f:Int)(a:gw):kd (-al) (-f) a= -cS a:=w5 kd
theorem Clock.flip{r:dg gw}{al f:Int}{Z d:ao}(C:aMC):aCv r (-al) (-f) d Z:=d (Gz (C.u a h)) (Gz (C.l a h)) C.su C.sl
theorem aQ8{l:ao}{i x:Nat}(h:xN):∃a b,l=a++x::b/\mL=i:=by rw[e1 hi (i<d_),w (G9 i) (oK (i+1)) ?_ cq,aj pJ];rw[<-(c_ h)];simp
theorem Clock.low{r:dg gw}{al f:Int}{Z d:ao}(C:aMC){i x y:Nat}(hi:i<fK)(S:fh aoT)(b6:K aoT Q8 y):beS:=by revert C hi S b6;revert r al f Z d i x y;refine Ko;generalize aG=r,aA=al,aF=f,aE=Z,aD=d,aB=i,aH=x,aI=y;intro C hi S b6;rw[hx hi]at S;obtain⟨A,B,e,d0⟩:=aQ8 S;have sl:=C.sl;rw[e,qQ,oY]at sl;obtain⟨c0,⟨c,v⟩,l⟩:=sl;have k:=C.l x (x (bO bG));intro z c9 ne;have j:ep A (0<cr (r x) (r a)):=fun a b3=>by{have:=l a b3 x bK;have:=vc (r a) (r x);simp[*]};rw[ca a0 (z∈A\/z=x\/z∈B\/z∈d)];cases B with|cons w n=>{have m:i+1<fK:=by{simp[*]};have:Q8=i+1:=er ag;rw[this,hx m,e,pt (ahm d0.l)]at b6;rw[mq (i+1-ie) 1]at b6;simp at b6;subst b6;refine aQ4 k (C.l w ag) (c w bK) ?_;rw[u_ a0,aZ,aZ,az,co (o7 (C.u z h))]}|nil=>rw[ae m (i+1) fK];cases g:d with|cons w o=>{have:Q8=i+1:=er bz;rw[this,pt m.g,g]at b6;rw[show i+1-fK=0 by exact mP (cf (aC (i+1) fK m.g) m.l) aN0]at b6;simp at b6;subst b6;refine aQ5 k (C.u w bz) ?_;rw[u_ a0,dQ ⟨C.l z bz,j z h⟩,dV];{rw[cH]};{have su:=C.su;rw[g]at h su;rw[lX,eL h,dV];{rw[oY]at su;exact .inr (eX (C.u z bz) (su.1 z h))}}}|nil=>subst g;have:i_%t (Z++[])=0:=cy qK m ahP;rw[this,qK]at b6;cases A with|nil=>{grind}|cons w b=>rw[e]at b6;simp at b6;subst b6;refine aQ6 (j w bK) ?_;rw[u_ a0,az];{rw[xn]};rw[az,az]
theorem Clock.next{r:dg gw}{al f:Int}{Z d:ao}(C:aMC){i x y:Nat}(S:fh aoT)(b6:K aoT Q8 y):beS:=by rw[fJ hi fK,l (C.low hi S b6)];{have p4:i<t (Z++d):=bx S;rw[cj]at p4;have O:K (d++Z) aLl y:=by{rw[T (i+1) (fK+oT)];{rw[cs a Q8 0];rw[a]at b6;rw[d3 c0 fK,az];{rw[R b aLl oT (aS (i-fK+1) oT (cf (aC i fK (qq hi)) q.l) (cf q.g (aS i fK))) (er fR)];rw[b,o_ a_,zA];rwa [hx (VW c0)]at b6}};{have a:Q8=i+1:=er fR;have b:aLl=i-fK+1:=er l_;rw[b,hx bM,aS (i-fK+1) (i+1-fK) (L i fK (qq hi) (i+1) fK) (L (i+1) fK (qq hi) i fK)];rwa [a,pt (ahm (qq hi))]at b6}};intro z c9 ne;exact C.flip.low bM (by rw[hx bM];rwa [o_ (j0 hi)]at S) O z (ah0 (bt (Ni c9))) ne}
theorem as6{lt:aHT}{w:Nat}:∀{J:ao}{k:Nat},w∈k::J->bk (k::J) (x≠w->lt w x=ab/\lt x w=ai)->J.foldl (fs (Z (lt b a) b a)) k=w|[],k,h,_=>ah|b::J,k,h,q=>by rw[YT];refine as6 cq (fun x S ne=>?_);rw[PY];grind-abstractProof
variable{r:Plan}
noncomputable def yH(r:Plan)(h:Ln):Ln:=(h.2,r.next h.1 h.2)
theorem vd{v x:Nat}(Z:bq):x∈ig v↔dP JI:=by delta Plan.near oy;simp only[a2W];constructor;{rw[hp l a5,eH];{next e=>rw[cH];left;rw[xJ];exact a5};{rw[eH];{next e=>rw[cH];right;rw[xJ];exact a5};rw[cY]}};{rintro(h|h);rw[l (v JI h (x cO))];{rw[ak (x,v) h];simp_all}}
theorem ad8(v x:Nat):kd 1 (r.w+1) (d0 x)=cf (bp x)-cf ed:=by delta kd dir dx dy ky;grind
theorem yI(v a b:Nat):eV ed rk (bp b)=aoE:=bgX
theorem as7(v a b:Nat):bbe= -aoE:=bgX
theorem aQ9(Z:bq){v a b:Nat}(b3:JK)(U:uB)(h:bbf):O3:=by have Y:=hF;have h2:iD Oz (v,b)=v:=by{delta iD;simp};have s:=h.s;rw[h2]at s;have c5:=(wk _ b3);rw[cl (wk _ U),dQ t ((gK).X Oz ((gK).k Rj)) ((gK).X (v,b) ((gK).k Rj)),aKS];{have e2:Rj=a:=by{rw[Jc];simp;exact kO};rw[e2]at t;rw[(wo _ b3)]at t;have:=(aKI).mp t;have g5:0<akU:=this;rw[yI,vc]at g5;simp_all};{rw[fG Rj b oU];rw[e2]at t;rw[(wo _ U)]at t;have:=(aKJ).mp t;have g5:=this;rw[yI]at g5;exact g5}
theorem aQ_(Z:bq){v a b:Nat}(b3:(a,v)∈bX)(U:(b,v)∈bX)(h:mn iq (a,v) (b,v)):cr (d0 b) (d0 a)<0:=by have Y:=hF;have h2:oU (a,v) (b,v)=v:=by{delta oU;simp};have s:=h.s;rw[h2]at s;have c5:=wo _ b3;rw[cl (wo _ U),dQ t ((gK).X (a,v) ((gK).k aoB)) ((gK).X (b,v) ((gK).k aoB)),aKS];{have e2:aoB=b:=by{delta iD;simp;exact kO};rw[e2]at t;rw[(wk _ U)]at t;have:=(aKJ).mp t;have g5:bbe<0:=this;rw[as7]at g5;have:=vc (d0 a) (d0 b);simp only[*]};{rw[fG aoB a iD];rw[e2]at t;rw[(wk _ b3)]at t;have:=(aKI).mp t;have g5:0<eV (bp b) ed rk:=this;rw[as7]at g5;simp_all}
noncomputable def La(E N:cI):ao:=aCl fM++N.map eY
theorem as8(Z:bq){v:Nat}{s:Sw}{E N:cI}(d3:v<aJ)(C:apt):aCv (dir r v) 1 (r.w+1) (aCl fM) (N.map eY):=by rw[bZ a8U a8U ?_];{simp only[fJ,aCw]at h;rw[bC e a0 h,am4,aoY];rw[ad8];have:=Df (i:=e.1) (j:=v) (bU l.1 m.2.l) d3;exact rW this};{rw[nt fJ,bC e a0 h,am5,aoY];rw[ad8];have:=Df (i:=v) (j:=e.2) ah l.2;simp[*]};{rw[Nj,List.pairwise_reverse];rw[hY C.sE,u9 h,am4];have f7:=x (VM f) W;rw[eB b4 e,ape,a84,Ky (aQ_ Z g9 c h)]};{rw[Nj];rw[hY C.sN,u9 h,am5];have f7:=x (VL f) W;rw[eB b4 e,ape,a84,Ky (aQ9 Z g9 c h)]}
theorem aQ'(Z:bq){v:Nat}{s:Sw}{E N:cI}(d3:v<aJ)(C:apt):c7 xp:=by have K:=as8 Z d3 C;delta La;rw[ah1];rw[ak ?_ ?_,l (K.sl.imp bd7),l (K.su.imp bd7)];{intro a b3 b U e;rw[bY];have:=K.l a b3;have:=K.u a U;lia}
theorem SU(Z:bq){v:Nat}{s:Sw}{E N:cI}(C:apt)(x:Nat):x∈xp↔dP JI:=by delta La oy;simp only[hy,fJ,aCw];constructor;{rintro(⟨e,a0,rfl⟩|⟨e,a0,rfl⟩);{rw[am4];right;rw[<-m.2];exact m.1};{rw[am5];grind-abstractProof}};{rintro(h|h);rw[l (.inr (bp JI (ae (VL _) (dx h)))),dQ (bp (x,v) (ae (VM _) (dx h)))]}
theorem as9(Z:bq){v:Nat}{s:Sw}{E N:cI}(d3:v<aJ)(C:apt){i x:Nat}(S:fh (xp)):z y (ap xp (i_%E6) y) (yH r (x,v)=(v,y)):=by rw[e1 hi (i<E6)];have c4:i_%E6<E6:=VX _ (bU tx hi);refine jl (dd c4);have O:=(as8 Z d3 C).next (i:=i) (x:=x) (y:=(xp)[i_%E6]) S (dd c4);generalize b6:(xp)[i_%E6]=y at O⊢;delta yH;rw[dW];delta aCx;have G:=ae (vd Z) (x (SU Z C y) cq);cases d1:ig v with|nil=>{simp_all}|cons k J=>simp only;rw[d1]at G;refine as6 (lt:=fun b a=>Dh (d0 x) (d0 b) (d0 a)) G (fun z c9 ne=>?_);have:=O z (ae (SU Z C z) (x (vd Z) ag)) ne;exact⟨this,aQ0 this⟩
theorem Lay.mp(Z:bq)(J:n_):Mp iq J ri:=by have Y:=hF;rw[v aob (fun h H=>?_)];{rw[HH v];exact d xp (aQ' Z d3 C) (SU Z C) (fun i x S=>as9 Z d3 C S)};{have d3:=H.BK Y;rw[HH h.2,h1 (ae (SU Z C h.1) H.rv),cl S (A (xp) h.1),ib b9 (as9 Z d3 C S)];rw[b9];rw[da d C.dc];generalize c0:VH (gK).n=s at*;have len:t aIC=E6:=by{delta BH La;simp};have a:aP j x (aa (xp) x->∃p:fz,aa (aIC) p/\p.1=sd wm (h.2,x)/\p.2=sd wm (x,h.2)):=by{intro j x b8;delta La at b8;delta BH;by_cases q:j<VY;{rw[hx ag,cz]at b8;rw[hx ag,cz];cases W:E.reverse[j]? with|none=>{simp_all}|some f=>rw[W]at b8;simp at b8;have k:=x (VM f) bz;have fl:=fZ f k.1;rw[ape];simp at b8 fl;have b:h3=h.2:=k.2;subst b8;rw[bD _ ?_ ?_,aW h.2 g4 fl.1 b.l b];{rw[I6];simp_all}};{have c4:=zf q;rw[o_ ag,cz]at b8;rw[o_ ag,cz];simp only[bA,List.length_reverse]at b8⊢;cases W:N[j-VY]? with|none=>{simp_all}|some f=>rw[W]at b8;simp at b8;have k:=x (VL f) (bO W);have fl:=fZ f k.1;rw[ape];simp at b8 fl;have g:g4=h.2:=k.2;subst b8;rw[bD _ ?_ ?_];{rw[I6];simp_all};rw[aW h3 h.2 g.g fl.1 g]}};obtain⟨p,c2,e9,f6⟩:=a i h.1 S;obtain⟨u,a3,l,D⟩:=a _ y b6;rw[bJ (SN d i ag)];delta Run.lb;rw[c0];rw[<-l,a0 (sd wm h) p.2 f6.symm];rw[T (i+1) E6];{rw[q,ahP]at a3;have o3:=(SN d 0 (bn len.g q.l)).1 rfl;grind};{rw[er (cw hi q)]at a3;grind}}
universe GM
namespace GM
open Gla
variable{r:Plan}
structure Time(r:Plan)(t:Nat)(z:Pt):Prop where
 le:t<=aJ
 lo:E i (i<t) (qA z)
 hi:o i (t<=i) gX (VU eG=ab)
noncomputable def passes(r:Plan)(z:Pt)(x:Ln):cb:=gz x.1 x.2 (m6 (i1 x.1 x.2))||gz x.2 x.1 (mz (i1 x.1 x.2))
noncomputable def spans(r:Plan)(t:Nat)(z:Pt)(e:Ln):cb:=cv (jQ/\IX/\0<j_)
theorem aRa(p q z:Pt):eV q p z= -Kb:=by rw[ud];grind
theorem as_(x:Ln)(z:Pt):mi (rv x)=mi x:=by delta HH rv;simp only;rw[aRa (bp x.1) (bp x.2) z,Bool.or_comm];congr 3<;>(rw[decide_eq_decide];lia-abstractProof)
theorem aRb(Z:bq){e:Ln}(a0:iz)(z:Pt):bE (mi e) ((eE).y<=z.y/\z.y<(eF).y/\0<j_):=by have l:=ye;have:=aQY aIJ;delta HH;simp;intro a b;grind-abstractProof
theorem as'{f:ee}{a:Nat}:∀n,jn (e1 (v a v (f v) 0)) n=mn (a<n) (f a)|0=>bI|n+1=>by simp only[jn,as' n];(split<;>lia)
theorem ata{f g:ee}:E n (ad v (v<n) (f v=g v)) (anp=jn g n)|0,_=>rfl|n+1,h=>by simp only[jn];rw[ata n (lq (h v Jd)),aJw]
theorem aRc{R:Arr}(Y:R.Ok){i:dA}(K:M_ R i)(T:uv):z4 e.1=z4 e.2:=by have a:∀(c5:Ln->Nat),V e gE (c5 e<R.n)->z4 (c5 e)=jn (e1 a'x) R.n:=by{intro c5 c2;have b4:(e1 a'x)=e1 (ct (v (c5 e) v (qX (T v)) 0) gE):=by{funext v;rw[bC q (T v)];{rw[aII];rw[Gd];simp};{simp only[q];have:(an (v (c5 e) v (Z ai (i e) xy) 0))=ng:=aQ;simp;rw[Ge]}};rw[b4,ad1];refine BJ nO;rw[as' (f:=e1 (o1 (T v))) R.n];simp[c2 e a0]};rw[a fM (f2 (bv jd (js et fj))),a eY (f2 (by have:=jd;simp[*]))];refine ata _ aob;rw[K v d3]
theorem atb(h:Qd){e:Ln}(a0:iz):wt eE eF z=ai:=Dh HI
theorem aRd(Z:bq){t:Nat}{z:Pt}(T:oh)(h:Qd){e:Ln}(a0:iz)(a3:jQ)(a9:IX):j_≠0:=by rw[fS];have:=K8 (mR e.1 a3) (mQ e.2 a9 (ye).2) q;rw[am (atb h a0),nj]
theorem atc(Z:bq){t:Nat}{z:Pt}(T:oh)(h:Qd){i:dA}(K:M_ iq i):dL Jw=dL O6:=by let d:uv:=e1 (cv (ie (ed).y amO));have O:hN (qX (mi e)+qX (d e.2)=qX aMg+qX (d e.1)):=by{rw[aah,b2 ye,fe (aRb Z a0 z)];have e8:bE aMg (jQ/\IX/\0<j_):=by{delta VZ;simp};have f:=aIJ;have f6:=atb h a0;have c2:jQ↔(eE).below z=ab:=by{constructor;rw[l (mR e.1)];{rw[fS,d4 e.1 t,AX,It (mQ e.1 g ZW)]}};have N:IX↔VU eF=ab:=by{constructor;{rw[fS];exact mQ e.2 q l.2};{rw[fS,d4 e.2 t,It (mR e.2 g),l g]}};have m:eE≠z:=ai (by rw[d4 e.1 t];{have:=mR e.1 g;rw[am q,hA ic]};{have:=mQ e.1 g bM;lia});have u:eF≠z:=ai (by rw[d4 e.2 t];{have:=mR e.2 g;lia};{have:=mQ e.2 g ag;rw[am q,hA ic]});rw[c2,N]at e8;have n:∀{p:Pt},p≠z->p.y=z.y->p.x≠z.x:=fun{p}R b6 S=>R (by cases p;cases z;simp_all);have W:bE (d e.1) (ie (eE).y amP):=by{simp[d]};have d8:bE (d e.2) (ie (eF).y amQ):=by{simp[d]};generalize eE=p at*;generalize eF=q at*;simp[ic]at e8 f;by_cases e5:ie p.y p.x;{have ns:¬aMg=ab:=cj ((e8.mp k).1.elim (hv (gC a e5.1)) (hv (a2Z e5.2 a.2)));by_cases e6:ie q.y q.x;{rw[bj (cj (gC (aV (a9.mp k)) e6.1.symm)),bj ns,aK (d8.mpr e6),a91]};{have j:z.y<q.y:=e5.1▸f.elim id (cj (cy ⟨k.1.symm.trans e5.1,js e5.2 k.2⟩ e6));have L:0<Kb:=by{have b4:Kb=k9 p.x z.x:=by{rw[ud];grind};rw[b4,e5.1];exact hD (a2Y (U3 j)) (a2Y (U3 e5.2))};rw[aK (a9.mpr (v (qF e5.1) j L)),bj ns,bak,a91];exact Int.add_comm _ _}};{by_cases e6:ie q.y q.x;{have Q:p.y<z.y:=by{rw[d4 p.y z.y,AX];{exfalso;have b4:p.y=z.y:=f.elim (cj (cy (e6.1▸k) (a2X g))) (cj (k.1.trans e6.1));have o:p.x<=z.x:=DH b4;have:q1 z:=by{delta wt eV dx dy Nh;simp[b4,e6.1,cn (wy p.x q.x) o,cn (ew e6.2) (HG p.x q.x)]};simp_all}};have L:0<Kb:=by{have b4:Kb=k9 q.x z.x:=by{rw[ud,jY]};rw[b4];exact hD ag ag};simp[*]};rw[bak,bj (cj (e5 (W.mp k))),Bool.eq_iff_iff.mpr (a9.trans (Iff.trans ⟨p0 ((qO a).imp_right (e7 ⟨y,aA6 (DH y) (n m y)⟩)) (.inl b),p0 (a.elim ew aHs) (b.elim id (cj (cy ⟨k.1.symm,k.2⟩ e6)))⟩ e8.symm))]}};have s:=BJ O;rw[kn,kn]at s;rw[Gd,Gd];have w:ct (o1 (d e.1)) bX=ct (o1 (d e.2)) bX:=(aRc hF K d);simp_all
structure Cut(r:Plan)(s:Sw)(z:Pt)(A B:Row):Prop where
 row:oV=A++B
 hA:h1 A (j_<0)
 hB:h1 B (0<j_)
theorem atd(Z:bq){J:n_}{t:Nat}{z:Pt}(T:oh)(h:Qd){A B:Row}(C:Z2){i:dA}(K:M_ iq i){w:ee}(W:ahW iq J i aJ w):w hh=dL Jw:=by have I:=zw hF t wz;rw[cl (W.Ga t wz),b2 (W.last t wz)];rw[HJ,ou]at c;rw[HJ,ot]at l;rw[de (adR c.2),a6 l];rw[e,atc Z T h K];simp only[a20];refine SI i ?_;have dO:=M8;rw[HJ,hq,qQ]at dO;rw[HB (SK dO.2.1) (V0 _)];intro e;simp only[Nk,VZ,iS];constructor;{intro m;rw[cy (x ir (ac HJ hq (qI _ bG)))];exact d a.1 a.2.1 a.2.2 (C.hB e m)};{rintro⟨a,b,c,d⟩;have:=ae ir (v a b c);rw[HJ,hq,hy]at this;rw[g7 this m,kn (C.hA e m),l m]}
noncomputable def lr(l:ao):cI:=ah2 (oK 1)
theorem Lb(a b:Nat)(l:ao):lr (a::b::l)=(a,b)::lr (b::l):=bI
theorem Lc:Df (aCy=aa a->ah3=aa b->ta a (lr l) b)|[],a,b,h,_=>bB|[x],a,b,h,g=>by{simp at h g;subst h;subst g;rfl}|x::y::l,a,b,h,g=>by rw[lX];subst h;rw[Lb];rw[v rfl (Lc rfl ?_)];trivial
theorem ad9:∀{l:ao}{e:Ln},e∈lr l->e.1∈l/\e.2∈l|[],e,h=>kc lr|[x],e,h=>kc lr|x::y::l,e,h=>by rw[aj Lb,nt hC,aoh];{simp};{have:=ad9 h;simp[*]}
theorem Gi:∀{l:ao}{e:Ln},Jv->e∈lr l->Yl|[],e,_,h=>kc lr|[x],e,_,h=>kc lr|x::y::l,e,p,h=>by rw[aj Lb];rw[oY]at p;rw[nt hC,aoh,aZ,l (Gi p.2 h)]
theorem ad_:ti (an2->ta b (aCk rv) a)|[],a,b,h=>x EV|h::l,a,b,⟨a3,a9⟩=>HR (ah4 (cg h.2 (ad_ a9) a3))
theorem ad':∀(a b:cI)(e:Ln),ef (a++b)=ef a+ef b|[],b,e=>ar fl|h::a,b,e=>by simp[fl,ad' a b e];simp+arith [*]
theorem aRe(h e:Ln):BL hg e= -O2:=by delta BL ind;have a:(hg=e)↔(h=rv e):=⟨ai (by rw[<-q];rfl),ai (dc q)⟩;have b:(hg=rv e)↔(h=e):=⟨ai (bv (gz rv q) this),ai (by rw[q])⟩;simp+arith [*]
theorem ate:∀(l:cI)(e:Ln),ef (aCk rv)= -ef l|[],e=>bI|h::l,e=>by simp only[a21,fe,da,zq,ad',ate l e,fl,aRe];lia-abstractProof
theorem atf(Y:(gK).Ok){m:cI}(nd:m.Nodup)(c4:de m iz):dy (V h l (h.1<h.2)) (cR (fl l) m) bbV|[],_=>a9P|h::l,a5=>by rw[aKK];rw[this,kn,atf Y nd c4 (aJ (a5 x rq))];have b4:sE m=o8 m:=by{show ct (Al-Am) m=_;rw[aLN];rw[this,kn,BM,K3 h nd,ad4 h nd];have c7:=a5 h bK;have:hg∉m:=ai (l7 (eb _ (c4 _ q)) (gv et c7));simp[ind,this]};rw[b4];rfl
theorem SV(on:OK):eQ OW (· < ·):=cG HK (ea a22 _)
theorem bjr{on:OK}{i:Nat}:i∈OW↔gX/\on eG=ab:=i0 HK
theorem Ld(Z:bq){l:ao}(s:Jv)(h:ah5 r l=ab){e:Ln}(a0:e∈lr l):iz:=by rw[a4 ah5,aj Hs];have:=ZQ;rw[a76,iS (Gi s a0),bX (qP ej) (HA ej),gf]
theorem Le{l:ao}{a:Nat}(s:Jv)(b3:a∈l)(h:aK l (a<=x)):aCy=aa a:=by cases l with|nil=>{simp_all}|cons b J=>rw[oY]at s;simp at b3⊢;rw[al b3,l EV,mz (s.1 a q) (h b bK)]
theorem aea{l:ao}{a:Nat}(s:Jv)(b3:a∈l)(h:aK l (x<=a)):ah3=aa a:=by cases a5:ah3 with|none=>{simp_all}|some b=>rw[ck d7 (List.getLast?_eq_some_iff.mp a5)];rw[e]at s b3;rw[qQ]at s;simp at b3;rw[al b3,mz (s.2.2 a q b bK) (h b ag)];{rw[q]}
theorem BQ(Z:bq){p:Pt}(h:HL p=ab):bfl:=by rw[ca m (p∈de),h1 m];exact bet
theorem Lf(Z:bq){i j:Nat}(hi:gX)(b8:oe)(h:bbw):i<=j:=Iu (wu g hi)
theorem atg{t:Nat}{m:cI}:Df (c Jv (aCy=aa a) (ah3=aa b) (V h (lr l) (h∈m↔h.1<t/\t<=h.2)) ((L (lr l) (c8 (o8 m))).foldr (· + ·) 0=ind (t<=b)-ind (t<=a)))|[],a,b,_,h,_,_=>bB|[x],a,b,_,h,g,_=>by{simp at h g;subst h;subst g;simp[lr]}|x::y::l,a,b,p,h,g,q=>by rw[lX];rw[List.getLast?_cons_cons]at g;have f6:=V1 p;rw[ds (atg f6.2 rfl g (fun h c7=>q h (t Lb (mt bG))))];rw[Lb]at q⊢;rw[kv a23 d6];have j:=f6.1 y bK;have N:=q (x,y) bK;simp only at N;rw[YQ];by_cases c:(x,y)∈m;rw[cL];lia-abstractProof
theorem ath{m:cI}:k5 (V h l (h∉m)) (bbV=0)|[],_=>rfl|h::l,q=>by have:=ath (m:=m) (l:=l) (aJ (q x rq));rw[kv a23 this];simp[ind,q h bK]
theorem aRf(Z:bq)(n:Y0){J:n_}{t:Nat}{z:Pt}(T:oh)(h:Fs){A B:Row}(C:Z2):iI hh≠0:=by have Y:=hF;rw[a4 Di,lX];obtain⟨v,u,D,E,f⟩:=h;delta V2 at n;rw[wI n];obtain⟨g4,h3,h6,f4,g7,g8,a5,W⟩:=n;rw[ak al s (BQ Z g4),bF h7 i2 (BQ Z h3)];obtain⟨c,e9,M⟩:=BQ Z h6;obtain⟨d,dl,dp⟩:=BQ Z f4;rw[fW iF bh4 (ar ic)];have a4:=sF (f_ 0);have b5:=sF Ze;have c8:=sF (ga 0);have d9:=sF amZ;have b6:=vj (Z.BO _ (yG hi));have S:=vj (HF hi);have e5:=Le d9 (mU h7) (l4 h7 m.1);have e0:=fm d9 dl dl;have K:=ad5 Y (ah4 (v b (Lc (Le a4 (mU al) (aJ (G_ S))) (fm a4 h7 h7)) (ah4 (v d (Lc e5 e0) (ah4 (v c (ad_ (Lc (Le b5 (mU e9) (l4 e9 m.1)) (aea b5 (mU dl) (fun x G=>by rw[bJ (HM G)];refine Lf Z m.1 dl ?_;simp[*])))) (ad_ (Lc (Le c8 (mU al) (fun x G=>G_ G)) (fm c8 e9 e9))))))))) (aJ (by rw[beh];rcases S with S|S|⟨y,S,rfl⟩|⟨y,S,rfl⟩;rw[dQ (Ld Z a4 g7 S),dQ (Ld Z d9 W S),co (Ld Z b5 g8 S),co (Ld Z c8 a5 S)]));rw[j7 o (adW Y J K aJ a_)];have e:=atd Z T f C K o;rw[a6 (atc Z T f K)];have nd:c7 O6:=V0 _;rw[ak sub O6 iz (fb a0)];have c9:fl (jG (f_ 0)++(jG amZ++(FV Ze++FV (ga 0))))=an (ef (jG (f_ 0))+(ef (jG amZ)+((-ef (jG Ze))+(-ef (jG (ga 0)))))):=by{funext e;simp only[ad',ate]};rw[c9,kn,kn,kn,BM,BM,ut a4,ut b5,ut c8,ut d9]at e;have j:∀h:Ln,h∈O6↔N (h∈bX) (h.1<t) (t<=h.2) (0<i1 h.1 h.2):=c8 (ar VZ);have c3:=ai (by have:=mQ b q h7;rw[bX iF i2,uk];omega);have l:t<=d:=by{rw[d4 d t,i1 (mR d g),l g]};rw[nm (f_ 0) (by have e1:=aJF;have:=mQ h.2 (bU aHZ) e1.1;rw[am iF];have:=e1.2;rw[uk];lia-abstractProof),nm Ze (by have e1:=aJG;have:=mR h.1 (aV aHZ);rw[am iF];grind-abstractProof),nm (ga 0) (by rw[bJ aHZ];have e1:=aJF;have k:=wu (Gi c8 c7) e1.1;rw[bs iF];have d2:=(aJG).2;have q2:=e1.2;simp at d2 q2;rw[Hf beU];have:0<=bc_:=s_ fk (x (Ks z.x));rw[b4]at m;have b9:beU= -(bc_):=by{lia};exact RS m.2.2.2 b9.m this),(atg (t:=t) (m:=O6) d9 e5 e0 (fun h c7=>by rw[j h];have e1:=aJF;have k:=wu (Gi d9 c7) e1.1;rw[bs iF];have d2:=(aJG).2;have q2:=e1.2;simp at d2 q2;rw[Hf (bm ald alc*bm r.w z.x),i5 (ai ⟨q.2.1,aS q⟩) (ai (d (Ld Z d9 W c7) q.1 q.2 (t b4 (hD fk (w1 u)))))]))]at e;simp only[ind,c3,l,mJ,iR]at e;rw[fS,eM (zw Y aJ a_)];have c0:iI 0=0:=by{have:=I.adT 0 VJ;lia-abstractProof};have:=o.F_ hh 0 (by rw[cy ((zw Y t wz).gap hh (ac HJ ow al_)),cb (J.ox wz a_)];exact cn a b) VJ ah;rw[am o.zero];lia-abstractProof
universe GM
namespace GM
open Gla
variable{r:Plan}
noncomputable def yJ(l:ao):cI:=a_c
theorem aeb(F:Fd):Gg (ar F (a+b) h=ar F a h++ar F b (cF a))|0,b,h=>eJ ar it|a+1,b,h=>by rw[dw (a+1+b) ((a+b)+1)];simp[ar,aeb F a b (F h),Gf,it]
theorem aRg{F:Fd}{h:Ln}{m j:Nat}(ret:cF m=h)(b8:j<=m):df uF j++an uF j=ar F m kZ:=by have b4:uF=ar F j h++ar F (m-j) kZ:=by{rw[<-aeb];rw[dW];simp[*]};have b9:ar F m kZ=ar F (m-j) kZ++ar F j (it F (m-j) kZ):=by{rw[<-aeb];rw[dW];simp[*]};have e7:it F (m-j) kZ=h:=by{rw[<-yF,mq (m-j+j) m,ret]};rw[b9,e7,b4];rw[b2 (BN (F:=F) j h)];simp[*]
theorem ati(Z:bq){J:n_}{h:Ln}(H:rL){m:Nat}(P:sj ri h m):aP n j (j<m->m-j<=n->aCz n h Fx=gU (ar ri (m-j) Fx))|0,j,b8,d1=>cq|n+1,j,b8,d1=>by rw[aS (m-j) ((m-(j+1))+1) (L m j b8 m (j+1)) (L m (j+1) b8 m j)];simp only[V3,ar,da];rw[dW,ab e ((Fx).2,r.next (Fx).1 (Fx).2) (it ri (j+1) h)];rw[e];rw[T (j+1) m];{rw[q,Na];simp[ar]};{rw[bj (ahT (j+1) pT Yq),ati Z (J:=J) H P n (j+1) Yq Bf];rfl}
noncomputable def Gj(r:Plan)(h:Ln):ao:=ah6 (aCz alG h h)
theorem atj:Fr (aHY<=a/\aK l (aHY<=x))|[],a=>aQ|b::l,a=>by have:=atj l aak;rw[YT];exact⟨cn et aoD,aJ (cd (h_ S) (an (t e (cn et alO))) (this.2 x))⟩
theorem atk:Fr (aHY∈a::l)|[],a=>x fu|b::l,a=>by have:=atk l aak;rw[YT];grind-abstractProof
theorem aRh(Z:bq){J:n_}{h:Ln}(H:rL){m:Nat}(P:sj ri h m)(c4:m<=2*dP):∃j,j<m/\uK=gU (go Fx)/\aK (go h) ((Fx).1<=x.1):=by have e:=ati Z (J:=J) H P alG 0 VQ EM;rw[ku it ah7];delta Gj;rw[e];have len:=BN (F:=ri) m h;cases d3:go h with|nil=>{rw[d3]at len;simp at len;have:=VQ;simp_all}|cons a l=>simp only[da,ah6];generalize U:(Eo).foldl min a.1=W;rw[br mm (W∈aoo) U (atk _ _)];have g8:=atj (Eo) a.1;rw[U]at g8;generalize b8:(a.1::Eo).idxOf W=j;rw[dC j4 (j<t aoo),ca b (j<m),bZ j b ?_];{rw[ae D aoo am7];rw[D,<-Dk,<-Dj,<-fe,aRg Na (h3 b)]};{rw[dC u9 (aa (a.1::Eo) W),ae D aoo am7];rw[D,cz,Gg (F:=ri) m h j b]at u9;grind}
theorem atl:ti (an2->(Eo).zip (df Eo 1++[b])=l)|[],a,b,_=>bI|[h],a,b,⟨a3,a9⟩=>a8d|h::g::l,a,b,⟨a3,a9⟩=>by rw[ds (atl a9)];have g7:=a9.1;simp at d6⊢;grind-abstractProof
theorem aRi(Z:bq){J:n_}{h:Ln}(H:rL){m:Nat}(c9:0<m)(ret:it ri m h=h):yJ (am7)=go h:=by have W:=K5 (Z.mp J) hF m H;rw[ret]at W;delta yJ;have:an am7 1=[h.1]:=by{cases m with|zero=>{simp_all}|succ m=>rfl};rw[J this (atl W)]
theorem Lay.atm(Z:bq){h:Ln}:h∈ways r↔rL:=by delta ways oy;simp only[V4,hC,oR,Dl];constructor;{rintro⟨l,a5,rfl|rfl⟩;rw[l pQ,co a5]};{rintro(a3|a3);rw[l (v h a3 gj),l (v hg a3 ES)]}
structure Net(r:Plan):Prop where
 lay:bq
 frame:Y0
 conn:K4 iq
 aRj:E v (v<aJ) (asU iq v)
 start:fr bX (e.1=0)
variable{J:n_}
theorem Net.orb(N:jX)(J:n_){h:Ln}(H:rL):∃m g,sj ri g m/\dP g/\uK=gU (go g)/\yJ uK=go g/\kP=oa/\ad x (dP x) (x∈go g↔wq x=oa)/\(o x (dP x) (wq x=oa) (g.1<=x.1)):=by have Y:=Nl;rw[aHJ,bW P c4 (aQS d5 Y H)];obtain⟨j,b,e,least⟩:=aRh iT (J:=J) H P c4;have G:=anb;have PG:=P.shift d5 Y H j;have i5:=ad7 d5 Y H j;rw[b m Fx PG G e ?_ i5 (fun x X=>?_) (fun x X q=>?_),Z e (aRi iT (J:=J) G PG.pos PG.ret)];{rw[SS d5 Y ah8 G X PG,i5]};rw[l (least x (ae (SS d5 Y ah8 H X P) q))]
theorem Net.SW(N:jX)(J:n_){g h:Ln}(G:dP g)(H:rL):Gj r g=uK↔kP=oa:=by rw[lL A G];obtain⟨n,b,c,B,f7,d1,i5,D,e⟩:=N.orb J H;constructor;{(intros;simp_all only)};{rw[fS,cZ u a.1 b.1,cj i hi (Nb (ae (D a A) (bj F q)))];have o:i=0:=by{have g8:ap (gU (ar ri n b)) 0 a.1:=by{rw[cz,Gg _ _ _ c.pos,u];rfl};exact asT (aQT (a24 J) Nl N.aRj B c) (by rw[cz,Gg _ _ _ hi,d2];rfl) g8};subst o;have f5:b=a:=d2;subst f5;have W:m=n:=by{rw[fe m n,cF d.ret (c.min m d.pos q),iy,cF c.ret (d.min n c.pos q)]};rw[d0,f7,W]}
noncomputable def iG(g:dA):anC|[]=>0|h::l=>g h+iG g l
theorem ato(Z:bq){g:dA}(j:∀e,g (rv e)= -g e):dy (V h l rL) (ct (ef l*g e) bX) (iG g l)|[],_=>by{have:(an (ef []*g e))=ng:=by{funext e;simp[fl]};rw[this,Ge];rfl}|h::l,H=>by have b4:(an (ef (h::l)*g e))=an ((O2*g e)+(ef l*g e)):=by{funext e;simp[fl];grind-abstractProof};rw[b4,kn,ato Z j aJ2];simp only[iG];rw[dW];have O:∀(e:Ln),O2*g e=bgO:=by{intro e;delta BL ind;rw[T h e,cL];grind-abstractProof};rw[ae b9 (an (O2*g e)) (an bgO)];rw[b9,kn];have i:∀(f:dA)(c:Int)(l:cI),ct (f e*c) l=cR f l*c:=by{intro f c l;induction l with|nil=>{simp[cR]}|cons a b d6=>simp[cR,d6];grind-abstractProof};rw[i,i,K3 h Z.nd,ad4 h Z.nd];have Y:=hF;have d:=H h bK;rw[a9n];{have m:h∈bX:=d.up Y q;rw[baJ];simp[ind,m,e1]};{have m:hg∈bX:=d.dn Y q;rw[baI];simp[ind,m,e1]}
theorem atp(f g:dA):l3 (iG (c8 (f h+g h)) l=iG f l+iG g l)|[]=>rfl|h::l=>by simp[iG,atp f g l];simp+arith [*]
theorem atq(f:dA)(c:Int):l3 (iG (c8 (c*f h)) l=c*iG f l)|[]=>ar iG|h::l=>by simp[iG,atq f c l];grind-abstractProof
theorem atr(p:ee):ti (an2->iG (c8 (p h.2-p h.1)) l=p b-p a)|[],a,b,h=>by{rw[cH];simp[iG]}|h::l,a,b,⟨a3,a9⟩=>by simp only[iG,atr p a9,a3];simp+arith [*]
noncomputable def SX(r:Plan)(h:Ln):Int:=v (bp h.1).x*v ald-v (bp h.2).x*v alc
theorem aRk(r:Plan)(l:ao):aCA r l=iG (SX r) (yJ l):=by delta aCA yJ;generalize a_c=q;induction q with|nil=>{rfl}|cons a b d6=>exact Av
theorem Net.ats(N:jX)(J:n_){h:Ln}(H:rL):0<aCA r uK↔oa≠0:=by have Y:=Nl;rw[aHJ,lL A H];rw[<-F,<-aQU d5 Y ah8 ah9 A d];let G:dA:=an (((gK).u e.1+(gK).u e.2)*((gK).k e.2-(gK).k e.1));have b4:cR (SO iq (fl (go a))) (gK).lines=iG G (go a):=ato iT (g:=G) (an (by simp only[G,rv];grind-abstractProof)) (q6 (dN A j));rw[b4,aRk,R];obtain⟨pv,b⟩:∃pv:ee,∀v,pv v=Ai*(Y6*(amO*(ed).y)+amO*amO):=aW gW;have b9:G=c8 ((Ai*Y6)*SX r h+(pv h.2-pv h.1)):=by{funext h;simp only[G,td,SX,ky,b];grind-abstractProof};have W:=K5 d5 Y m A;rw[d.ret]at W;rw[b9,atp,atq,atr pv W];have p:0<Ai*Y6:=hD N.lay.as1 aQ;generalize Ai*Q6=c at*;generalize iG (SX r) (go a)=x at*;constructor;{rw[fS];have:=hD p q;rw[xI]};{rw[fS,sR x,AX,i1 (Ng (eW p) g)]}
theorem atu(Z:bq)(z:Pt):dy (V h l rL) (kk (zx (HH r z))%2) ((cR (fl l) Jw)%2)|[],_=>a9P|h::l,H=>by have d6:=atu Z z (l:=l) aJ2;rw[aKK];rw[this,kn];have Y:=hF;have d:=H h bK;have nd:c7 Jw:=V0 _;have b4:sE Jw=o8 Jw-ind (hg∈Jw):=by{rw[a_b];show ct (Al-Am) _=_;rw[aLN];rw[this,kn,BM];rfl};rw[b4];rw[bC p (mi h)];{rw[z u (mi hg=ab) as_ p];rw[ah_ p,ia];rw[a9n];{have m:h∈bX:=d.up Y q;rw[baJ];simp[ind,m,e1,p];lia-abstractProof};{have m:hg∈bX:=d.dn Y q;rw[baI];simp[ind,m,e1,u];lia-abstractProof}};{rw[z u (¬mi hg=ab) as_ p];simp[*]}
theorem aRl(l:ao)(z:Pt):bE (ah' r l z) (gr (yJ l) (HH r z)%2=1):=by delta ah' yJ HH;simp
theorem aRm{z:Pt}(h:Fs):Qd:=Dh Di
theorem atv(Z:bq){t:Nat}{z:Pt}(T:oh){A B:Row}(C:Z2):hh<amg:=by rw[cy ((zw hF t wz).gap hh (ac HJ ow al_))];have b2:=J.ox wz a_;exact pN
theorem Net.inside(N:jX){t:Nat}{z:Pt}(T:oh)(h:Fs){A B:Row}(C:Z2){g:Ln}(G:dP g)(e5:kP≠0):bE (ah' r (Gj r g) z) (iI hh=kP):=by have Y:=Nl;rw[aHJ,lL b G];have c7:aK (go a) (dP x):=q6 (dN b j);rw[aRl,R];have M:=atu iT z c7;obtain⟨w,W,hw⟩:=asX d5 Y ah8 ah9 b d;rw[<-(atd iT T (aRm h) C (asW d5 Y b d) W),hw _ (atv iT T C),F]at M;rw[aC O (ind (kP=0)) 0 (bj bG)];rw[O]at M;rw[ab f5 ((cA (gK).n).aP hh) (iI hh)];rw[f5]at M;delta ind at M;split at M;{rw[jY]};rw[jY]
theorem aec(N:jX)(J:n_){l:ao}:l∈te↔∃h,rL/\uK=l/\oa≠0:=by delta wA;simp only[Nk,V5,fJ,iS];constructor;{rintro⟨⟨h,hw,rfl⟩,a⟩;have H:=N.lay.atm.mp hw;exact cg h H (x (N.ats J H) a)};{rintro⟨h,H,rfl,a⟩;exact⟨bp h (N.lay.atm.mpr H),ae (N.ats J H) a⟩}
theorem aed{I:Type} [BEq I] [aCB I]:∀(n:Nat)(l:ba),d_<=n->l.eraseDups.Nodup|0,l,h=>ah|n+1,[],h=>aQ|n+1,a::l,h=>by rw[List.eraseDups_cons];refine a25 (lG (aed n _ cq));rw[V5];simp
theorem aRn(r:Plan):r.outlines.Nodup:=cG wA (a26 _ (aed _ (L (ways r) bbs) a_))
theorem Net.among(N:jX){t:Nat}{z:Pt}(T:oh)(h:Fs){A B:Row}(C:Z2){g:Ln}(G:dP g)(d8:kP=iI hh):a_v:=by delta aCC;rw[aK h];have c6:=HN C;cases W:r.outlines.find? (ch (ah' r l z))with|none=>{rw[a28]at W;exact cy (ae (N.inside T h C G ag) d8.symm) (W _ (ae (aec N J) (cg g G ag)))}|some l=>have p:=List.find?_some W;obtain⟨x,X,rfl,R⟩:=x (aec N J) (a27 W);have:=x (N.inside T h C X R) p;rw[ae (N.SW J X G) ag]
theorem Net.count(N:jX)(J:n_):Nm=t (dy amg bfd):=by have Y:=Nl;have I:=zw Y aJ a_;have ex:e3 (∃h,aHG->rL/\aHN=x):=ab (by by_cases q:aHG;{rw[aO h H (asY Y J ah9 (x:=x) q)];exact⟨h,au ⟨H,e⟩⟩};rw[l ⟨(0,0),J (cy z q)⟩]);let d:dg Ln:=ab (agR (ex x));have c0:=fun x q=>aA7 (ex x) q;have g:E x aHG (wq (d x)=iI x):=fun x q=>by{show iI (sd (cA aJ).side (d x))=_;rw[(c0 x q).2]};have p:r.outlines.Perm (gA (dy amg bfd) (Gj r (d x))):=by{rw[HB (aRn r) ?_]at⊢;{rw[rF];rw[aec N J];simp only[fJ,Nk,aCD,iS];constructor;{rintro⟨h,H,rfl,c6⟩;have f:aHN<amg:=(Dd Y H);have o:=M7 _ f;rw[cl (I.K2 _ f),ab e oa (iI aHN)];rw[<-e]at o c;rw[aa oa (v o c c6) (ae (N.SW J (c0 _ o).1 H) cq)]};grind-abstractProof};{rw[JZ,hY (List.nodup_range.filter _),rc e];simp only[Nk,aCD,iS]at b3 U;have:=x (N.SW J (c0 a b3.1).1 (c0 b U.1).1) e;rw[g a b3.1,g b U.1,b3.2.1,U.2.1]at this;exact ne this}};rw[p.length_eq,bA]
theorem Net.follows(N:jX)(J:n_){h:Ln}(H:rL){i j:Nat}(b:dP (i,j)):bE (follows uK i j) (wq (i,j)=oa):=by rw[lL A H];delta Gla.follows;rw[dO ((uK).zip (df uK 1++an uK 1)) (yJ uK),R];simp[*]
universe GM
namespace GM
inductive Gk(par:gn)(a:Nat):mb|refl:a1 a a|step{b c:Nat}:par b=aa c->a1 a c->Po
theorem Gk.trans{par:gn}{a b c:Nat}(h:Po)(g:a1 b c):a1 a c:=by induction g with|refl=>{exact h}|step e _ d6=>exact .step e d6
structure DInv(a5:lZ)(B:ao)(par:gn)(c:cD)(path:ao):Prop where
 nd:B.Nodup
 head:a_u
 yK:par 0=ae
 BR:a'D
 ve:bg8
 bjs:aK dI nq
 chain:aK dI (E t (a29=aa t) (a1 x t))
 SY:e3 (c x<=Y3)
 seen:aK B (∀(j:Nat)(y:Nat),j<c x->aa (a5 x) y->y∈B)
 S0:E x (x∉B) (c x=0)
 fin:aK B (x∉dI->c x=Y3)
 BS:ber
 S1:∀(p q:ao),dI=p++q->p≠[]->aK p (E t (p.getLast?=aa t) (a1 x t))
variable{a5:lZ}{B:ao}{par:gn}{c:cD}{path:ao}
theorem aRo(a5:lZ):aia a5 [0] uw ng [0]:=by rw[b ay rfl rfl lO ?_ ay ?_ aQ (a bM lO ?_ ?_ ?_)];{rw[ZA]};{intro x S t c6;simp at S c6;subst S;subst c6;exact .refl};{(intros;trivial)};{rw[ZA]};{intro p q e c2 x S t c6;cases p with|nil=>{trivial}|cons y p=>simp at e;rw[ck rfl e];have:p=[]:=e.1;rw[gm];simp at S c6;subst S;subst c6;exact .refl}
theorem DInv.pop(D:qY dI){p:ao}{t:Nat}(e:dI=p++[t])(h:c t=t (a5 t)):qY p:=by rw[b D.nd V7 D.yK D.BR D.ve (aJ (Nn x ag)) ?_ D.SY (a aib D.S0 ?_ D.BS ?_)];{intro x S t' c6;exact D.S1 p [t] e cq x S t' c6};{intro x S d1;rw[iL t,l IQ,l (V6 x S ag)]};{intro u c4 d3 a3 x S t' c6;exact D.S1 u (c4++[t]) ag a3 x S t' c6}
noncomputable def bump(c:cD)(t:Nat):cD:=ab (v x t (c x+1) (c x))
theorem DInv.old(D:qY dI){t y:Nat}(L:t∈dI)(h:bbp)(b6:y∈B):aia a5 B par (Dm c t) dI:=by rw[b D.nd V7 D.yK D.BR D.ve Nn aCE ?_ (a ?_ ?_ ?_ D.BS D.S1)];{intro x;delta Dm;split;rw[dV,l (D.SY x)]};{intro x S j z b8 c9;rw[aG8];split at b8;{next q=>rw[N d j (c x),az,l (uR (iM d))]};rw[l (uR b8)]};{rw[Bm,s6 (S (q▸Nn t L))];delta Dm;rw[tT];exact D.S0 x S};{intro x S d1;rw[s6 (d1 (q▸L))];delta Dm;rw[tT];exact V6 x S d1}
noncomputable def Lg(par:gn)(y t:Nat):gn:=ab (av (x=y) t (par x))
theorem Gk.keep{y t:Nat}(b6:par y=ae){a b:Nat}(h:Po):Gk aLn a b:=by induction h with|refl=>{exact .refl}|step e _ d6=>refine .step ?_ d6;delta Lg;split;rw[az,l e]
theorem DInv.new(D:qY dI)(sym:apo){t y:Nat}(last:a29=aa t)(h:bbp)(b6:y∉B):aia a5 (eA B) aLn (Dm c t) (eA dI):=by have L:=a2_ Dn;have C:=Nn t L;have r:=D.BR y b6;have b1:=aic (dc V7);have k3:y≠0:=ai (b6 (q▸b1));have ix:ep B (hf (eA B) a=dw a):=fun a b3=>cq;have i:t≠y:=ai (b6 (q▸C));have g:Gk aLn t y:= .step (x cO) .refl;rw[Ch (a ?_ ?_ ?_ ?_ ?_)];{rw[ah1];rw[aa D.nd aQ (fun a b3 b U=>?_)];simp at U;grind-abstractProof};{cases B with|nil=>{simp_all}|cons a J=>simpa using V7};{delta Lg;simp[hs k3];exact D.yK};{intro b U;simp at U;delta Lg;simp[U.2];exact D.BR b U.1};{intro b U n;simp at U;rcases U with U|rfl;{rw[w e v w l (D.ve b U n)];have:b≠y:=ai (b6 (q▸U));rw[aP a (bx Lg this e) (x (vQ _ bG)) w];simp[*]};{rw[aP t (x cO) (x (vQ _ bG)) (bO h)];grind-abstractProof}};{rw[Bm];simp at S⊢;rw[f1 S S,dQ (Nn x S),co bG]};{intro x S t' c6;simp at c6;subst c6;rw[PY,f1 S rfl,bfN,l .refl]};{intro x;delta Dm;split;rw[cL,l (D.SY x)]};{intro x S j z b8 c9;simp at S⊢;rw[f1 S rfl];{rw[aG8];split at b8;{next q=>rw[N d j (c x),az,dQ (uR (iM d))]};rw[dQ (uR b8)]};{rw[aG8];simp[hs i]at b8;rw[D.S0 _ b6]at b8;simp_all}};{rw[Bm,PY,s6 (S.1 (q▸C))];delta Dm;rw[tT];exact D.S0 x S.1};{intro x S d1;simp at S d1;rw[f1 S S];{rw[s6 (d1.1 (q▸L))];delta Dm;rw[tT];exact V6 x S d1.1};grind-abstractProof};{intro a b3 b U l w;simp at b3 U;rcases U with U|rfl;{rw[bal];{rw[ix a b3,ix b U]at l;exact(D.BS a b3 b U l w).keep r};grind-abstractProof};{rw[bal];{by_cases q:a∈dI;rw[l (B ((aCE a q t Dn).keep r) g)];{exfalso;rw[eS (V6 a b3 q),aO j b8 (ib w)];exact b6 (aib a b3 j b ag ag)}};{rw[Ff]}}};{intro p q e c2 x S t' c6;rw[N d7 q []];{subst d7;simp at e;rw[bY];simp at c6;subst c6;rw[PY,f1 S rfl,bfN,l .refl]};{obtain⟨c4,z,rfl⟩:∃c4 z,q=c4++[z]:=v q.dropLast (q.getLast d7) (bt (List.dropLast_concat_getLast d7));rw[ps dv];have:=List.append_inj_left' e rfl;exact(D.S1 p c4 this c2 x S t' c6).keep r}}
universe GM
namespace GM
structure Tree(a5:lZ)(B:ao)(par:gn):Prop where
 sym:apo
 nd:B.Nodup
 head:a_u
 yK:par 0=ae
 BR:a'D
 ve:bg8
 Lh:aK B (dt (a5 x) (y∈B))
 BS:ber
variable{a5:lZ}{B:ao}{par:gn}{c:cD}
theorem DInv.tree(D:qY [])(sym:apo):ji:=a sym D.nd V7 D.yK D.BR D.ve (fun x S y b6=>by rw[eS (V6 x S jI),aO j b8 (ib b6)];exact aib x S j y ag ag) D.BS
theorem Tree.zero(T:ji):0∈B:=aic (dc T.head)
theorem Tree.reach(T:ji){P:mb}(f:P 0)(e9:f a b I1 OF (P a) (P b)):aK B (P x):=by have:l k x nq apk (P x):=by{intro k;induction k with|zero=>{rw[bZ x _];simp_all}|succ k d6=>rw[bZ x S,iL 0,aZ];{have⟨a,_,v,w,l⟩:=aJg;grind-abstractProof}};rw[Bm];exact bbL
theorem Tree.aee(T:ji){b c:Nat}(h:par b=aa c):z (b∈B) (b≠0) (c∈B) (b∈a5 c) (dw c<dw b):=by have U:=qG (ai (by rw[aj (T.BR b q),cH]));have b1:b≠0:=ai (by rw[q,T.yK]at h;rw[cH]);have⟨a,e,v,w,l⟩:=T.ve b U b1;rw[a6 h];simp_all
theorem Tree.S2(T:ji){a b:Nat}(h:Po):dw a<=dw b:=by induction h with|refl=>{exact a_}|step e _ d6=>rw[h0 (a2 (aid e)) (ew (fb d6 this))]
theorem Tree.inj(T:ji){a b:Nat}(b3:I1)(U:b∈B)(h:dw a=dw b):a=b:=by rw[gr (aie (xs:=B) (x:=b) (wB U))];grind-abstractProof
theorem atw{a b x:Nat}(h:a1 a x)(g:a1 b x):Po\/a1 b a:=by induction h with|refl=>{rw[o6 g]}|step e h d6=>cases g with|refl=>{rw[mT (.step e h)]}|step d3 g'=>simp_all
theorem Tree.root(T:ji):aK B (a1 0 x):=by have:l k x nq apk (a1 0 x):=by{intro k;induction k with|zero=>{rw[bZ x _];simp_all}|succ k d6=>rw[bZ x S,iL 0,Z q .refl];{have⟨a,e,v,w,l⟩:=aJg;exact .step e (d6 a v (bn l h))}};rw[Bm];exact bbL
theorem aef{a c u:Nat}(h:a1 a c)(e:Qk)(ne:a≠c):a1 a u:=by cases h with|refl=>{trivial}|step d3 h'=>simp_all
structure BU(a5:lZ)(B:ao)(par:gn)(Z:cD):Prop where
 a:ln (Z v<=nk)
 b:ot (par w≠pC) (dw w)
 c:ot aHw (Z w)
 d:ln (Z v=nk\/(gx (a5 v) (par w≠pC/\dw w=Z v))\/(gx (a5 v) (aHw/\Z w=Z v)))
variable{Z:cD}
theorem BU.anc(W:Z9)(T:ji){v x:Nat}(h:a1 v x):Z v<=Z x:=by induction h with|refl=>{exact a_}|step e _ d6=>rw[lv e];have:=W.c _ (aS m) _ (aS m.2) e;exact pN
theorem BU.le(W:Z9)(T:ji){v x w:Nat}(h:a1 v x)(S:nq)(hw:w∈a5 x):Z v<=dw w:=by have a3:=W.anc T h;by_cases q:dK w x;rw[mz (W.a x S) (a2 (aid q)),cb (W.b x S w hw q) pN]
theorem BU.att(W:Z9)(T:ji){v:Nat}(d3:v∈B):bfk:=by have:l k v (v∈B) (eB-nk<k) bfk:=by{intro k;induction k with|zero=>{rw[bZ v _];simp_all}|succ k d6=>rw[bZ v d3];rcases W.d v d3 with q|⟨w,g,_,e⟩|⟨w,g,C,e⟩;rw[l (d v .refl d3 (.inl q)),l (d v .refl d3 (.inr (v w g e)))];{rw[lv C];have N:=wB m.1;obtain⟨x,a,b,S⟩:=d6 w m.1 (x (uR (aC eB (List.idxOf w B) N) (aS eB (List.idxOf v B)) h (a2 m)));rw[bZ x (B (Gk.step C .refl) a) b];rcases S with S|⟨z,a0,c1⟩;rw[i1 (W.le T (v:=w) (x:=w) (w:=v) .refl m.1 (V8 _ _ g))];grind-abstractProof}};exact this _ v d3 jR
theorem Tree.aRr(T:ji)(W:Z9){u c:Nat}(D:Qk)(h:dw u<=Z c)(f:u≠0):oG (¬a1 c a) (¬a1 c b):=by intro a b v w d j b0 d1;rw[lv D];have bo:=Np a v b w;rw[uW (ai (w8 (V9 v bo q)))];{rcases atw bhd d1 with k9|R;{have le:=W.le T d1 bo (V8 _ _ w);have:=T.S2 (aef k9 D (ai (b0 (q▸.refl))));exact d (V9 v (aS m) (gy Ew (cf h le)))};rw[cY]};rw[cb bhe (b0 (d1.trans this))]
theorem Tree.atx(T:ji){c u:Nat}(D:Qk):¬a1 c 0:=by rw[eD];cases h with|refl=>{rw[zy T.yK]}|step e _=>rw[a6 T.yK,dS]
theorem Tree.aRs(T:ji)(W:Z9){u:Nat}(f:u≠0)(h:E c Qk (Z c<dw u)){Q:mb}(N:Q 0)(e9:oG (Q a) (Q b)):aK B (x≠u->Q x):=by rw[Lb (z≠u)];have:f k x nq apk (x≠u) (Q x):=by{intro k;induction k with|zero=>{rw[bZ x _];simp_all}|succ k d6=>intro x S c3 o;rw[iL 0,aZ];{have⟨p,e,po,A,l⟩:=aJg;rw[N a9 p u];{subst a9;have lo:=h x e;have⟨y,j,I,b6⟩:=W.att T S;rw[e1 hw (gx (a5 y) (dw w=Z x))];have⟨w,g,n⟩:=hw;have d:=Np y I w g;have r:w≠p:=ai cq;have below:CW (z≠p):=fun z s _ q=>by{have:=T.S2 s;rw[e_];exact gv this l};have i:=e9 w y d (V8 _ _ g) r (tf y j I) (d6 w d (x (uR n.l lo l c3)) r);grind-abstractProof};grind-abstractProof}};intro x S o;exact this _ x S jR o
theorem Tree.aRt(T:ji){c:Nat}(D:Ya):oF (a1 c a) (a1 c b):=by intro a b v w y n R;have bo:=Np a v b w;rw[b1 (dw a) (dw b)];{have:=V9 v bo e;rw[gm];exact R};{rw[uW e,l (wC bhd)];{rcases atw bhe R with f|d1;{rw[T b c,az];{have:=aef f D q;have le:=T.S2 this;have:=V9 bo T.zero (by have z:dw 0=0:=by{cases B with|nil=>{rfl}|cons a J=>have:=T.head;simp_all};simp_all);exact cy this n}};rw[aZ]}}
set_option tactic.hygienic true in theorem Tree.child(T:ji){x:Nat}(S:nq)(R:x≠0):z c Ya (a1 c x):=by have h:=T.root x S;have O:o y (a1 0 y) (y≠0) (z c Ya (a1 c y)):=by{rw[du y];induction h with|refl=>{simp}|step e h' d6=>rename_i b c;intro _;rw[T c 0];{rw[e_];exact v b e .refl};{obtain⟨d,d3,ad⟩:=d6 q;exact v d d3 (.step e ad)}};exact O x h R
theorem Tree.other(T:ji){c d:Nat}(D:Ya)(d3:dK d 0)(ne:c≠d):¬a1 c d:=by rw[eD];have:=aef h d3 ne;have le:=T.S2 this;rw[lv D];exact gv le (a2 m)
theorem Tree.aRu(T:ji){c s:Nat}(one:E d (dK d 0) (d=c))(d8:s∈B)(s0:s≠0){Q:mb}(v:Q s)(e9:oF (Q a) (Q b)):aK B (x≠0->Q x):=by have⟨C,g,n⟩:=aCF d8 s0;have:=one C g;rw[Lb (z≠0)];have X:=G C s n d8 (fun z j _ q=>by rw[e_];exact T.atx g j) v;have:f k x nq apk (x≠0) (Q x):=by{intro k;induction k with|zero=>{rw[bZ x _];simp_all}|succ k d6=>intro x S c3 R;have⟨p,e,po,A,l⟩:=T.ve x S R;rw[d3 f p,az];grind-abstractProof};intro x S R;exact this _ x S jR R
universe GM
namespace GM
open Gla
noncomputable def yL(a:EN):Nat:=t (a.filter (· ==ai))
theorem aty:∀{l:EN}{j:Nat},aa l ai->yL (V_ j ab)+1=yL l|[],j,h=>bB|b::l,0,h=>by{rw[lX];subst h;rfl}|b::l,j+1,h=>by rw[lX,ds (aty h)];unfold yL at d6⊢;simp only[List.set_cons_succ];grind-abstractProof
abbrev Bst:=ao×PM
noncomputable def BV(a:Bst)(j:Nat):Bst:=bcQ
theorem Gm{a:PM}{j x:Nat}(h:a.getD j ab=ai):am (a.setIfInBounds j ab) x ab=v x j ab (a.getD x ab):=by rw[e1 j4 (j<a.size),iL j,az];{simp only[q,iR];simp only[Wa,Array.size_setIfInBounds];split;{next l=>exact Array.getElem_setIfInBounds_ne l (hs q)};{rfl}}
theorem atz:∀(l:ao)(a:Bst),((ZJ).2.size=a.2.size)/\(e3 (bE ((ZJ).2.getD x ab) (sq x=ab\/x∈l)))/\(e3 (x∈(ZJ).1↔x∈a.1\/(x∈l/\sq x=ai)))/\((ZJ).1.length+yL (ZJ).2.toList=a.1.length+yL a.2.toList)|[],a=>aQ|j::l,a=>by rw[YT,u6 (atz l (BV a j))];cases U:sq j with|true=>{have e:BV a j=a:=by{delta BV;exact kO};rw[fT]}|false=>have e:BV a j=a7Q:=by{delta BV;simp[U]};rw[dC j4 (j<a.2.size)];rw[e]at a3 a9 e2 e5⊢;rw[bZ ag Jf Jf,IC (a9 x),IC (e2 x)];{rw[e5];simp only[ia,Array.toList_setIfInBounds];have:aa a.2.toList ai:=ah;have:=aty this;simp+arith [*]}
structure SInv(a5:lZ)(n:Nat)(first:mb)(P:mb)(i:ao)(seen:PM):Prop where
 size:seen.size=n
 atA:aK i (P x/\x<n)
 base:E j (zB j) (p1 j)
 sound:o j (j<n) (p1 j) (zB j\/P j)
 Lh:o x (x<n) (p1 x) (zB x\/x∈i\/dt (a5 x) (p1 y))
theorem atB{d:fq ao}{n:Nat}{first P:mb}(d1:a9A)(C:F7 (¬zB b)):∀(r:Nat)(i:ao)(seen:PM),fJ zB i Nq->i.length+yL seen.toList<=r->fJ zB [] (aih d r i Nq)/\E x (p1 x) (am (aih d r i Nq) x ab=ab)|0,i,seen,I,h=>by{have:i=[]:=a3a ah;rw[gm];exact⟨I,fun _ h=>h⟩}|r+1,[],seen,I,h=>by{simp only[aih];simp_all}|r+1,k::J,seen,I,h=>by simp only[aih];rw[ab e ((Nr k []).foldl (fun(a:bL Nat×fq cb)(j:Nat)=>bcQ) (J,Nq)) a9Q];rw[e];rw[u6 (atz (Nr k []) (J,Nq))];generalize a9Q=z at*;simp only at a3 a9 e2 e5;rw[b2 (I.atA k bK),lX];obtain⟨r1,r2⟩:=atB d1 C r z.1 z.2 (by rw[j (t a3 Wb) qk (i4 (ae (a9 j) (.inl (aif j b8)))) (fun j b8 c0=>?_) (fun x S c0=>?_)];{rcases x (e2 x) S with q|⟨q,g⟩;rw[l (I.atA x rq)];{rw[v (C k x l.2 l.1 q (fun f=>?_)) (d1 k x q)];rw[aif x f]at g;rw[rD]}};{rw[al (x (a9 j) c0),l (I.sound j b8 q)];by_cases f:zB j;rw[dQ f,co (C k j l.2 l.1 q f)]};{rw[bC q (a2' x ab)];{rcases I.Lh x S q with c|c|c;rw[Fl];{rw[el]};simp_all};simp_all}) (bn e5.l h);simp_all
theorem aRv(l:EN):yL l<=d_:=AO
theorem aRw{d:fq ao}{n i:Nat}{first:PM}{P:mb}(hi:i<n)(c0:first.size=n)(d1:a9A)(C:F7 (¬aCH b ab=ab))(f:P i)(c:aCH i ab=ai):fJ (iQ (aCH j ab=ab)) [] (aii d n i zB)/\am (aii d n i zB) i ab=ab:=by have:=atB d1 C (n+1) [i] (aCG i ab) (by rw[j (ar c0) qk Rq a9u (fun x S h=>?_),az];{rw[Gm c];simp[b8]};{rw[aj (Gm c)];lia-abstractProof};{rw[aj (Gm c),el]}) (by have:yL (pu (aCG i ab))<=(aCG i ab).toList.length:=aRv _;rw[el]);rw[v et (this.2 i ?_),J (Gm c) cO]
variable{r:Plan}
theorem Li(r:Plan)(x:Nat):r.nears.getD x []=if x<aJ then ig x else []:=by delta aCI;simp only[Wa];split;rw[baz,Pn]
theorem Lj(n x:Nat):am (Dq n) x ab=! cv (x<n):=by delta Dq;simp only[Wa];split;rw[baz];simp_all
theorem atD(d1:aI6)(b1:0<aJ){P:mb}(f:P 0)(C:f a b (a<aJ) (P a) amF (P b)):let z:=XU;Wc=aJ/\g1 0/\(o j oe (g1 j) (P j))/\o x (x<aJ) (g1 x) a'd:=by rw[tL,u 0 (Dq aJ) b1 (by rw[Li]at b6;grind) (fun a b b3 u U _=>C a b b3 u (by rw[Li]at U;simpa[b3]using U)) f (mr Lj b1),w I.1.size I.2 a9u (fun x S h y b6=>?_)];{rw[bfe];{rw[cR Lj];simp at q;lia};rw[iy]};{rcases I.1.Lh x S h with q|q|q;{rw[cR Lj];simp at q;omega};rw[az,l beW]}
theorem atE(d1:aI6){i s:Nat}(hi:gX)(c0:s<aJ)(ne:s≠i){P:mb}(f:P s)(C:∀a b,c (a<aJ) (P a) amF (b≠i) (P b)):let z:=io s ZN;Wc=aJ/\g1 s/\(∀j,i oe (j≠i) (g1 j) (P j))/\(e3 (i (x<aJ) (x≠i) (g1 x) a'd))/\g1 i:=by rw[tL];have k:E x (x<aJ) (am ZN x ab=ar x i):=aJ (by rw[Gm (mr Lj hi),Lj];simp[*]);rw[u s ZN c0 (by rw[Li]at b6;grind-abstractProof) (fun a b b3 u U w=>by have j6:amF:=by{rw[Li]at U;simpa[b3]using U};grind-abstractProof) f ag,j I.1.size I.2 (fun j b8 d h=>?_) (fun x S c h y b6=>?_) (I.1.base i ag)];{rw[bfe,az,iy]};{rcases I.1.Lh x S h with q|q|q;rw[az,az,l beW]}
theorem atG{z:PM}{n:Nat}(h:Wc=n):bE (z.contains ai) (z j (j<n) (aij j ab=ai)):=by rw[Array.contains_iff_mem,Array.mem_iff_getElem];constructor;{rw[iI i hi];exact v i (bU hi h.l) (bx Wa hi e)};{rw[ao6,cl j4 (j<Wc)];exact v j j4 ah}
universe GM
namespace GM
open Gla
structure UF(f:ao)(cnt:Nat)(aP:cD):Prop where
 len:Dr=cnt
 le:BC (l<=x)
 same:aP x l (alj->aP l=kM)
 root:BC (l=x↔kM=x)
variable{f:ao}{cnt:Nat}{aP:cD}
theorem UF.get(d:FA){x:Nat}(h:I0):z l alj (l<=x):=by rw[z S (x<Dr) qS h];exact av (dd S) (Nt x _ (dd S))
theorem aRx:UF [0] 1 id:=by rw[bZ rfl ?_ ?_]<;>rw[bZ x l]<;>(cases x<;>rw[lX])<;>subst h<;>simp
theorem atH{l:ao}{x m:Nat}(a5:x<d_)(y k:Nat)(h:ap (V_ x m) y k):(y=x/\k=m)\/(QG/\K l y k):=by rw[b1 y x];{rw[bY,aj (My a5)];exact .inl (bd (bt (c_ h)))};rw[gM (Vd (hs e)) (.inr (io e))]
theorem UF.aRy(d:FA){x l m:Nat}(a5:alj)(c4:K f l m)(ne:l≠x):UF (Nu x m) cnt aP:=by have a:=Nt x l a5;have le2:=Nt l m c4;have O:fL (Nu x m) (y=x/\k=m) QG:=atH (bx a5);rw[aMo,D0 pN];{rw[YD];{rw[HN l k c4,HN y l a5]};rw[l aK4]};{rw[YD];{have:=(Wd y l a5);rw[fT]};rw[l aK5]}
theorem UF.found(d:FA){x:Nat}(h:K f x x):kM=x:=x (Wd x x h) rfl
theorem UF.Lk(d:FA):∀{x:Nat},I0->kM<=x/\K f kM kM:=by intro x;induction x using Nat.strongRecOn with|ind x d6=>rw[eD];obtain⟨l,a5,le⟩:=aik h;rw[T l x];{rw[e_];rw[We a5];trivial};{have:=d6 l (cw le q) aKo;rw[am (HN x l a5)];lia-abstractProof}
theorem UF.K2(d:FA){x:Nat}(h:I0):aP kM=kM:=We (d.Lk h).2
theorem UF.link(d:FA){a b:Nat}(b3:a<cnt)(U:b<cnt):UF (Nu FE aal) cnt (sX aP a b):=by have F:=d.Lk b3;have i5:=d.Lk U;rw[mp c (K f FE FE),de (We c)];generalize g:FE=d5 at*;generalize c4:aal=m at*;have O:fL (Nu d5 m) (y=d5/\k=m) (y≠d5):=atH (bx c);have mg:∀x,or x=v kM d5 m kM:=ab (by delta sX;rw[g,c4]);rw[aMo];{rw[YD,Jp,l aGJ]};{rw[mg,mg];rw[YD];{rw[e,(We fk)];simp};{rw[aK4]}};{rw[mg];rw[aMG,aZ];{have J:=aK5;lia-abstractProof}}
theorem UF.new(d:FA):UF aat (cnt+1) apc:=by have O:fL aat (y=cnt/\k=cnt) (y<cnt):=by{rw[bZ y k];by_cases q:y<Dr;rw[gM (hx q) (.inr (io (bl qS q)))];{rw[aj (o_ (j0 q))];have:y-Dr=0:=bz;rw[aj this,lX];left;have:=qS;grind}};rw[aMo,D0 a_];{rw[aMG];{rfl};{have:=aGJ;rw[aO kl k cnt Ri,i7 q kl];exact aK4}};{rw[aMG];{simp};{rw[aII];exact aK5}}
variable{r:Plan}
theorem atL{al f:Int}{a b c:gw}(b3:0<cS a)(U:0<cS b)(b0:0<cS c)(a3:cr a b<0)(a9:cr b c<0):cr a c<0:=by have id:=as3 al f a b c;have e9:=Dg a3 b0;have f6:=Dg a9 b3;have g:=vc a c;rw[pl an_ b];have:0<an_:=by{rw[al (mO 0 an_),l q,i1 (VT q (eW U))]};simp_all
theorem aeh(Z:bq){v a:Nat}(h:JK):0<kd 1 (r.w+1) (d0 a):=by rw[b2 (fZ _ h)];rw[ad8];have:=Df l.1 l.2;simp_all
theorem aRz(Z:bq){v a b:Nat}(b3:JK)(U:uB)(ne:AL):aoE≠0:=by rw[fS];have F:=fZ _ b3;have i5:=fZ _ U;have O:∀{a b:Nat},c JK uB (a<b) (aoE=0) cE:=by{intro a b b3 U l q;have F:=fZ _ b3;have o:=K8 (wu F.1 F.2) (wu l (fZ _ U).2) (by rw[yI,vc,q];rfl);rw[Z.on _ U a F.2 bz bz]at o;cases o};rw[uW ne,az,l (O U b3 l (by rw[vc,q];rfl))]
theorem aRA(Z:bq){v a b:Nat}(b3:JK)(U:uB)(h:O3):bbf:=by have Y:=hF;refine aQw Y b3 U rfl ?_;rw[aKS];{have e2:Rj=a:=by{rw[Jc];simp;exact kO};rw[e2];rw[(wo _ b3)];refine(aKI).mpr ?_;show 0<akU;rw[yI,vc];simp[*]};{rw[fG Rj b oU];rw[e2];rw[(wo _ U)];refine(aKJ).mpr ?_;rw[J yI h]}
noncomputable def S3(r:Plan)(v:Nat)(row:ao)(a:Nat):ao:=let n:=t (Wg Bi);ail n++a::Wf n
noncomputable def aei(r:Plan)(v:Nat)(c:ao):ao:=A2 []
theorem aRB(v:Nat)(row:ao)(a:Nat):eK aMh (a::row):=by delta S3;simp only;generalize t (Wg Bi)=n;have:(ail n++a::Wf n).Perm (a::(ail n++Wf n)):=aCJ;rwa [Ds]at this
theorem aRC(Z:bq){v a:Nat}{row:ao}(a6:bH row uB)(b3:JK)(b0:a∉row)(dO:aJH):gO aMh O3:=by delta S3;simp only;have b4:=zC (p:=Bi) (l:=row);generalize hA:(Wg Bi)=A at*;generalize hB:(aip Bi)=B at*;have t:ail ie=A:=by{rw[<-b4];exact aio};have d:Wf ie=B:=by{rw[<-b4];exact ain};rw[t,d];rw[<-b4,qQ]at dO;have g:bH A (cr (d0 b) (d0 a)<0):=by{intro b U;rw[<-hA]at U;have:=Wh (a3b (p:=Bi) (l:=row)) b U;rw[uk,am yI];exact this};have h:bH B O3:=by{cases e:B with|nil=>{rw[Yp]}|cons c n=>have u:¬eV ed (bp c) rk<0:=by{have:=aim Bi row;rw[bX hB e,gf]};have k5:c∈row:=by{rw[<-b4,e];exact qI _ fu};rw[eS (aRz Z (a6 c k5) b3 (ai (b0 (q▸k5))))];rw[yI]at u;rw[z k9 (cr (d0 a) (d0 c)<0) vc (Int.neg_neg_of_pos (Int.lt_iff_le_and_ne.mpr ⟨agQ u,hs f⟩))];intro b U;simp at U;rw[dd U U,aZ];{rw[gT dO.2.1];rw[e,oY]at b5;exact atL (aeh Z b3) (k7 c k5) (k7 b bz) k9 (b5.1 b U)}};grind
theorem aej(Z:bq){v:Nat}:∀(c row:ao),c (V b row uB) (V b c uB) (row++c).Nodup (aJH) (eK (A2 row) (row++c)/\gO (A2 row) O3)|[],row,_,_,_,s=>EM|a::c,row,a6,c6,nd,s=>by rw[YT];have p:=aRB (r:=r) v row a;rw[ds (aej Z c aMh (db cq) (db (c6 b rq)) cq (aRC Z a6 (c6 a bK) (ai cq) s))];grind-abstractProof
universe GM
namespace GM
open Gla
variable{r:Plan}
theorem aRD(Z:bq):eS amF (a∈ig b):=fun a b h=>ae (vd Z) (aJl).rv
theorem Ll(Z:bq):aI6:=fun x y h=>(aJl).BK hF
theorem aek(Z:bq):e3 (dt (ig x) (x<aJ)):=fun x y h=>(aJl).yE hF
variable{B:ao}{par:gn}{lo:cD}
theorem aRE(Z:bq)(b1:0<aJ)(T:aCK ig B par){i:Nat}(hi:gX):bE (am XU i ai) (i∈B):=by have s:=atD (r:=r) (Ll Z) b1 (P:=ab nq) T.zero (fun a b _ b3 U=>Np a b3 b U);rw[PZ];generalize XU=z at*;have e:aij i ai=aij i ab:=by{simp[*]};rw[e];constructor;rw[az];{intro c4;have:=T.reach (P:=ab (x<aJ->g1 x)) (au s.2.1) (fun a b _ U b3 _=>s.2.2.2 a (aek Z a b U) (b3 (aek Z a b U)) b U) i c4;exact this hi}
theorem aRF(Z:bq)(a3:1<aJ)(T:aCK ig B par)(W:BU ig B par lo)(all:ia (i∈B))(lt:∀i∈B,gX){i:Nat}(hi:gX):bE (Wi Wj aJ i) bho:=by delta Wi;have c0:a8'<aJ:=by{(split<;>exact cn tx a3)};have ne:a8'≠i:=by{lia};rw[g3 (ex (au gA) fY (i8 fY)).1];rw[atG e8];rw[d3 o i];{subst o;rw[cO]at c0 ne e8⊢;constructor;{rw[ao6];refine .inl (bd aHF);obtain⟨c,D,_⟩:=aCF aoF eO;rw[bd4,PZ];generalize mt 1 0=z at*;have:=T.aRu (fun d d3=>qG (ai (f6 (a d c d3 D q)))) aoF eO (Q:=ab (g1 x)) s.2.1 biv j (all j b8) Qj;rw[amH,dS]};{rintro(⟨_,c,d,D,d3,R⟩|⟨q,_⟩);{rw[bH l t (aCF aoF eO)];obtain⟨g,pg,k⟩:z g (dK g 0) (f≠g):=bz;have s:=ex (ab (nq/\x≠0/\a1 f x)) (v aoF eO t) (fun a b _ u U n=>v (Np a u.1 b U) n (T.aRt l a b u.1 U u.2.1 n u.2.2));rw[PZ,lv pg,ak g (lt g m.1)];cases e:am (mt 1 0) g ab with|false=>{rfl}|true=>rw[dQ (s.2.2.1 g (lt g m.1) An e).2.2 (T.other l pg k)]};rw[cY]}};{rw[bj o]at c0 ne e8⊢;constructor;{rw[ao6];refine eX o aHF;rw[bd4,PZ];generalize io 0 ZN=z at*;have:=T.aRs W o (fun c D=>ah) (Q:=ab (g1 x)) s.2.1 biv j (all j b8) Qj;rw[amH,dS]};{rintro(⟨q,_⟩|⟨_,c,D,h⟩);rw[cY];{have s:=ex (ab (nq/\x≠i/\¬a1 c x)) (v T.zero (ai (o zz)) (T.atx D)) (fun a b _ u U p=>v (Np a u.1 b U) p (T.aRr W D h o a b u.1 U u.2.1 p u.2.2));rw[PZ,lv D,ak c (lt c m.1)];cases e:am (io 0 ZN) c ab with|false=>{rfl}|true=>refine cy .refl (s.2.2.1 c (lt c m.1) akT e).2.2;simp_all}}}
theorem atM(Z:bq)(n:Y0)(a3:1<aJ)(d:alV)(l2:ia (am XU i ai=ab))(m:ia (Wi Wj aJ i=ai)):jX:=by rw[aP Z n (fun P f e9 v d3=>?_) (fun v d3 P s c0 a0 c5 e9 x S f3=>?_)];{have s:=atD (r:=r) (Ll Z) ej (P:=P) f (fun a b _ u U=>e9 a b (x (vd Z) U) u);rw[PZ];have g:v<aJ:=d3;simp_all};{have g:=d3;let b:=cu v 1 0;have a5:b≠v:=by{rw[a9k]};have k:=m v g;unfold cuts at k;have reach:∀{Q:mb},Q b->(∀a c,c (dP (a,c)) (a≠v) (c≠v) (Q a) (Q c))->o y (y<aJ) (y≠v) (Q y):=by{intro Q l X y b6 i2;have f9:=atE (r:=r) (Ll Z) g cq a5 (P:=hv (a≠v/\Q a)) ⟨a5,l⟩ (fun a c _ u b0 e=>⟨e,X a c (x (vd Z) b0) u.1 e u.2⟩);simp only at f9;have all:¬(z j oe (am (mt b v) j ab=ai)):=by{rw[<-atG f9.1];simp only[b];rw[k];simp};simp_all};exact reach (bv (reach (Q:=e7 (P y->P b)) (c8 h) (fun a c k9 t e d6 D=>d6 (e9 c a k9.rv e t D)) s c0 a0) (this c5)) e9 x S f3};{cases d1:ig 0 with|nil=>{grind-abstractProof}|cons y J=>rw[cl o (y∈ig 0)];have H:=x (vd Z) o;rw[Kj,l (bp (0,y) H)];{have:=fZ _ H;rw[hA rv]}}
universe GM
namespace GM
open Gla
variable{r:Plan}
structure Ord(r:Plan):Prop where
 dO:a2S (nP xM)
 wide:cz de Qz
 BO:a'U
 lt:a'o
 ls:r.lines.Pairwise (fs aoi)
theorem iF{p q:Pt}:bh4:=ar ic
theorem mv(p:Pt):¬oZ p=ab:=nM iF
theorem vf{p q J:Pt}(h:xM)(g:Nd J=ab):oZ J=ab:=by rw[iF]at*;exact FR h g
theorem S4{p q:Pt}(h:p≠q):oZ q=ab\/Nd p=ab:=by rw[iF,iF];rw[N y p.y q.y];{have:p.x≠q.x:=ab (h (by cases p;rw[kG];simp_all));rw[jY]};{rw[jY]}
theorem BW{a b:Ln}:bE (kA a b) (a.1<b.1\/(a.1=b.1/\a.2<b.2)):=ar kA
theorem Ord.nd(Y:dz):a2R:=Y.ls.imp (wo (by rw[bY,aj BW];simp_all))
theorem Ord.below(Y:dz){i j:Nat}(h:i<j)(b8:oe):qA (bp j):=DS (Nf Y.dO i j (b7 h b8) b8 h)
theorem Ord.inj(Y:dz){i j:Nat}(hi:gX)(b8:oe)(h:eG=bp j):i=j:=by rw[aMJ,GX b8,l l,GX hi]
theorem Ord.lt_iff(Y:dz){i j:Nat}(hi:gX)(b8:oe):bE ((eG).below (bp j)) (i<j):=by constructor;{rw[eD,aMJ,l l];{subst l;exact cy h (mv _)};rw[cF (vf h (zD l hi)) (mv _)]};{rw[eD];exact zD h b8}
theorem Ord.mu(Y:dz){i j:Nat}(h:i<j)(b8:oe):aKW:=GM.mu (oj EK) (zD h b8)
noncomputable def hX(p q J:Pt):cb:=oZ J&&(J.below q&&cv (i5 J=0))
theorem Gn{p q J:Pt}(h:xM):bE (hX p q J) (q1 J/\J≠p/\J≠q):=by revert h;revert p q J;refine ap9;rw[cp p q J,eD];delta hX;simp only[hZ,iS];constructor;{rw[aLi,aa (K8 a3 a9 e2) Y5 Y5,sK (mv _ a3),sK (mv _ a9)]};{rw[aLi];delta wt at a3;simp only[hZ,aCM,Nh,iS]at a3;obtain⟨u,⟨e7,f5⟩,i8,d6⟩:=a3;rw[aj iF];have r:p.y<=q.y:=by{lia};rw[qP r]at i8;rw[HA r]at d6;have d:∀{a b:Pt},AL->a.y=b.y->a.x≠b.x:=fun{a b}ne b6 S=>ne (by cases a;cases b;simp_all);delta eV dx dy at u;rw[bL eq (D1 J.x) (fw J.y p.y),bL c (bm J.x q.x*bm q.y p.y) (fw J.y q.y),gR f p.y (by rw[ae z (bm J.y p.y) 0,b2 aCL eq];rcases aiq eq with w|w;rw[l ((d a9) a bM),dV]),gR g q.y (by rw[ae z (bm J.y q.y) 0,b2 aCL c];rcases aiq c with w|w;rw[l ((d e2) a bM)];{lia}),cp ?_ u];{rw[iF];grind};{rw[iF];grind}}
theorem aRG{p q J s:Pt}{k:Pt->Int}(f:G3 (k z))(h:aMe=ab)(a3:k p<k q)(a9:k J<k s):k p<k s:=by refine aHE;rw[ak b c3 f,a4 zy,yv h,y8 h];have id:i5 s*k J-i5 J*k s=aIk*k q-aIl*k p:=by{rw[c3,c3,c3,c3];rw[ud];grind-abstractProof};have sm:i5 s-i5 J=aIk-aIl:=by{rw[ud];grind-abstractProof};generalize i5 s=A at*;generalize i5 J=B at*;generalize aIk=C at*;generalize aIl=D at*;generalize k p=kp at*;generalize k q=c at*;generalize k J=e at*;generalize k s=K at*;have b4:(A-B)*K-A*(K-e)=(C-D)*kp+C*(c-kp):=by{lia-abstractProof};rw[sm]at b4;have b9:aLK+C*(c-kp)+A*(K-e)=0:=by{lia-abstractProof};rw[bs A b3 b3 b3];{have U:0<B:=by{rw[al (mO 0 B),iy,i1 (air q (eW b3))]};have W:aLK<=0:=VT (Go sm.n) ah;have d8:C*(c-kp)<0:=Dg (by rw[al (mO C 0),l q];{rw[b3 d (0<D) (aI4 sm.n q U b3)];have:=s_ q (eW d);grind-abstractProof}) ag;have j:A*(K-e)<0:=Dg b3 ag;exact aG4 W b9.n j d8};rw[az];{have U:B<0:=by{rw[al (mO B 0),iy,kn (s_ q (eW b3))]};have W:0<=aLK:=s_ (Go sm.m) (x (rW (aMt n)));have d8:0<C*(c-kp):=hD (by rw[al (mO 0 C),l q];{rw[b3 d (D<0) (aI4 sm.m q U b3)];have:=air q (eW d);lia-abstractProof}) ag;have j:0<A*(K-e):=hD b3 ag;exact aG4 b9.m j d8 W}
theorem aRH(r:Plan):G3 tO:=v (r.w+1) 1 (J (i0 ky))
noncomputable def Lm(r:Plan)(l m:Ln):cb:=(pz).below (bp m.2)&&aMf
theorem S5(Y:dz){l m:Ln}(a5:l∈bX)(c4:m∈bX):Lm r l m=aMf:=by delta Lm;cases h:aMf with|false=>{simp}|true=>have X:=Rk;have G:=eb m c4;have:=aRG (aRH r) h (Y.mu X.1 X.2) (Y.mu G.1 G.2);simp[(x (aQW (oj ao5) (oj G.2)) this)]
theorem atO(Y:dz){l:Ln}(a5:l∈bX):bE ((eJ aJ).any (cj (k !=l.1&&(k !=l.2&&wt pz rl (bp k))))) (∃p∈de,hX pz rl p=ab):=by have X:=Rk;rw[cb (zD X.1 X.2)];rw[tg];constructor;{rw[hp k c3];simp at c3 h;rw[aa (bp k) (yG c3) (ae (Gn b) (v h.2.2 (an (h.1 (Wk c3 ao5 e))) (an (h.2.1 (Wk c3 X.2 e)))))]};{rw[hp p c2,aO k c3 (ib c2),bg1];have:=x (Gn b) h;rw[ak k (ar c3),xo]}
noncomputable def Gp(r:Plan)(i:Nat)(l:Ln):cb:=o2 (df (Wl l.2) (l.1+1)) (aCN i)
theorem S6(Y:dz){i:Nat}{l:Ln}(a5:l∈bX):Gp r i l=alo:=by have X:=Rk;delta Gp Du;rw[dW];{rw[iN,atO Y a5,tg];constructor;rw[cL];{rw[hp p c2,cp p h];have⟨k,c3,e⟩:=ib c2;rw[bg1,a4 hX,nt hZ];rw[<-d3]at h;have c0:=x (Y.lt_iff ao5 c3) h.1;have f7:=x (Y.lt_iff c3 X.2) h.2.1;rw[a3c];exact⟨k-(l.1+1),by rw[Dt,m (l.1+1+(k-(l.1+1))) k k (l.fst+1) c0 k (l.fst+1),sU f7,dd c3,e]⟩}};{rw[iN,tg,tg];constructor;{rw[ao7];exact v m c4 (bl (S5 Y a5 (qT c4)) h)};{rw[ao7];exact ap m c4 (S5 Y a5 (qT c4)) h}}
noncomputable def ael(B r:Plan)(i:Nat)(l:Ln):cb:=o2 (a3d (bn (! a3e p))) (DR (aCO aJq))
theorem aem{B:Plan}{p q:Pt}:(p,q)∈th↔fr Wm (B.pt e.1=p/\B.pt e.2=q):=i0 Nv
theorem aRI{B:Plan}(k5:Lay B)(Y:dz){i:Nat}{l:Ln}(a5:l∈bX)(U:(pz,rl)∈th)(hi:∀m∈aCN i,m≠l):ael B r i l=alo:=by have X:=Rk;obtain⟨e,a0,b4,b9⟩:=aem.mp U;have le:=k5.lt e a0;delta ael Du;rw[dW];{rw[iN,atO Y a5,tg];constructor;rw[dV];{rw[hp p c2,aa p (U9 (as c2)) h];cases q:a3e p with|false=>{rfl}|true=>exfalso;obtain⟨k,c3,c1⟩:=BQ k5 q;have:=x (Gn (zD X.1 X.2)) h;rw[<-b4,<-b9,<-c1]at this;rw[am (k5.on e a0 k c3 (J ((fj).1 (iG z))) (J ((fj).2 (iG z))))];cases et}};{rw[iN,tg,tg];constructor;{rw[ao7];have Z:=fb c4;exact v m Z (bl (S5 Y a5 (qT Z)) h)};{rw[ao7];have g8:=qT c4;rw[aa m (U9 (as c4)) (t (S5 Y a5 g8) h)];cases q:aCO aJq with|false=>{rfl}|true=>exfalso;obtain⟨f,W,g4,h3⟩:=aem.mp (Nw q);rw[<-b4,<-b9,<-g4,<-h3]at h;rw[aj (k5.nc e a0 f W (J (by rw[ru];have G:=eb m g8;have g9:=Wk (b7 G.1 G.2) ao5 (g4.symm.trans b4);have e1:=Wk G.2 X.2 (h3.symm.trans b9);grind))),cH]}}
universe GM
namespace GM
open Gla
variable{r:Plan}
theorem aRJ{I:Type}{p:am8}:∀{l:ba}{k:Nat},(E i (be'=aa i) (k<=i/\(z x (K l (i-k) x) (p i x=ab))/\l j x (j<i-k) Ep a_F))/\(be'=ae->zz a_F)|[],k=>aQ|a::l,k=>by rw[ky (zi (k+1))];simp only[a3f];rw[bC q (p k a),aZ];{rw[List.find?_cons_of_neg (x q)];rw[v (fun i h=>?_) (fun h=>?_)];{obtain⟨a7,⟨x,S,b⟩,d5⟩:=a3 i h;rw[aa ej (v x ?_ b) (fun j y b8 b6=>?_),Z (aS (i-k) ((i-(k+1))+1) (L i k a7 i (k+1)) (L i (k+1) a7 i k)) S];{cases j with|zero=>{rw[a4 b6 (Wn q)]}|succ j=>have:=d5 j y (br b8 (aC i k a7) (aS i (k+1))) bB;rw[bfu];exact this}};{intro j y b6;cases j with|zero=>{rw[a4 b6 (Wn q)]}|succ j=>rw[J bfu (a9 h j y b6)]}}
theorem S7{I:Type}{p:am8}{l:ba}:QV=ae↔zz (p j x=ai):=by have g:=zi 0;constructor;{intro h j x S;have:=g.2 h j x S;simp_all};{rw[eD];cases e:QV with|none=>{rfl}|some i=>obtain⟨_,⟨x,S,b⟩,_⟩:=g.1 i e;simp_all}
theorem aRK{I:Type}{p:am8}{l:ba}{i:Nat}:QV=aa i↔bcW:=by have a:E i (QV=aa i) bcW:=fun i h=>by{have⟨_,⟨x,S,b⟩,d5⟩:=(zi 0).1 i h;simp_all};constructor;rw[az];{rintro⟨⟨x,S,b⟩,a9⟩;cases e:QV with|none=>{rw[S7.mp e i x S]at b;cases b}|some j=>have⟨⟨y,b6,r⟩,e2⟩:=a j e;grind-abstractProof}
theorem aen{I:Type}{p q:am8}{l:ba}(h:bk j x (Ep->p j x=q j x)):QV=HP q l:=by cases e:HP q l with|none=>{rw[S7]at e⊢;(intros;simp[*])}|some i=>rw[aRK]at e⊢;obtain⟨⟨x,a,b⟩,c⟩:=e;exact⟨v x a (B (h i x a) b),fun j x k a=>B (h j x a) (c j x k a)⟩
theorem S8{I:Type}{ok:AZ}{k:yf}{l:ba}:tj ok k l=ae↔bk l (ok x=ab)/\F4 (k x y=ab):=by delta tj;rw[S7];constructor;{rw[eD,v qk (fun j x y S b6=>?_)];{rw[h1 S];have:=h i x ag;lia};rw[nH (h (j+1) y b6)]};grind-abstractProof
theorem S9{I:Type}{R:au I I}(o:∀a b c,R a b->R b c->R a c):k4 (F4 (R x y)) (oW R)|[],_=> .nil|[a],_=>aQ|a::b::l,h=>by have d6:=S9 o (l:=b::l) (fun j x y S b6=>h (j+1) x y bB bB);have u:=h 0 a b (x a2L) bI;refine aCP ⟨qk,d6⟩;rw[PY,dd S S,aZ,l (o _ _ _ u ((V1 d6).1 x S))]
theorem aeo(e5:RF=ae)(f:RI=ae):dz:=by rw[S8]at e5 f;rw[j (S9 (R:=bd1) aGg e5.2) uc uc nO (S9 (R:=fun(a b:Ln)=>aoi) (fun a b c h g=>?_) f.2),az,az,cL];{rw[BW]at*;exact FR h g}
theorem aep(Y:dz)(b:aH2=ae):bq:=by rw[S7]at b;rw[j Y.dO aCR Y.BO eb (aJ Y.nd (fun e a0 k c3 c0 f7=>?_))];{rw[cj i hi (ib a0)];have:=b i e ag;unfold touches at this;rw[pp aCQ];simp_all};{have a:∀p q J s:Pt,aMe=zy J s p q:=fun p q J s=>by{delta zy;rw[Bool.and_comm]};intro e a0 f W ne;rw[cj i hi (ib a0),gB C (ib W)];have O:∀{i j:Nat}{e f:Ln},i (i<j) (A bX e) (aa bX f) (zy ami amj eE eF=ai):=by{intro i j e f l a0 W;have:=b j f W;unfold touches at this;rw[pp aCQ];simpa using(List.any_eq_false.mp fj e (si ag))};rw[cl M (aa bX f)];grind-abstractProof}
noncomputable def S_(r:Plan)(row:ao)(a b:Pt):cb:=cv (row.head?.map bp=aa a)&&(cv (row.getLast?.map bp=aa b)&&ez (row.zip (Wf 1)) (ch (a3g l)))
noncomputable def Lo(r:Plan):cb:=S_ r (HK r (f_ 0)) jO (jL r.w)&&(S_ r (HK r (ga 0)) jO (hi r.h)&&(oD amZ (jL r.w)&&oD Ze (hi r.h)))
theorem aRL{l:ao}(s:Jv):ah5 r l=ez (ah2 (oK 1)) (ch (a3g l)):=by delta ah5;rw[iN,Hs,Hs];constructor<;>intro h e a0<;>rw[iS (Gi s a0)]<;>have:=ZQ;{rw[a76];grind-abstractProof};{delta Plan.joined;grind-abstractProof}
theorem atQ(Y:dz){p:Pt}:bE (HL p) bfl:=by rw[Wo];constructor;{rw[eD,h1 h];exact bet};{rw[iI i hi,xJ];exact yG hi}
theorem Ord.Lf(Y:dz){i j:Nat}(hi:gX)(h:bbw):i<=j:=Iu (zD g hi)
theorem atR(Y:dz):Lo r=V2 r:=by have S:=vj (oj hi);rw[a8 head (¬(eG).below c=ab) a_4 least (Le (SV on) a_d (D8 al)),a8 last (¬c.below eG=ab) a_5 f (aea (SV on) a_d (D8 m.1)),dm d a_4 (m8 OW) (aic eO),dm b a_5 (OW).getLast? (a2_ e)];rw[iN];delta Lo V2 S_;simp only[hZ,iS];rw[amk,amk,amk,amk];constructor;{rintro⟨⟨e0,g0,d0⟩,⟨h2,e2,i8⟩,⟨e5,e6,c1⟩,c5,c7,a9⟩;exact a (gl e0) (b _ _ g0) (b _ _ e2) (b _ _ e6) d0 a9 i8 c1};{rintro⟨g4,h3,h6,f4,d0,a9,i8,c1⟩;rw[o (o_ h3 d0) (o_ h6 i8) (v (mi Qb h3) (Dn _ _ Qb ?_ f4) c1) (mi Qb h6) (Dn _ _ Qb ?_ f4) a9]<;>intro i hi on<;>have:=S hi<;>have:=(vj (Y.BO _ (yG hi))) hi<;>simp at on<;>rw[iF]<;>simp<;>rw[ZA]}
universe GM
namespace GM
open Gla
variable{r:Plan}
noncomputable def Lp(r:Plan)(z:Pt)(e:Ln):Int:=j_
noncomputable def yM(r:Plan)(z:Pt)(row:Row):Row:=Wg aHk
noncomputable def Gq(r:Plan)(z:Pt)(row:Row):Row:=aip aHk
noncomputable def vg(r:Plan)(z:Pt)(row:Row):Row:=(As).takeWhile (ab Q4)
noncomputable def BX(r:Plan)(z:Pt)(row:Row):Row:=wS (ab Q4)
noncomputable def BY(r:Plan)(v:Nat):ao:=cN (iU (an (e.1==v)))
noncomputable def begun(r:Plan)(v:Nat):cI:=k3 aLo Oz
noncomputable def atU(r:Plan)(v:Nat)(s:Sw):Sw:=let A:=aIU;let E:=aIx;let B:=aKx;let N:=Zh;let l:=hh;let J:=dj l E;let d5:=iE N ec J;d (hI d5) (ec+(iP-1)) (pu l J) (oY l d5)
theorem Lq(r:Plan)(z:Pt)(row:Row):row=hw row++(vg r z row++aIz):=by delta yM vg BX Gq;rw[zC,zC]
theorem takeWhile_all{I:Type}{p:AZ}{l:ba}{x:I}(h:x∈aCS p):p x=ab:=Wh a3b x h
theorem aRM{P:au Ln Ln}{z:Pt}{row:Row}(h:BV (bH row)):V e (bH (hw row)) (fK e<0)/\V e (bH (vg r z row)) (fK e=0)/\V e (bH aIz) (0<fK e):=by have inR:h1 As (¬fK e<0):=by{have b4:=wR row;cases hB:As with|nil=>{rw[aah];cases a0}|cons c J=>have u:¬fK c.1<0:=by{have:=aim alg row;delta Gq at hB;simp_all};have a:aip alg=c::J:=hB;rw[a]at b4;rw[<-b4,hq]at h;have a9:=aV (a3h h);rw[jt oY a9];intro e a0 q;rw[jt hC a0,dd a0 a0,cY];grind-abstractProof};rw[ak nO nO,bgg,bgg];{rw[gr (zC (p:=oL Q4) (l:=As))];cases hB:aIz with|nil=>{rw[aah];cases a0}|cons c J=>have k5:c.1∈bH As:=by{rw[<-b9];have:wS (oL Q4)=c::J:=hB;rw[this,hq];exact qI _ Ab};have u:0<fK c.1:=by{have:=aim (oL Q4) As;delta BX at hB;grind-abstractProof};have a:wS (oL Q4)=c::J:=hB;have a9:BV (bH (c::J)):=by{rw[<-(wR row),hq]at h;have e2:=aV (a3h h);rw[ab e7 (aip alg) As];rw[e7,<-b9,a,hq]at e2;grind-abstractProof};rw[jt oY a9,aah,jt hC a0,dd a0 a0,aZ];simp[*]}
theorem atV(Z:bq){t:Nat}{s:Sw}(I:Inv iq t s){z:Pt}(h:de tM aLc):BV tM:=by refine vw M8;rw[u9 l,cy (x ir a0),a_0];have b1:dy z<=hC z:=(l.le hF a.1 b.1 (z:=tO) (by delta iD;rw[al (M6 e.1 f.1),Z (HA q) (h f W).1,Z (VG q) (ZQ).1]) (by delta oU;rw[al (M6 e.2 f.2),Z (qP q) (ZQ).2,Z (Dc q) (h f W).2]));have a4:=qR a.1 z;rw[gT (qR b.1 z)];delta Lp;constructor;rw[cL];grind-abstractProof
theorem aeq(Z:bq)(v:Nat):(eL Zh iz e.1)/\eQ Zh (mn iq):=by rw[ch c6 (bH I4 uB) (by delta BY at U;rw[hW U];simp_all)];have s:=qG c6 (ax (by delta BY;rw[JZ,hY (V0 _),rc q];grind-abstractProof));have a4:eK aLo I4:=s.1;rw[dI Y5];{delta Nx;rw[fJ];constructor;rw[cL];{rintro⟨a0,a3⟩;rw[aa e.2 (a4.mem_iff.mpr ?_) cq];delta BY;rw[xo]}};{delta Nx;rw[Nj];rw[hY s.2];rintro a b⟨b3,U,h⟩;exact aRA Z (c6 a (a3i b3)) (c6 b (a3i U)) h}
noncomputable def Ta(Z:bq){v:Nat}(d3:v<aJ){s:Sw}(I:Inv iq v s):aCj iq v s (atU r v s):=by have Y:=hF;rw[cN tM ((gK).k e.1<=cf ed/\cf ed<=(gK).k e.2) be0 (Gr l.2),cl (zk e8)];have parts:=Lq r ed oV;have f:E e amD iz:=fun e a0=>p3 ir;rw[ak g (bH aIU) amD (by rw[lC,hq];simp[a0]),ak i (bH aIx) amD (Bx lC),ak h (bH aKx) amD (Bx lC)];have d:=aeq Z v;rw[b aIU aIx aKx Zh lC nO nO nO (f d.1 d.2 rfl xG),l ((qR (f e (g e a0)) ed).1.mpr (c.1 e a0))];{rw[bJ (x ir (i e a0)),aoY];have z:=c.2.1 e a0;rw[al (qO m.2.2)];{exfalso;have:=Y.on e m.1 v An q;apply this;have O:=qR m.1 ed;show dy ed=kw ed;unfold Lp at z;rw[z]at O;rw[cy O.1,cb O.2];simp at a b;exact a2B (rW b) (rW a)};rw[l zz]};rw[l ((qR (f e ZQ) ed).2.mpr (c.2.2 e a0))]
noncomputable def BZ(r:Plan):dg Sw|0=>aLR|t+1=>atU r t (BZ r t)
theorem qA(Z:bq):E t (t<=aJ) (Inv iq t (BZ r t))|0,_=>asB _|t+1,h=>asA hF (show t<(gK).n from h) (qA Z t ej) (Ta Z h (qA Z t ej))
noncomputable def runOf(Z:bq):n_:=aP (BZ r) (fm (Ta Z c6 (qA Z t (ew c6))))
theorem aRN(Z:bq){v:Nat}(d3:v<aJ):t a8K=w2 (e.2==v):=by rw[eM a'm];have e:t (bH (Ta Z d3 I).E)=t a8K:=by{delta bH;rw[bA];rfl};exact a2p (wT ((Ta Z d3 I).asE hF I))
theorem aRO(Z:bq){t:Nat}{z:Pt}(b3:QA)(T:oh)(h:Qd):Cut r (BZ r t) z (hw iZ) alC:=by have I:=anJ;rw[cl (zk (f2 (by rw[jw ir];exact⟨bbQ,bbP⟩))),bfO,aa ?_ c.1 nO,Z f5 (Lq r z _)];{rw[f5,hq,hy]at a0;rcases a0 with a0|a0;{exfalso;rw[bJ (x ir (Bx (Lq r z iZ)))];exact aRd Z T h m.1 An m.2.2 (c.2.1 e a0)};rw[l (c.2.2 e a0)]}
theorem aRP(Z:bq){t:Nat}{z:Pt}(b3:QA)(T:oh):(z x (m8 alC=aa x) (XO=0))↔HI r z=ab:=by have I:=anJ;have Y:=hF;constructor;{rintro⟨x,S,b1⟩;rw[bJ (x (aCT x.1) (aB3 (bp x (by have:x∈alC:=aic bB;rw[<-wR iZ];exact ah0 (.inr this)))))];have:=K8 (mR _ An) (mQ _ m.2.2 (eb _ m.1).2) b1;delta HI;rw[J tg (v x.1 m.1 this)]};{rw[eD,anD];unfold onLines at h;rw[aj tg,gt o h,b2 ye];have k0:ia (z≠eG):=fun i hi q=>by{rw[d4 i t,c9 (mR i g) q (mv _ this),c9 (mQ i g hi) q (mv _ this)]};have d:=ae (Gn aIJ) (v o (k0 e.1 ZW) (k0 e.2 l.2));unfold hX at d;rw[yv d];have a3:e.1<t:=by{rw[d4 e.1 t,AX,l (cy (vf d.1 (mQ _ g ZW)) (mv _))]};have a9:t<=e.2:=by{rw[d4 e.2 t,cF (vf d.2.1 (mR _ g)) (mv _),l g]};have D:=ae ir (v a0 a3 a9);rw[cN (bH iZ) aLc (CU fk) (CT l.2)];have c:=zk e8;rw[Lq r z iZ,hq,hq,hy,hy]at D;have O:fK e=0:=d.2.2;rcases D with D|D|D;rw[cL];{apply f6;rw[bfO];cases hE:vg r z iZ with|nil=>{rw[zy hE]}|cons x J=>rw[aa x ag (c.2.1 x.1 (t hE Ab))]};grind-abstractProof}
universe GM
namespace GM
open Gla
variable{r:Plan}
noncomputable def Gr(r:Plan)(z:Pt):Nat:=t (a3j Qh)
theorem aRQ(Y:dz){z:Pt}(h:z∉de):aCV r Aj z:=by have b4:=zC (p:=mJ (oZ z)) (l:=de);have le:Aj<=aJ:=by{delta Gr;grind};rw[aa le aoa (fun i a3 a9=>?_)];{rw[sk aJ6];have:de[i]∈a3j Qh:=by{delta Gr at hi;exact si (by rw[<-hx (l₂:=aCU Qh) hi,b4];exact pG)};exact a3k (p:=mJ (oZ z)) this};{rw[sk a9];have m:de[i]∈aCU Qh:=by{delta Gr at a3;grind};cases hd:aCU Qh with|nil=>{simp_all}|cons c J=>have a:VU c=ab:=by{rw[al (S4 (p:=c) (q:=z) (ai (h (q▸(bz))))),cF q (w8 (aim (mJ (oZ z)) de)),iy]};have dO:=Y.dO;rw[<-b4,hd,qQ,oY]at dO;rw[hd]at m;simp at m;rw[al m,l IQ,l (vf a (dO.2.1.1 _ q))]}
noncomputable def B_(r:Plan)(z:Pt):iY:=let row:=Pg;Z (HL z) ae bhp
noncomputable def Tb(r:Plan):cD:=(AY).aP
noncomputable def vh(r:Plan)(z:Pt):iY:=L Fy (Tb r)
theorem atW(Z:bq)(Y:dz)(d:Bc){z:Pt}(b3:QA):Fy=ae↔HI r z=ab:=by delta B_;simp only;rw[bC c (HL z)];{rw[aK c];rw[v (fun _=>?_) gW,aO i hi (BQ Z c)];cases d1:ig i with|nil=>{simp_all}|cons y J=>rw[Hs (vd Z),fW a (q1 p) (by delta wt Nh;have:i5 p=0:=by{rw[ud];grind-abstractProof};rw[tT];exact v ⟨aoD,Wq _ _⟩ aoD (Wq _ _)),fW b (q1 q) (by delta wt Nh;have:i5 q=0:=by{rw[ud];simp};rw[tT];exact v ⟨alO,HG _ _⟩ alO (HG _ _))];delta HI;rw[tg];rw[Kj,cw (i,y) H ag,cw (y,i) H ag]};{rw[aO c];rw[<-aRP Z b3 bcw];(split<;>simp[*])}
theorem aRR(Z:bq)(Y:dz)(d:Bc){z:Pt}(h:Fs):∃(A B:Row),aCV r Aj z/\vQ (BZ r Aj)/\Fy=aa hh:=by have h':=h;unfold clear at h';simp at h';rw[eS (a2 h'),bL b3 z.x r.w (ew h'.2.1)];have b:Fy≠ae:=ai (by rw[x (atW Z Y d b3) q]at f;cases f);delta B_ at b⊢;simp only at b⊢;rw[bC c (HL z),az];{rw[bj c]at b⊢;have T:=bcw;rw[K _ T (aRO Z b3 T f) ?_,Pn]}
theorem Tc(N:jX)(Y:dz)(d:Bc){z:Pt}(h:Fs):I g (dP g) a_v (vh r z=aa ((ON).lb g)/\(ON).lb g≠0):=by obtain⟨A,B,T,C,e⟩:=aRR iT Y d h;have a:vQ ((ON).st Aj):=C;obtain⟨g,G,O⟩:=asY Nl (Ny iT) ah9 (atv iT T a);have i5:(ON).lb g=(aag).aP hh:=by{show(aag).aP (sd (aag).side g)=_;have b:sd (aag).side g=hh:=O;rw[b]};rw[j g G (N.among T h a G i5) ?_ ?_];{delta vh;rw[e,i5];rfl};rw[Z i5 (HN a)]
theorem aRS(N:jX)(Y:dz)(d:Bc){y z:Pt}(b6:Di r y=ab)(c9:Fs):Nz te y=Nz te z↔vh r y=vh r z:=by obtain⟨g,G,o,d8,_⟩:=Tc N Y d b6;obtain⟨h,H,a,c7,_⟩:=Tc N Y d c9;rw[o,a,d8,c7];constructor;{rw[fS];rw[x bcv (c_ q)]};{rw[fS];rw[ae bcv (c_ q)]}
noncomputable def yN:i Nat I5 I5 iY|_,_,[]=>ae|i,c,x::J=>Z (c.contains x) xr (yN (i+1) (x::c) J)
theorem aer(N:jX)(Y:dz)(d:Bc):∀(d8:pV)(i:Nat)(hd:pV),yO d8->yO hd->wD r te i (ais aHn) d8=yN i (ais (bo tP)) (HQ (bo tP))|[],i,hd,_,_=>rfl|m::d8,i,hd,h,g=>by simp only[wD,yN,da];have k5:=h m bK;have e:(ais aHn).contains (Nz te eL)=(ais (bo tP)).contains tP:=by{rw[iN,Wo,Wo,fJ,fJ];constructor;rw[Ie (x bgF e),Ie (ae bgF e)]};rw[e];split;{rfl};{have:=aer N Y d d8 (i+1) (m::hd) anU (aJ cq);trivial}
theorem aRT(N:jX){f:ao}(d:UF f Bd (Tb r)):Nm+1=t (dy Dr a_Y):=by rw[cl (N.count (Ny iT)),eM (qA iT aJ a_),ab f5 aag (BZ r aJ)];rw[f5]at c;rw[c,qS];have b4:(dy Bd a_Y)=dy Bd (ab (ar ((AY).aP x) x)):=by{refine Wr qk;rw[ca G (x<Bd)];obtain⟨l,a5,_⟩:=aik G;rw[a5,iN];simp;exact(Wd x l a5)};rw[b4];rw[DC ((AY).aP 0)];obtain⟨k,c3⟩:∃k,Bd=k+1:=⟨Bd-1,bv VJ (mP (cV (aS Bd 1)) (cV (aC Bd 1 this)))⟩;rw[c3,ahn];simp only[aCX,c0,decide_true,mJ,ne_eq,not_true_eq_false,and_false,aCW];simp only[ia];rw[dW,uz,dW];refine Wr qk;simp only[fJ]at S;rw[iC y S];simp
theorem aRU(N:jX)(Y:dz)(d:Bc){z:Pt}(h:Fs){i j:Nat}(b:dP (i,j)):bE (match Nz te z with|some l=>follows l i j|none=>ai) (vh r z=aa ((ON).lb (i,j))):=by have⟨g,G,o,d8,_⟩:=Tc N Y d h;rw[o,d8];simp only;rw[N.follows (Ny iT) G b];rw[xn]
universe GM
namespace GM
open Gla
theorem Td{I:Type}{R:au I I}(j:F2 (a=b)):∀{l m:ba},i (Ws m) (oW R) a77 (l=m)|[],m,p,_,_=>ah|a::l,[],p,_,_=>ah|a::l,b::m,p,sl,sm=>by have f:=V1 sl;rw[cl (V1 sm)];have e:a=b:=by{have a8:a∈b::m:=ait bK;have h7:b∈a::l:=p.mem_iff.mpr bK;grind-abstractProof};rw[bY];rw[Td j (List.Perm.cons_inv p) f.2 c.2]
theorem aRV{I:Type}{R:au I I}(Y:F2 cE){l m:ba}(h:gS l m)(sl:oW R)(sm:a77):l=m:=by rw[cl (fun a q=>Y a a q q)];exact Td (fun a b p q=>iT (Y a b p q)) (ae (HB (q0 aGS sl) (q0 ah sm)) h) sl sm
theorem aes{I:Type}(k:yf)(x:I):qt (eK (putIn k x l) (x::l))|[]=>aml|y::J=>by unfold putIn;split;{rfl};rw[l (B ((aes k x J).cons y) (.swap x y J))]
theorem yO{I:Type}(k:yf):qt (eK (iV k l) l)|[]=>aml|x::l=>x (B (aes k x _) ((yO k l).cons x))
theorem atX{I:Type}{k:yf}(Y:aKf)(o:aL4)(x:I):k4 (oW (fs alm)) (gO (putIn k x l) alm)|[],_=>ar putIn|y::J,s=>by have c1:=V1 s;unfold putIn;split;{next h=>refine aCP ⟨aod,s⟩;grind-abstractProof};{next h=>refine aCP ⟨aod,atX Y o x c1.2⟩;have:=(aes k x J).mem_iff.mp c9;grind-abstractProof}
theorem Te{I:Type}{k:yf}(Y:aKf)(o:aL4):qt (gO (iV k l) alm)|[]=> .nil|x::l=>atX Y o x (Te Y o l)
theorem aet{I:Type} [BEq I] [aCB I]{k:yf}(Y:aKf)(o:aL4)(cR:eS AL (k a b=ab\/k b a=ab))(l:ba):gO (iV k aiu) aF0/\gS (iV k aiu) l:=by have p:=yO k aiu;rw[v (((Te Y o aiu).and (a3l aol)).imp (y2 ?_)) Jf,cL];{rw[p.mem_iff,V5]}
theorem Lr(a b:Pt)(h:amv):aiv a=ai:=by cases q:aiv a with|false=>{rfl}|true=>rw[dQ (vf h q) (mv _)]
theorem aeu(a b:Ln)(h:aoi):kA b a=ai:=by cases q:kA b a with|false=>{rfl}|true=>rw[BW]at h q;exact cd (FR h q) (cj (ix k)) (cj (ix k.2))
theorem atY(a b c:Ln)(h:aoi)(g:kA b c=ab):kA a c=ab:=by rw[BW]at*;exact FR h g
theorem aev(a b:Ln)(h:AL):kA a b=ab\/kA b a=ab:=by rw[BW,BW];rw[ac a.1 b.1 k k k,dQ O9];{rw[fe a.2 b.2,dQ (eX k q),cF (sM k q) h,co (eX k.symm q)]};rw[co O9]
theorem Tf{l m:eh}(h:gS l m)(s:oW (nP xM)):l=iV ic a3m:=g7 (A3 m) bd1 (Lr a b p)
theorem aew{l m:cI}(h:gS l m)(s:oW (nP (kA p q=ab))):l=iV kA a3m:=g7 (aet aeu atY aev m) (fun(p q:Ln)=>kA p q=ab) (aeu a b p)
theorem atZ{l m:pV}(p:Ws m)(s:oW (fs amB)):kv AN=a_D:=by have o:∀a b c:Wt,mS a b=ab->mS b c=ab->mS a c=ab:=fun a b c h g=>vf h g;refine Td (R:=fun(a b:Pt)=>aiv a=ai) aGN (L bbi _) ?_ ?_;{rw[a8r,eL (S4 ne),az];simp_all};rw[cL,Z Nj (Te (fun a b h=>Lr _ _ h) o m)]
theorem aRW{l m:pV}(p:Ws m)(s:oW (fs amw)):l=iV mS m:=by rw[de (atZ p (s.imp (y2 (Lr _ _ h))))];refine Td (R:=fun(a b:Wt)=>amw) aGN bbi s (by have:gO a_D amv:=cq;grind-abstractProof);rw[cR (Lr _ _ p),kG]
theorem aRX{I d:Type}(f:Fj)(ok:d->cb)(k:dI d d)(l:ba):tj (ab (ok (f x))) (jD (k (f x) (f y))) l=tj ok k xQ:=by delta tj HP;rw[List.zipIdx_map,List.find?_map,Option.map_map];rw[dW,dW];funext x;simp only[Wu,Prod.map,id];(split<;>simp[*])
theorem at0(r:Plan)(all:AR):∀(d8 ns:pV)(i:Nat)(c:bL (bZ ao)),HQ AN=wF AN->wD r all i c d8=wD r all i c ns|[],[],_,_,_=>rfl|[],b::ns,_,_,h=>bB|a::d8,[],_,_,h=>bB|a::d8,b::ns,i,c,h=>by rw[lX];simp only[wD,h.1];split;{rfl};rw[l (at0 r all d8 ns _ _ h.2)]
theorem at1(r:Plan)(d8:pV):∀(n:Nat)(s e:fz),V3 AM n s e=V3 r n s e|0,_,_=>rfl|n+1,s,e=>by simp only[V3];rw[dO (aCx AM e.1 e.2) (aCx r e.1 e.2),at1 r d8 n]
theorem aRY(r:Plan)(d8:pV):wA AM=te:=by delta wA;have e:(CP (ah6 (V3 AM alG e e)))=bbs:=by{funext e;rw[at1]};simp only[e];rfl
theorem aRZ(r:Plan)(d8:pV)(h:HQ AN=Wv AN):aiw AM=NB:=by revert h;revert r d8;refine Kn;rw[bV r d8,eD,b9 len NA fL h];have b4:a'P=aaJ:=by{rw[dj B a'P (HQ AN) d8,dj b2 aaJ (Wv AN) dQ];rw[B,b2,h]};have b9:wD AM (wA r) 0 [] d8=Bw (wA r):=by{have g:∀(l:pV)(i:Nat)(c:bL (bZ ao)),wD AM (wA r) i c l=wD r (wA r) i c l:=by{rw[rF];induction l with|nil=>{intros;rfl}|cons a J d6=>intro i c;simp only[wD];rw[dO (aCC AM (wA r) aix) (aCC r (wA r) aix),d6]};rw[g];exact at0 r _ _ _ _ _ h};delta aiw;simp only[b4,aRY,b9];delta Plan.size;rw[len];rfl
theorem Tg:aP w n (t aoG=w)|0,_=>rfl|w+1,n=>eJ le (Tg w)
theorem at3:aP w n (NC aoG=n%Rf)|0,n=>bx le NC Nat.mod_one|w+1,n=>by simp only[le,NC,at3 w];have e:zh n=n%256:=by{simp};rw[e,HR,aiy Rf 256,a3n]
theorem aex{A B:Bytes}{w n p:Nat}(c2:ie=p):num (hI aoG) p w=n%Rf:=b0 num (a3p c2) (a3o (Tg w n)) at3
theorem qB{A B:Bytes}{p q w:Nat}(c2:ie=p):num (A++B) (p+q) w=num B q w:=by delta num;rw[<-c2,List.drop_append,aiz xH];simp
theorem aey{B:Bytes}{w n:Nat}:num (aoG++B) 0 w=n%Rf:=nc (aex (A:=[]) (B:=B) (w:=w) (n:=n) (p:=0) rfl)
theorem at4(b:Bytes)(p w:Nat):c5 p w<Rf:=by delta num;have:∀(l:Bytes)(w:Nat),d_<=w->NC l<Rf:=by{rw[rF];induction l with|nil=>{intro w _;exact a3q ay}|cons c J d6=>rw[du w];cases w with|zero=>{rw[lX]}|succ w=>have k0:=c.toNat_lt;simp only[NC];grind-abstractProof};exact this _ _ Be
theorem Ca{I:Type}{f:I->HS}{k:Nat}(h:aKj):qt (t (ND f)=k*d_)|[]=>x (HC _)|x::l=>by simp[Ca h l,h x];grind-abstractProof
theorem at5{I:Type}{f:I->HS}{k:Nat}(h:aKj):∀(l:ba)(i:Nat),df (ND f) (k*i)=go (oK i) f|l,0=>bI|[],i+1=>aQ|x::l,i+1=>by rw[pa,show k*i_=k+k*i by grind-abstractProof,<-HU,a3p (h x),at5 h l i];rfl
theorem aez{I:Type}{f:I->HS}{k:Nat}(h:aKj){l:ba}{i:Nat}{x:I}(S:xN)(B:Bytes)(q w:Nat):eJ (num (ND f++B) (k*i+q) w) (f x) w:=by rw[e1 X (i<d_)];have e:oK i=x::oK (i+1):=by{rw[Ww X];simp_all};rw[dI (go (oK (i+1)) f++B)];delta num;have d:(ND f++B).drop (k*i+q)=(f x++(go (oK (i+1)) f++B)).drop q:=by{rw[<-HU,a3r (t (Ca h) (Nat.mul_le_mul_left k ej)),at5 h,e,pa,dv]};rw[d]
noncomputable def so(p:Pt):HS:=le 4 p.x++le 4 p.y
noncomputable def Gs(l:Ln):HS:=le 2 l.1++le 2 l.2
noncomputable def yP(m:Mark):HS:=le 4 ij++(le 4 ih++f3 jx (le 2 kB))
theorem aeA(p:Pt):t (so p)=8:=bI
theorem aeB(l:Ln):t (Gs l)=4:=bI
theorem at6(m:Mark):t (yP m)=12:=bI
noncomputable def Gu(r:Plan):HS:=Hr (f3 aJ (f3 dP (f3 fL (le 2 0))))
theorem at7(r:Plan):t (Gu r)=20:=bI
theorem Gv(r:Plan):qU r=Gu r++(a3t so++(aCY Gs++a3s yP)):=by delta qU Gu;simp only[dv];rfl
theorem aeC(r:Plan):t (qU r)=20+8*aJ+4*dP+12*fL:=by rw[Gv];simp only[cj,at7,Ca aeA,Ca aeB,Ca at6];simp+arith [*]
structure Fits(r:Plan):Prop where
 w:bk r.w
 h:bk r.h
 p:b1 aJ
 l:b1 dP
 m:b1 fL
 pts:cz de O5
 lines:hN (b1 e.1/\b1 e.2)
 marks:∀m∈dQ,uQ
theorem aR0{r:Plan}(F:wG r)(B:Bytes):(Gu r++B).take 4=aiA/\h9 4 4=r.w/\h9 8 4=r.h/\h9 12 2=aJ/\h9 14 2=dP/\h9 16 2=fL/\h9 18 2=0:=by rw[ab b0 MAGIC.length 4,ce e0 (Gu r++B) (Hr (f3 aJ (f3 dP (f3 fL (f3 0 B)))))];rw[e0];rw[bdP,z3 a,du (a3o b0) ?_ (aJ ?_ ?_)];{rw[aex b0,b,er F.w]};{rw[dO 8 (4+4),qB b0,AU,b,er F.h]};{rw[ls 12 4,qB b0,AV,AU,a,er F.p]};{rw[ls 14 (4+2),qB b0,AV,AV,AU,a,er F.l]};{rw[ls 16 (4+(2+2)),qB b0,AV,AV,AV,AU,a,er F.m]};{rfl}
theorem at8{I:Type}{l:ba}{g:dg I}(h:bk i x (xN->g i=x)):ce d_ g=l:=by refine NF (fun i=>?_);rw[cz];rw[fJ k d_,dq (wH k) (dd k) (gz aa (h i _ (dd k)))];{rw[zE (t aCZ (zf k)),zE (zf k)];rfl}
theorem aR1{r:Plan}(F:wG r):lC (qU r)=r:=by revert F;revert r;refine ap3;rw[uX r];intro F;rw[gw be1];rw[<-Gv]at d1;obtain⟨_,n1,n2,u,y,f,_⟩:=d1;rw[bdP,z3 a];delta lC;rw[bgB,f0 (at7 r),it (Ca aeA de)];rw[FU (by have b3:=aiB p (bO c2);have g:∀q,eJ (qr (jy+(8*i+q))) (so p) 4:=ai (by rw[Gv,aKb,qB a5];exact aez aeA c2 _ q 4);rw[bai];obtain⟨D,a9⟩:=g 4;have b4:qr ang=p.x:=by{rw[show ang=jy+(8*i+0)by rfl,a3];delta so;rw[dv,aey,b,er b3.1]};have b9:qr (ang+4)=p.y:=by{rw[show ang+4=jy+(8*i+4)by rfl,a9];delta so;rw[dv,AU,b,er b3.2]};rw[b4,b9]),FU (by have b3:=aC0 p (bO c2);have g:∀q,eJ (i3 (f8 i q)) (Gs p) 2:=ai (by rw[Gv,aKb,qB a5,qB d5];exact aez aeB c2 _ q 2);rw[bai];obtain⟨D,a9⟩:=g 2;have b4:i3 apd=p.1:=by{rw[dw apd (f8 i 0),a3];delta Gs;rw[dv,aey,a,er b3.1]};have b9:i3 (apd+2)=p.2:=by{rw[dw (apd+2) (f8 i 2),a9];delta Gs;rw[dv,AU,a,er b3.2]};rw[b4,b9]),(at8 (fun i m c4=>by have b3:=wI m (bO c4);have g:∀q w,eJ (num (qU r) (f8 dP (12*i+q)) w) (yP m) w:=fun q w=>by{rw[Gv,aKb,qB a5,qB d5,qB (Ca aeB bX)];have:=aez at6 c4 [] q w;rw[gf]};rw[da a3 (g 0 4)];obtain⟨d,a9⟩:=g 4 4;rw[fE e2 (g 8 2)];obtain⟨h,e5⟩:=g 10 2;have b4:qr FN=ij:=by{rw[dw FN (f8 dP (12*i+0)),a3];delta yP;rw[dv,aey,b,er b3.1.1]};have b9:qr (FN+4)=ih:=by{rw[dw (FN+4) (f8 dP (12*i+4)),a9];delta yP;rw[dv,dv,AU,b,er b3.1.2]};have e7:i3 (FN+8)=jx:=by{rw[dw (FN+8) (f8 dP (12*i+8)),e2];delta yP;rw[dO 8 (4+4),dv,AV,dv,dv,AU,a,er b3.2.1]};have g5:i3 (FN+10)=kB:=by{rw[dw (FN+10) (f8 dP (12*i+10)),e5];delta yP;rw[ls 10 2,dv,AV,dv,AV,dv,AU,a,er b3.2.2]};rw[b4,b9,e7,g5]))]
noncomputable def eQ(r:Plan):hQ:=Kq NB
theorem at9{r:Plan}(F:wG r):wJ (qU r)=jq (eQ r) r:=by have d1:=be1;rw[<-Gv]at d1;obtain⟨t,n1,n2,u,y,f,a⟩:=d1;have len:=aeC r;delta wJ eQ;have a9:¬(i3 18≠0):=by{rw[xI]};have e2:¬(t (qU r)≠jy+8*i3 12+4*i3 14+12*i3 16):=by{rw[len,u,y,f];simp[jy]};rw[cE Bf hS,bgB];rw[u,y,f]at e2;rw[PU,bj e2,aR1 F];split;{rfl};(split<;>lia-abstractProof)
universe GM
namespace GM
open Gla
theorem aR2{p q a b:Pt}(h:xM)(b3:hX p q a=ab)(U:hX p q b=ab):Wx p q a<Wx p q b↔amv:=by revert h b3 U;revert p q a b;refine aMU;rw[al p q a b];intro h b3 U;delta hX at b3 U;simp only[hZ,iS]at b3 U;rw[ds b3.2.2];have c3:=U.2.2;rw[iF]at h⊢;delta eV dx dy at d6 c3;delta Wx dx dy;rw[k2 (fw b.y a.y) (k9 b.x a.x),bL i (ba6-ba5) (fw b.x a.x+alf*bm b.y a.y)];generalize ba6=B at*;generalize ba5=A at*;rw[bT X m X (X=Fn),bT c g c (c=anY),bT u hu u (u=v b.x-a.x),bT v d3 v (v=v b.y-a.y)];rw[<-m,<-g,<-hu,<-d3]at e i;rw[dp h h a9];{rw[cl f (0<c)];have d:0<X*X+c*c:=by{have:0<=X*X:=by{rw[al (aCg 0 X),l (s_ q q),l (air q q)]};have:=hD f f;lia};rw[bL O (c*(B-A)) ((X*X+c*c)*v)];constructor;{rw[rF];left;have:0<c*(B-A):=hD f hS;rw[gd v v d];simp_all};{rw[bcy];{have:0<v:=ag;have:=hD d this;rw[gd (B-A) (B-A) f];exact rW this};{exfalso;rw[ae j v 0];rw[j,aCL]at e;rw[al (aiq CP)]<;>lia}}};{rw[ae f c 0,cl k (0<X)];rw[f]at e i;rw[a6 a3u];rw[a3u,a20]at i;have j:v=0:=by{rw[al (aiq e),az,iy]};constructor;{rw[rF];right;have:0<X*u:=x (Kq i.m l);have:0<u:=by{rw[al (mO 0 u),l q];{have:=Ng (eW k) q;grind}};rw[fT]};{rw[bcy];{rw[fT]};{have:0<u:=ag;have:=hD k this;exact jS i.n}}}
noncomputable def Ls(row:eh)(l:ki):mZ:=NG (l.1::(iV ic api++[l.2]))
theorem aR3{row:eh}{l:ki}(h:a_z):aiC row l=Ls row l:=by delta aiC Ls;simp only;have c9:(NI (fun(J:Pt)=>J !=l.1&&(J !=l.2&&wt l.1 l.2 J)))=NI (hX l.1 l.2):=by{refine Wr (fun J _=>?_);rw[iN,Gn h];rw[xn]};rw[c9];congr 2;rw[dW];have d:aK api (hX l.1 l.2 x=ab):=aJ (vL (NH S)).2;let al:dI Pt Pt:=fun(a b:Pt)=>bT (Wx l.1 l.2 a) (Wx l.1 l.2 b);have p:=yO al api;refine Tf Jf ?_;{rw[p.mem_iff,V5]};{rw[hY ((Te (k:=al) (fun a b q=>fk) (fun a b c q z=>fk) api).and (a3l aol))];rintro a b⟨b3,U,a3,ne⟩;rw[al (S4 ne),iy,i1 (ae (aR2 h (d b (ait U)) (d a (ait b3))) q)]}
noncomputable def Th(l:ki):ki:=aon
theorem aeD{w h:Nat}{pts d:eh}{lines c:mZ}{marks:pV}(c2:gS pts d)(a3:∀l∈aiD,l∈c\/Th l∈c)(a9:∀l∈c,l∈aiD\/Th l∈aiD):bbD=HV w h d c tk:=by delta HV;simp only;have H:=A3 pts;rw[(Tf (ab (B (H.2 x) (c2 x))) H.1)];rw[dW];generalize c5:(mJ a'l)=f6;have b9:∀x:Ln,x∈bfW↔x∈Dv (bE (f6 l.1) (f6 l.2) (f6 l.1) (f6 l.2)):=by{intro x;simp only[fJ];constructor;rw[Kz (a3 l a5),Kz (a9 l a5)]};have e7:∀p,a'l=f6 p:=bn bz;simp only[e7];have X:=aet aeu atY aev bfW;exact aew (ab (B (X.2 x) (b9 x))) X.1
variable{r:Plan}
theorem aR4(Y:dz){l:ki}(h:l∈HW):a_z:=by rw[a4 Nv,hW h];have:=jd;exact zD et fj
theorem auj(Y:dz)(row:eh)(m:Mark):pb r Rn=aa (ct (de++row) (NG row++aoH) (dQ++[m])):=by show aa (ct (de++row) (aiF (aiC row)++NG row) (dQ++[m]))=_;rw[dW];have e:aiF (aiC row)=aoH:=by{rw[a3w,a3w];rw[dW];exact aiE (fd (aR3 (aR4 Y a5)))};rw[e];refine aeD (au aC1) (fd aGY) (fd aGY)<;>simp only[hy]at a5⊢<;>exact a3v
universe GM
namespace GM
open Gla
variable{r:Plan}
structure Clean(r:Plan):Prop where
 f4:RF=ae
 f5:RI=ae
 f6:Y0
 f7:aH2=ae
 f8:(Ke)=ae
 f9:(Kf)=ae
 f10:Rv=ae
 f11:aaJ=ae
 f12:Bw te=ae
 f13:¬fL<Nm
theorem aup(h:NB=ae):kg:=by rw[a4 aiw,eH,cY];{next e5=>rw[eH,cY];{next f=>rw[eH,cY];{next b3=>rw[eH,cY];{next b=>rw[eH,cY];{next k=>rw[amc,eH,cY];{next D=>rw[eH,cY];{next c=>rw[eH,cY];{next a=>rw[eH,cY];{next d=>rw[eH,cY];{next e=>exact a e5 f ag b k D c a d e}}}}}}}}}}
theorem Clean.ord(C:kg):dz:=aeo C.f4 C.f5
theorem Clean.lay(C:kg):bq:=aep NJ C.f7
theorem Clean.deg(C:kg):alV:=jV (by have:=zl C.f8;rw[uk];omega)
theorem Clean.aeF(C:kg):Bc:=fun i hi q=>w8 (C.deg i hi)
theorem Clean.aR7(C:kg):1<aJ:=by have f:=C.f6;unfold frameOk at f;rw[wI f,aO i hi (BQ Dx f.1)];have d:=C.deg i hi;cases d1:ig i with|nil=>{simp_all}|cons y J=>rw[Hs (vd Dx)];have V:y<aJ:=(H.BK C.lay.ok);have a:i≠y:=(H.ne C.lay.ok);lia-abstractProof
theorem Clean.net(C:kg):jX:=by refine atM Dx C.f6 C.aR7 C.deg aoa aoa;{have:=zl C.f9;rw[gf]};{have:=zl C.f10;rw[gf]}
theorem Clean.marks(C:kg):yO dQ/\r.marks.Pairwise (fs amw):=bv (S8.mp C.f11) ⟨et,S9 (R:=fun(a b:Wt)=>amw) aGg fj⟩
theorem auq:Gi (yN i c l=ae->zv/\aK l (x∉c))|[],_,_,_=>aQ|x::l,i,c,h=>by unfold yN at h;rw[eH,cY];{next q=>rw[ds (auq l (i+1) (x::c) h),v (a25 ⟨J (d6.2 x z bK),d6.1⟩) (fun y b6=>?_)];grind-abstractProof}
theorem Clean.aR8(C:kg):c7 amm:=by have t:=aer C.net NJ C.aeF dQ 0 [] HY.1 aQ;simp only[zq]at t;rw[C.f12]at t;exact(auq _ _ _ t.symm).1
noncomputable def aeH(r:Plan)(l:Ln):Nat:=Tb r ((AY).side l).1
noncomputable def aeI(r:Plan)(l:Ln):Nat:=Tb r ((AY).side l).2
theorem aR9(C:kg){l:Ln}(h:l∈bX):q0 aJp=aeH r l/\q0 aon=aeI r l:=by have lt:=aC2 l h;constructor;{show(AY).aP (sd (AY).side aJp)=_;rw[I6];rw[aK lt.1];rfl};{show(AY).aP (sd (AY).side aon)=_;rw[I6,aO fk];rfl}
theorem aeJ(C:kg){i a b:Nat}(H:dP rM):Wy NK a b=aa i↔z m anS (tP=aa (q0 rM)):=by delta Wy;rw[ab c2 NK (Wv aHn)];rw[c2,List.findIdx?_eq_some_iff_getElem];constructor;{rintro⟨hi,p,_⟩;simp only[bA]at hi;rw[ak dQ[i] pJ];rw[Nc]at p;exact x (BO (HY.1 _ (tb hi))) p};{rintro⟨m,c4,c7⟩;rw[dC hi (i<fL),cs D dQ[i] m,cp ag Rq,dq Nc D (ae (BO (HY.1 m (bO c4))) c7)];{intro p;rw[Nc]at p;rw[b3 j4 (j<fL) (js bG bG)];have M:=x (BO (HY.1 _ (tb j4))) p;rw[cl b4 (aa (amm) (aa (q0 rM))),cl b9 (A (amm) (aa (q0 rM)))];have:=x (aCo ag C.aR8) (a3x a3y);exact gv CS b8}}
noncomputable def aur(r:Plan)(hi b8:iY)(l:Ln):cb:=cv (a'c=(hi,b8)\/a'c=(b8,hi))
theorem aR_(C:kg){i j:Nat}{c6 e0:Mark}(hi:A dQ c6)(b8:aa dQ e0){l:Ln}(a5:l∈bX):aFV=aMi:=by have i5:=aR9 C a5;have k:∀{i:Nat}{m:Mark},anS->(Wy NK l.1 l.2=aa i↔aa (aeH r l)=tP)/\(Wy NK l.2 l.1=aa i↔aa (aeI r l)=tP):=by{intro i m c4;rw[aeJ C pQ,aeJ C (.inr a5),i5.1,i5.2];constructor;{rw[xn]};rw[xn]};delta aC4 aC3 aur;rw[iN];simp only[aht,aCM,iS,CA];simp[*]
theorem gone_none(C:kg){i j:Nat}(h:an7){l:Ln}(a5:l∈bX):aFV=ai:=by have a8:dP aJp:=pQ;have b7:dP aon:= .inr a5;have k:∀{i a b:Nat},dP rM->fL<=i->Wy NK a b≠xr:=by{intro i a b H le q;obtain⟨m,c4,_⟩:=x (aeJ C H) q;simp_all};delta aC4 aC3;rw[aCQ];simp only[beq_eq_false_iff_ne,ne_eq,CA,not_and];grind-abstractProof
theorem aut(C:kg){i j:Nat}(h:i=j\/an7):p4 aJI:=by show CY _=ae;rw[aK];rw[eL h,Fl];{right;rw[dW];rw[a3z];intro l a5;rw[gone_none C h a5];rfl}
theorem erase_eq(C:kg){i j:Nat}{c6 e0:Mark}(ne:i≠j)(hi:A dQ c6)(b8:aa dQ e0):pb r aJI=(let a:=iU (k4 aMi);v mL dP ae (aa (ct (a.flatMap (ch [pz,rl])) (a.map (ch Eg)) (a3A j)))):=by show bgo=_;rw[(Wr (fd (iG (aR_ C hi b8 a5))))];simp only[ne,false_or];generalize z:(iU (k4 aMi))=a;have sub:∀l∈a,l∈bX:=fun l a5=>cq;split;{rfl};{rw[dW];refine aeD (fun p=>?_) (fd pQ) (fd pQ);simp only[fJ,Nk,aCD,tg,V4,hC,oR,Dl];constructor;{rintro⟨k,⟨c3,l,a5,e⟩,rfl⟩;delta HZ at e;grind-abstractProof};{rintro⟨l,a5,e|e⟩;rw[pk l.1 Q7,pk l.2 ag]}}
universe GM
namespace GM
open Gla
variable{r:Plan}
theorem aR'(Z:bq){e f:Ln}(a0:iz)(W:f∈bX){z:Pt}(c:hX eE eF z=ab)(d:hX ami amj z=ab)(b3:QA):e=f:=by have Y:=hF;have le:=ye;rw[bJ (fZ f W)];delta hX at c d;simp only[hZ,iS]at c d;have s:=mu (HF (b7 le.1 le.2)) c.1;have t:=mu b3 c.2.1;have u:=mu (HF (b7 m.1 m.2)) d.1;have w:=mu b3 d.2.1;have xe:dy z=Zf:=by{have:=Z.K7 a0 z;rw[el]};have x:hC z=Zf:=by{have:=Z.K7 W z;rw[el]};have p:l i j gX aKW (i<j):=fun i j hi h=>by{rw[al (ik i j),l q];{rw[al (qO q),i1 (Df q hi),az]}};have l:cf rG<tO:=by{delta iD;grind-abstractProof};have o:tO<amC:=by{rw[Jc];lia-abstractProof};have ov:kE<g_:=p _ _ (Nat.max_lt.mpr ⟨js le.1 le.2,js m.1 m.2⟩) (x (Int.lt_trans l o));rw[ak b g aJE];have g7:dy rG-hC rG=a+b*cf rG:=g _;have g8:dy z-hC z=a+b*tO:=g _;have a5:amR-am'=a+b*amC:=g _;have n1:dy rG<hC rG->amR<=am':=Y.nc e a0 f W ov;have n2:hC rG<dy rG->am'<=amR:=by{have:=Y.nc f W e a0 (ac bc0 bc1 ov);rw[bX bc0 bc1];exact this};have n:b=0:=by{rw[bs b q q q];{have a3:b*tO<b*cf rG:=aCh l q;have a9:b*amC<b*tO:=aCh o q;grind-abstractProof};rw[iy];{have a3:b*cf rG<b*tO:=ahE l q;have a9:b*tO<b*amC:=ahE o q;lia-abstractProof}};subst n;simp at g7 g8 a5;rw[cl lo (dy eE=kw eE) (wk e a0),cl hi (dy eF=kw eF) (wo e a0)];have on:hN (pi (dy ed) (kw ed)):=fun e a0 v a3 a9=>Y.on e a0 v a3 a9;exact sM (by rw[fe e.1 f.1,H_ f.1,iy,H_ e.1]) (by rw[fe e.2 f.2,pr e.2 (qP (cV q)),iy,pr f.2 (Dc (cV q))])
theorem auu{I d:Type}{f:I->nG}:∀{l:ba},i zv (bk l (c7 (f x))) (bk l (dt l (o z (z∈f x) (z∈f y) (x=y)))) (c7 (ND f))|[],_,_,_=>aQ|a::l,nd,a3,a9=>by have n2:=AE;rw[pa,ah1];rw[aa (a3 a bK) (auu n2.2 (aJ (a3 x rq)) (fun x S y b6=>a9 x rq y rq)) (fun b U c b0 e=>?_),ib c5 (aC5 b0)];grind-abstractProof
theorem pairs_len{I:Type}(l:ba):t (NG l)=d_-1:=i0 NG
theorem auv{I:Type} [BEq I] [aCB I](l:ba):l.eraseDups.length<=d_:=ez (we I) (fs (Classical.propDecidable (a=b))) (SQ aol (aJ (NH S)))
theorem auw(C:kg)(row:eh)(a6:cz row (hN (a9S->Qz))):bd (NG row++aoH) (dP+2*ff):=by have Z:=Dx;rw[cj,pairs_len];have b4:t aoH=dP+t bcx:=by{delta Nv;rw[aC6];generalize r.lines=ls;induction ls with|nil=>{rfl}|cons a J d6=>rw[pa,pa,cj,cj,d6];have:t (Ls row (bp a.1,bp a.2))=(NI (hX (bp a.1) (bp a.2))).eraseDups.length+1:=by{delta Ls;rw[pairs_len];simp only[ia,cj,MS];rw[aIF];rfl};rw[nY];simp+arith [*]};have nd:c7 bcx:=auu Z.nd (fun x _=>aol) (fun e a0 f W z I c=>by rw[cy (vL (NH I)),cb (vL (NH c))];exact aR' Z a0 W a.2 b.2 (a6 z a.1 e a0 a.2));rw[h0 (SQ nd (m:=row) (sp (by obtain⟨l,_,h⟩:=aC5 c9;exact fb (NH h)))) (hn (qM ff 1) b4.l this)]
theorem auy(Y:dz){e:Ln}(a0:iz){p:Pt}(h:a9S):Qz:=by have l:=jd;have o:=(x (Gn (zD l.1 l.2)) h).1;unfold isOn at o;simp only[hZ,Nh,iS]at o;rw[gv (oj (i9 (e.1<aJ) (js l.1 l.2))),fe (oj l.2)];lia-abstractProof
theorem auz{w h:Nat}{pts:eh}{lines:mZ}{marks:pV}(hw:bk w)(c7:bk h)(c2:NL<65535)(a5:b1 lines.length)(c4:b1 aC7)(a8:cz pts O5)(k:∀m∈tk,uQ):wG bbD:=by have H:=A3 pts;have b2:t OO<=NL:=by{rw[J (aGe).length_eq (auv _)]};rw[e hw c7 ?_ ?_ ?_ ?_ ?_ ?_];{show t OO<_;exact cf b2 c2};{show t (iV kA _)<_;rw[aIF];have:=auv bfX;rw[el]};{show t (iV mS tk)<_;rw[aIF];exact c4};{intro p a3;exact a8 p (x (H.2 p) a3)};{intro e a0;have V:e∈iV kA (bfX).eraseDups:=a0;rw[(aGe).mem_iff,V5,fJ]at V;grind-abstractProof};{intro m Z;exact k m ((yO mS tk).mem_iff.mp Z)}
universe GM
namespace GM
open Gla
variable{r:Plan}
theorem auA{p:uv}{n m:Nat}:QQ=aa m↔m<n/\p m=ab/\E i (i<m) (p i=ai):=by rw[List.find?_eq_some_iff_getElem];rw[xn]
theorem aeK{p:uv}{n:Nat}:QQ=ae↔nN (p i=ai):=aQ
noncomputable def aeL(r:Plan)(z:Pt):cb:=cv (0<z.x/\z.x<r.w)&&cv (0<z.y/\z.y<r.h)
theorem aSa(Z:bq)(Y:dz)(d:Bc)(m:Mark):(aeL r eL&&dk tP)=Wz r m:=by delta Wz Di aeL;by_cases a3:0<ij/\ij<r.w;{by_cases a9:0<ih/\ih<r.h;{have g:=atW Z Y d (z:=eL) (h3 a3.2);have e:dk tP=! HI r eL:=by{delta vh;cases q:B_ r eL with|none=>{rw[g.mp q];rfl}|some x=>simp_all};simp[*]};rw[xo]};rw[xo]
noncomputable def vi(r:Plan):hQ:=qr (tj bas mS dQ) (yN 0 [] amm)
theorem aSb(N:jX)(Y:dz)(d:Bc):vi r=(qr aaJ (Bw te)):=by delta vi;have e:(bas)=Wz r:=by{funext m;exact aSa iT Y d m};rw[e];cases h:aaJ with|some i=>{rfl}|none=>have t:=aer N Y d dQ 0 [] (S8.mp h).1 aQ;simp only[zq]at t;simp only;rw[t]
noncomputable def Ti(r:Plan)(a:QX):hQ:=a1 RF 4 (Dy i) (a1 RI 5 aoI (E (Lo r=ai) 6 jy (a1 anF 7 aoI (a1 Ke 8 (Dy i) (a1 Kf 9 (Dy i) (a1 Rv 10 (Dy i) (vi r)))))))
theorem aSc(a3:1<aJ){a:QX}(c6:aMF):Ti r a=NB:=by delta Ti aiw;cases e5:RF with|some i=>{rfl}|none=>simp only;cases f:RI with|some i=>{rfl}|none=>have Y:=aeo e5 f;simp only;rw[atR Y];cases b3:V2 r with|false=>{rfl}|true=>simp only[Bool.true_eq_false,iR];rw[aen (c6 Y)];cases b:aH2 with|some i=>{rfl}|none=>simp only;cases k:Ke with|some i=>{rfl}|none=>simp only;cases D:Kf with|some i=>{rfl}|none=>simp only;cases c:Rv with|some i=>{rfl}|none=>simp only;rw[aSb (cV b b3 (jV ah) c) Y (fun i hi q=>cq)];rfl
universe GM
namespace GM
open Gla
variable{r:Plan}
noncomputable def Tj(B r:Plan)(i:Nat)(l:Ln):cb:=Z (aCO Eg) (ael B r i l) (Gp r i l)
theorem aeM{B:Plan}(k5:Lay B)(Y:dz){i:Nat}{l:Ln}(h:A bX l):Tj B r i l=alo:=by have a5:=bO h;delta Tj;split;{next q=>refine aRI k5 Y a5 (Nw q) (fun m c4 e=>?_);rw[bY,gB C (ib c4),dC j4 (j<i),dC M (aa bX m),dC X (i<dP)];have:=x (aCo (EK:j<dP) Y.nd) (M.trans agP);simp_all};rw[l (S6 Y a5)]
theorem aSd{x:Gla.Step}(h:p4 x):n3 (.error ae):=by delta H0;rw[h]
theorem aSe{x:Gla.Step}{T:Plan}(h:aaF)(F:wG T){e:Fault}(a0:eQ T=aa e):n3 (.error rB):=bdl
theorem aSf{x:Gla.Step}{T:Plan}(h:aaF)(F:wG T)(a0:eQ T=ae):n3 Ju:=bdl
structure yQ(r:Plan):Prop where
 fits:wG r
 ok:eQ r=ae
theorem Lu{c:Prop} [Hu c]{x:Fault}{y:hQ}(h:(av c x y)=ae):¬c/\y=ae:=by by_cases q:c;rw[yN (aK q)];{rw[iW q];exact⟨q,h⟩}
theorem wi{a b n:Nat}(h:¬mT a b n=ai):a<=n/\n<=b:=hs mT h
theorem yQ.Gw(C:xT):(16<=r.w/\pm r.w)/\(16<=r.h/\pm r.h)/\N (4<=aJ/\aJ<=4096) (4<=dP/\aHS) (1<=fL/\fL<=2048) (NB=ae):=by have h:=C.ok;obtain⟨a,h⟩:=Lu h;rw[i4 b (Lu h),da h (Lu h),i4 d (Lu h),fE h (Lu h)];exact c (wi a) (wi b) (wi c) (wi d) (wi e) h
theorem yQ.clean(C:xT):kg:=aup (a2 C.Gw.2)
def Tn:cu CC| .lead row m=>v9 (ff<=64/\cz row O5)| .move _ p=>O5| .mark _ m=>uQ|_=>gA
theorem aSg(r:Plan):r.drawn.length=dP:=cG Nv (bA _)
theorem To(C:xT){x:Gla.Step}(S:Tn x){T:Plan}(h:aaF):wG T:=by have e8:=C.Gw;have F:=C.fits;have K:=C.clean;have so:=aiB;cases x with|lead row m=>{rw[aj (auj K.ord),cH];have X:=auw K row (fun p _ e a0 q=>auy K.ord a0 q);rw[al (by simp;have:=S.1.1;exact cf AJ this) (bv S.1.1 (RR X iA this this)) (nE pU) uc (fun f7 Z=>?_)];{rw[hZ c2,aZ,l (S.1.2 p q)]};{rw[hZ Z,l (wI f7 q),zr S.2]}}|erase i j=>{rw[tt bgo,YG,cY];{cases h';rw[cy (aiH a7A (eJ aJ)),cb (aiH ak4 bX),cl (v0 (aiG dQ j)),al bz (eI b iA) (bn c pU) uc (fun f7 Z=>wI f7 ((aiG dQ j).subset Z)),a3 k c3 c2];have:=fb c3;exact a_e}}|move k p=>{rw[tt (bg'),YG];{cases h';rw[al fR (nE iA) (f7 pU) a_A wI,a3 i hi e0];split;rw[l S,l a_e]};rw[az]}|mark i m=>{rw[tt (aMy),YG];{cases h';rw[al bM (by rw[aSg];lia) fR so (fun f7 Z=>?_),al (List.mem_or_eq_of_mem_set Z),l (wI f7 q)];{rw[e_];exact S}};rw[dV]}|drop k=>rw[a4 pb,amc,eH];{rw[cH,cy (aiH (mw (! HZ k l)) bX),cl (v0 (aiG de k)),al (bn c AJ) (eI a iA) bM (gP (so p ((aiG de k).subset c2))) wI]};{lia}
universe GM
namespace GM
open Gla
variable{r:Plan}
noncomputable def ko(a b:hQ):hQ:=dg a rB b
noncomputable def iH(r:Plan):hQ:=Kq ae
noncomputable def Gx(r:Plan):hQ:=dB RF 4 (Dy i)
noncomputable def Gy(r:Plan):hQ:=dB RI 5 aoI
noncomputable def Cb(r:Plan):hQ:=E (Lo r=ai) 6 jy ae
noncomputable def Cc(r:Plan):hQ:=cS (iH r) (Gx r) (ko (Gy r) (Cb r))
noncomputable def Cd(r:Plan)(a:QX):hQ:=dB anF 7 aoI
noncomputable def yR(r:Plan):hQ:=cS (dB Ke 8 (Dy i)) (dB Kf 9 (Dy i)) (dB Rv 10 (Dy i))
theorem size_eq(r:Plan):eQ r=ko (iH r) NB:=by delta eQ iH ko;split;{rfl};(split<;>lia)
theorem aSh(r:Plan)(a:QX):Ti r a=cS (Gx r) (Gy r) (cS (Cb r) (Cd r a) (ko (yR r) (vi r))):=by revert r a;refine Kn;rw[bV r a];delta Ti Gx Gy Cb Cd yR ko;cases RF with|some i=>{rfl}|none=>cases RI with|some i=>{rfl}|none=>cases Lo r with|false=>{rfl}|true=>cases anF with|some i=>{rfl}|none=>cases Ke with|some i=>{rfl}|none=>cases Kf with|some i=>{rfl}|none=>rw[li Rv]
theorem auB(a b c:hQ):ko (ko a b) c=cS a b c:=sB a
theorem Tp{a b:hQ}(h:a=ae):ko a b=b:=dc h
theorem aeN{a:QX}(c6:aMF):eQ r=cS (Cc r) (o2 a) (vi r):=by rw[WA];delta Cc;rw[auB];cases h:iH r with|some e=>{rfl}|none=>rw[<-aSc (by delta iH mT at h;rw[eH,cY,eH,cY];grind) c6,aSh];simp only[auB]
theorem auC(h:Cc r=ae):N dz Y0 (1<aJ) (iH r=ae):=by rw[a4 Cc,fh b1 (iH r) (iH r),aj (Tp b1),fh e5 (Gx r) (Gx r),aj (Tp e5),fh f (Gy r) (Gy r),aj (Tp f)];have Y:=aeo (hs Gx e5) (hs Gy f);rw[w Y ?_ ?_ b1];{rw[a4 Cb];rw[<-atR Y];grind-abstractProof};{delta iH mT at b1;split at b1;rw[cY];split at b1;rw[cY];grind-abstractProof}
theorem auD(W:Cc r=ae){a:QX}(c6:aMF)(d1:o2 a=ae):bcI:=by obtain⟨Y,n,a3,_⟩:=auC W;rw[aJ b (Cd r a) (Cd r a) d1 d1];rw[Tp b]at d1;delta Cd at b;have c:anF=ae:=by{simp_all};rw[aen (c6 Y)]at c;delta yR at d1;rw[aJ k Ke Ke d1 d1];rw[k]at d1;have j2:=d1;rw[aJ D Kf Kf j2 j2];rw[D]at j2;rw[dx d alV ah];exact v (cV c n d (by cases q:Rv with|some e=>{rw[q]at j2;cases j2}|none=>rfl)) Y d
theorem aSi{B:Plan}(C:aiI B)(c2:de=pd)(a5:bX=Wm):o2 (Du r)=ae:=by obtain⟨w,h,p,l,m⟩:=r;obtain⟨c5,h',u,i1,f7⟩:=B;cases c2;cases a5;delta Cd yR;have j2:HP (Du apL) l=ae:=C.f7;have j9:ch wK (oA (s1 (Plan.near apL i)))=ae:=C.f8;have j8:ch wK (Da (aii (aCI apL) wK 0 (Dq wK)))=ae:=C.f9;have e2:ch wK (Wi (aCI apL) wK)=ae:=C.f10;simp only[j2,j9,j8,e2];rfl
noncomputable def Tq(r:Plan)(k:bZ H2):hQ:=cS (Cc r) bg0 (vi r)
theorem aSj{k:bZ H2}(U:bcJ):Tq r k=eQ r:=by delta Tq;cases k with|none=>{exact bt (aeN (fun Y i l h=>S6 Y (bO h)))}|some B=>have C:=U B rfl;simp only;split;{next q=>rw[aeN (r:=r) (a:=Du r) J4,bcz]};rw[l (bt (aeN (fun Y i l h=>aeM Dx Y h)))]
theorem aSk{k:bZ H2}(U:bcJ)(W:Cc r=ae)(d1:(bg0)=ae):bcI:=by cases k with|none=>{exact Gt (S6 Y (bO h))}|some B=>have C:=U B rfl;simp only at d1;split at d1;{next q=>exact auD W (a:=Du r) J4 bcz};rw[l (Gt (aeM Dx Y h))]
universe GM
namespace GM
open Gla
variable{r:Plan}
theorem auE(Y:dz){i:Nat}(hi:gX):NM eG=i:=by have c4:=yG hi;refine Wk (wB c4) hi ?_;rw[e1 e (K de (NM eG) eG)];delta aCs at e⊢;rw[WB,e];rfl
theorem aSl(Y:dz):iV ic r.pts.eraseDups=de:=bt (Tf (au aC1) Y.dO)
theorem auF(Y:dz)(w h:Nat)(d8:pV):HV w h de HW d8=a w h de bX (iV mS d8):=by delta HV;simp only[aSl Y];rw[dW];have e:(r.drawn.map (bE (NM l.1) (NM l.2) (NM l.1) (NM l.2)))=bX:=by{delta Nv;rw[jw];rw[ul bX,jM Yu];have:=Rk;simp only[Wu];rw[auE Y Q7,auE Y ag];grind-abstractProof};rw[J e (bt (aew (au aC1) Y.ls))]
theorem aSm(Y:dz){i:Nat}(h:i<fL)(m:Mark):pb r Z3=aa (BR (iV mS Yf)):=by show(aMy)=_;rw[aK h,auF Y]
theorem mark_none{i:Nat}(h:¬i<fL)(m:Mark):p4 Z3:=by show(aMy)=_;rw[aO h]
theorem auG{k:Nat}(h:¬k<aJ)(p:Pt):p4 aoJ:=by show bo (k<aJ) _ ae=ae;rw[aO h]
theorem aSn(Y:dz){k:Nat}(h:k<aJ)(p:Pt):pb r aoJ=aa (ct Zl (a3B (ch (am Zl l.1 jO,am Zl l.2 jO))) dQ):=by rw[dx f (ia ((v i k p eG)=am Zl i jO)) (by rw[WB,List.getElem?_set];rw[b1 i k,aZ];{rw[cE e (ai (e zz))];delta aCs;rfl}),gB bg'];rw[aK h];have b4:(a7I)=Zl:=by{rw[alP];intro i a3 a9;grind-abstractProof};rw[b4];congr 2;rw[jM Yu];have:=Rk;grind-abstractProof
noncomputable def Lv(r:Plan)(k:Nat):ao:=iE (HZ k) (l.1+l.2-k)
theorem auH{k:Nat}(h:t (Lv r k)≠2):p4 (.drop k):=by rw[a4 Lv];delta pb;grind-abstractProof
set_option tactic.hygienic true in theorem drop_eq{k a b:Nat}(h:Lv r k=[a,b]):pb r (.drop k)=aa (ct (r.pts.eraseIdx k) ((iE (k4 (HZ k l)) Eg)++[(rk,bp b)]) dQ):=by have c:∀l∈YU,(v l.1 k rl pz)=bp (l.1+l.2-k):=fun l a5=>by{rw[de (vL a5).2];unfold endsAt at e;rw[Pn]};rw[a4 Lv];delta pb;simp only;split;rw[az];{next f6=>obtain⟨x,y,e⟩:∃x y,YU=Jl:=by{cases q:YU with|nil=>{simp_all}|cons x J=>cases J with|nil=>{simp_all}|cons y J=>simp_all};lia}
theorem auI{T:Plan}{c d8:pV}(Z:WC=iV mS c)(p:aiJ c)(s:a3D (fs amB)):eQ am6=eQ T/\(eQ T=ae->am6=T):=by have D:=atZ p s;rw[<-Z]at D;rw[v (by delta eQ;simp only[(nc (gz aC8 D)),aRZ T d8 D]) (fun h=>?_)];have C:aiI T:=by{refine aup ?_;rw[aj WA];cases q:iH T with|some e=>{rw[m1 q]}|none=>rw[aj q];exact h};have:d8=WC:=t Z (aRW p (by have a4:gO (T.marks.map AN) amv:=a3C HY.2;grind-abstractProof));rw[gm];rfl
universe GM
namespace GM
open Gla
def aeO:cu CC| .lead row m=>aMO| .erase i j=>i<65536/\j<65536| .move k p=>b1 k/\bk p.x/\bk p.y| .mark i m=>v9 (i<65536)| .drop k=>b1 k
def Ce:cu CC| .lead row m=>aMO| .move _ p=>O5| .mark _ m=>uQ|_=>gA
theorem Ce.ok:∀{x:Gla.Step},Ce x->Tn x| .lead _ _,h=>⟨⟨h.1.2.1,h.1.2.2⟩,h.2⟩| .erase _ _,_=>fY| .move _ _,h=>h| .mark _ _,h=>h| .drop _,_=>fY
theorem Ce.fit{r:Plan}(C:xT){x:Gla.Step}(h:Ce x){T:Plan}(m:aaF):aeO x:=by rw[g3 C.Gw];have K:=C.clean;cases x with|lead row mk=>{exact h}|erase i j=>{have:¬(i=j\/an7):=ai (wv (aut K q));have w:=G8 (cj (this (.inr k)));exact⟨hn (Wq i j) w pU,hn (HG i j) w pU⟩}|move k p=>{rw[gl (k<aJ) (auG q) AJ]}|mark i mk=>{rw[gl (i<fL) (mark_none q) pU]}|drop k=>rw[ci (qG (ai (wv (auH q))))];unfold Lv at q;rw[cR bA];obtain⟨l,a5⟩:∃l,l∈YU:=by{cases e:YU with|nil=>{simp_all}|cons a J=>simp};have a3:=K.ord.lt l (fb a5);rw[fe (vL a5).2];unfold endsAt at a9;simp at a9;show b1 k;grind-abstractProof
noncomputable def Lw(r:Plan)(x:Gla.Step):a3E hQ H2:=match pb r x with|none=> .error ae|some T=>dg (eQ T) (.error rB) Ju
theorem Tr{r:Plan}(C:xT){x:Gla.Step}(h:Tn x):n3 (Lw r x):=by delta Lw;cases m:pb r x with|none=>{exact aSd m}|some T=>have F:=To C h m;simp only;cases e:eQ T with|some d3=>{exact aSe m F e}|none=>exact aSf m F e
theorem aSo{r:Plan}(C:xT){x:Gla.Step}(h:Tn x){T:Plan}(e:n3 Ju):yQ T/\aaF:=by rw[a6 (Tr C h)];delta Lw at e;cases m:pb r x with|none=>{simp_all}|some d=>rw[a6 m];simp only at e;cases f:eQ d with|some d3=>{simp_all}|none=>rw[a6 f,dS];exact dx ⟨To C h m,f⟩
structure bT where
 cs:bL H2
 ss:bL CC
 d:Nat
structure kq(R:bT):Prop where
 len:a3F=lD+1
 dl:aIH
 Lx:∀r∈pe,xT
 fit:aK mU (aeO x)
 st:∀(i:Nat)x r T,i (fh mU) (A pe r) (K pe (i+1) T) (n3 Ju)
 few:lD<=65536
noncomputable def bT.gr(R:bT):a3G:=v a78 tN YV
noncomputable def bT.cur(R:bT):H2:=R.cs.getD R.d al3
theorem kq.get{R:bT}(Y:hl){i:Nat}(h:i<=lD):z r (A pe r) xT:=by have hi:i<a3F:=by{have:=NN;simp+arith [*]};exact av pJ (Y.Lx _ (tb hi))
theorem kq.cur{R:bT}(Y:hl):K pe R.d f_/\yQ f_:=by obtain⟨r,h,c⟩:=aiK wL;have e:f_=r:=by{delta bT.cur;simp[*]};simp[*]
theorem kq.first{R:bT}(Y:hl):K pe 0 tl/\yQ tl:=by obtain⟨r,h,c⟩:=aiK cT;have e:tl=r:=by{delta pf;cases q:pe with|nil=>{grind-abstractProof}|cons a J=>simp_all};simp[*]
theorem auJ:∀(l:bL CC)(r T d:Plan)(x:Gla.Step),aiL r l=aa T->H0 T x= .ok d->aiL r (l++[x])=aa d|[],r,T,d,x,h,g=>by{rw[cH];show m1 x []=aa d;delta Dz;rw[g];rfl}|y::J,r,T,d,x,h,g=>by rw[tt (m1 y J)];show m1 y (J++[x])=aa d;cases q:Dz r y with|none=>{simp_all}|some V=>rw[q]at h';exact auJ J V T d x h' g
theorem kq.after{R:bT}(Y:hl):∀(i:Nat),i<=lD->aiL tl (NO i)=pe[i]?|0,_=>dc aC_.1|i+1,h=>by have d6:=aBH i ej;obtain⟨r,b2,_⟩:=aiK (i:=i) ej;obtain⟨T,Z,_⟩:=aiK (i:=i+1) h;have hi:i<lD:=by{trivial};rw[b2]at d6;rw[aC9 hi,Z];exact auJ _ _ r T _ d6 (Y.st i _ r T pJ b2 Z)
theorem kq.now{R:bT}(Y:hl):R.gr.now=f_:=by delta Gla.Record.now;have:=aBH R.d wL;rw[am DA.1,q3 (Gla.after tl tN),nY];rfl
theorem aeP{r:Plan}(C:xT):kq (kz r):=by rw[du rfl a_ (lG cT),aZ];{simp};(intros;trivial)
noncomputable def bT.add(R:bT)(x:Gla.Step)(T:Plan):bT:=v (P2++[T]) anr jJ
theorem kq.add{R:bT}(Y:hl){x:Gla.Step}(S:Ce x){T:Plan}(h:H0 f_ x=Ju)(few:b1 R.d):kq ZR:=by have c:=DA;have t:=aSo c.2 S.ok h;rw[cZ a7 (t P2) jJ,bg_,du (bx NP a7 d5) (eJ NP d5) (lG (by simp[NP,d5];exact HE bG))];{intro r b2;rw[hZ b2,l (Y.Lx r (qT q))];simp_all};{intro y b6;rw[hZ b6,l (aiM y (qT q)),zr (S.fit c.2 t.2)]};{intro i y r d a3 a9 e2;simp only[NP]at a3 a9 e2;by_cases q:i<R.d;{rw[hx ag,sU q]at a3;rw[hx (b7 q a7.g),sU Jd]at a9;rw[hx ag,sU ag]at e2;exact Y.st i y r d a3 a9 e2};{rw[f0 (bx a3)];rw[cj,d5]at a5;rw[fp (i=R.d) (mP (HE a5) (a3H q))];rw[o_ (qF d5),d5,zA]at a3;rw[hx (t a7 jR),sU jR]at a9;rw[o_ (qF a7),a7,zA]at e2;cases a3;cases e2;rw[J (c_ (a9.symm.trans c.1)) h]}}
theorem bT.aSp{R:bT}(Y:hl)(x:Gla.Step)(T:Plan):(ZR).gr={wM with done:=aiN++[x],undone:=[]}:=by rw[bg_];have b4:an anr jJ=anr:=DB (ar d5);have b9:df anr jJ=[]:=aiz (ar d5);have f5:(P2++[T]).headD al3=a78:=by{cases q:pe with|nil=>{have:=NN;simp_all}|cons a J=>rfl};delta NP pf;simp only[*]
theorem kq.aeQ{R:bT}(Y:hl):R.gr.done.length=R.d:=by show t tN=R.d;rw[eS];have:=wL;exact kO
theorem kq.auK{R:bT}(Y:hl):R.gr.undone.length=ub:=by show t YV=_;rw[sO]
theorem aSq{R:bT}(Y:hl)(h:R.d=0):R.gr.undo=ae:=by delta a3I;have:aiN=[]:=by{show tN=[];rw[h];rfl};rw[nY];rfl
theorem auL{R:bT}(Y:hl)(h:R.d≠0):R.gr.undo=aa (o9 tV)/\kq (ih tV):=by have dl:=wL;have hi:tV<lD:=by{lia};have e:tN=a_G:=by{rw[Hn (aC9 hi)]};have b9:aC' tV=mU[tV]::YV:=by{rw[Hn (Ww hi)]};rw[Hc bM];delta a3I;have hd:aiN=a_G:=e;rw[hd];simp only[List.getLast?_append,List.getLast?_singleton,Option.some_or,List.dropLast_concat];delta pf;simp only[b9]
theorem aSr{R:bT}(Y:hl)(h:ub=0):R.gr.redo=ae:=by delta a3J;have:aDa=[]:=by{show YV=[];exact aiz (bn (aS lD R.d) h.l)};rw[nY]
theorem auM{R:bT}(Y:hl)(h:ub≠0):R.gr.redo=aa (o9 jJ)/\kq (ih jJ):=by have hi:R.d<lD:=by{lia-abstractProof};have e:NO jJ=tN++[mU[R.d]]:=aC9 hi;have b9:YV=bbb:=Ww hi;rw[Hc bB];delta a3J;have hd:aDa=bbb:=b9;rw[hd];simp only;delta pf;simp only[e]
theorem bT.all(R:bT):aiN++aDa=mU:=Ds _ _
noncomputable def Gz(b:Bytes)(p:Nat):hQ:=match aiO b p with| .error e=>rB| .ok k=>E (cw<p+k) 6 cw ae
noncomputable def Ly(b:Bytes)(p:Nat):Nat:=match aiO b p with| .error _=>0| .ok k=>k
theorem Ts{b:Bytes}{p:Nat}{c:UInt8}(h:aKe):c5 p 1=eC:=by delta num;rw[eA c2 p cw];rw[Ww c2];rw[aj (dd c2),cH];show NC [b[p]]=b[p].toNat;exact HC _
theorem aSs{b:Bytes}{n:Nat}{r:Plan}{p:Nat}{e:Fault}(h:Gz b p=aa e):Bu Ah:=bbk
theorem aSt{b:Bytes}{n:Nat}{r:Plan}{p:Nat}(h:JB)(t:Dz r uN=ae):Bu (wM 7):=bbk
theorem aSu{b:Bytes}{n:Nat}{r T:Plan}{p:Nat}(h:JB)(t:Dz r uN=aa T):Bu (gA (zF b n T aHr) (uN::x.1,x.2)):=by rw[a4 Gz];delta Ly;conv=>{lhs;unfold readSteps};rw[xo]
theorem aeR{b:Bytes}{p:Nat}(h:JB):∃c:UInt8,aKe/\eC<=4/\DY (aLB/\2<=jz/\jz<=64):=by revert h;revert b p;refine Kn;rw[bV b p,eD];delta Gz aiO at h;cases q:b[p]? with|none=>{simp_all}|some c=>rw[ak c rfl,aj q,amc,d3 u c];{subst u;rw[v ay (fun _=>?_)];cases d2:b[p+1]? with|none=>{simp_all}|some n=>rw[aj d2,nt mJ,bC w (mT 2 64 jz),l (aP n (by delta mT at w;simpa using w))];simp_all};{rw[lK (an (cy e (an (u (by apply aDb;simpa using e))))),iW u,N e5 c 1,az,iW e5,N e6 c 2,az,iW e6,N c1 c 3,az,iW c1,N i0 c 4,az,iW i0,cH]}
theorem aSv{b:Bytes}{p:Nat}(h:JB):Ly b p=(q9 (c5 p 1) (c5 (p+1) 1)):=by revert h;revert b p;refine Kn;rw[bV b p,eD,eI i0 a5 (aeR h)];rw[Ts b0];delta Ly aiO;rw[b0];simp only;have l:∀k:Nat,k<256->(c=aiP k↔eC=k):=fun k c3=>by{rw[<-UInt8.toNat_inj,aDc];rw[t_]};have I:=l 4 ay;have cs:aMM:=by{lia};rw[aMQ];{obtain⟨n,d1,n1,n2⟩:=a5 e;have z:c=0:=ae (l 0 ay) e;rw[aK z,d1,e,Ts d1];have w:mT 2 64 jz=ab:=by{delta mT;simp[n1,n2]};simp+arith [*]};rw[zU 1,zU 2,zU 3,az]
theorem aeS(b:Bytes)(p:Nat):bk (ptAt b p).x/\bk (ptAt b p).y:=⟨eK p 4 ptAt,eK (p+4) 4 ptAt⟩
theorem auN(b:Bytes)(p:Nat):(bk (apv).at_.x/\bk (apv).at_.y)/\b1 (apv).glass/\b1 (apv).painting:=v (aeS b p) (eK (p+8) 2 aDd) (eK (p+10) 2 aDd)
theorem auO{b:Bytes}{p:Nat}(h:JB):Ce uN:=by have⟨c,b0,i0,a5⟩:=aeR h;delta a3K;simp only;rw[Ts b0];split;{next e=>have⟨n,d1,n1,n2⟩:=a5 e;rw[Ts d1];rw[v (v ag ag (fun q e0=>?_)) (auN b _),iC i (zt e0)];exact aeS b _};{split;rw[cY];{split;rw[l (aeS b _)];{split;rw[l (auN b _),cY]}}}
structure vj(b:Bytes)(N:Nat)(n:Plan)(f i:Nat)(R:bT)(p:Nat):Prop where
 ok:hl
 d:R.d=i
 l:lD=i
 first:K pe 0 n
 le:i<=N
 eq:u3 (gA (zF b (N-i) f_ p) (mU++x.1,x.2))
theorem aSw{b:Bytes}{N:Nat}{n:Plan}(C:yQ n)(f:Nat):ep 0 (kz n) f:=by rw[y (aeP C) rfl rfl (as cT)];show zF b N n f=gA (zF b (N-0) n f) ([]++x.1,x.2);rw[ah7];rw[kr (zF b N n f) x]
theorem aSx{R:bT}(Y:hl)(x:Gla.Step)(T:Plan):(ZR).cur=T:=by have a7:t P2=jJ:=by{rw[eS];have:=NN;have:=wL;simp[*]};delta bT.cur NP;simp only;simp[*]
theorem vj.step{b:Bytes}{N:Nat}{n:Plan}{f i:Nat}{R:bT}{p:Nat}(I:aJj)(hN:N<=65536)(lt:i<N)(h:JB){T:Plan}(t:H0 f_ uN=Ju):ep (i+1) (WD uN T) aHr:=by have d:=I.d;rw[b2 I.l,du (I.ok.add (auO h) t (fv d.l (fH lt hN))) (by show jJ=_;rw[xI]) (as lt)];{show t (tN++[uN])=_;simp[*]};{show(P2++[T])[0]?=_;have:=I.ok.len;rw[hx ag,sU pT];exact I.first};{rw[de I.eq];rw[a7W,aSu h (by delta Dz;rw[t])]at e;rw[e,aSx Vb];have a7:(WD uN T).ss=mU++[uN]:=by{show tN++[uN]=_;grind-abstractProof};rw[a7];cases zF b (N-i_) T aHr with|error e=>{rfl}|ok x=>simp[Except.map]}
theorem vj.fail{b:Bytes}{N:Nat}{n:Plan}{f i:Nat}{R:bT}{p:Nat}(I:aJj)(lt:i<N){e:Fault}(h:Gz b p=aa e):u3 Ah:=Hp (aSs h)
theorem vj.no{b:Bytes}{N:Nat}{n:Plan}{f i:Nat}{R:bT}{p:Nat}(I:aJj)(lt:i<N)(h:JB)(t:∀T,H0 f_ uN≠Ju):u3 (wM 7):=Hp (aSt h (by delta Dz;rw[Pn]))
theorem vj.done{b:Bytes}{N:Nat}{n:Plan}{f:Nat}{R:bT}{p:Nat}(I:ep N R p):u3 (.ok (mU,p)):=by have q:=I.eq;rw[cR zA];rw[q];show Except.ok (mU++[],p)=_;rw[qK]
noncomputable def yS(b:Bytes):hQ:=f0 16 SAVED (E (STEPS<aaf) 2 8 (E (cw<16+JN) 3 cw ae))
theorem aSy{b:Bytes}{e:Fault}(h:yS b=aa e):H3 b=Ah:=by rw[a4 yS];delta H3;rw[eH,az,jY]
theorem auP{b:Bytes}(h:yS b=ae):(aaf<=65536/\16+JN<=cw)/\H3 b=(match wJ (yx JN)with| .error e=> .error a9V| .ok r=>match zF b aaf r (16+JN)with| .error e=>Ah| .ok (l,p)=>if p<cw then wM 8 else .ok (v r (G9 Ao) (oK Ao))):=by rw[a4 yS];delta H3;rw[eH,al6];next d2=>rw[eH,al6];next q2=>rw[eH,al6];next q3=>rw[eH,al6];next i6=>rw[bj d2,bj q2,bj q3,bj i6];exact dx ⟨by delta STEPS at q3;exact(qq q3),j0 i6⟩
theorem vj.got{b:Bytes}{n:Plan}{p:Nat}{R:bT}(I:vj b aaf n (16+JN) aaf R p)(h:yS b=ae)(j:wJ (yx JN)= .ok n)(a0:¬p<cw):H3 b= .ok (o9 Ao)/\kq (ih Ao):=by have Y:kq (ih Ao):=c I.ok.len (by show Ao<=lD;have:=I.l;simp[*]) I.ok.Lx I.ok.fit I.ok.st I.ok.few;rw[lK Y];rw[(auP h).2,j];simp only[I.done];rw[aO a0];have e:(o9 Ao).first=n:=by{have:=aC_.1;rw[eS I.first];simp_all};rw[dW];delta pf at e⊢;simp only at e⊢;rw[e]
noncomputable def aeT(b:Bytes):hQ:=f0 jy aiA (ko (iH rH) (E aJ4 2 18 (E aMA 3 jy ae)))
theorem aeU(b:Bytes):(rH).pts.length=c5 12 2/\(rH).lines.length=c5 14 2/\(rH).marks.length=c5 16 2:=i0 lC
theorem auQ(b:Bytes):wG rH:=by have l:=aeU b;have y:=DP 4;have n2:=DP 2;rw[e (y 4) (y 8) ag ag ag ?_ ?_ ?_,aLY,aLY,aLY]
theorem auR(b:Bytes):wJ b=dg (aeT b) Ah (jq (eQ rH) rH):=by rw[b2 (aeU b)];delta aeT wJ;by_cases a3:cw<jy;rw[aZ,cE a3 a3];by_cases a9:xi≠aiA;rw[aZ];rw[PU,PU,WA];delta iH;rw[l.1,l.2.1,l.2.2];rw[ab n (rH).w JN,ab f (rH).h Ao];rw[n,f];split;{rfl};split;{rfl};split;{rfl};split;{rfl};split;{rfl};{show _=dg (av aJ4 (⟨2,18⟩:a3L) (E aMA 3 jy ae)) (Except.error e) (jq (rH).fault rH);by_cases e2:aJ4;rw[aZ,cE e2 e2];by_cases e5:aMA;rw[aZ,cE e5 e5];rfl}
theorem auS{b:Bytes}{r:Plan}(h:wJ b= .ok r):xT:=by rw[aj auR];cases q:aeT b with|some e=>{simp_all}|none=>rw[aj q,amc];cases J:eQ rH with|some e=>{simp_all}|none=>rw[aj J,cH];exact⟨auQ b,J⟩
noncomputable def Lz(w h:Nat):eh:=[jO,jL w,hi h,io w]
noncomputable def Tt(w h:Nat):mZ:=[(jO,jL w),(jO,hi h),(jL w,io w),(hi h,io w)]
noncomputable def auT(w h:Nat)(m:Mark):H2:=HV w h (Lz w h) (Tt w h) [m]
theorem aSz{w h:Nat}(hw:0<w)(c7:0<h)(m:Mark):qp=rV:=by have Y:Ord bhU:=by{rw[du ?_ ?_ ?_];{simp[Lz,ic,hw,c7]};rw[bbB,bbB];{intro e a0;simp at a0;rw[kC a0]<;>simp[Lz]};{simp[kA]}};have:=auF Y w h [m];delta auT;rw[ab e (Nv bhU) (Tt w h),am e];exact this
theorem Tu{w h:Nat}(m:Mark):eQ qp=eQ rV/\(eQ rV=ae->qp=rV):=by by_cases q:0<w/\0<h;rw[l2 (aSz q.1 q.2)];{have b4:iH qp=iH rV/\iH rV≠ae:=by{delta iH;rw[ab a (qp).w w,ab b (qp).h h,ab c (rV).w w,ab d (rV).h h];rw[a,b,c,d];by_cases z:v6 w;rw[aZ];{rw[cE z z];have h6:mT aDi aDh h=ai:=by{delta mT aDi aDh at z⊢;grind-abstractProof};simp[*]}};rw[WA,WA,b4.1];cases J:iH rV with|none=>{rw[dQ J b4.2]}|some e=>exact bd (c8 PJ)}
theorem auU{w h:Nat}{m:Mark}(hw:bk w)(c7:bk h)(c4:uQ):wG rV:=by rw[e hw c7 AG AG AG ?_ ?_ ?_];{intro p c2;simp[aiQ]at c2;rw[kC c2];{decide};rw[jm hw a8n,jm a8n c7,jm hw c7]};{intro e a0;simp[aiQ]at a0;rw[Ff]};{intro f7 Z;simp[aiQ]at Z;subst Z;exact c4}
theorem aSA{w h:Nat}{m:Mark}(hw:bk w)(c7:bk h)(c4:uQ):wJ (qU rV)=jq (eQ qp) qp:=by rw[at9 (auU hw c7 c4),(Tu m).1];cases q:eQ rV with|some e=>{rfl}|none=>rw[(Tu m).2 q]
theorem aSB{w h:Nat}{m:Mark}(hw:bk w)(c7:bk h)(c4:uQ)(e:eQ qp=ae):yQ qp:=by have q:=e;rw[cR (Tu m).1,lK e];rw[(Tu m).2 q];exact auU hw c7 c4
universe GM
namespace GM
open Gla GlaKeeps
noncomputable def dst(o:PF)(c:GlaKeeps.Call):GlaKeeps.State×aT:=((aDj (tm pf) c).1,a3M (aDj (tm pf) c).2)
noncomputable def auV(e:Fault):aT:=[-5,v e.rule,v aDk]
theorem aSC(o:PF){b:Bytes}(h:cw<=131072):dst o (.open_ b)=match wJ b with| .error e=>aIG| .ok r=>p8 (pf (kz r)):=qU BYTES (wJ b)
theorem aSD(o:PF){b:Bytes}(h:cw<=67108864):dst o (.read b)=match H3 b with| .error e=>aIG| .ok J=>p8 J:=qU READ (H3 b)
theorem auW(o:PF){c:GlaKeeps.Call}(a3:aG9=ab\/M4=ab)(h:aiR c=ai):dst o c=(tm pf,[-1]):=by rw[Yx];rw[bj (by rintro⟨a,b⟩;rw[al a3,cL,az]),aK h];rfl
theorem aSE{c:GlaKeeps.Call}(h:aG9=ai):dst ae c=(ae,[-9]):=by rw[Yx];rw[aK (dx h)];rfl
theorem aSF(o:PF){w h:Nat}{m:Mark}(b3:aiR apg=ab):dst o apg=dg (eQ qp) aIG (p8 (pf (kz qp))):=by have c7:z (bk w) (bk h) aFQ (b1 jx) (b1 kB):=by{delta wN zG aDl qV zG at b3;simpa using b3};rw[Yx,CS hS];delta a3N;simp only[jr,iR];rw[aSA c7.1 c7.2.1 c7.2.2];rw[D7 (eQ qp)]
theorem aeV{R:bT}{c:GlaKeeps.Call}(b3:aiR c=ab)(U:aG9=ai):dst lR c=((NQ wM c).1,a3M (NQ wM c).2):=by rw[Yx,cE aQ hS];cases c<;>first|rfl|(cases U)
theorem aSG{R:bT}(Y:hl){c:GlaKeeps.Call}{x:Gla.Step}(b3:aiR c=ab)(S:stepOf c=aa x)(sa:Ce x):dst lR c=match Lw f_ x with| .error none=>ly [-2]| .error (some e)=>ly (auV e)| .ok T=>mm (ly [-3]) (p8 (ZR).gr):=by rw[aeV b3 (by cases c<;>first|rfl|rw[pO])];have e:NQ wM c=stepOn wM x:=by{cases c<;>first|(rw[pO];rfl)|trivial};rw[e];delta stepOn;rw[Y.now,Tr DA.2 sa.ok];cases Lw f_ x with|error q=>{cases q with|none=>{rfl}|some f=>rfl}|ok T=>simp only[Y.aeQ];delta STEPS;split;{rfl};{rw[bT.aSp Y x T];rfl}
theorem aSH{R:bT}(Y:hl):gA .undo R.d tV:=gS R.d (aSq Y h) (auL Y h)
theorem aSI{R:bT}(Y:hl):gA .redo ub jJ:=gS ub (aSr Y h) (auM Y h)
theorem aSJ{R:bT}(Y:hl){n:Nat}(h:n<=2):dst lR (.count n)=ly [0,ae bfx]:=by rw[aeV (x (dH bG)) rfl];delta NQ;simp only[Y.now,Y.aeQ,Y.auK];rfl
noncomputable def bN(b:Bytes):aT:=wO (gS (v eC))
theorem aSK{R:bT}(Y:hl):dst lR .plan=ly (0::kk (bN (qU f_))::bN (qU f_)):=by rw[aGs];delta NQ;simp only[Y.now];rfl
theorem aSL{R:bT}(Y:hl):dst lR .save=ly (0::kk a_f::a_f):=dc aGs
theorem aSM(o:PF){c:fA}{x:GlaKeeps.Call}(h:aHO):aiS (tm pf) c=dst o x:=f7 aiS h
universe GM
namespace GA
open PySem PySem.Spec PyProof.Rows L2
structure Tv(K:Fg)(mg:dM)(x:Str)(st:Stmt)(c5:cX)where
 f:ef
 fd:U0
 F:jp x fd
 m:jD (mg x) f
 b:aaB
structure mw(K:Fg)(C:Addr)(m j:Str)(st:Stmt)(c5:cX)where
 f:ef
 fd:U0
 F:K0 K m j st f fd
 b:aaB
 h:Meth K C m f
structure vk(K:Fg)(C:Addr)(j:Str)(st:Stmt)(c5:cX)where
 f:ef
 fd:U0
 F:K0 K "__init__" j st f fd
 b:aaB
 h:Mk K C f
section z
variable{P:Program}{w:World}{K:Fg}{mg:dM}{base:Heap}{x m:Str}{C:Addr}{st:Stmt}{N c5:cX}{k:Nat}{e8:Sp}
abbrev Tv.Ok(R:apF)(P:Program)(w:World)(base:Heap)(k:Nat)(e8:Sp):Prop:=aMV
abbrev mw.Ok(R:a9L)(mg:dM)(P:Program)(w:World)(base:Heap)(k:Nat)(e8:Sp):Prop:=aMV
abbrev vk.Ok(R:y4 x)(mg:dM)(P:Program)(w:World)(base:Heap)(k:Nat)(e8:Sp):Prop:=aMV
theorem Tv.go(R:apF)(r:apE)(U:∀(e3:Value)(A:Around)(outer:ka)(s:Shared)(H:Hp)(vs:af)(Q:VK)(E:XK),B6 (yB sh P w K mg aj N x Eb R.f e3 A ez s H E))(len:aJr):R.Ok P w aj (k+1) e8:=aLp
theorem mw.go(R:a9L)(r:apE)(U:∀(e3:Value)(A:Around)(outer:ka)(s:Shared)(H:Hp)(vs:af)(Q:VK)(E:XK),B6 (yB sh P w K mg aj N x Eb R.f e3 A ez s H E))(len:aJr):bhC:=aLp
theorem vk.go(R:y4 x)(r:apE)(U:∀(e3:Value)(A:Around)(outer:ka)(s:Shared)(H:Hp)(vs:af)(Q:VK)(E:XK),B6 (yB sh P w K mg aj N x Eb R.f e3 A ez s H E))(len:aJr):bhC:=aLp
universe z
section z
variable{X:Cx}
theorem kc{x:Str}{st:Stmt}{c5:cX}{e8:Sp}{j k:Nat}{e:Expr}{a7:fC}{t:TA}{p pos:Pos}(R:bgG)(G:biz)(a6:Qo)(c3:j<=k)(d8:qh)(b3:Fv)(l:mf)(a0:Bp)(b8:JU):a'0:=aOX (G.mono c3) a6 d8 R.m R.F.kp R.b .nil fp b3 l a0 b8
theorem gi{x:Str}{n:Int}{pos:Pos}(c4:ax t (mG x) (eZ n))(d8:ce qh)(hd:mf):M (gM pos) (po n):=by rw[i4 t c4];exact aqO d8 h (dx t) hd
universe z
variable{H L a8 b7:Hp}{K:Fg}
theorem b_{l:Addr}{o:HO}(h:xf):cZ H JQ:=sl (Y (em h) e)
theorem fG{l:Addr}{o:HO}(s:bQ)(h:xf):cZ H (upd L l o):=sl (Y (em h) (s b u e))
def vl(H L:Hp):Prop:=j a O (cw tK) (L a=aa tK)
theorem vl.trans(a:vl H a8)(b:vl a8 b7):vl H b7:=fun x O h=>b x O (a x O h)
theorem cP(s:bQ):QK:=fun a O h=>bv h
theorem yT{l:Addr}{o:HO}(m:uS (H l)):vl H JQ:=fun a O h=>Y (an (by rw[bY];rw[h]at m;exact m)) h
theorem GB{l:Addr}{o:HO}{O:af}(h:am l O):vl H JQ:=yT (w7 h)
theorem GC{l:Addr}{o:HO}(h:xf):vl H JQ:=cP (b_ h)
abbrev Pt:=Gla.Pt
abbrev Rl(I:Type):=be Hp V I
def lu{I:Type}(R:kh):Prop:=∀(H L:Hp)(v:V)(x:I),QK->R H v x->R L v x
theorem lu.go{I:Type}{R:kh}(s:uo){H L:Hp}{v:V}{x:I}(t:QK)(h:R H v x):R L v x:=s _ _ _ _ t h
noncomputable abbrev vn(n:Nat):V:= .int cK
def oz:Rl Nat:=fun _ v n=>v=jf
inductive LA(l:af)(H:Hp)(v:V):Prop|mk:o a (v=bc) (lL l) (LA l H v)
abbrev dG:Rl Pt:=fun H v p=>LA [.int p.y,.int p.x] H v
inductive eR(H:Hp)(v:V)(l:ki):Prop|mk:∀a x y,b v bc (cw ZT) (br x l.1) (br y l.2) aok
abbrev sr:Rl fz:=fun H v e=>LA [.int e.1,.int e.2] H v
abbrev sv:Rl G_:=fun H v m=>LA (cf ih ij jx kB) H v
def GD:Rl (bZ Mo):=fun H v f=>match f with|none=>v= .bC|some e=>z a (v=bc) (cw (g8 e.rule aDk))
theorem sx:lu oz:=aoS
theorem dk:lu dG:=aLd
theorem gx:lu eR:=sd (by obtain⟨a,x,y,e,h,p,q⟩:=e0;exact a a x y e (bv h) (hH s p) (hH s q))
theorem iI:lu sr:=aLd
theorem jo:lu sv:=aLd
theorem bju:lu GD:=fun H L v x s h=>by cases x with|none=>{exact h}|some e=>rw[ak q J h];exact v a q (bv J)
theorem Tw{I d:Type}{F G:ql}(h:a'g){l:ba}{m:nG}(q:fZ F):fZ G:=by induction q with|nil=>{rw[kL]}|cons J t i=>rw[cA (h _ _ J) i]
theorem mx{I d:Type}{F:ql}{l:ba}{m:nG}{i:Nat}{b:d}(q:fZ F)(h:aoe):z a Zi (F a b):=beJ
theorem oA{I d:Type}{F:ql}{l:ba}{m:nG}{i:Nat}{a:I}(q:fZ F)(h:Zi):z b aoe (F a b):=beJ
theorem oB{I d:Type}{F:ql}{l i1:ba}{m f7:nG}(h:fZ F)(s:dD F i1 f7):dD F (l++i1) (m++f7):=a'N
theorem sy{I d:Type}{F:ql}(n:Nat):pt (G9 n) (m.take n):=by induction n with|zero=>{intro l m _;exact .nil}|succ n d6=>rw[bZ l m];cases h with|nil=>{rw[kL]}|cons J t=>rw[cA J (d6 t)]
theorem Cf{I d:Type}{F:ql}(n:Nat):pt (oK n) (m.drop n):=by induction n with|zero=>{rw[bZ l m];exact h}|succ n d6=>rw[bZ l m];cases h with|nil=>{rw[kL]}|cons J t=>exact d6 t
theorem auX(ns:ao):dD (oz H) je ns:=by rw[ww ns]
theorem vm{vs:af}{ns:ao}(h:dD (oz H) vs ns):vs=je:=a9B
inductive Cg{I:Type}(R:kh)(K:Fg)(H:Hp)(a:Addr)(O:ba):Prop|mk:oZ (mx vs) (@Cg I R K H a O)
theorem Cg.mono{I:Type}{R:kh}(A:uo){a:Addr}{O:ba}(s:bQ)(h:bm R a O):Cg R K L a O:=ll (zH q) (cP s)
inductive dB{I:Type}(R:kh)(H:Hp)(a:Addr)(O:ba):Prop|mk:oZ (am a vs) (@dB I R H a O)
theorem dB.mono{I:Type}{R:kh}(A:uo){a:Addr}{O:ba}(s:bQ)(h:apn):dB R L a O:=ll (bv q) (cP s)
theorem dB.ls{I:Type}{R:kh}{a:Addr}{O:ba}(h:apn):bm R a O:=nM (av q) p
theorem dB.put{I:Type}{R:kh}(A:uo){a l:Addr}{o:HO}{O:ba}(h:apn)(m:uS (H l))(ne:a≠l):dB R JQ a O:=ll (Y ne q) (yT m)
theorem aSN{d0:It}{g:TG}{c3:TS}{D:Ends}{M:L2.St}{H:Hp}(n:Nat)(j:dJ H4 Hp)(b1:amV)(go:lA (i<n) Pu)(stop:j M H (j n M H) (aDm n H))(c0:∀i M H x L,i (i<n) akV PB (gb M aGm))(hd:to n):em H4 (W 0 m M H) (V ak7 alK OH Pu (∃N:eo H4,(ala)/\j x L PB (gb M (r2 N)))):=by rw[eW n Ql n,ap7];by_cases Z:i<n;rw[co (d (go i M H Z p) (j (i+1)) ba3 (fun x L y=>c0 i M H x L Z p y))];{have e:i=n:=mP hi (zf Z);rw[bY];exact dq (stop M H p) apx}
theorem aeW{I d:Type}{d0:It}{g:TG}{c3:TT}{b8:TE}{vs:ao}{M:L2.St}{a8:Hp}{D:Addr}{k:jb}{R:Rl d}(A:uo)(Y:ba)(r:be Hp V I)(f:aHp)(a7:gz D)(c9:eM<hv)(go:l i H (i<eM) anP Pu)(stop:E H anP (aDm eM H))(b6:∀i H x L,i anP (i<eM) PB (bQ/\z a Ey (r L x a)))(c0:K8 (r L x a))(hd:vg (a3O f)):KR (k H):=by let j:Y7:=mN (anP/\I d7 (am D d7) (dD (R H) d7 (kw (WE i) f)) (oQ<=i));rw[ak (m4 eM (i<=eM)) (a eM bI cT (b_ a7) [] ak .nil a_)];rintro i m H⟨rfl,hi,s,d7,l,c5,le⟩;rw[fJ Z eM];{refine i3 (go i H Z s) (fun L u=>kc eM (aS eM i));obtain⟨a4,a,b3,c⟩:=b6 i H x L s Z y;rw[a7L];refine c0 i a x L _ _ b3 (il a4) c (fun y e4 b n d9 J=>?_) (fun fn d4 c8=>?_);{have d3:=fF (dj l);rw[e d7 d3 (br le Z c9) (fG (B (il a4) d9) a7) (eA d7) ak ?_ ag];rw[g9,aiT];rw[ae t e4 (U e4 D (eA d7)) (GB d3)];refine oB (dE (NR (B (cP (eX d9)) t)) c5) ?_;simp only[He,n,aDn];exact hp (NR t J)};{rw[j (B (il a4) c8) d7 (dn (dj l)) ?_ EM];rw[g9,aiT];simp only[He,fn,aDn,qK];exact dE (NR (cP (eX c8))) c5}};{have e:i=eM:=mP hi (zf bG);rw[bY];rw[H5]at c5;exact dq (stop H s) (hd H d7 s l c5)}
theorem aeX{I d:Type}{g:TG}{c3:TT}{b8:TE}{vs:ao}{M:L2.St}{a8:Hp}{D:Addr}{k:jb}{c:kh}(s0:lu c){R:Rl d}(A:uo){l:Addr}{Y:ba}(a5:wk c)(f:aHp)(a7:gz D)(c9:eM<hv)(c0:K8 (c L x a))(hd:vg (a3O f)):d7 OR OR OR:=by rw[aGM];refine aeW A Y (fun H x a=>c H x a) f a7 c9 aMn (fun H s=>ap O (zH q) wK a_) aMS c0 hd;{rw[bcl];exact d O x (zH q) S};{obtain⟨rfl,y⟩:=y;rw[bc'];exact d eg b U (s0.go (cP s) J)}
theorem aSO{I d:Type}{g:TG}{c3:TT}{b8:TE}{vs:ao}{M:L2.St}{a8:Hp}{D:Addr}{k:jb}{c:kh}(s0:lu c){R:Rl d}(A:uo){l:Addr}{Y:ba}(a5:wk c)(f:Nat×I->bZ d)(a7:gz D)(c9:eM<hv)(c0:∀(i:Nat)a T x L(h4:VK)(N:jb),c Ey OL (L T=aa (eq x)) (c L x a) (wE (f (i,a))->(f (i,a)=ae->aGL)->be al8 tA L aGA))(hd:vg (kw aKH f)):d7 aJm aJm aJm:=by rw[aGM,aS i0 (t aKH) eM];refine aeW A aKH (fun H v a=>∃T x,v=al8/\bh T (d_ (cd a.1) x)/\c H x a.2/\K Y a.1 a.2) f a7 ag aMn (fun H s=>v O (zH q) (ac wK i0 a_)) aMS (fun i a x L h4 N b3 s⟨T,b1,e,c6,J,hi⟩a3 a9=>?_) hd;{rw[i0]at hi;rw[bcl];exact d O x (zH q) S};{rw[i0]at hi;obtain⟨T,b1,rfl,Z,rfl,y⟩:=y;rw[bc',c (b_ Z) (i,b) ?_ T b1 ak (s0.go (cP (il (b_ Z))) J) U,J aiU ⟨ag,U⟩]};rw[sK (c0 a.1 a.2 T b1 L h4 N hi s c6 J a3 a9)]
universe GA
section z
open PySem PySem.Spec PyProof.Rows L2
instance nR:eI aDo:=⟨v [] [] 0⟩
instance nC:eI a3P:=⟨.undo⟩
universe z
namespace GA
structure yU(a b c:Prop):Prop where mk::
 (A:a)
 (B:b)
 (C:c)
structure vo(a b c d:Prop):Prop where mk::
 (A:a)
 (B:b)
 (C:c)
 (D:d)
structure GF(a b c d e:Prop):Prop where mk::
 (A:a)
 (B:b)
 (C:c)
 (D:d)
 (E:e)
structure Aa6(a b c d e f:Prop):Prop where mk::
 (A:a)
 (B:b)
 (C:c)
 (D:d)
 (E:e)
 (F:f)
structure Aa7(a b c d e f g:Prop):Prop where mk::
 (A:a)
 (B:b)
 (C:c)
 (D:d)
 (E:e)
 (F:f)
 (G:g)
structure Aa8(a b c d e f g h:Prop):Prop where mk::
 (A:a)
 (B:b)
 (C:c)
 (D:d)
 (E:e)
 (F:f)
 (G:g)
 (H:h)
structure Aa9(a b c d e f g h i:Prop):Prop where mk::
 (A:a)
 (B:b)
 (C:c)
 (D:d)
 (E:e)
 (F:f)
 (G:g)
 (H:h)
 (I:i)
inductive vp{e f:Type}(p:au e f):Prop|mk:eS (p a b) (vp p)
inductive LB{e f g:Type}(p:be e f g):Prop|mk:∀a b c,p a b c->LB p
inductive GG{e f g h:Type}(p:aa e f g h):Prop|mk:zX (p a b c d->GG p)
universe GA
namespace GA
open PySem PySem.Spec PyProof.Rows L2
section z
variable{X:Cx}{K:Fg}
theorem ixl(g:fB):KU X (Sn K):=g▸arE
theorem ixt(g:fB):KU X (So K):=g▸arF
theorem flK{e:Expr}{f:Str}{pos:Pos}{d6:TE}(g:fB)(a0:M e d6)(U:bgs):zq K:=g▸aOP a0 U
theorem ptK{a7:fC}{k:Nat}{pos:Pos}{t:yv}{n:Nat}(g:fB)(b0:fQ)(h:Kz X a7 t)(d1:a_S)(z:a_8):GV K:=g▸aNU b0 h d1 z
theorem aSU(g:fB):fW "len" (KX K):=g▸arJ
theorem aSV(g:fB)(b0:fQ):fW "all" (ady K):=g▸aPI b0
theorem aSW(g:fB):IJ bbr:=g▸aPv
theorem aSX(g:fB):qs (fW K H p d7) (nb d7):=g▸aPw
theorem eqK(g:fB)(hu:uL):be .Eq (adz K):=g▸aPJ hu
theorem neK(g:fB)(hu:uL):be .NotEq (adA K):=g▸aPK hu
theorem inK(g:fB):be .In (KW K ai):=g▸aPt
theorem aS1(g:fB):be .NotIn (KW K ab):=g▸aPu
theorem aS2(g:fB):KS X (Sq K):=g▸aPq
theorem aS3(g:fB):KS X (adt K):=g▸aPi
theorem aS4{a:Expr}{d6:TE}(g:fB)(b3:fU)(a0:apu):BG K:=g▸aOB b3 a0
universe z
theorem auZ(f:Str)(v:V):∀l:hU,bd (ge l) (d_+1)|[]=>a_|p::J=>by have d6:=auZ f v J;rw[n0 p];unfold kk;split;{simp};rw[l (Vm d6)]
theorem vq{f:Str}{v:V}{l:hU}{n:Nat}(h:d_<n):t (ge l)<n+1:=bv (auZ f v l) (cf this h)
theorem Tx{b8:TE}{M:L2.St}{H:Hp}{Q:VK}{N:jb}(h:of Q):arT M H (fun b d4=>Z b (b8 M d4 Q) (N d4)):=xh
theorem aS5{I d:Type}(f:Fj):∀l:ba,Mi (an (aa (f e)))=xQ|[]=>rfl|a::J=>aQ
theorem LC{I:Type}(p:AZ):om e (zx p)|[]=>rfl|a::J=>GZ (LC p J)
theorem aS6:iU "len" "len":=a3Q
theorem au0:aKd:=cB
theorem aS7:vR "tuple"=aa rp:=cB
theorem aS8:vR "set"=aa Js:=cB
theorem aS9:iU "sorted" "sorted":=cB
theorem aS_:iU "max" "max":=cB
theorem aS':a'W:=cB
theorem aTa:iU "all" "all":=cB
def GH(K:Fg)(mg:dM)(x:Str)(O:af):Prop:=D4 beL
def tKT(K:Fg)(O:af):TE:=lF (E a uI (Q bc H))
theorem GT{X:Cx}{K:Fg}{x:Str}{O:af}{pos:Pos}(c4:GH K mG x O)(g:FF)(d8:ce qh)(hd:mf):M (gM pos) (tKT K O):=by rw[ak b3 h c4,na e0];exact ho hd Q (e0 a (.inr h))
def au1(K:Fg)(mg:dM)(x:Str)(F:gs):Prop:=D4 (∀(P:Program)(w:World)(h:Heap),uj->apP)
inductive jKD(F:gs)(Q:VK)(y:V)(a8:Hp):Prop|mk:f k v (y=kV k) (uG=aa v) (Q v a8) (jKD F Q y a8)
def tKD(F:gs)(A:TE):TE:=wu (jKD F Q)
theorem aTc{X:Cx}{K:Fg}{x:Str}{F:gs}{i:Expr}{A:TE}{pos p:Pos}(hd:au1 K mG x F)(hi:yh)(c0:SD i)(g:FF)(d8:ce qh)(l:mf):M (eW (gM p) i) (tKD F A):=by subst g;rw[ak b3 a7 hd,fx];refine ar7 a3R c0 (bD (ho l (fun z a8=>z=bc/\tKD F A M a8 Q) (bd h)) (fun u a4⟨z,a8,r,e,c1,d2⟩=>a7F));obtain⟨y,b7,Y,Z,k,v,c3,d3,q2⟩:=P;subst c1;rw[jW,fp (u=dm a) e,bE d j (a7 eA X.w ag4 Y.Kx),m7 (CZ vs k) (bl d3 (VB k))];exact⟨VC,a2u (BF Z) ahy hw (a v b7 (aiV _) W q2)⟩
noncomputable def au4:gs:=[nR 1,gR 2 6,gR 3 4,gR 4 2,gR 5 3,gR 6 5,gR 7 1,nR 8,nR 9,gR 10 1,nR 11,nR 12,nR 13]
theorem aTe:Y aMP aMP aa3:=bf
theorem aTf:an ["number"] "number" aa4:=ux
theorem aTg:Gb aa5:=bf
theorem aTh:Gb aa6:=bf
theorem aTi:an ["drawing"] "drawing" aa7:=ux
theorem aTj:bU "points" "a" "b" aa8:=bf
theorem aTk:Y ["width","height","points","ends","marks","standing","numbers","number","point","lines","p","q"] (vZ "ends") aa9:=bf
theorem aTl:Y ["a","b"] ["a","b"] aa_:=bf
theorem aTm:Y ["width","height","mark","low_left","low_right","high_left","high_right","points","ends"] ["width","height","mark"] aa':=bf
theorem Tz:Y ["data","place","size","value","byte"] ["data","place","size"] aba:=bf
theorem aTn:DU abb:=ux
theorem aTo:DU abc:=i9 ah
theorem aTp:t5 abd:=ux
theorem aTq:Y an4 an4 abe:=bf
theorem aTr:k1 ["data","fault","points","lines","marks"] abf:=bf
theorem aTs:H2 abg:=bf
theorem aTt:H2 abh:=bf
theorem au5:no "spot" abi:=bf
theorem aTu:k1 ["data","lines_begin","marks_begin","points","place","lines","marks"] abj:=bf
theorem aTv:an ["point"] "point" abk:=ux
theorem aTw:an ["line"] "line" abl:=ux
theorem aTx:an ["mark"] "mark" abm:=ux
theorem aTy:an ["cartoon","data","row","point","line","mark"] "cartoon" abn:=bf
theorem aTz:KD abo:=bf
theorem aTA:KD abp:=bf
theorem aTB:Y apQ apQ abq:=bf
theorem aTC:Y ["row","spot","low","high","middle","line"] ["row","spot"] abr:=bf
theorem aTD:kB abt:=ux
theorem aTE:kB abu:=i9 ah
theorem au6:ds (oE "number") "number" abv:=bf
theorem aeY:Y ["self","one","other"] ["self","one","other"] abw:=bf
theorem aeZ:ds (b2 "spot" "at" "line") "spot" abx:=bf
theorem ae0:Y ["self","left","right","begun","between","number"] (b2 "left" "right" "begun") aby:=bf
theorem aTF:Y ["self","point","ended","tops","at","begun","gaps","number","line"] (b2 "point" "ended" "tops") abz:=bf
theorem ae1:Y ["point","tops","row","top"] ["point","tops"] abA:=bf
theorem aTG:Y ["self","sweep","gaps"] ["self","sweep","gaps"] abB:=bf
theorem au7:ch "mark" "gap" "mark" abC:=bf
theorem au8:ch "line" "gaps" "line" abD:=bf
theorem TB:an (b2 "links" "own" "number") "self" abE:=bf
theorem aTH:iJ ["drawing","sweep","tops","point","ended","a","b","gaps","mark","waiting","number","at","spot"] abF:=bf
theorem aTI:Y ["drawing","i","j","panes","homes","turned","line"] ["drawing","i","j"] abG:=bf
theorem aTJ:iJ ["drawing","rows","point","a","b"] abH:=bf
theorem ae2:an ["neighbours","number","row"] "neighbours" abI:=bf
theorem aTK:an ["neighbours","came_from","tried","row","path","here","there"] "neighbours" abJ:=bf
theorem au9:Y ["neighbours","came_from","number"] ["neighbours","came_from"] abK:=bf
theorem aTL:oq ["neighbours","came_from","order","rank","row","position","number","earliest","here","there","back"] abL:=bf
theorem aTM:oq ["neighbours","came_from","ranks","rank","earliest","begun_at_first","cuts","number","above"] abM:=bf
theorem TC:k1 ["data","fault","drawing"] abO:=bf
theorem TF:Iw abQ:=bf
theorem aTN:f8 "before" "before" abR:=bf
theorem ae3:Iw abS:=bf
theorem aTO:iJ ["drawing","fault"] abT:=bf
theorem aTP:bU "last" "number" "point" abU:=bf
theorem aTQ:bU "last" "number" "line" abV:=bf
theorem aTR:iJ ["drawing","width","height","points","edges","number","point","joined","line","row","first","last"] abW:=bf
theorem au_:Y ["points","row","first","last","joined","line"] bf9 abX:=bf
theorem aTS:Y ["drawing","before","known_lines","known_points","line","point","new_points","ends","new_ends","number","tangled","numbers"] ["drawing","before"] abY:=bf
theorem aTT:Y ["line","points","rivals","first","second","point","rival"] ["line","points","rivals"] abZ:=bf
theorem aTU:bU "neighbours" "number" "came_from" ab0:=bf
theorem aTV:bU "panes" "homes" "number" ab1:=bf
theorem aTW:Y ["drawing","homes","last","number","mark","spot"] ["drawing","homes"] ab2:=bf
theorem TH:an ["homes","seen","number","home"] "homes" ab3:=bf
theorem aTX:Y ["cartoon","step"] ["cartoon","step"] ab4:=bf
theorem aTY:Y aK' aK' ab5:=bf
theorem aTZ:an ["row"] "row" ab6:=ux
theorem ae4:Y ["line","row","inside","point"] ["line","row"] ab7:=bf
theorem ae5:Y ["cartoon","row","mark","ends","line"] ["cartoon","row","mark"] ab8:=bf
theorem aT0:Y ["cartoon","i","j","gone","line","ends","points"] ["cartoon","i","j"] ab9:=bf
theorem aT1:Y ["cartoon","k","point","points","ends","a","b"] ["cartoon","k","point"] ab_:=bf
theorem au':Y ["cartoon","i","mark","marks"] ["cartoon","i","mark"] ab':=bf
theorem aT2:Y ["cartoon","k","points","near","a","b","ends"] ["cartoon","k"] aca:=bf
theorem aT3:ds (oE "first") "first" acb:=bf
theorem aT4:kB acd:=i9 ah
theorem aT5:kB ace:=Qg
theorem ae6:ds (b2 "step" "drawn" "fault") "step" acf:=bf
theorem aT6:kB acg:=Qg
theorem aT7:kB ach:=Qg
theorem aT8:kB aci:=Qg
theorem aT9:an ["fault"] "fault" acj:=ux
theorem aT_:an ["record","first","data","number","step"] "record" ack:=bf
theorem ae7:an ["step","data","point"] "step" acm:=bf
theorem aT':k1 ["data","fault","steps_place","told","record","number"] acn:=bf
theorem aUa:t5 aco:=i9 ah
theorem aUb:t5 acp:=i9 ah
theorem TJ:Y ["record","data","place","number","fault"] ["record","data","place"] acq:=bf
theorem ava:no "missing" acr:=bf
theorem ae8:no "size" acs:=bf
theorem ae9:Y ["data","place","kind","number"] ["data","place"] acu:=bf
theorem aUc:Y ["data","place","row_place","mark_place","row","at"] ["data","place"] acv:=bf
theorem aUd:kB acw:=Qg
theorem aUe:Y bdo (b2 "call" "numbers" "row") acx:=bf
theorem avb:Hi acy:=bf
theorem ae_:ds (b2 "numbers" "drawing" "fault") "numbers" acz:=bf
theorem avc:Hi acA:=bf
theorem aUf:ds (oE "record") "record" acB:=bf
theorem ae':an ["lengths","length"] "lengths" acC:=bf
theorem afa:an ["numbers","number"] "numbers" acD:=bf
theorem aUg:KE acE:=bf
theorem aUh:an ["numbers"] "numbers" acF:=ux
theorem afb:an ["row","at"] "row" acG:=bf
theorem aUi:KE acH:=bf
theorem aUj:Y ["record","call","numbers"] ["record","call","numbers"] acI:=bf
theorem aUk:Y ["record","what"] ["record","what"] acJ:=bf
theorem aUl:t5 acK:=Qg
theorem aUm:an ["calls","desk","told","at","call","row_at","numbers","row","answer"] "calls" acL:=bf
universe GA
section z
set_option tactic.hygienic true
namespace GA
open PySem PySem.Spec PyProof.Rows L2
theorem LD{K:Fg}{x q:Str}{st:Stmt}{f:Addr}(e:m8 f x):jp q (fdOf K f):=by unfold oF oE at e;unfold fdOf;rw[PR];{rename_i D m fd sl l;obtain⟨n,y,u,bo,a,gl,e9,i,kd,dc,b3,g,R,ct,j⟩:=fd;simp only[aiW,CA,FuncData.mk.injEq]at e;obtain⟨⟨rfl,rfl,rfl,rfl,rfl,rfl,rfl,rfl,-,-,-,-,-,-,rfl⟩,c,k⟩:=e;exact aQt l c k};{rw[dS]}
variable{K:Fg}{h:Heap}{mg:dM}{x m q:Str}{st:Stmt}{c5:cX}{C:Addr}
noncomputable def fnF(K:Fg)(x:Str):=(fn x,oF K x (dp x))
noncomputable def aUn(G:Bq)(a:ban)(e:oF K x (dp x)=oE x x st)(b:hR x x):apF:=a _ _ (LD e) (G _ _ a) aJK
noncomputable def aUo(a:hF m ZF)(i:p0 (.ref ZF))(e:m8 ZF m)(b:hR m q):mw K C m q st c5:=a _ _ (LD e) aJK a i (LD e).kp
noncomputable def aUp(a:hF "__init__" aHV)(i:p0 (.ref aHV))(mk:amu)(y:aIe)(e:m8 aHV "__init__")(b:a82):y4 q:=a _ _ (LD e) aJK mk a i y
theorem GI{P:Fc}(h:P []):∀b1:aM,ly=0->P b1:=fun b1 e=>bt (NS e)▸h
theorem my{n:Nat}{P:Fc}(h:j a b1 (ly=n) (P (a::b1)))(b1:aM)(e:ly=n+1):P b1:=by cases b1 with|nil=>{contradiction}|cons a b1=>exact h a b1 (aDp e)
theorem sA{P:Fc}(h:∀a,P [a]):n8 1:=my (hv (GI (h a)))
theorem vr{P:Fc}(h:∀a b,P [a,b]):n8 2:=qR (GI (h a b))
theorem us3{P:Fc}(h:∀a b c,P aaS):n8 3:=qR (my (gS (GI (h a b c))))
theorem LF{P:Fc}(h:zX (P [a,b,c,d])):n8 4:=qR (my (gS (my (jp (GI (h a b c d))))))
theorem us5{P:Fc}(h:∀a b c d e,P [a,b,c,d,e]):n8 5:=qR (my (gS (my (jp (my (an (GI (h a b c d e))))))))
theorem us6{P:Fc}(h:∀a b c d e f,P [a,b,c,d,e,f]):n8 6:=qR (my (gS (my (jp (my (an (my (fun f=>GI (h a b c d e f)))))))))
universe GA
universe z
section z
set_option tactic.hygienic true
namespace GA
open PySem PySem.Spec PyProof.Rows L2
theorem afc{K:Fg}{x:Str}(e:yq (fn x)=ab):ban:=by unfold adr;unfold yq at e;rw[PR];{rename_i h;rw[h]};{rw[dS]}
theorem avd{K:Fg}{C:Addr}{x:Str}(e:yq (hr x)=ab):hF x (RN K C x):=by unfold RN;unfold yq at e;rw[PR];{rename_i h;rw[h]};{rw[dS]}
theorem ave{v:Value}{i:Int}(e:vI v=aa i):∃t,v=eZ i:=by unfold vI at e;rw[PR];{rw[dS];exact ei};{rw[dS]}
theorem aUt(P:Program)(w:World):∀{a7:bL VE}{c5:aO Int Int},a7.map nE=aiX nP->I vs (KV (aiX (ai ((.inl q.1:Key),cp q.2))) vs) (Pairs tI a7 vs) (de a7 (z k (z2 e.key) (e.hash=(tI).hash k))):=by intro a7;induction a7 with|nil=>{intro c5 z;cases a3S wg;exact d [] .nil .nil (fun e m=>iT (oR m))}|cons e a7 d6=>intro c5 z;cases c5 with|nil=>{contradiction}|cons p c5=>injection z with a z;rw[G6 (d6 z),ey h a a,n0 (lE a),ba9];obtain⟨u,b⟩:=ave b;rw[bH c1 B e,cH];cases a;cases b;rw[w ((.inl p.1,mD p.2)::vs) (.cons (ai u rfl) d2) (.cons (ac1 p.1 t) rfl q2) a8e,g7 (h_ m) rfl,l (bp (.inl p.1) (ac1 p.1 t)),l (q3 e m)]
theorem aUu{c:Type}{l:hT}{m:Fp}(h:KV l m):aDq fM=Eo:=by induction h with|nil=>{rfl}|cons J t d6=>rw[da,da,d6,J.1]
variable{K:Fg}{h:Heap}{mg:dM}{x m q:Str}{st:Stmt}{c5:cX}{C:Addr}
theorem aUv(G:Bq)(e:aKu=(ab,aMz)):bei:=by rw[eB b4 (lE e)];unfold nmF at b9;split at b9;{rename_i c d a7 e1 sl l;rw[bcp];obtain⟨rfl,rfl,s,rfl⟩:=b9;rw[eZ a88 (fun P w h' a=>?_),G6 (aUt P w s),d vs d2 _ a7 e1 (a _ _ l) tG (aJ (fun d m=>q3 d (ax m)) q2)];rw[aUu d2];decide};{cases b9}
theorem aUw{l:aT}{b1:aM}(e:aiY vI=kv aa):ey (kv cp):=by induction b1 generalizing l with|nil=>{rw[a4 (a3S CP) .nil]}|cons u b1 d6=>cases l with|nil=>{contradiction}|cons i l=>injection e with a b;rw[ba9,J a (.cons ei (d6 b))]
theorem aUx{l:aT}(G:Bq)(e:(yq (fn x),RP K x)=(ab,aa (aGi,kv aa)))(n:d_<=9:=by decide):a'Z:=by rw[eB b4 (lE e)];unfold RP at b9;split at b9;{rename_i c d ar e1 sl k;rw[bcp,eB rfl b9];have z:=gz aC8 b9;simp only[bA,Vh]at z;exact a _ a88 _ ar _ k rfl rfl ⟨t z (cn n ay),aUw b9⟩};{cases b9}
theorem aUy{i:Int}(G:Bq)(e:RO (fn x)=aa i):ab x i:=by unfold RO at e;rw[PR];{rename_i t a;rw[dS];exact aW (G _ _ a)};{rw[dS]}
universe GA
universe z
section z
set_option tactic.hygienic true
namespace GA
open PySem PySem.Spec PyProof.Rows L2
noncomputable def abP(K:Fg)(x:String):Prop:=fn x=aa ae
noncomputable def itP(K:Fg)(p:gy×Int):Prop:=RO (fn p.1)=aa p.2
noncomputable def tpP(K:Fg)(p:gy×aT):Prop:=nX (RP K p.1)=(ab,a9w)
noncomputable def atP(K:Fg)(p:gy×EO):Prop:=nX bb9=beN
noncomputable def fnP(K:Fg)(p:gy×ax):Prop:=nX a'B=(ab,bb_)
noncomputable def meP(K:Fg)(p:bft):Prop:=ln p.2.1 (aS p)=(ab,bdU)
noncomputable def inP(K:Fg)(p:aLC):Prop:=ln "__init__" p.2.1=(ab,bdT)
variable{K:Fg}{h:Heap}{mg:dM}{x m q:String}{st:Stmt}{c5:cX}{c:String}
noncomputable def avg(G:Bq)(e:fnP K (x,st))(b:hR x x):apF:=aUn G (afc (lE e).1) YZ b
noncomputable def aUC(e:meP K (c,m,q,st))(b:hR m q):mw K (dp c) m q st c5:=DK (aUo (avd z.1) z.2 YZ b)
structure ClP(K:Fg)(C:Addr):Prop where
 c:Zn
 m:amu
 k:aIe
theorem aUD{l:EO}(e:atP K (c,l)):bgM:=by rw[eB b4 (lE e),ey b9 e7 b9,ey e7 g5 e7,wI b9];obtain⟨⟨⟨⟨a,b⟩,c⟩,d⟩,k⟩:=b9;exact v (afc b4) (v (d a b c e7) d k) (aDr g5)
noncomputable def aUE(Z:ClP K (dp c))(e:inP K (c,q,st))(b:a82):vk K (dp c) q st c5:=DK (aUp (avd z.1) z.2 Z.m Z.k YZ b)
theorem fc{I d c:Type}{f g:Fj}{l:ba}{a b:c}(e:(xQ,a)=(kv g,b)):bk l (f x=g x)/\a=b:=⟨aDr (lE e).1,YZ⟩
theorem avi(e:aaR):bk abN (abP K x)/\bk itN (itP K x)/\bk tpN (tpP K x)/\aKu=(ab,aMz)/\N (bk atN (atP K x)) (bk fnN (fnP K x)) (bk meN (meP K x)) (aK FP (inP K x)):=by have⟨a,e⟩:=fc e;have⟨b,e⟩:=fc e;have⟨c,e⟩:=fc e;rw[ck d (lE e)];have⟨f,e⟩:=fc e;have⟨g,e⟩:=fc e;have⟨i,e⟩:=fc e;exact a a b c d f g i (aDr e)
universe GA
universe z
namespace L2
open PySem PySem.Spec PyProof.Rows
open PySem.W(WData Codec OpenSpec Well WellAll ReadsW ReadsAllW)
mutual inductive Dw(K:PySem.W.Frag)(H:Hp):au V aiZ|bC:fc .bC .none|bl(b:Bool):fc EU I7|int(i:Int):fc hP hP|str(x:Str):fc Jr Jr|iC(b:fq Mq):fc (.iC b) (.bytes b.toList)|lst{a:Addr}{O:af}{c7:pP}:jg->eM O c7->fc bc aGU|tup{a:Addr}{O:af}{c7:pP}:uI->eM O c7->fc bc aG7 inductive afh(K:PySem.W.Frag)(H:Hp):au af pP|nil:eM [] []|cons{v:V}{vs:af}{d:WData}{c7:pP}:fc v d->eM vs c7->eM (v::vs) (d::c7)end
theorem avj{K:PySem.W.Frag}{H:Hp}:∀ns:aT,eM xK a72|[]=> .nil|n::J=> .cons (.int n) (avj J)
theorem avk{K:PySem.W.Frag}{H:Hp}:∀(ns:aT)(O:af),eM O a72->O=xK|[],O,h=>aHo|n::J,O,h=>by cases h with|cons a3 a9=>cases a3;rw[avk J _ a9]<;>rfl
section z
variable{P:Program}{w:World}{K:PySem.W.Frag}{H:Hp}{h:Heap}{R:PySem.W.WRecords}{e9:Str->nf}
theorem aUF{a:Addr}{O:af}(dt:la)(y:uj)(q:jg):IE Af:=by rcases q with q|⟨o,ar,n,e,b0,_,hd,_,d3⟩;{obtain⟨_,ar,n,d3,e⟩:=dv (g7 (.lst O)) (q.ok dt);exact a ar _ n d3 (aP e rfl)};rw[l (a MC o n d3 (y _ _ e) b0 bB)]
theorem aUG{a:Addr}{O:af}(dt:la)(y:uj)(q:uI):IE rp:=by rcases q with q|⟨o,ar,n,e,b0,hd,_,d3⟩;{obtain⟨_,ar,d3,o,e,b0,n,hd⟩:=dv (g7 tK) (q.ok dt);exact a ar o n d3 e b0 hd};rw[l (a MC o n d3 (y _ _ e) b0 bB)]
theorem Dw.reads(dt:la)(y:uj){d:WData}{v:V}(u:Value)(x:fc v d):jh->∃Y,nn h d:=by refine Dw.rec (motive_1:=fun v d _=>E u jh (∃Y,nn h d)) (motive_2:=fun vs c7 _=>E b1 Fh (∃Y,ReadsAllW R e9 h b1 c7 Y)) ?_ ?_ ?_ ?_ ?_ ?_ ?_ ?_ ?_ x u;{intro u J;rw[hM];exact aW ReadsW.none};{intro b u J;rw[hM];exact aW (ReadsW.bool b)};{intro i u J;rw[Ef];exact aW (ReadsW.int i t)};{intro s u J;rw[Ef];exact aW (ReadsW.str s t)};{intro b u J;rw[Ef];exact aW (ReadsW.bytes _ t)};rw[rg (aUF dt y c0) (ReadsW.list d0 b0 hd a6),rg (aUG dt y c0) (ReadsW.tuple d0 b0 hd a6)];{intro b1 J;rw[hM];exact aW ReadsAllW.nil};{intro v vs d c7 a3 a9 c2 N b1 J;cases J with|cons r1 r2=>rw[fu d2 (c2 _ r1)];obtain⟨bs,q2⟩:=N _ r2;exact aW (ReadsAllW.cons d2 q2)}
universe z
mutual def qC:aiZ->cb| .none=>ab| .bool _=>ab| .int _=>ab| .str _=>ab| .bytes _=>ab| .list O=>sC O| .tuple O=>sC O|_=>ai def sC:pP->cb|[]=>ab|x::J=>qC x&&sC J end
theorem avl{I:Type}{f:I->aiZ}(h:∀a,qC (f a)=ab):∀l:ba,sC xQ=ab|[]=>rfl|x::J=>by show c_ (qC (f x)) (sC (J.map f));rw[h x,avl h J]<;>rfl
theorem Ci:∀(c:Codec)(a:c.denote),qC (aDs a)=ab| .unit,_=>rfl| .bool,_=>rfl| .int _ _,_=>rfl| .nat _ _,_=>rfl| .u8,_=>rfl| .bytes _ _,_=>rfl| .text _ _ _ _,_=>rfl| .list _ _ c,a=>avl (ab (Ci c x)) a| .pair c d,a=>on (qC (d.enc a.2)&&ab) (Ci d a.2)| .triple c d e,a=>by{show c_ (qC (aDs a.1)) (qC (d.enc a.2.1)&&(qC (e.enc a.2.2)&&ab));rw[Ci c a.1,Ci d a.2.1,Ci e a.2.2]<;>rfl}| .option c,none=>rfl| .option c,some x=>Ci c x
theorem avm:Hl (sC (NT cs a)=ab)|[],_=>rfl|c::cs,a=>on (sC (NT cs a.2)) (avm cs a.2)
theorem avn:∀{O:pP}{d:WData},d∈O->aDv<=aDu O|[],d,h=>cy h jI|x::J,d,h=>by show aDv<=x.weight+1+aDu J;rw[g7 (h_ h) e];{simp+arith [*]};{have z:=avn m;exact cV z}
noncomputable def toV:cS->V| .none=> .bC| .bool b=>EU| .int i _=>hP| .str x _=>Jr| .bytes b _=> .iC b| .ref a=>bc|_=> .bC
def Cj(A:bg):cu cS| .none=>gA| .bool _=>gA| .int _ _=>gA| .str _ _=>gA| .bytes _ _=>gA| .ref a=>a∈A|_=>cE
theorem Cj.mono{A B:bg}(h:ep A I1):∀{u:Value},Cj A u->Cj B u:=fun{u}x=>by cases u with|ref a=>{exact h a x}|none=>{trivial}|bool b=>{trivial}|int i t=>{trivial}|str s t=>{trivial}|bytes b t=>{trivial}|_=>rw[ZH]
theorem aUH{A:bg}{u:Value}(x:Cj A u):gP (toV u) u:=by cases u with|ref a=>{rfl}|none=>{rfl}|bool b=>{rfl}|int i t=>{exact dx t}|str s t=>{exact dx t}|bytes b t=>{exact dx t}|_=>rw[ZH]
theorem GJ{A:bg}:∀{vs:aM},Px->iM OT vs|[],_=> .nil|u::J,h=> .cons (aUH (h u (fu ..))) (GJ (aJ (h x (ck S))))
def TK(h:Heap)(A:bg)(a:Addr):Prop:=Fg (bA a EI\/bA a EJ)
theorem TK.mono{h:Heap}{A B:bg}{a:Addr}(k:ep A I1)(x:TK h A a):TK h B a:=by rw[G5 x];exact d vs a3 (m0 (bN (a9 u hu) k)) e2
theorem avo{P:Params}{h:Heap}:∀{vs:aM}{c7:pP},al0->iO=c7.length:=by intro vs;induction vs with|nil=>{rw[du c7,cH];rfl}|cons v vs d6=>rw[du c7];cases h with|cons a b=>exact gz (· +1) (d6 b)
theorem avp{P:Params}{h:Heap}{v:Value}{c7:pP}(x:ts aGU):HB (bA a EI):=by cases x with|list d0 g=>exact f _ _ d0 g
theorem avq{P:Params}{h:Heap}{v:Value}{c7:pP}(x:ts aG7):HB (bA a EJ):=by cases x with|tuple d0 g=>exact f _ _ d0 g
theorem aUI{P:Params}{h:Heap}{b1:aM}{d:WData}{c7:pP}(x:ai0 P h b1 (d::c7)):∃(v:Value)(vs:aM),b1=v::vs/\ts d/\al0:=by cases x with|cons a b=>exact f _ _ a b
theorem aUJ{n:Nat}(h:n<=1048576):a1 n:=cn h ay
section z
variable{P:Params}{h:Heap}
mutual theorem aUK:gT (ts d) aGr (∃A:bg,Cj A v/\Bj)| .none,_,x,_,_=>ov fY| .bool b,_,x,_,_=>ov fY| .int i,_,x,_,_=>ov fY| .str s,_,x,_,_=>ov fY| .bytes b,_,x,_,_=>ov fY| .list c7,_,x,p,z=>ra (avp x) (.inl d0)| .tuple c7,_,x,p,z=>ra (avq x) (.inr d0)| .float _,_,_,p,_=>rP| .dict _,_,_,p,_=>rP| .bytearray _,_,_,p,_=>rP| .set _,_,_,p,_=>rP| .frozenset _,_,_,p,_=>rP| .obj _ _,_,_,p,_=>rP theorem afi:gU al0 (V d c7 aGr) (∃A:bg,Px/\Bj)|[],_,x,_,_=>ov (fun u m=>cy m jI)|d::c7,_,x,p,z=>by{rw[bgZ,bee];obtain⟨A,e0,g0⟩:=aUK d v e7 q.1 (z d (fu ..));rw[dO h2 e2 (afi c7 vs f5 q.2 (f2 (z e (ck a0)))),ch c (fK A (A++B)) (ah0 (.inl U)),ch f (fK B (A++B)) (ah0 (.inr U)),aa (A++B) a_B tX];{rw[g7 (h_ hu) e,Z e (e0.mono c),l (bN (h2 u m) f)]};{rw[iF U,l (bN (g0 b m) c),l (bN (e2 b m) f)]}}end
universe z
noncomputable def TM(o:Obj):bZ HO:=match gB with| .seq vs _=>Z (vY==YM) (aa (.ys o (.lst (a3T toV)))) (aa (.ys o (.tup (a3T toV))))|_=>ae
noncomputable def GK(K:PySem.W.Frag)(h:Heap)(A:bg):Hp:=h8 (if b∈A then(Z (r5 (vJ b)) ((zg b).bind TM) ae)else ae)
def LG(H:Hp):Prop:=∀b,gp\/∃o u,fr ali
theorem avr(vs:aM):TM EI=aa a92:=by show(Z (YM==YM) (aa (ai1 EI a70)) (aa (ai1 EI a71)))=_;rw[aK (aCu _)]
theorem avs(vs:aM):TM EJ=aa a93:=by show(Z (aGi==YM) (aa (ai1 EJ a70)) (aa (ai1 EJ a71)))=_;rw[aO ay]
section z
variable{P:Program}{w:World}{K:PySem.W.Frag}{h:Heap}{A:bg}
theorem afj{b:Addr}{o:Obj}(U:b∈A)(c3:amz)(e:md):anM=TM o:=by delta GK;rw[aK U,c3,aK (g4 (ae:bZ Obj).isNone rfl),e]<;>rfl
theorem aUL{b:Addr}{u:HO}(q:ev anM):b∈A/\amz:=by delta GK at q;by_cases U:b∈A;{simp at*;lia};rw[az]
theorem aUM(j:Bj){b:Addr}{u:HO}(q:ev anM):amz/\Fg ((bA b EI/\u=a92)\/(bA b EJ/\u=a93)):=by obtain⟨U,c3⟩:=aUL q;rw[G5 (j b U),aP c3 vs a3 a9,i6 e2 e];{rw[afj U c3 e,avr]at q;exact dq e (bt (c_ q))};{rw[afj U c3 e,avs]at q;exact eX e (bt (c_ q))}
theorem aUN(j:Bj):LG J0:=h8 (by cases q:anM with|none=>{exact gj}|some u=>obtain⟨_,vs,_,_,⟨_,e⟩|⟨_,e⟩⟩:=aoK;rw[aZ,aZ])
theorem aUO(j:Bj):fg J0 h:=qu (by obtain⟨_,vs,a3,a9,⟨e,rfl⟩|⟨e,rfl⟩⟩:=aoK;rw[l (c e ag vs _ (GJ a9) e),l (a e ah vs (GJ a9) _ e rfl _ rfl)])
theorem bjy{c C:Value}{vs b1:aM}(e:(aa {cls:=c,data:= .seq aDx}:bZ Obj)=aa {cls:=C,data:= .seq aDw}):c=C/\vs=b1:=cq
theorem aUP(y:uj)(j:Bj){a:Addr}{vs:aM}(b3:a∈A)(e:bA a EI):Px/\fW K J0 a OT:=q7 avr (f _ aDw _ c3 rfl rfl bB (ax (GJ a9)))
theorem aUQ(y:uj)(j:Bj){a:Addr}{vs:aM}(b3:a∈A)(e:bA a EJ):Px/\uW K J0 a OT:=q7 avs (a _ aDw _ c3 rfl rfl ah (ax (GJ a9)))
mutual theorem aUR{c:Params}(y:uj)(j:Bj):gT (Well c h v d) (Cj A v) (Dw K J0 (toV v) d)| .none,_,x,_,_=>p2 .bC| .bool b,_,x,_,_=>p2 EU| .int i,_,x,_,_=>p2 hP| .str s,_,x,_,_=>p2 (.str s)| .bytes b,_,x,_,_=>by{cases x;have z:=Dw.iC (K:=K) (H:=J0) b.toArray;exact z}| .list c7,_,x,p,hu=>gC (avp x) (aUP y j hu d0) (.lst c0 bf7)| .tuple c7,_,x,p,hu=>gC (avq x) (aUQ y j hu d0) (.tup c0 bf7)| .float _,_,_,p,_=>rP| .dict _,_,_,p,_=>rP| .bytearray _,_,_,p,_=>rP| .set _,_,_,p,_=>rP| .frozenset _,_,_,p,_=>rP| .obj _ _,_,_,p,_=>rP theorem afk{c:Params}(y:uj)(j:Bj):gU (ai0 c h vs c7) Px (afh K J0 OT c7)|[],_,x,_,_=>p2 .nil|d::c7,_,x,p,hu=>by{rw[bgZ,bee];exact .cons (aUR y j d v e7 q.1 (hu _ (fu ..))) (afk y j c7 vs f5 q.2 (fun u m=>hu u (ck m)))}end
universe z
theorem aUS{P:Program}{w:World}{K:PySem.W.Frag}{mg D:dM}{T:ml}{k:Nat}{t:Addr}{fd:FuncData}{c5:cX}{e8:Sp}{l:Shared}{I:aM}{c7:pP}{R:PySem.W.WRecords}{e9:Str->nf}{f:WData}(y:vM DD)(h:aDy CG mg)(U:aDy aA_ D)(S:bgh)(Z:l.heap.NoLimit)(d8:l.gens= #[])(Q:ai0 hr DD I c7)(b8:sC c7=ab)(a0:bci)(a6:hW k WG)(F:∀base:iL,vM aj->alN->va P w K mg aj T k t fd c5 e8)(a8:a7N)(E:c7.length=kx)(C:∀(H:Hp)(O:af),LG H->eM O c7->e8 O H (fun v L=>Dw K L v f) JO)(W:∀H e c1,T [] H l JO e c1->cE):Hl (ju P w) WG (.call nu (d_ I)) (r_ (∃u Y,J= .ok (.ret u)/\nn mD f/\OldK DD mD/\Vf=l.os/\Hd Ve)) l:=by rw[eq A j (afi c7 I Q b8 a0)];have X:LG aHQ:=aUN j;have dt:fg aHQ DD:=aUO j;have b2:=afk y j c7 I Q b8 d0;have g:j b u (ev aH7) amz:=qu (aoK).1;have G:∀{b:Addr}{o:Obj}{a7:fq VE}{e1:Nat},be (a3U b)->gB=Pr->aH7=ae:=fun{b o a7 e1}e d=>by{cases q:aH7 with|none=>{rfl}|some u=>obtain⟨_,vs,_,_,⟨b9,_⟩|⟨b9,_⟩⟩:=aoK;rw[cL,cL]};generalize aHQ=H at X dt b2 g G;have i:∀{b:Addr}{o:Obj},be (a3U b)->gp->iE (ac4 DD H):=fun e n=>aNw e n;have a:∀{b:Addr}{m:dM},aDy b m->(ac4 DD H).Ns b m:=fun{b m}⟨o,a7,e1,e,d,J⟩=>c o a7 e1 (i e (G e d)) d J;have b0:hr (vJ b) gp:=da (by cases q:H b with|none=>{rfl}|some u=>rw[a6 (g b u q),dS]);have p:=da (i (y b o e) (b0 b o e));refine MP ((F _ p (a h)).run WG [] l H (d_ I) I (I.map toV) _ _ a6 (a rfl (d p (a h) (v D (a U) S) (let⟨c,a3,a9⟩:=Z;v c (a a3) a9)) (da (aNx e)) (qF (aNv _ _)) fY (db (z6 U)) dt (.of_eq d8)) (a8 l I (t (avo Q) E)) (GJ d0) (C H _ X b2)) (fun J c1 x=>?_);cases J with|error e=>{exact iT (W H e c1 x)}|ok fl=>cases fl with|next=>{rw[ZH]}|brk=>{rw[ZH]}|cont=>{rw[ZH]}|ret u=>obtain⟨v,L,os,bare,un,M,B,q⟩:=x;have r:=da (by cases q2:H b with|none=>{exact un.keep b o e q2 (by rw[tL];exact z6 z) jI}|some a4=>rcases X b with z|⟨N,b3,z⟩;rw[az];{obtain⟨b4,_⟩:=dt b _ z;obtain⟨b9,_⟩:=M b _ (un.FU b N _ z);rw[e]at b4;cases b4;exact b9});rw[fu a5 (Dw.reads (R:=R) (e9:=e9) M (da (r b o (y b o e))) u q B)];exact f u Y a5 (v (OldK.of_keep r) os bare)
theorem aUT{c7:pP}(h:a0V c7=ab):bci:=fun d hd=>(PySem.W.layableW_iff.mp (Wh h d hd)).2.2
theorem avt:Hl (t (NT cs a)=ai2)|[],_=>rfl|c::cs,a=>by show t (NT cs a.2)+1=ai2+1;rw[avt cs a.2]
theorem aUU{J:OpenSpec}{k:Nat}{q:Program}{j:cX}{m:aHK}{b:au oJ iL}{d:DefRec}{K:agL->UZ}{T:oJ->ml}{c5:cX}{e8:oJ->Sp}(n:a8c)(x:a3X=[])(E:a3W=kx)(a6:hW k WG)(g:bhS)(F:rf (T w) (e8 w))(C:∀(w:World)(H:Hp)(O:af)(a:aDA zI),c (LG H) (a3V zI a=ab) a_y (afh (K hr) H O (NT zI a)) (e8 w O H (fun v L=>Dw (K hr) L v aJL) JO))(W:∀(w:World)(H:Hp)(s:Shared)(e:Value)(c1:Shared),T w [] H s JO e c1->cE):bil:=by intro w FV l mg D G c t o b3 R p Z kV d0 hd S a7 A d8 i I Y N P a5 Q a4;rw[ak b4 b9 (PySem.W.os_pre_some N)];obtain⟨e7,r⟩:=Codec.encAll_of_decAll zI i a b4;subst e7;have y:=g w _ c;obtain⟨fd,U,a0⟩:=F w mg t _ c y G.T.g A;refine PySem.W.enter_call (MP (aUS (R:=[]) (e9:=classAt FV.heap) (f:=aJL) y G.T.g G.T.b G.T.builtins G.T.nolimit d8 Q (avm _ _) (aUT P) a6 a0 U (t avt E) (fun H O X b2=>C w H O a X r b9 b2) (fun H e c1=>W w H l e c1)) (fun B c1 e0=>?_));obtain⟨u,M,rfl,a3,a9,e2,e5⟩:=e0;exact d (.inl (m u _ M (d gW a3 (ae (OpenSpec.post_iff n r _ _) rfl) (J (aDz (g4 ai z)))))) a9 e2 e5
theorem aUV{J:OpenSpec}{k:Nat}{q:Program}{j:cX}{m:aHK}{b:au oJ iL}{d:DefRec}{K:agL->UZ}{T:ml}{c5:cX}{e8:UZ->Sp}(n:a8c)(x:a3X=[])(E:a3W=kx)(a6:hW k WG)(g:bhS)(F:rf T (e8 (K hr)))(C:∀(K:PySem.W.Frag)(H:Hp)(O:af)(a:aDA zI),c (LG H) (a3V zI a=ab) a_y (eM O (NT zI a)) (e8 K O H (fun v L=>Dw K L v aJL) JO))(W:∀(H:Hp)(s:Shared)(e:Value)(c1:Shared),T [] H s JO e c1->cE):bil:=aUU (K:=K) (T:=au T) (e8:=fun w=>e8 (K hr)) n x E a6 g F (fun w H O a a3 a9 e2 e5=>C (K hr) H O a a3 a9 e2 e5) (fun _ H s e c1=>W H s e c1)
universe L2
namespace GA
open PySem PySem.Spec PyProof.Rows L2
section z
variable{X:Cx}{a b c d e f:Expr}{d6 c3 i l b8 g:TE}{pos p E:Pos}{x:Str}
abbrev SE(X:Cx)(e:Expr)(a7:fC):Prop:=MA rj cF=g6 tD a7
theorem dY(h:fU)(s:cu a []):PA X [a] (hF d6):=u_ h Si s
theorem sD(h:fU)(a9:lg)(s:cu a [b])(b5:cu b []):PA X [a,b] (qu d6 (hF c3)):=u_ h (dY a9 b5) s
theorem yV(h:fU)(a9:lg)(e2:aau)(s:cu a [b,c])(b5:cu b [c])(c8:cu c []):nb aaS (hF i):=u_ h (sD a9 e2 b5 c8) s
theorem vt(h:fU)(a9:lg)(e2:aau)(e5:M d l)(s:cu a [b,c,d])(b5:cu b [c,d])(c8:cu c [d])(d9:cu d []):nb [a,b,c,d] (qu i (hF l)):=u_ h (yV a9 e2 e5 b5 c8 d9) s
theorem GL(h:fU)(a9:lg)(e2:aau)(e5:M d l)(f:rQ)(s:cu a [b,c,d,e])(b5:cu b [c,d,e])(c8:cu c [d,e])(d9:cu d [e])(f9:cu e []):nb [a,b,c,d,e] (qu i (qu l (hF b8))):=u_ h (vt a9 e2 e5 f b5 c8 d9 f9) s
theorem bU(i:Nat)(hN:X.N.Nodup)(a0:rQ)(hi:ce ya)(S:ey J9 ahD)(c0:bav)(W:Kh):bdQ:=aqT hN hi S a0 c0 W
theorem sF(i:Nat)(hN:X.N.Nodup)(hi:ce ya)(S:ey J9 ahD)(W:Kh):a'v:=aNR hN hi S W
theorem GN(K:Fg){f:Str}(a0:M e d6)(U:ce (ag9 e f cF tD=tD))(g:FF):zq K:=flK g a0 U
theorem aUW(K:Fg)(b3:fU)(U:lg)(c0:a9X)(g:FF):Dx (Sn K):=Sm (ixl g) b3 U c0
theorem avu(K:Fg)(b3:fU)(U:lg)(c0:a9X)(g:FF):Dx (So K):=Sm (ixt g) b3 U c0
theorem aUX{st:Stmt}{c5:cX}{e8:Sp}{j k:Nat}{a7:fC}{t:TA}{R:bgG}(G:biz)(a6:Qo)(b3:Fv)(c3:ey (j<=k) Vl)(d8:ce qh)(l:mf)(a0:Bp)(b8:JU):a'0:=kc R G a6 c3 d8 b3 l a0 b8
theorem dZ{j:CmpOp}{J:R2}(d0:Rt)(b3:fU)(U:lg)(c4:a9e):a9s:=KL d0 b3 U c4
theorem afl{j:CmpOp}{J:R2}(d0:Rt)(b3:fU)(U:lg)(c4:a9e):M alZ Yt:=KJ d0 b3 U c4
theorem mz{c7 iter:Expr}{a:ue}{wi:TI}{g:TG}{c3:TS}(hi:aaD)(d8:aKs)(U:aIW)(c2:ey aMb aul._auto_1)(b0:ce fQ)(c0:anE):bhM:=aOk c2 b0 hi d8 U c0
theorem aUY(K:Fg)(c4:f8 "len")(b3:fU)(d8:ce (Gl X "len"))(a0:cu a [])(b8:Zk)(g:FF):M (er "len" [a]) (KR (KX K) (hF d6)):=F4 (aSU g) d8 c4 aS6 (dY b3 a0) ay ay a0 b8
theorem afm(K:Fg)(b3:fU)(a0:ey apu ag0)(g:FF):BG K:=aS4 g b3 a0
theorem Ck(K:Fg){lo hi:PD}{h8 a:TO}{f6:Pos}(a0:rQ)(a5:PO X lo h8)(hu:PO X hi a)(g:FF):Ix (Sq K):=arx (aS2 g) a0 a5 hu
universe z
structure Zt where
 P:Mg
 w:oJ
 K:Fg
 mg:dM
 base:iL
 e:aaR
 G:Bq
theorem at_{I:Type}{P:cu I}{l:ba}(h:aK l (P x))(i:Nat){a:I}(e:Zi):P a:=h a (bO e)
noncomputable def afn(K:Fg)(mg:dM)(e:aaR)(G:Bq):bc2:=avg G (at_ (ct (avi e)) 79 rfl) (i8 (sA gW))
open PySem.Challenge in def LH(K:Fg):Sp:=fun O H Q _=>∃a:PySem.W.Codec.denoteAll WH,N (PySem.W.Codec.withinAll WH a=ab) (a3Y WH rw_glassrecord_s01_answers.asked a=ab) (eM O (PySem.W.Codec.encAll WH a)) (j v L (Dw K L v (rw_glassrecord_s01_answers.ret.enc (a3Y WH rw_glassrecord_s01_answers.f a))) (Q v L))
theorem zne:eI Zt:=by have w:oJ:={draws:=h2 0,params:=bh9};obtain⟨s,_,h⟩:=ze (HX.rb w Mj);exact⟨a HX.P w (KT s) (ab (eR (a3Z (KT s) CG x) ae)) (o0 Mj) h (fun x v z=>by rw[z]<;>rfl)⟩
noncomputable def Z0:Zt:= @a00 Zt zne (hv (¬aMZ))
@[irreducible]noncomputable def P:Mg:=Z0.P
@[irreducible]noncomputable def w:oJ:=Z0.w
@[irreducible]noncomputable def K:Fg:=Z0.K
@[irreducible]noncomputable def mg:dM:=Z0.mg
@[irreducible]noncomputable def base:iL:=Z0.base
theorem eZ:aaR:=yI Z0.e
theorem gZ:Bq:=yI Z0.G
theorem zzA(i:Nat){x:String}(h:fh abN):mg x=ae:=gZ _ _ (mj (EZ).1)
theorem zzI(i:Nat){x:String}{n:Int}(h:A itN (x,n)):ab x n:=aUy gZ (mj (aV EZ))
theorem zzT(i:Nat){x:String}{l:aT}(h:A tpN (x,l))(n:d_<=9):a'Z:=aUx gZ (mj (bU EZ)) n
theorem TN(i:Nat){c:String}{l:EO}(h:aJX):bgM:=aUD (mj (bX EZ))
theorem LI(i:Nat){c:String}{l:EO}(h:aJX):fL c (dp c):=gZ _ _ (TN i h).1
theorem zzN(i:Nat){c:String}{l:EO}(h:aJX)(j:Nat){f:String}(e:aa l f):b8 (dp c) f:=at_ (TN i h).2.2 j e
theorem zzF(i:Nat){x:String}{st:Stmt}(h:A fnN (x,st)):fnP K (x,st):=mj (ct EZ)
theorem zzM(i:Nat){p:bft}(h:A meN p):meP K p:=mj (dv EZ)
theorem zzJ(i:Nat){p:aLC}(h:A FP p):inP K p:=mj (eV (EZ).2)
theorem T.len:gA "len":=gy 0
theorem T.range:gA "range":=gy 1
theorem T.enumerate:gA "enumerate":=gy 2
theorem T.zip:gA "zip":=gy 3
theorem T.reversed:gA "reversed":=gy 4
theorem T.sorted:gA "sorted":=gy 5
theorem T.set:gA "set":=gy 6
theorem T.list:gA "list":=gy 7
theorem T.tuple:gA "tuple":=gy 8
theorem T.max:gA "max":=gy 9
theorem T.min:gA "min":=gy 10
theorem T.all:gA "all":=gy 11
theorem T.bjA:ab "HEADER_BYTES" 20:=ap 0
theorem T.bjB:ab "POINT_BYTES" 8:=ap 1
theorem T.TQ:ab "LINE_BYTES" 4:=ap 2
theorem T.afo:ab "MARK_BYTES" 12:=ap 3
theorem T.avv:GH K mg "OPENING" (q8 49):=ty 0
theorem T.avw:ab "LEAST_SIDE" 16:=ap 4
theorem T.avx:ab "MOST_SIDE" 1048575:=ap 5
theorem T.aU7:ab "LEAST_POINTS" 4:=ap 6
theorem T.aU8:ab "MOST_POINTS" 4096:=ap 7
theorem T.aU9:ab "LEAST_LINES" 4:=ap 8
theorem T.aU_:ab "MOST_LINES" 8192:=ap 9
theorem T.aU':ab "LEAST_MARKS" 1:=ap 10
theorem T.aVa:ab "MOST_MARKS" 2048:=ap 11
theorem T.afp:ab "OUTSIDE" 0:=ap 12
theorem T.aVb:ab "FRAME_PLACE" 20:=ap 13
theorem T.bjC:ab "LEAD" 0:=ap 14
theorem T.LJ:ab "ERASE" 1:=ap 15
theorem T.LK:ab "MOVE" 2:=ap 16
theorem T.MARK:ab "MARK" 3:=ap 17
theorem T.afq:ab "DROP" 4:=ap 18
theorem T.avy:ab "LEAST_LEAD" 2:=ap 19
theorem T.avz:ab "MOST_LEAD" 64:=ap 20
theorem T.avA:ab "MOST_STEPS" 65536:=ap 21
theorem T.aVc:ab "DONE" 0:=ap 22
theorem T.aVd:ab "NO_SUCH_THING" (-2):=ap 23
theorem T.aVe:ab "TOO_MANY_STEPS" (-3):=ap 24
theorem T.aVf:ab "NOT_TAKEN" (-5):=ap 25
theorem T.avB:GH K mg "RECORD_OPENING" (q8 72):=ty 1
theorem T.avC:ab "FIRST_PLACE" 16:=ap 26
theorem T.aVg:GH K mg "STEP_BYTES" [.int 14,.int 5,.int 11,.int 15,.int 3]:=ty 2
theorem T.aVh:ab "CALL_OPEN" 1:=ap 27
theorem T.aVi:ab "CALL_BARE" 2:=ap 28
theorem T.avD:ab "CALL_LEAD" 3:=ap 29
theorem T.aVj:ab "CALL_ERASE" 4:=ap 30
theorem T.avE:ab "CALL_MOVE" 5:=ap 31
theorem T.avF:ab "CALL_MARK" 6:=ap 32
theorem T.aVk:ab "CALL_DROP" 7:=ap 33
theorem T.aVl:ab "CALL_UNDO" 8:=ap 34
theorem T.aVm:ab "CALL_REDO" 9:=ap 35
theorem T.avG:ab "CALL_COUNT" 10:=ap 36
theorem T.aVn:ab "CALL_PLAN" 11:=ap 37
theorem T.aVo:ab "CALL_READ" 13:=ap 38
theorem T.aVp:GH K mg "WITH_ROW" aK_:=ty 3
theorem T.aVq:ab "COUNT_DONE" 0:=ap 39
theorem T.aVr:ab "COUNT_UNDONE" 1:=ap 40
theorem T.aVs:ab "COUNT_PANES" 2:=ap 41
theorem T.aVt:ab "NO_RECORD" (-9):=ap 42
theorem T.avH:ab "OUT_OF_RANGE" (-1):=ap 43
theorem T.aVu:ab "TOO_LONG" (-6):=ap 44
theorem T.aVv:ab "MOST_LENGTH" 4294967295:=ap 45
theorem T.aVw:ab "MOST_KIND" 65535:=ap 46
theorem T.aVx:ab "MOST_CARTOON_BYTES" 131072:=ap 47
theorem T.aVy:ab "MOST_SAVED_BYTES" 67108864:=ap 48
theorem T.aVz:bei:=aUv gZ (cE EZ)
noncomputable def T.bjD:ef:=dp "Drawing"
theorem T.bjE:yz K bJ:=px 0
theorem T.aVA:fL "Drawing" bJ:=LI 0 rfl
theorem T.bjF:b8 bJ "width":=cN 0 0
theorem T.bjG:b8 bJ "height":=cN 0 1
theorem T.bjH:b8 bJ "points":=cN 0 2
theorem T.bjI:b8 bJ "lines":=cN 0 3
theorem T.bjJ:b8 bJ "marks":=cN 0 4
noncomputable def T.bjK:ef:=dp "Sweep"
theorem T.bjL:yz K dq:=px 1
theorem T.aVB:fL "Sweep" dq:=LI 1 rfl
theorem T.bjM:b8 dq "passed":=cN 1 0
theorem T.bjN:b8 dq "gaps":=cN 1 1
theorem T.bjO:b8 dq "links":=cN 1 2
theorem T.afr:b8 dq "sides":=cN 1 3
noncomputable def T.bjP:ef:=dp "Panes"
theorem T.bjQ:yz K lF:=px 2
theorem T.aVC:fL "Panes" lF:=LI 2 rfl
theorem T.bjR:b8 lF "sweep":=cN 2 0
theorem T.avI:b8 lF "mark_gaps":=cN 2 1
noncomputable def T.bjS:ef:=dp "Record"
theorem T.bjT:yz K dJ:=px 3
theorem T.aVD:fL "Record" dJ:=LI 3 rfl
theorem T.TR:b8 dJ "cartoons":=cN 3 0
theorem T.TU:b8 dJ "steps":=cN 3 1
theorem T.bjU:b8 dJ "done":=cN 3 2
noncomputable def T.bjV:ef:=dp "Desk"
theorem T.bjW:yz K hI:=px 4
theorem T.aVE:fL "Desk" hI:=LI 4 rfl
theorem T.bjX:b8 hI "record":=cN 4 0
@[irreducible]noncomputable def T.TV:vk K bJ "Drawing.__init__" aa3 aMP:=d5 0 0 (us6 (i8 rfl))
@[irreducible]noncomputable def T.avJ:X "point_place" aa4 ["number"]:=bi 0
@[irreducible]noncomputable def T.avK:ef "line_place" aa5 "number":=cz 1
@[irreducible]noncomputable def T.avL:ef "mark_place" aa6 "number":=cz 2
@[irreducible]noncomputable def T.avM:eL "byte_count" aa7:=bi 3
@[irreducible]noncomputable def T.avN:eL "ends_of" aa8:=bi 4
@[irreducible]noncomputable def T.numbered:X "numbered" aa9 (vZ "ends"):=w4 5
@[irreducible]noncomputable def T.avO:X "in_order" aa_ ["a","b"]:=cz 6
@[irreducible]noncomputable def T.avP:X "frame_alone" aa' ["width","height","mark"]:=fI 7
@[irreducible]noncomputable def T.avQ:X "number_at" aba ["data","place","size"]:=fI 8
@[irreducible]noncomputable def T.avR:X "two_bytes" abb ["value"]:=bi 9
@[irreducible]noncomputable def T.avS:X "four_bytes" abc ["value"]:=bi 10
@[irreducible]noncomputable def T.avT:f5 "opening_fault" abd:=bi 11
@[irreducible]noncomputable def T.avU:X "size_fault" abe an4:=w4 12
@[irreducible]noncomputable def T.avV:f5 "header_fault" abf:=bi 13
@[irreducible]noncomputable def T.avW:gV "point_at" abg:=cz 14
@[irreducible]noncomputable def T.avX:gV "line_at" abh:=cz 15
@[irreducible]noncomputable def T.avY:gV "mark_at" abi:=cz 16
@[irreducible]noncomputable def T.avZ:f5 "drawing_told" abj:=bi 17
@[irreducible]noncomputable def T.av0:X "point_bytes" abk ["point"]:=bi 18
@[irreducible]noncomputable def T.av1:X "line_bytes" abl ["line"]:=bi 19
@[irreducible]noncomputable def T.av2:X "mark_bytes" abm ["mark"]:=bi 20
@[irreducible]noncomputable def T.av3:X "cartoon_bytes" abn ["cartoon"]:=bi 21
@[irreducible]noncomputable def T.turn:X "turn" abo ["p","q","r"]:=fI 22
@[irreducible]noncomputable def T.afs:X "lies_inside" abp ["p","q","r"]:=fI 23
@[irreducible]noncomputable def T.crosses:X "crosses" abq apQ:=g2 24 (LF J4)
@[irreducible]noncomputable def T.aft:X "count_left" abr ["row","spot"]:=cz 25
@[irreducible]noncomputable def T.TX:vk K dq "Sweep.__init__" abt XX:=d5 1 1 (sA gW)
@[irreducible]noncomputable def T.TY:mw K dq "new_region" "Sweep.new_region" abu XX:=l1 0
@[irreducible]noncomputable def T.av4:O dq "region" "Sweep.region" abv "number":=i2 1
@[irreducible]noncomputable def T.TZ:mw K dq "link" "Sweep.link" abw ["self","one","other"]:=g5 2 aFR
@[irreducible]noncomputable def T.T1:O dq "gap_at" "Sweep.gap_at" abx "spot":=i2 3
@[irreducible]noncomputable def T.T2:mw K dq "gaps_above" "Sweep.gaps_above" aby (b2 "left" "right" "begun"):=g5 4 (LF J4)
@[irreducible]noncomputable def T.T3:mw K dq "pass_point" "Sweep.pass_point" abz (b2 "point" "ended" "tops"):=g5 5 (LF J4)
@[irreducible]noncomputable def T.av5:X "left_to_right" abA ["point","tops"]:=cz 26
@[irreducible]noncomputable def T.T4:vk K lF "Panes.__init__" abB ["self","sweep","gaps"]:=d5 2 2 aFR
@[irreducible]noncomputable def T.GO:O lF "home" "Panes.home" abC "mark":=i2 6
@[irreducible]noncomputable def T.T5:O lF "homes_beside" "Panes.homes_beside" abD "line":=i2 7
@[irreducible]noncomputable def T.T6:mw K lF "how_many" "Panes.how_many" abE XX:=l1 8
@[irreducible]noncomputable def T.av6:eL "panes_of" abF:=bi 27
@[irreducible]noncomputable def T.av7:X "lines_between" abG ["drawing","i","j"]:=fI 28
@[irreducible]noncomputable def T.av8:eL "neighbours_of" abH:=bi 29
@[irreducible]noncomputable def T.av9:X "first_loose" abI ["neighbours"]:=bi 30
@[irreducible]noncomputable def T.av_:X "walk_deep" abJ ["neighbours"]:=bi 31
@[irreducible]noncomputable def T.av':mW "first_unreached" abK:=cz 32
@[irreducible]noncomputable def T.awa:mW "earliest_back" abL:=cz 33
@[irreducible]noncomputable def T.awb:mW "first_cut" abM:=cz 34
@[irreducible]noncomputable def T.awc:f5 "cartoon_told" abO:=bi 35
@[irreducible]noncomputable def T.judge:k6 "judge" abQ:=cz 36
@[irreducible]noncomputable def T.awd:k6 "same_lines" abR:=cz 37
@[irreducible]noncomputable def T.awe:k6 "net_fault" abS:=cz 38
@[irreducible]noncomputable def T.awf:eL "form_fault" abT:=bi 39
@[irreducible]noncomputable def T.awg:eL "points_fault" abU:=bi 40
@[irreducible]noncomputable def T.awh:eL "lines_fault" abV:=bi 41
@[irreducible]noncomputable def T.awi:eL "frame_fault" abW:=bi 42
@[irreducible]noncomputable def T.awj:X "edge_stands" abX bf9:=w4 43
@[irreducible]noncomputable def T.awk:k6 "tangle_fault" abY:=cz 44
@[irreducible]noncomputable def T.awl:X "is_tangled" abZ ["line","points","rivals"]:=fI 45
@[irreducible]noncomputable def T.awm:eL "ways_fault" ab0:=bi 46
@[irreducible]noncomputable def T.awn:eL "marks_fault" ab1:=bi 47
@[irreducible]noncomputable def T.awo:ef "first_misplaced" ab2 "homes":=cz 48
@[irreducible]noncomputable def T.awp:X "first_repeated" ab3 ["homes"]:=bi 49
@[irreducible]noncomputable def T.awq:X "drawing_after" ab4 ["cartoon","step"]:=cz 50
@[irreducible]noncomputable def T.awr:X "redrawn" ab5 aK':=g2 51 (LF J4)
@[irreducible]noncomputable def T.joined:X "joined" ab6 ["row"]:=bi 52
@[irreducible]noncomputable def T.parted:X "parted" ab7 ["line","row"]:=cz 53
@[irreducible]noncomputable def T.aws:b8 "with_lead" ab8 "row" "mark":=fI 54
@[irreducible]noncomputable def T.awt:b8 "with_erased" ab9 "i" "j":=fI 55
@[irreducible]noncomputable def T.awu:b8 "with_moved" ab_ "k" "point":=fI 56
@[irreducible]noncomputable def T.awv:b8 "with_mark" ab' "i" "mark":=fI 57
@[irreducible]noncomputable def T.aww:X "with_dropped" aca ["cartoon","k"]:=cz 58
@[irreducible]noncomputable def T.T7:vk K dJ "Record.__init__" acb (oE "first"):=d5 3 3 (vr lO)
@[irreducible]noncomputable def T.awx:dT "cartoon" "Record.cartoon" acd:=l1 9
@[irreducible]noncomputable def T.awy:dT "undone" "Record.undone" ace:=l1 10
@[irreducible]noncomputable def T.GP:O dJ "take" "Record.take" acf "step":=i2 11
@[irreducible]noncomputable def T.T8:dT "forget_undone" "Record.forget_undone" acg:=l1 12
@[irreducible]noncomputable def T.GQ:dT "undo" "Record.undo" ach:=l1 13
@[irreducible]noncomputable def T.T9:dT "redo" "Record.redo" aci:=l1 14
@[irreducible]noncomputable def T.refusal:X "refusal" acj ["fault"]:=bi 59
@[irreducible]noncomputable def T.awz:X "saved_bytes" ack ["record"]:=bi 60
@[irreducible]noncomputable def T.awA:X "step_bytes" acm ["step"]:=bi 61
@[irreducible]noncomputable def T.awB:f5 "record_told" acn:=bi 62
@[irreducible]noncomputable def T.awC:f5 "head_fault" aco:=bi 63
@[irreducible]noncomputable def T.awD:f5 "steps_told" acp:=bi 64
@[irreducible]noncomputable def T.awE:X "steps_fault" acq ["record","data","place"]:=fI 65
@[irreducible]noncomputable def T.awF:gV "step_fault" acr:=cz 66
@[irreducible]noncomputable def T.step_size:gV "step_size" acs:=cz 67
@[irreducible]noncomputable def T.step_at:gV "step_at" acu:=cz 68
@[irreducible]noncomputable def T.awG:gV "lead_at" acv:=cz 69
@[irreducible]noncomputable def T.T_:vk K hI "Desk.__init__" acw XX:=d5 4 4 (sA gW)
@[irreducible]noncomputable def T.Ua:mw K hI "answer" "Desk.answer" acx bdo:=g5 15 (LF J4)
@[irreducible]noncomputable def T.Ub:O hI "begin_from_cartoon" "Desk.begin_from_cartoon" acy "data":=i2 16
@[irreducible]noncomputable def T.Uc:O hI "begin_bare" "Desk.begin_bare" acz "numbers":=i2 17
@[irreducible]noncomputable def T.Ud:O hI "begin_from_saved" "Desk.begin_from_saved" acA "data":=i2 18
@[irreducible]noncomputable def T.Ue:O hI "begin" "Desk.begin" acB "record":=i2 19
@[irreducible]noncomputable def T.awH:X "lengths_fit" acC ["lengths"]:=bi 70
@[irreducible]noncomputable def T.awI:X "mark_fits" acD ["numbers"]:=bi 71
@[irreducible]noncomputable def T.awJ:o1 "in_range" acE:=fI 72
@[irreducible]noncomputable def T.awK:X "mark_told" acF ["numbers"]:=bi 73
@[irreducible]noncomputable def T.awL:X "row_told" acG ["row"]:=bi 74
@[irreducible]noncomputable def T.awM:o1 "step_told" acH:=fI 75
@[irreducible]noncomputable def T.awN:X "told_of" acI ["record","call","numbers"]:=fI 76
@[irreducible]noncomputable def T.awO:X "counted" acJ ["record","what"]:=cz 77
@[irreducible]noncomputable def T.awP:f5 "with_count" acK:=bi 78
@[irreducible]noncomputable def T.answers:bc2:=afn K mg eZ gZ
universe GA
namespace GA
open PySem PySem.Spec PyProof.Rows L2
def gN(p:Pt):Prop:=p.x<2^33/\p.y<2^33
def kr(p:Pt):Prop:=p.x<2^30/\p.y<2^30
theorem kr.ks{p:Pt}(h:kr p):gN p:=⟨t0 h.1,t0 h.2⟩
theorem Ug(p q:Pt):mK yo aJ'=oZ q:=by delta WI;simp only[mK];rw[N h p.y q.y];{rw[N k p.x q.x];{simp[h,k]};{simp[h,show¬v p.x=q.x from J (k (aDB z))]}};{simp[h,show¬v p.y=q.y from J (h (aDB z))]}
theorem dN(i j:Int):ar (cp i) (cp j)=ar i j:=aQ
theorem oC{K:Fg}{H:Hp}{a:Addr}{p:Pt}(h:cw (g8 p.y p.x)):mE (hD yo):=cx h
abbrev aVF(H:Hp)(vs:af)(p q J:Pt):Prop:=∃x y z,vs=[x,y,z]/\br x p/\br y q/\br z J
inductive awQ(vs:af)(H:Hp)(Q:VK)(E:XK):Prop|mk:q2 (mV aLq) (awQ vs H Q E)
inductive awR(vs:af)(H:Hp)(Q:VK)(E:XK):Prop|mk:q2 (dB (DE p q J)) (awR vs H Q E)
inductive awS(vs:af)(H:Hp)(Q:VK)(E:XK):Prop|mk:∀(x y z u:V)(p q J s:Pt),e [x,y,z,u] (br x p) (br y q) (br z J) (l (br u s) (kr p) (kr q) (kr J) (kr s) (dB aMe) (awS vs H Q E))
theorem awT{p q J:Pt}(c2:kr p)(e0:kr q)(a6:kr J): -(2^64)<aLq/\aLq<2^64:=by obtain⟨e9,f6⟩:=c2;rw[kt d2 q2];obtain⟨r1,r2⟩:=a6;delta NU Gla.dx Gla.dy;have O:∀u v:Int,c (-(2^30)<=u) (u<=2^30) (-(2^30)<=v) (v<=2^30) (-(2^60)<=u*v/\u*v<=2^60):=by{intro u v a b c d;have m:(u*v).natAbs<=2^30*2^30:=by{rw[J Int.natAbs_mul (Nat.mul_le_mul bM bM)]};have e:cd 2^30*2^30=2^60:=by{simp};rw[e]at m;rw[t_]};rw[gv (O Fn (v J.y-q.y) (kz e9 q.x) (kz d2 p.x) (kz q2 J.y) (kz r2 q.y)),fe (O anY (v J.x-q.x) bM bM bM bM)];generalize fw J.y q.y=A at*;generalize k9 J.x q.x=B at*;exact⟨FQ a9.2 a3.1,FQ a3.2 a9.1⟩
section z
theorem awU:am 1 T.turn.f T.turn.fd bb7 awQ:=by refine T.turn.F.ok aTz ap5 FO;{obtain⟨p,q,J,⟨x,y,z,rfl,_⟩,_⟩:=h;rfl};{obtain⟨p,q,J,⟨_,_,_,rfl,⟨a,rfl,c2⟩,⟨b,rfl,e0⟩,⟨c,rfl,hR⟩⟩,e8,d,e,k⟩:=h;rw[ca (cn (ll yw bfr bfr))];have c2:=lt c2;have e0:=lt e0;have hR:=lt hR;rw[f0 m4 e8,km i d,iF l e,ai b e0 dr (m a _ c2 dr (m c _ hR dh (m b _ e0 dh a9y))),kB f q.x,kB g p.x,ai b e0 dh (m a _ c2 dh (m c _ hR dr (m b _ e0 dr a9y))),kB m4 q.y,kB i p.y];exact k}
theorem awV:am 2 T.afs.f T.afs.fd bb7 awR:=by refine T.afs.F.ok aTA ap5 FO;{obtain⟨p,q,J,⟨x,y,z,rfl,_⟩,_⟩:=h;rfl};{obtain⟨p,q,J,⟨x,y,z,rfl,l4,f,g⟩,e8,d,e,k⟩:=h;have⟨a,d0,c2⟩:=l4;have⟨b,f7,e0⟩:=f;have⟨c,g7,hR⟩:=g;rw[b _ (cn (Bw (KJ (arz ai3) bS aw (BB _)) (Bw (KJ (arz ai3) aw aq (BB _)) (R3 (KJ gM (dC bS aq aw) bE (BB _)))))) a c _ _ d0 g7 (m (oC c2) (oC hR) _ ?_)];rw[Ug];rw[dZ DE,a_W];{rw[b c b _ _ g7 f7 (oC hR) (oC e0) Ph];rw[Ug];rw[qs a3];refine fF (fun a9=>?_) (fun a9=>?_);{rw[qs a9,d p q J (cA l4 f g) e8 d e ?_,J dN k]};rw[az]};rw[az]}
theorem aVG:am 2 T.crosses.f T.crosses.fd apQ awS:=by refine T.crosses.F.ok aTB ap5 FO;{obtain⟨x,y,z,u,p,q,J,s,rfl,_⟩:=h;rfl};{obtain⟨x,y,z,u,p,q,J,t,rfl,l4,f,g,a,e8,d,e,ss,k⟩:=h;rw[ca (bo (dl (KL uY (ll F2 (dC bS aq aw) (dC bS aq bb)) bE (BB _)) mj) (KJ lq (ll F2 (dC aw bb bS) (dC aw bb aq)) bE (BB _))),b p q J (cA l4 f g) e8.ks d.ks e.ks p (a q t (cA l4 f a) e8.ks d.ks ss.ks _ _ (a1 rfl rfl (.inl (awT e8 d e)))),dZ zy,a_W];{rw[ea ah,ag5]at k;exact k};{rw[qs (dH ah),b J t p (cA g a l4) e.ks ss.ks e8.ks J (a t q (cA g a f) e.ks ss.ks d.ks _ _ (bj rfl (.inl (awT e ss e8)) k))]}}
universe z
inductive awW(K:Fg)(vs:af)(H:Hp)(Q:VK)(E:XK):Prop|mk:∀(l:Addr)(v:V)(ls:mZ)(z:Pt)(n:Nat),e [cC,v] (bm eR l ls) (br v z) (gN z) (c bd0 (n<=wQ) (bfA) (mV n) (awW K vs H Q E))
noncomputable def aVH:H4->Hp->Nat:=fun M _=>match M with|[_,_,some (.int lo),some (.int hi),_,_]=>apl|_=>0
section z
theorem afu:am 2 T.aft.f T.aft.fd ["row","spot"] (awW K):=by refine T.aft.F.ok aTC ap5 FO;{obtain⟨l,v,ls,z,n,rfl,_⟩:=h;rfl};{obtain⟨l,v,ls,z,n,rfl,⟨O,S,a5⟩,c9,e8,sl,d6,d1,k⟩:=h;have o:=aCm;rw[cn (ai (ij 2 bE) (ij 3 (F4 arJ bI a30 a3Q (u_ bS Si))) (bo (F0 NV (KL lq aw bb (BB _)) (ai (ij 4 (ew aq1 (cS aw bb))) (ij 5 (Sm arE bS bR lO)) (fE (rZ (KL lq (dC (mP cJ) (mP cJ) aq) bE (BB _)) (fE (ij 2 (hn bR))) (fE (ij 3 bR)))))) aw)) (.inl S) (aOo (fun M L=>L=H/\GG (fun(lo hi:Nat)(m i:bZ V)=>vo (M=[tR,pC,aa (.int lo),aa (.int hi),m,i]) (lo<=n) (n<=hi) (hi<=wQ))) aVH (a rfl 0 bx ae ae rfl cT ag (x o.l)) ?_ ?_)];{rintro M L⟨rfl,lo,hi,m,i,rfl,a3,a9,e2⟩;rw[bD Ka];{have lt:lo<hi:=by{rw[fw (Bs c)]};rw[aW _ rfl a_I,ce D a'i (ae uO),j6 4 (cp a'i)];rw[D];have f:uO<wQ:=by{rw[el]};rw[c u d3 a x y c0 b r (gG a5 f)];have sm:=sl _ (tb f);rw[ai l S (dX d3) (as a c0 dh (as a c0 dr (a _ _ z (oB (v b r c9)) sm.1 sm.2 e8 ?_)))];have c4:=d1 _ _ (dd f);refine fF (fun d=>?_) (fun d=>?_);{have d':=c4.mpr ah;rw[dI (i rfl (uO+1) hi _ bB a9 e2)];show zd (ae uO+1)<zd Je;lia-abstractProof};{have d':¬uO<n:=ai (d ah);rw[dI (i rfl lo uO _ a3 (j0 d') ej)];show(ae uO-Je).toNat<zd Je;lia-abstractProof}};{have e:lo=n:=by{exact mP (cV a3) (cf a9 (Bt c))};rw[bY];exact k}};{intro M L g o7 e0 h;unfold uZ BA at h;rw[dn b4 h Vg,bl b9 h Vg,Q i j rfl h Vg];delta uZ BA;exact wR b4 (wR b9 (e0 _ _ h))}}
universe z
noncomputable def vu(w h:Int)(b2 X G:Addr):hU:=aK "marks" G (aK "lines" X (aK "points" b2 (kk "height" (.int h) (kk "width" (.int w) []))))
section z
variable{w h:Int}{b2 X G:Addr}
theorem yW:is RC "width"=aa (.int w):=by delta vu;rw[di,pB,di,pB,di,pB,di,pB,di,cO]
theorem GR:is RC "height"=aa (.int h):=by delta vu;rw[bgq]
theorem fX:bN RC "points" b2:=by delta vu;rw[bhB]
theorem ku:bN RC "lines" X:=by delta vu;rw[aLa]
theorem jq:bN RC "marks" G:=by delta vu;rw[di,cO]
universe z
structure LL(C:Addr)(H:Hp)(a:Addr)(D:Gla.Plan)(b2 X G:Addr):Prop where
 at_:∃dx,cw (aC C (vu D.w D.h b2 X G))
 p:e4 b2 lG
 l:dB sr H X gU
 m:dB sv H G gS
theorem LL.mono{C:Addr}{H L:Hp}{a:Addr}{D:Gla.Plan}{b2 X G:Addr}(s:bQ)(h:Ag):g3 L D:=by rw[cv e mV];exact I dx (bv e) (ai4 dk s) (h.l.mono iI s) (aDC jo s)
inductive awX(C:Addr)(vs:af)(H:Hp)(Q:VK)(E:XK):Prop|mk:∀(p dx:Addr)(w h:Int)(b2 X G:Addr),A [fO,.int w,.int h,YJ,.ref X,.ref G] (bh p Zc) (Q .bC (ad p (aC C RC))) (awX C vs H Q E)
inductive afv(vs:af)(H:Hp)(Q:VK)(E:XK):Prop|mk:∀n:Nat,vs=[jf]->j9 (ai5 n)->afv vs H Q E
inductive afw(C:Addr)(vs:af)(H:Hp)(Q:VK)(E:XK):Prop|mk:px (WJ D n) (afw C vs H Q E)
inductive awY(C:Addr)(vs:af)(H:Hp)(Q:VK)(E:XK):Prop|mk:px (aDD D n) (awY C vs H Q E)
inductive awZ(C:Addr)(vs:af)(H:Hp)(Q:VK)(E:XK):Prop|mk:vx (A [bc] Ag (j9 aDE) (awZ C vs H Q E))
inductive aw0(vs:af)(H:Hp)(Q:VK)(E:XK):Prop|mk:∀i j:Nat,vs=[pD,vn j]->f4 (sr L v (min i j,akZ))->aw0 vs H Q E
inductive aw1(C:Addr)(vs:af)(H:Hp)(Q:VK)(E:XK):Prop|mk:dc (zw (e.1<df)) (lH<hv) (zA D.drawn->aw1 C vs H Q E)
section z
theorem aVI:T.TV.Ok mg P w aj 1 (awX bJ):=by refine T.TV.go aTe aL;generalize aG=e3,aA=A,aF=outer,aE=s,aD=H,aB=vs,aH=Q,aI=E;rw[aN,M ob,aX];generalize kQ=p,kR=dx,kS=w,kT=h,kU=b2,kX=X,k_=G;rw[dt c2,g _ (fq aq aw (ai (hq bb) (hq bR) (fE (hq cJ)))) p _ dx _ c2 (a dR H7 (ay) p _ dx _ rfl (b ak dR H6 (v2 1) p dx _ (a rfl ak dR gb (np ay) p _ dx (j ak dR kC (np (vq ay)) p _ (f dx _ ak (a1 dR jA (np (vq (vq ay)))))))))];rw[yt,yt,yt,yt];exact k
theorem aw2:T.avJ.Ok P w aj 1 afv:=by refine T.avJ.go aTf aL;generalize aG=e3,aA=A,aF=outer,aE=s,aD=H,aB=vs,aH=Q,aI=E;rw[aN,cz n rfl k,e _ (cn (yX bS)) _ _ rfl rfl yp ?_];have e:ae (ai5 n)=20+8*cK:=by{rfl};rw[dZ vn,bs e];exact k
theorem aw3:T.avK.Ok P w aj 2 (afw bJ):=by refine T.avK.go aTg aL;generalize aG=e3,aA=A,aF=outer,aE=s,aD=H,aB=vs,aH=Q,aI=E;rw[aN,M P5,aX,n a D b2 X G n,dt h,fD,t3 h.p,ev (cn (cV (a7 aw2 nK) T.TQ aq)) (a hd dR gb fX b2 vs rfl (cc c0) (a iO rfl _ _ rfl rfl yp ?_))];have e:ae (WJ D n)=ae (ai5 iO)+4*cK:=by{rw[ai6];delta WJ ai5;rfl};rw[dZ vn,bs e];exact k
theorem aw4:T.avL.Ok P w aj 3 (awY bJ):=by refine T.avL.go aTh aL;generalize aG=e3,aA=A,aF=outer,aE=s,aD=H,aB=vs,aH=Q,aI=E;rw[aN,M P5,aX,n a D b2 X G n,dt h,fD,t3 h.l,a7 (cV (b4 aw3 nK) T.afo aq) kC ku X (oM (as yp))];have e:ae (aDD D n)=ae (WJ D iO)+12*cK:=by{rw[ai6];delta aDD WJ;rfl};rw[dZ vn,bs e];exact k
theorem aVJ:T.avM.Ok P w aj 4 (awZ bJ):=by refine T.avM.go aTi aL;generalize aG=e3,aA=A,aF=outer,aE=s,aD=H,aB=vs,aH=Q,aI=E;rw[aN,M iw,aX,Bk,dt h,fD,t3 h.m,a7 (b4 aw4 nK) jA jq G ?_,J ai6 k]
theorem aVK:T.avO.Ok P w aj 1 aw0:=by refine T.avO.go aTl aL;generalize aG=e3,aA=A,aF=outer,aE=s,aD=H,aB=vs,aH=Q,aI=E;rw[aN,a0 i j rfl k,eZ (cn (R4 (dZ lq bS aq) (as bS aq) (as aq bS))) (Ka)];{have lt:i<j:=by{rw[fw (Bs c)]};rw[v es (ef cm amJ)];rw[ak,qP ej,HA (h3 lt)]};{rw[b3 lt (¬i<j) (sM (Bt c)),v es (ef cm amJ)];rw[ak,Dc (j0 lt),VG (j0 lt)]}
theorem LM:T.avN.Ok P w aj 1 (aw1 bJ):=by refine T.avN.go aTj aL;generalize aG=e3,aA=A,aF=outer,aE=s,aD=H,aB=vs,aH=Q,aI=E;rw[aN,M iw,aX,Bk,av h ix c9 k,fD,t3 h.p,cG hu a5 h.l,qP (bo (bU 1 ai7 bP) (BE rfl ai7 pI (bk "a" 2 "b" 3) (bC (V 2 ai7 3 ai7)) kK (bC (as (bs aq aw) amX)))) ⟨k2 hu,fun Z f=>aeX iI gx h.l.ls (an (aa rm)) f c9 ?_ ?_⟩];{rw[dH e x a0];have C:=ix e um;rw[cP g7 r1 (gG c2 C.1),bJ g8 r2 (gG c2 C.2),AK (m b2 _ (br c0) (dX g7) (m b2 _ (br c0) (dX g8) ⟨(EM),fun t c6=>?_⟩)),bdd];refine GQ (aJ ak ?_);rw[Z (wU C.1) (hH W r1),Z (wU C.2) (hH W r2)]};{intro L d7 s b6 c5;refine k Z L s f (aJ d7 b6);rw[eT c5];exact c5}
universe z
noncomputable def bV(b:Gla.Bytes):af:=wO (gS (vn eC))
theorem dC(b:Gla.Bytes):t kF=cw:=cG bV (bA _)
theorem qD(b c:Gla.Bytes):bV (b++c)=kF++bV c:=i0 bV
theorem afx{b:Gla.Bytes}{i:Nat}{c:UInt8}(h:A b c):A (kF) (vn eC):=by delta bV;rw[cz,h];rfl
theorem afy(O:af)(p q:Nat):ca O p q=an (Ha p) (q-p):=by delta jl;rw[ai8,ai8];rw[eL (ik p bx)];{rw[qP (ew h)];rw[d4 q bx,cL];{rw[Dc g,DB aQ,DB (t sO (Nat.sub_le_sub_right g p))]}};rw[aZ]
theorem afz(b:Gla.Bytes)(p q:Nat):ca kF p q=bV (an (ai9 p) (q-p)):=by rw[afy];delta bV;rw[Dj,Dk]
theorem le2{n:Nat}(h:b1 n):bV (gF 2 n)=[.int (cK%256),.int (cK/256)]:=by unfold bV Gla.le Gla.le Gla.le;simp;lia-abstractProof
theorem le4{n:Nat}(h:bk n):bV (gF 4 n)=cf (cK%256) (cK/256%256) (cK/65536%256) (cK/16777216):=by unfold bV Gla.le Gla.le Gla.le Gla.le Gla.le;simp;rw[Ff]
noncomputable def accN:bL Mq->Nat|[]=>0|c::J=>eC+256*accN J
theorem aVM(b:Gla.Bytes):accN b=Gla.numLe b:=by induction b with|nil=>{rfl}|cons c J d6=>unfold accN Gla.numLe;rw[d6]
inductive aw5(K:Fg)(vs:af)(H:Hp)(Q:VK)(E:XK):Prop|mk:∀(l:Addr)(b:Gla.Bytes)(p n:Nat),e [cC,jN,jf] tH (n<=8) (x7 (H8 b p n)) (aw5 K vs H Q E)
inductive aw6(vs:af)(H:Hp)(Q:VK)(E:XK):Prop|mk:∀n:Nat,A [jf] (b1 n) (l7 (gF 2 n)) (aw6 vs H Q E)
inductive aw7(vs:af)(H:Hp)(Q:VK)(E:XK):Prop|mk:∀n:Nat,A [jf] (bk n) (l7 (gF 4 n)) (aw7 vs H Q E)
inductive aw8(K:Fg)(vs:af)(H:Hp)(Q:VK)(E:XK):Prop|mk:lH (f4 (dG L v (ai_ b p))) (aw8 K vs H Q E)
inductive aw9(K:Fg)(vs:af)(H:Hp)(Q:VK)(E:XK):Prop|mk:lH (f4 (sr L v (he p,he (p+2)))) (aw9 K vs H Q E)
inductive aw_(K:Fg)(vs:af)(H:Hp)(Q:VK)(E:XK):Prop|mk:lH (f4 (sv L v (aDF b p))) (aw_ K vs H Q E)
inductive PxV(H:Hp)(v:V)(p:Pt):Prop|mk:l a J (v=bc) (lL (.int p.y:: .int p.x::J)) aLr
theorem dG.px{H:Hp}{v:V}{p:Pt}(h:br v p):aLr:=by rw[ak e h h];exact d a [] e h
inductive aw'(vs:af)(H:Hp)(Q:VK)(E:XK):Prop|mk:∀(v:V)(p:Pt),e [v] aLr (bk p.x/\bk p.y) (l7 (qW p)) (aw' vs H Q E)
inductive axa(vs:af)(H:Hp)(Q:VK)(E:XK):Prop|mk:∀(v:V)(p:fz),e [v] (sr H v p) (b1 p.1/\b1 p.2) (vC (bV (gF 2 p.1++gF 2 p.2))) (axa vs H Q E)
inductive axb(vs:af)(H:Hp)(Q:VK)(E:XK):Prop|mk:∀(v:V)(m:Gla.Mark),e [v] (sv H v m) (uQ) (l7 (H9 m)) (axb vs H Q E)
theorem aVO{I:Type}{O:ba}{i:Nat}{x:I}(hi:i<bx)(h:nT (bx-1-i)):Ha (bx-i_)=x::Ha (bx-i):=by rw[aO lt (bx-1-i) bx (fb (s4 bx) (aC bx 1 hi))];rw[show bx-i_=bx-1-i by lia-abstractProof,Ww lt];rw[aj (dd lt),cH];congr 2;rw[Nat.sub_right_comm,Mn (VO hi)]
section z
theorem aVP:T.avQ.Ok P w aj 1 (aw5 K):=by refine T.avQ.go Tz aL;generalize aG=e3,aA=A,aF=outer,aE=s,aD=H,aB=vs,aH=Q,aI=E;rw[aN,M oc,aX,al l b p n,aV a5 v3 k,ca (i 3 Tz.nd bE (an (ash rfl T.reversed (dY (ld aq (cS aq aw)))) 4 Tz.nd (bU 3 Tz.nd (cS (ll F2 bb bE) bR))) (df bb))];have g7:jl kF (gG p) (aa (v p+cK))=bV (an (ai9 p) n):=by{have:=afz b p (p+n);rw[am (hq (p+n-p) n),ama];rfl};rw[dk a5 (fun d hd=>?_)];rw[g7];generalize b0:an (ai9 p) n=c;rw[ar c0 H (bV c) (bV c),bA d c0 (bv (t (bV c)) (fo (L=ap d (bV c)/\∃v,M=[tR,bE p,bE n,bE (accN aJM),v])) (ai ae ?_))];{rw[ah7,List.drop_length];rfl};{rintro i M L hi⟨rfl,v,rfl⟩;exact a hi _ _ (av c0) (dd (fv (s4 (t (bV c))) (aC (t (bV c)) 1 hi)))};{rw[bgD];exact a_};{rintro i M L x b7 hi⟨rfl,v,rfl⟩⟨rfl,S⟩;have S:=S _ (av c0);have R:i<gc:=by{rw[dC]at hi;exact hi};rw[dC]at S;rw[aO lt (gc-1-i) gc (fb (s4 gc) (aC gc 1 R))];rw[afx (dd lt)]at S;rw[pO,aW _ rfl (a1 (eX ay ay) rfl (bE (aK3).toNat))];rw[aVO R (dd lt)];have e:ae (accN (aK3::aJM))=v (accN aJM)*256+ae (aK3).toNat:=by{conv=>{lhs;unfold accN};simp+arith [*]};delta vn;rw[e];rfl};{rw[bgD];have:=k _ (ac (bV c) hd);unfold Gla.num at this;rw[b0,<-aVM]at this;rw[dC,zA];exact this}
theorem Uh:T.avR.Ok P w aj 1 aw6:=by refine T.avR.go aTn aL;generalize aG=e3,aA=A,aF=outer,aE=s,aD=H,aB=vs,aH=Q,aI=E;rw[aN,a0 n rfl d1 k,n _ (cn (yA (sD (ew Se bS) an0))) (aQ) es bdh,de (le2 d1),ps ai'];rw[ak,e];rfl
theorem LN:T.avS.Ok P w aj 1 aw7:=by refine T.avS.go aTo aL;generalize aG=e3,aA=A,aF=outer,aE=s,aD=H,aB=vs,aH=Q,aI=E;rw[aN,a0 n rfl d1 k,eZ (cn (yA (vt (ew Se bS) (ew Se an0) (ew Se an0) an0))) (o5 (ah) (m rfl (aQ) (aQ) (en 4) bdh)),de (le4 d1)];rw[<-ai',<-ai',<-ai']at e;rw[ak,e];rfl
theorem Ui:T.avW.Ok P w aj 2 (aw8 K):=by refine T.avW.go aTs aL;generalize aG=e3,aA=A,aF=outer,aE=s,aD=H,aB=vs,aH=Q,aI=E;rw[aN,M Aq,aX,RE,dt a5,b _ (cn (as Qp (re aq))) l b (p+4) 4 ?_ a5 ⟨ay,fun a8 a4=>?_⟩];{congr};rw[aR p 4 jT (y_ (mS (hG aH3)))]
theorem aVQ:T.avX.Ok P w aj 2 (aw9 K):=by refine T.avX.go aTt aL;generalize aG=e3,aA=A,aF=outer,aE=s,aD=H,aB=vs,aH=Q,aI=E;rw[aN,M Aq,aX,RE,dt a5,co (cn (as (re aq) Qp)) p 2 (KV (p+2))];{congr};rw[v es (hG aH3)]
theorem afA:T.avY.Ok P w aj 3 (aw_ K):=by refine T.avY.go au5 aL;generalize aG=e3,aA=A,aF=outer,aE=s,aD=H,aB=vs,aH=Q,aI=E;rw[aN,M Aq,aX,RE,dt a5,e _ (bo (bU 2 au5.nd (b4 Ui aq)) (KQ (vt xF xF Qp Qp))) l b p rfl a5 ?_];rintro _ a8 a4⟨a,rfl,b3⟩;rw[bn a b3 (as a b3 dr (KV (p+8)))];{congr};rw[fZ (p+10) (ol eN) (fun d4 c8=>?_)];{congr};rw[v (en 4) (hG (b_ eN c8 cm))]
theorem Uj:T.av0.Ok P w aj 2 aw':=by refine T.av0.go aTv aL;generalize aG=e3,aA=A,aF=outer,aE=s,aD=H,aB=vs,aH=Q,aI=E;rw[aN,M fP,aX,bV O p];rintro rfl⟨a,m,rfl,b3⟩c2 k;rw[d _ (cn (j9 (a7 LN kH) LN)) a _ _ _ rfl (s Jx dr p.x c2.1 (re dh p.y)),bb2];{have c8:=eN;rw[bb',Rh];rfl}
theorem aVR:T.av1.Ok P w aj 2 axa:=by refine T.av1.go aTw aL;generalize aG=e3,aA=A,aF=outer,aE=s,aD=H,aB=vs,aH=Q,aI=E;rw[aN,M fP,aX,bV O p,bhD,d _ (cn (j9 ane Uh)) a _ _ _ rfl (s Jx dh p.1 c2.1 (re dr p.2)),bb2];{have c8:=eN;rw[bb',Rh]}
universe z
noncomputable abbrev dT(ns:aT):CX:= .tuple OU
theorem afB{K:Fg}{H:Hp}:∀ns:aT,F6 K H xK OU|[]=> .nil|n::J=> .cons (.int n) (afB J)
theorem Uk{K:Fg}{H:Hp}{a:Addr}{ns:aT}(h:mE xK):cs bc (dT ns):= .tup h (afB ns)
theorem afC:∀ns d8:aT,aja OU (HQ aDG)=ar ns d8|[],[]=>bI|[],m::d8=>bI|n::ns,[]=>bI|n::ns,m::d8=>by simp only[da,aja,jv,(afC ns d8)];rw[N h n m,aZ];{simp[h]}
theorem GS(ns d8:aT):jv (dT ns) (dT d8)=ar ns d8:=t jv (afC ns d8)
theorem lay_ints:∀ns:aT,aje OU=ab/\ajc OU<=1|[]=>a9W|n::J=>by rw[ds (aDH J),dI (bx aje ajd d6.1),kv ajc ajb];simp[*]
theorem axc(ns:aT):ajd (dT ns)=ab/\ajb (dT ns)<=2:=by have h:=aDH ns;rw[dI (by delta dT;rw[ajd];exact h.1)];delta dT;rw[ajb];exact Vm h.2
theorem aVS(ns:aT):iD (dT ns):=by have h:=axc ns;delta aDI;rw[h.1,m7 h.2];rfl
theorem axd:∀O:fA,aje (Hb dT)=ab/\ajc (Hb dT)<=2|[]=>a9W|n::J=>by have d6:=axd J;have h:=axc n;rw[dI (by simp only[da,aje,h.1,d6.1];rfl)];simp only[da,ajc];lia-abstractProof
theorem Ul(O:fA):iD (.list (Hb dT)):=Ik (axd O)
theorem afD:∀O d7:fA,aja (Hb dT) (ajf dT)=ar O d7|[],[]=>bI|[],m::d8=>bI|n::ns,[]=>bI|n::ns,m::d8=>by simp only[da,aja,(afD ns d8),GS];rw[N h n m];{simp};{simp}
theorem bjY{a:Addr}{A B:Prop}(h:A):x1 (gR a):=bB
theorem bjZ{a:Addr}{A B:Prop}(h:B):x0 (gR a):=bB
theorem bj0{A B:Prop}(h:A):x0 Hm:=bB
theorem axe{c A B:Prop} [Hu c](n:¬c)(h:B):lk (cv c):=ag
theorem aVT{c A B:Prop} [Hu c](n:¬c)(h:A):lk (! cv c):=ag
theorem bj1{A B:Prop}(h:B):x1 Hm:=adP rfl h
inductive axf(K:Fg)(vs:af)(H:Hp)(Q:VK)(E:XK):Prop|mk:mH (f0 20 H_ ae) (axf K vs H Q E)
noncomputable def LO(w h p l m:Nat):bZ Mo:=v (jC aDM ajg w=ai) (jC aDM ajg h=ai) (jC 4 aDL p=ai) (jC 4 aDK l=ai) (jC 1 aDJ m=ai) ae
inductive axg(vs:af)(H:Hp)(Q:VK)(E:XK):Prop|mk:∀w h p l m:Nat,vs=[vn w,vn h,jN,vn l,vn m]->gc (LO w h p l m)->axg vs H Q E
inductive axh(K:Fg)(vs:af)(H:Hp)(Q:VK)(E:XK):Prop|mk:mH (NW b) (axh K vs H Q E)
theorem aVU{b c:Gla.Bytes}:(wO (ab (v Ia)))=(Dv (ab (v Ia)))↔b=c:=by constructor;{rw[eD];exact x (a31 (f:=fun x:Mq=>v Ia) (fun x y e=>by have:Ia=y.toNat:=cq;exact aDb this)) h};rw[cL]
theorem axi(b:Gla.Bytes):kF=L (wO (ab (v Ia))) cp:=f7 bV jw
theorem aVV{lo hi:Int}{i n:Nat}{M:L2.St}{H:Hp}{Q:AI}(a:A M (bE n))(h:Q (bi lo cK&&bi cK hi) H):uZ (KN aaN aaN (po lo) (ho i) (po hi)) M H Q:=by delta uZ KN tC;refine wR a (dl Ka);{rw[c,ahY]at h;exact h};rw[gM (Wn c) h]
theorem within_int(a b n:Nat):(bi (v a) cK&&bi cK (v b))=jC a b n:=by delta jC;rw[dW]<;>(apply aDN;simp)
theorem axj{b:Bool}(h:b=ab):¬b=ai:=hS
theorem aVW{lo hi i n:Nat}{M:L2.St}{H:Hp}{D:Ends}{t u:L2.TS}(a:A M (bE n))(Z:jC lo hi n=ai->t D M H)(a0:jC lo hi n=ab->u D M H):R9 (aqP (uZ (KN aaN aaN (po Je) (ho i) (po (v hi))))) t u D M H:=by refine aVV (i:=i) a ?_;rw[within_int];cases e:jC lo hi n with|false=>{rw[fw (Z e)]}|true=>rw[fw (a0 e)]
section z
theorem afE:T.av2.Ok P w aj 3 axb:=by refine T.av2.go aTx aL;generalize aG=e3,aA=A,aF=outer,aE=s,aD=H,aB=vs,aH=Q,aI=E;rw[aN,M fP,aX,bV O m,bhD,e _ (cn (c4 (dK Uj) ane ane)) _ eL rfl (cg a _ b3) c2.1 (pj (as a OD rC (bj jx c2.2.1 (fun d5 b7 b5 n2 b9=>?_)))),ce z1 (t (bV (qW eL))) 8,bhi,gO IV b9 (by rw[z1,h6];decide)];have c8:=B eN (bs (bV (qW eL)) (bV (gF 2 jx)) u);rw[ai a (cx (dn b3)) (ow 3) (bj kB c2.2.2 (fun e0 e4 d9 y g5=>m l3 e0 (fF ak) g5 ⟨by rw[cj,z1,h6,h6];decide,fun b f=>k _ _ (dL Eh f) (eV Eh f) ?_⟩))];rw[ak,<-qD,<-qD,dv];rfl
theorem aVX:T.avT.Ok P w aj 1 (axf K):=by refine T.avT.go aTp aL;generalize aG=e3,aA=A,aF=outer,aE=s,aD=H,aB=vs,aH=Q,aI=E;rw[aN,M fP,aX,Ft,dt a5,cn (b4 (GD ajh) (KM (GT T.avv)) cu) pQ ?_];rw[dC];rw[kj,beF];{rw[ec l_,bg9,bg7];rw[g7]at a9⊢;intro o d0;rw[baw,Ij aIo];rw[GS];rw[g0 aIo H_ H_,b1 xi H_];{rw[dH (D.mpr e)];rw[bD (ax b5 (by rw[aO hS];rfl))]};{rw[ea (ai (e (D.mp q)))];rw[kl (ef (fg cm) (t (aK e) lQ))]}}
theorem axk:T.avU.Ok P w aj 1 axg:=by refine T.avU.go aTq aL;generalize aG=e3,aA=A,aF=outer,aE=s,aD=H,aB=vs,aH=Q,aI=E;rw[aN];obtain⟨a,b,c,d,e,rfl,k⟩:=h;rw[ca (ai (bx T.avw bS T.avx ua) (bx T.avw aq T.avx ua) (a6 (bx T.aU7 aw T.aU8 ua) (bx T.aU9 bb T.aU_ ua) (bx T.aU' bR T.aVa ua) cu))];delta LO aDM ajg aDL aDK aDJ at k;have fin:∀(J p:Nat)(a8:Hp),cZ H a8->gc (aa ⟨J,p⟩)->E t (gz t) (Q nu (upd a8 t (bx J p))):=fun J p a8 a4 B t c6=>B _ _ (eX cm) lQ;rw[bX 0 16 1048575 a,rb 4,Z6,P7];rw[Bx];rw[bX 1 16 1048575 b,rb 8,Z6,P7];rw[Bx];rw[bX 2 4 4096 c,rb 12,Z6,P7];rw[Bx];rw[bX 3 4 8192 d,rb 14,Z6,P7];rw[Bx];rw[bX 4 1 2048 e,rb 16,Z6];exact ax eg rfl
theorem aVY:T.avV.Ok P w aj 2 (axh K):=by refine T.avV.go aTr aL;generalize aG=e3,aA=A,aF=outer,aE=s,aD=H,aB=vs,aH=Q,aI=E;rw[aN,M fP,aX,Ft,dt a5,ca (L WL (dK aVX) (dP aq aq) (i 2 WL me (bU 3 WL me) (i 4 WL me (bU 1 WL (d9 axk (GL me me aw bb bR))) (a6 (dP aq aq) (D Sf me bE ua) (D Sf nB (cV (cV (yX aw) T.TQ bb) T.afo bR) (dO (gi ajh))) cu)))),dZ NW,y l b a5 aID];by_cases a3:cw<20;{rw[aK a3]at g4;rw[fW (show cw<NX from a3),n7 g4,xR];exact bd (p7 g4)};rw[bj a3]at g4;rw[ec (show¬cw<NX from a3)];by_cases a9:xi≠H_;{rw[aK a9]at g4 k;rw[n7 g4,xR];exact bd (p7 g4)};rw[PU]at g4 k;cases g4;rw[c rfl l b 12 2 jT ay a8z];have b5:=eX r2;rw[aR 14 2 (WK a5) (fun d4 m=>?_)];have c8:=fg m;rw[aR 16 2 (c8.seq a5) (fun e4 c9=>?_),l9 c9,aR 4 4 Jy (fun g6 p=>?_)];have f9:=mX p;rw[aR 8 4 (f9.seq a5) (fun h5 q=>?_),it (GM.aeU b)];have a7:zJ (DF b)=bgH:=by{delta zJ LO;rw[d5.1,d5.2.1,d5.2.2];rfl};rw[K _ _ _ (dl (fun v h9 R f7=>?_))];have R:=B (mW q) R;rw[bs a7];cases i2:bgH with|some f=>{rw[i2]at f7 k;rw[n7 f7,xR];exact bd (ax R f7)}|none=>rw[i2]at f7 k;cases f7;rw[c rfl l b 18 2 (R.seq a5) ay (fun i3 i=>?_),ds (wC i)];have G:=k;rw[bu];rw[dN];rw[d3 e2 (he 18)];{rw[bj hS]at G;rw[dH (show ae (he 18)=0 by rw[xI])];rw[d l _ rfl (.inl (d6.seq a5)) _ _ rfl (f yp _ _ rfl yp _ _ (m rfl rfl yp ?_))];rw[dC];rw[i6 (! ar (gZ cw) (cp (20+8*v Ak+4*v I2+12*v Pj)))];rw[dN];rw[N e5 cw (NX+8*Ak+4*I2+12*Pj)];{rw[bj hS]at G;rw[dH (by delta NX at e5;exact Av)];exact(G _ _ d6 rfl)};rw[p6 e5 (by delta NX at e5;lia)]};rw[p6 e2 (show¬ae (he 18)=0 by simp[*])]
universe z
section z
variable{K:Fg}
theorem axl{d:Type}{g:TG}{c3:TT}{b8:TE}{vs:ao}{M:L2.St}{a8:Hp}{D:Addr}{k:jb}{R:Rl d}(A:uo){lo c:Int}{n:Nat}(f:dg (bZ d))(a7:gz D)(c9:n<hv)(c0:∀(i:Nat)L(h4:VK)(N:jb),c (i<n) OL (wE (f i)) (f i=ae->aGL) (be al9 tA L aGA))(hd:vg (i8 n f)):d7 (Z_) (Z_) (Z_):=by refine aeW (d0:=Z_) A (eJ n) (fun _ x i=>x=al9/\i<n) f a7 ag aMn (fun H s=>?_) aMS (fun i a x L h4 N b3 s e a3 a9=>?_) hd;{have:i<n:=ah;exact this};{show n<=_;simp};{rw[dm rfl y];have:i<n:=ah;exact m eg i (wH this) this};rw[az]
theorem afF{H:Hp}{x dx C:Addr}{G:hU}(nx:Y x)(nd:Y dx)(ne:dx≠x):cZ H (d7 (ad dx Ec) (aC C G)):=dL xt (Y ne.symm nx)
theorem axm{lo n c:Nat}(b0:bhg):Vk Je (ae (lo+c*n)) (v c)=n:=by delta Vk;rw[aK Be];rw[d3 h n,aZ,Jp]
theorem axn{lo n c:Nat}(b0:bhg)(d1:lo+c*n<2^40):RgC Je (ae (lo+c*n)) (v c) n:=by rw[w fR fR ?_ (axm b0)];delta a2z;rw[axm b0];simp only[Builtin.Range.rangeFitsLong,hZ,aht,iS,aCM];have n1:n<=c*n:=Nat.le_mul_of_pos_left n bM;generalize c*n=m at*;simp;lia
inductive axo(K:Fg)(C:Addr)(vs:af)(H:Hp)(Q:VK)(E:XK):Prop|mk:m4 (e [cC] tH (NW b=ae) (∀a b2 X G L,l bQ (g3 L (DF b)) (Y a) (Y b2) (Y X) (Y G) Pe) (axo K C vs H Q E))
theorem aVZ{b:Gla.Bytes}(h:NW b=ae):cw=z5 Pj:=by rw[a4 NW,eH,cY,eH,cY];cases e:zJ (DF b)with|some f=>{rw[m1 e]}|none=>rw[aj e];have h':=h;rw[YG,cY,YG,cY];next q=>delta NX at q;simpa using q
universe z
section z
theorem aV0:T.avZ.Ok P w aj 4 (axo K bJ):=by refine T.avZ.go aTu aL;generalize aG=e3,aA=A,aF=outer,aE=s,aD=H,aB=vs,aH=Q,aI=E;rw[aN,M fP,aX,Ft,aV a5 a0 k];have F:=ajj b 12 2;rw[de (ajj b 14 2),eS (ajj b 16 2),z3 b9];rw[b9]at F e f;rw[fV,co (L aji (yX me) (bU 2 aji (cV aq T.TQ me)) (a6 (aR 3 (gi ajh) aq WO Ui) (aR 5 aq aw T.TQ aVQ) (aR 6 aw nB T.afo afA) (aP me me bb cJ eu))) 12 2 (a _ _ rfl rfl yp l b 14 (ax 2 jT ay a8z))];have b5:=eX r2;rw[b _ _ rfl rfl yp _ _ _ (as rfl (b2 20 Ak 8 ay) (fun a g=>ap Ak dk (aa (ai_ b (20+8*i))) g F)),cb d1 (20+8*i) (ol (fg s)) bhh];intro d4 c5 m e7 j0;rw[eT j0];have c8:=fg m;have g9:dB dG d4 a (DF b).pts:=v c5 e7 j0;rw[K _ _ _ (ai (b2 (20+8*Ak) I2 4 (x (.inr gj))) (fun c j=>ap I2 iI (aa (he aKE,he (aKE+2))) j e)),cb d1 aKE (ol (wV s)) (fun v e4 d9 c9=>fs d9 c9)];intro e4 ls c9 g5 e2;rw[eT e2,l9 c9];have e1:dB sr e4 c (DF b).lines:=v ls g5 e2;rw[n6 Jy];rw[dC,(aVZ a0)];rw[K _ _ _ (ai (b2 (20+8*Ak+4*I2) Pj 12 ay) (fun d n=>ap Pj jo (aa (aDF b (z5 i))) n f)),cb d1 (z5 i) (ol (mX s)) (fun v g6 f9 p=>fs f9 p)];intro g6 d8 p i2 y;rw[eT y];have f9:=mX p;have j5:dB sv g6 d (DF b).marks:=v d8 i2 y;rw[aR 4 4 (f9.seq a5) (fun h5 q=>?_)];have h1:=mW q;rw[aR 8 4 (h1.seq a5) (fun h9 b1=>?_)];have R:=zK b1;rw[mp dx,d x dx _ _ a c d (aP ak ?_)];rw[yt];rw[P d6 h9 (cx h9 dx (aC bJ (vu (cd xA) (cd XS) a c d))) Pw];refine k x a c d _ (wC d6) (a1 (sy ak) ?_ ?_) (R.free nx) (b5.free g) (WN j) (WM n);rw[l (g9.mono dk (b_ (c9.trans p) (VS b1) d6)),l (e1.mono iI (B (aDO (VS b1)) d6)),l (j5.mono jo (B (VS b1) d6))]
universe z
theorem Um{I:Type}{R:kh}(A:uo){K:Fg}{l d:Addr}{j o:Nat}{b:L2.St}{G H:Hp}{D:Ends}{Y:ba}(f:I->aDP){B:Gla.Bytes}{e8:Sp}(a5:a'2)(nd:G d=ae)(s:cZ G H)(hd:am d (bV B))(c9:bcO)(b1:b=ajk j ae)(c:bdM)(e:a'4)(C:biO)(k:bgR):biF:=Li (NR (cP a4) J)
inductive axp(C:Addr)(vs:af)(H:Hp)(Q:VK)(E:XK):Prop|mk:dc (DG D) (l7 (NY D)) (axp C vs H Q E)
section z
theorem axq:T.av3.Ok P w aj 4 (axp bJ):=by refine T.av3.go aTy aL;generalize aG=e3,aA=A,aF=outer,aE=s,aD=H,aB=vs,aH=Q,aI=E;rw[aN,M iw,aX,Bk,aV h F k,fD,Q2,aaY,aKT,fV];have g4:=F.p;have h3:=F.l;have h6:=F.m;rw[eZ (L aDR (c4 (us (GT T.avv)) (a7 LN bP) (a7 LN bP)) (an (adi (cr bP bP bP)) 2 aDR (eA aq (a7 Uh (dN aw)))) (ai (eA aq (yA (sD bE bE))) (ft 3 Uj bb) (bX (ft 4 aVR bR) (ft 5 afE cJ) aq))) (D9 (fun c0 c6=>iS (co c6 hd) (s H7 yW D.w F.w (fun a7 a8 r1 n1 b4=>?_))))];have a4:=B cm r1;rw[c c0 a7 (q8 49) _ rfl (r1 _ _ ak) b4 ⟨?_,fun d5 n2=>?_⟩];{rw[dC,ph];decide};rw[a2 ((ls n2) _ _ hd) (s H6 GR D.h F.h (fun l3 d4 m u e7=>?_))];have c8:=B (ls n2) m;rw[n d5 l3 (m _ _ ak) e7 ⟨?_,fun d c=>?_⟩];{rw[cj,dC,dC,ph,ph];decide};have nd:=WN c;rw[ab m8 (q8 49:af) (bV H_)];rw[m8,<-qD,<-qD];generalize hA:H_++gF 4 D.w++gF 4 D.h=e;rw[dR C e.length 12,aj d9 bbC (wV (b_ c)),a2 (fF hd) (ev gb fX (b (fF hd) dR kC ku a dx _ (a _ rfl (fF hd) dR jA jq (en 3) Zp))),e c3 bbC t aLL t aLL,ci (fm (ak (H:=d4)) h7),bD t (aW (cx c3)) ?_];let b:ao:=[df,lH,qX];refine cl (ea b2 (.ref X) G) (fo (vo (∃v,M=[kJ,rx,v,ae,ae,ae]) bQ (L t=aa aLL) (ou e 2))) (a1 qg (mX (b_ h7)) c3) z.3;{rw[bW q,ak];simp};{rintro i x M L S⟨⟨v,rfl⟩,f9,i2,j1⟩;obtain⟨l,n,vs,a5,d1,d3,b0⟩:∃(l:Addr)(n:Nat)(vs:af),x=cC/\am l vs/\iO=n/\b1 n/\A b n:=by{match i,S with|0,S=>{rw[aK b2 c5 a3 qY g4]}|1,S=>{rw[aK X ls a9 NZ h3]}|2,S=>{rw[aK G d8 e2 Ib h6]}|i+3,S=>trivial};subst a5;rw[c (dq j1) l (cc (hy d1)) n (dc d3) b0.1 (fun i1 b7 r2 n2 b9=>?_),FZ b0.2,n d i1 (r2 _ _ j1) b9 (a ?_ ei (gb (mW r2)) ?_ ?_)];{rw[dC,dC,cj,op 2 2,ph,C,eS];rw[bfD];exact hn this this fw};rw[gN zz (r2 _ _ i2)];{rw[ak,<-qD,dv,g9,zL,ajm]}};rintro M g6⟨⟨v,rfl⟩,f9,i2,j1⟩;have j1:b5 (g6 d) (bV (e++aDQ (gF 2))):=j1;generalize hB:e++aDQ (gF 2)=f at j1;rw[dR g Dr 18,aa (dq j1) es (fun z k0=>m d z (co k0 j1) ak Pf)];{rw[dC,g];decide};rw[bN c1 (bV f++[xb,xb]) bbv qD,aj h1 (U bcM d bbv) (gb (mW (b_ k0)))];generalize y:f++gF 2 0=j at h1 c1;have r:j.length=20:=by{rw[<-y,cj,g,ph]};rw[pq (D.pts.flatMap qW) df];have q2:t (D.lines.flatMap bcV)=4*lH:=ajl (ab (cy cj ph ph)) _;have q3:t (D.marks.flatMap H9)=12*qX:=ajl (ab (by delta H9 qW;rfl)) _;rw[c1];generalize I:U bcM d (bV j)=h5 at h1;rw[br j2 (b5 (h5 d) (bV j)) I ak,a2 (iP hd) (s gb fX b2 (dB c5 (iP a3)) (Um (j:=3) (o:=1) dk qW h.p.ls nd h1 j2 (by rw[cj,d2,r];rw[jY]) rfl gW gW (mI J.px (aiB p c4)) (fun j3 h9 R j2=>iS (R _ _ hd) (s kC ku X (dB ls (R _ _ a9)) (Um (j:=4) (o:=1) iI bcV h.l.ls nd R j2 (by rw[cj,cj,d2,q2,r];rw[jY]) rfl gW gW (mI J (aC0 p c4)) (fun i9 i3 d6 j9=>iS (n9 hd) (s jA jq G (dB d8 (n9 e2)) (Um (j:=5) (o:=1) jo H9 h.m.ls nd d6 j9 (by rw[cj,cj,cj,d2,q2,q3,r];rw[jY]) rfl gW gW (mI J (wI p c4)) bhw))))))))];rw[j8,<-y,<-hB,<-hA];congr 3;delta NY H9 qW;simp[b,dv]
universe z
universe GA
namespace HT
open PySem PyProof.Rows
noncomputable def lexLe:aJ8|[],_=>ab|_::_,[]=>ai|x::O,y::d7=>v x y (zM O d7) (bi x y)
theorem aV1(x y:Int)(O d7:aT):zM (x::O) Q0=v x y (zM O d7) (bi x y):=rfl
theorem aV2:zM [] []=ab:=rfl
theorem aV3(y:Int)(d7:aT):zM [] Q0=ab:=rfl
theorem aV4(x:Int)(O:aT):zM (x::O) []=ai:=rfl
theorem aV5(A:Around)(s:Shared)(a:Int)(t:Tok)(c:Int)(u:Tok)(prog:Program)(w:World)(E:aU)(Q:aU)(h:jZ (bi a c)):zu .LtE:=na (PyProof.Rows.le_int h) .LtE
section z
open PySem.SeqAt
open PySem.AutoSeq1(wpAny_loadPart')
open PySem.MeetsSeq PySem.MeetsSeq2 PySem.MeetsSeq3
theorem aV6(l b:Addr)(f i:dU)(n n2:Nat)(j o:nf)(sl p:Eu)(ns d8:aT)(hi:QU)(b8:Rg):nA (Builtin.«tuple.__le__» aJ_) aoL:=B7 (by rw[m9 os s,cz a5 U h];have h3:=aBO;rw[aMs,aMu,Co (zM I k)];(case turn=>rintro⟨y,x⟩m b c1⟨j6,rfl,vs,ws,I,k,c9,v,r,E,hR⟩;cases v with|nil=>{trivial}|cons a t C=>cases r with|nil=>{trivial}|cons c u F=>rw[alh];injection c9 with G H;rw[aLf];subst b6 S;rw[aV1]at hR;rw[aH_,aMT,C aMH,Cl (aV5 kz OI a t c u cN w)]);(case fin=>rintro⟨h2,e2⟩c1⟨j6,rfl,vs,ws,I,k,c9,v,r,E,hR⟩;rw[aG6];subst j6;have d3:zM I k=bi lA Vs:=by{cases v with|nil=>{cases r with|nil=>{rw[fg MS aV2 (m7 E.g)]}|cons c u hw=>rw[kl aV3 (m7 E.g)]}|cons a t d3=>rw[m3 aV4 aIq]};rw[d3]at hR;wp_walk;exact aLG);rw[aMY])
universe z
section z
variable{prog:Program}{w:World}{A:Around}{E:aU}{s:Shared}
theorem aV7{l b:Addr}{f i:dU}{ns d8:aT}{Q:aU}(a5:aIX)(U:aKw)(hi:QU)(b8:Rg)(hu:sT<gD)(h:jZ aoL):zS .LtE:=t .LtE PySem.F.slot_tuple_le PySem.F.entry_tuple_le (PySem.F.args_tuple_le_2 _ _) (aV6 l b f i n n2 j o sl p ns d8 hi b8) aoL aoL
universe z
universe HT
namespace L2
open PySem PySem.Spec PyProof.Rows
section z
variable{X:Cx}
def axr(K:PySem.W.Frag):R2:=IF (WQ ns d8)
theorem aV8(hu:zr<gD):be .LtE (axr X.K):=Cs (HT.aV7 e9 f6 (MU r1) (MU r2) hu (eU (WQ ns d8) q))
universe z
universe L2
namespace GA
open PySem PySem.Spec PyProof.Rows L2
theorem leK{X:Cx}{K:Fg}(g:fB)(hu:zr<gD):be .LtE (axr K):=g▸aV8 hu
theorem axs(p q:fz):WQ aaw (dp q.1 q.2)=! DH q p:=by delta DH;simp only[WQ];rw[N h (v p.1) q.1,ER,ER]
theorem afG(p q:Pt):WQ yo aJ'=! Nd p:=axs (p.y,p.x) (q.y,q.x)
theorem ixi{K:Fg}{H:Hp}{a:Addr}{p:fz}(h:cw (g8 p.1 p.2)):mE (hD aaw):=cx h
noncomputable def oD{I:Type}(ok:AZ)(k:yf)(l:ba)(i:Nat)(x:I):cb:=! ok x||(m6 i&&(match l[i-1]? with|some y=>! k y x|none=>ai))
theorem afH{I:Type}{ok:AZ}{k:yf}{l:ba}{i:Nat}{x:I}(h:xN)(b:oD ok k l i x=ab)(g:ae (j<i) l ok k l):WR ok k l=aa i:=a32 ⟨v x h b,fun j y b8 b6=>g j y b8 b6⟩
theorem axu{I:Type}{ok:AZ}{k:yf}{l:ba}(g:ae (j<d_) l ok k l):WR ok k l=ae:=a33 (fun j y b6=>g j y cq b6)
def Cm{I:Type}(R:kh)(H:Hp)(v:V)(l:ba)(i:Nat):Prop:=(i=0/\v= .bC)\/∃j x,i=j+1/\Ep/\R H v x
theorem Cm.mono{I:Type}{R:kh}(A:uo){H L:Hp}{v:V}{l:ba}{i:Nat}(s:bQ)(h:Cm R H v l i):Cm R L v l i:=by rcases h with h|⟨j,x,e,g,J⟩;rw[l AB,co (a j x e g (NR (cP s) J))]
inductive axv(C:Addr)(vs:af)(H:Hp)(Q:VK)(E:XK):Prop|mk:mJ (ajn D) (axv C vs H Q E)
inductive axw(C:Addr)(vs:af)(H:Hp)(Q:VK)(E:XK):Prop|mk:mJ (ajo D) (axw C vs H Q E)
section z
theorem aV_:T.awg.Ok P w aj 2 (axv bJ):=by refine T.awg.go aTP aL;generalize aG=e3,aA=A,aF=outer,aE=s,aD=H,aB=vs,aH=Q,aI=E;rw[aN,M iw,aX,Bk,dt h,fD,Q2,b ajp (v ajp ajp (dZ uX xZ bP) (dZ uX xZ bP) alT alT ajp) gb fX b2 df dG lG lG aGd WI lG,cj c5 c5 qY (br a3),beD];{refine iw;rw[F i M L x b7];rintro hi⟨⟨l,m,p,rfl,a5⟩,s,g⟩⟨t,y,rfl,c6,rfl,b6⟩;rw[aW z c9 e9 (b6 c5 (br a3)),tg hK,my dk c6,om (bL b5 J),ba2,bex,aGH,fl aLX (afv [pD] b7 (CL 4) E0) (by rw[bD i es (ef (fg cm) ?_)];delta ajn;rw[J (afH c9 U g) lQ]),u aLX lG aGd WI lG (by rw[Z4];{lia};rw[l (g j d7 (iM e) O)]),da b U (x8 (v H7 yW Ka)),BS (¬z.x<=D.w),bn b U (x8 (v H6 GR a_P))];{rw[bD (fin ?_)];have:¬z.y<=D.h:=ah;delta oD;rw[tT]};have ok:c_ (bi z.x D.w) (bi z.y D.h):=by{simp at c e6;simp;trivial};rw[bu,qC dG lG,Cq B,bhT,w (oC U) (oC b0) afG aLX (! Nd z) (t f7 c1) (by rw[f7];simpa using c1)]};rw[La ajn]
theorem aV':T.awh.Ok P w aj 3 (axw bJ):=by refine T.awh.go aTQ aL;generalize aG=e3,aA=A,aF=outer,aE=s,aD=H,aB=vs,aH=Q,aI=E;rw[aN,M iw,aX,Bk,dt h,fD,b6 a3 e9 h.l,cj v g7 h.p,b ajq (v ajq ajq (dZ uY xZ xZ) (dZ uY xZ nK) (yy aw) (yy aw) ajq) kC ku X lH sr gU gU (rY df) DH gU,cj c5 c5 qY (br a3),beD];{refine iw;rw[F i M L x b7];rintro hi⟨⟨l,m,p,rfl,a5⟩,s,g⟩⟨t,y,rfl,c6,rfl,b6⟩;rw[aW z c9 e9 (b6 c5 (br a3)),tg hK,my iI c6,om (iI.go (cP b5) J),ba2,bex,aGH,fl aLW (n0 b7 5) (cu b5 (ef (fg cm) ?_) ajo (afH c9 U g)),u aLW gU (rY df) DH gU bz,Ds Ka,BS (¬z.1<z.2),da b U (x8 (bt gb fX b2 (gH g7)))];rw[d2.length];rw[aJ3,BS (¬z.2<df),ca ok (c_ (bT z.1 z.2) (bT z.2 df)),bu,qC sr gU,Cq B,bhT,w (ixi U) (ixi b0) axs aLW (! DH q z) aIO bz]};rw[La ajo]
universe z
universe GA
namespace HT
open PySem PyProof.Rows
noncomputable def vw:aJ8|[],_=>ai|_::_,[]=>ab|x::O,y::d7=>v x y (vw O d7) (bT y x)
theorem aWa(x y:Int)(O d7:aT):vw (x::O) Q0=v x y (vw O d7) (bT y x):=rfl
theorem aWb:vw [] []=ai:=rfl
theorem aWc(y:Int)(d7:aT):vw [] Q0=ai:=rfl
theorem aWd(x:Int)(O:aT):vw (x::O) []=ab:=rfl
theorem aWe(A:Around)(s:Shared)(a:Int)(t:Tok)(c:Int)(u:Tok)(prog:Program)(w:World)(E:aU)(Q:aU)(h:jZ (bT c a)):zu .Gt:=na (PyProof.Rows.gt_int h) .Gt
section z
open PySem.SeqAt
open PySem.AutoSeq1(wpAny_loadPart')
open PySem.MeetsSeq PySem.MeetsSeq2 PySem.MeetsSeq3
theorem aWf(l b:Addr)(f i:dU)(n n2:Nat)(j o:nf)(sl p:Eu)(ns d8:aT)(hi:QU)(b8:Rg):nA (Builtin.«tuple.__gt__» aJ_) aoM:=B7 (by rw[m9 os s,cz a5 U h];have h3:=aBO;rw[aMs,aMu,Co (vw I k)];(case turn=>rintro⟨y,x⟩m b c1⟨j6,rfl,vs,ws,I,k,c9,v,r,E,hR⟩;cases v with|nil=>{trivial}|cons a t C=>cases r with|nil=>{trivial}|cons c u F=>rw[alh];injection c9 with G H;rw[aLf];subst b6 S;rw[aWa]at hR;rw[aH_,aMT,C aMH,Cl (aWe kz OI a t c u cN w)]);(case fin=>rintro⟨h2,e2⟩c1⟨j6,rfl,vs,ws,I,k,c9,v,r,E,hR⟩;rw[aG6];subst j6;have d3:vw I k=bT Vs lA:=by{cases v with|nil=>{cases r with|nil=>{rw[fg MS aWb a8G]}|cons c u hw=>rw[kl aWc a8G]}|cons a t d3=>rw[m3 aWd (m7 E.l)]};rw[d3]at hR;wp_walk;exact aLG);rw[aMY])
universe z
section z
variable{prog:Program}{w:World}{A:Around}{E:aU}{s:Shared}
theorem aWg{l b:Addr}{f i:dU}{ns d8:aT}{Q:aU}(a5:aIX)(U:aKw)(hi:QU)(b8:Rg)(hu:sT<gD)(h:jZ aoM):zS .Gt:=t .Gt PySem.F.slot_tuple_gt PySem.F.entry_tuple_gt (PySem.F.args_tuple_gt_2 _ _) (aWf l b f i n n2 j o sl p ns d8 hi b8) aoM aoM
universe z
universe HT
namespace L2
open PySem PySem.Spec PyProof.Rows
section z
variable{X:Cx}
def axx(K:PySem.W.Frag):R2:=IF (WS ns d8)
theorem aWh(hu:zr<gD):be .Gt (axx X.K):=Cs (HT.aWg e9 f6 (MU r1) (MU r2) hu (eU (WS ns d8) q))
universe z
universe L2
namespace L2
open PySem PySem.Spec PyProof.Rows
section z
variable{X:Cx}
inductive axy(x:V)(vs:af)(H:Hp)(Q:VK):Prop|mk:∀(l:Addr)(O:af)(j:Nat)(y:V),eU [IY,y] (j<=bx) (bx<hv->x9 (O.take j++y::Ha j)->axy x vs H Q)
theorem aWi:Sr X "list.insert" axy:=by rw[apG,cp O j y b8,hO];obtain⟨f,u,rfl,⟨t,rfl⟩,m⟩:=rv.two;rw[aa1,bT c b c (c=v j)];have fit:a37 c=ab:=by{rw[qJ]at c9;delta a37;rw[dH ag,dH (x (acV b.m (aC b8) (mh c9)))];rfl};rw[<-b];refine ahl F.slot_list_insert (bm e) F.entry_list_insert (F.args_list_insert_3 _ _ _) (AutoSeq1.list_insert_list_int_val_1 l eT n c t u cq ah) (as e);rw[aC W (min j Hq) j (qP (cf b8 a5.l)),Q .bC _ (eQ (ar.take j++u::ar.drop j) ?_ ((J.take j).append (.cons m (J.drop j)))) q];{have a3:¬(c<0):=by{lia-abstractProof};have d:eC=j:=by{lia-abstractProof};apply Array.toList_inj.mp;simp[a3,d,W,a36,a35,a34];exact DB aQ};{rw[cj,ia,<-aDS,<-cj,Ds];exact c9}
universe z
universe L2
namespace GA
open PySem PySem.Spec PyProof.Rows L2
theorem gtK{X:Cx}{K:Fg}(g:fB)(hu:zr<gD):be .Gt (axx K):=g▸aWh hu
theorem axz:∀O d7:aT,WS O d7=mK d7 O|[],[]=>rfl|[],_::_=>rfl|_::_,[]=>rfl|x::O,y::d7=>by simp only[WS,mK,axz O d7,eq_comm (a:=x)]
theorem aWk(p q:Pt):WS yo aJ'=Nd p:=B (axz _ _) (Ug q p)
noncomputable def Cn(l m:ki):cb:=l.1.below m.2&&zy l.1 l.2 m.1 m.2
inductive axA(K:Fg)(vs:af)(H:Hp)(Q:VK)(E:XK):Prop|mk:∀(v:V)(b2 c0:Addr)(l:ki)(c5:eh)(f:mZ),e [v,YJ,O8] aok (bm dG b2 c5) (bm eR c0 f) (c (kr l.1/\kr l.2) (V p c5 (kr p)) (V J f (kr J.1/\kr J.2)) (dB (c5.any aan||a79)) (axA K vs H Q E))
section z
theorem axB:T.awl.Ok P w aj 3 (axA K):=by refine T.awl.go aTT aL;generalize aG=e3,aA=A,aF=outer,aE=s,aD=H,aB=vs,aH=Q,aI=E;rw[aN,M P5,aX,n O b2 c0 l c5 f];rintro rfl⟨a,x,y,rfl,b3,S,b6⟩⟨b1,l8,c2⟩⟨ws,hw,j⟩sl e8 e k;rw[d _ (i 3 ajt kH (bU 4 ajt kH) (bX (bd aq 5 ajt (dl (uV (Z awV bb bR cJ)) mj)) (bd aw 6 ajt (dl (gD (dZ (gtK (K:=K) rfl ai3) (di eu) bb) (uV (d9 aVG (vt bb bR (di eu) (di eu))))) mj)) mj)) a _ _ _ rfl (u Jx dh a _ (s Jx dr b2 ⟨b1,l8⟩ (aJ b1 (bi (L=H) (∃v,M=IR ae) (dG (ajs i) aan=ai)) (ai qg rfl) (mL (z.1▸l8)))))];{rw[g4 L v g];have⟨p,a3,J⟩:=oA c2 c9;rw[aK (ajs (i+1)) (ajs i) p a3,e l.1 l.2 p (cA S b6 J) sl.1.ks sl.2.ks (e8 p (bO a3)).ks Ka];{have:c5.any aan=ab:=a38 (v p (bO a3) c);rw[this,aB_]at k;exact k};{refine ai ei ?_;rw[g9,List.any_append,g];simp at c;simp[c]}};rw[fE L v g,db ai6 g];rw[g,aB9]at k;rw[bD c0 ⟨ws,hw⟩ (aJ ws (fun i M j1=>yU (j1=L) (∃j5,M=IR j5) (dG (ajr i) (Cn l)=ai)) (ai qg rfl) (fun i M j1 _ z=>z.1▸hw))];{rw[g4 j1 j5 g8,c J I b n a4 U r1 r2 (oA j c9)];have sm:=e J (bO I);rw[aK (ajr (i+1)) (ajr i) J I];have k0:=gS (by have:a79=ab:=a38 (v J (bO I) c);rw[bs this];exact k);have f6:Cn l J=ai->dG (ajr (i+1)) (Cn l)=ai:=gS ag;have⟨e5,b4,d2⟩:=S;have⟨e6,b9,q2⟩:=r2;subst b4 b9;rw[da b U (m e6 e5 (oC q2) (oC d2) ?_)];rw[aWk];unfold Cn at k0 f6;rw[kj];{rw[Ds (a _ _ _ _ l.1 l.2 J.1 J.2 (a rfl S b6 r1 r2 sl.1 sl.2 sm.1 sm.2 a_O)),l (k0 ag),l (ai ei (f6 ag))]};{refine ai ei (f6 ag)}};rw[fE j1 j5 g8,db j.length g8,bs g8];exact k
universe z
structure vx(H:Hp)(l:Addr)(Y:bg)(g:AR):Prop where
 lst:am l Ar
 nd:aDT
 len:eM=N0
 at_:Ht (I ns (A g ns) (am a je) (a≠l))
theorem vx.mono{H L:Hp}{l:Addr}{Y:bg}{g:AR}(h:aH0)(s:bQ):vx L l Y g:=KL (bv q)
theorem vx.get{H:Hp}{l:Addr}{Y:bg}{g:AR}(h:aH0){i:Nat}{ns:ao}(hi:A g ns):I a Ey (am a je) (a≠l):=by rw[cS a5 (i<eM) aju N0];obtain⟨I,e,q,n⟩:=a'T;rw[a6 hi,dS];exact bc5
theorem vx.put{H:Hp}{l:Addr}{Y:bg}{g:AR}(h:aH0){i:Nat}{a:Addr}(b3:Ey)(ns:ao):vx (ap a je) l Y (g.set i ns):=by have⟨d,f5,N,c6⟩:=aGD;rw[bgS,Z4,H8 ak];{have⟨I,b4,d2,n1⟩:=mV j b U;exact d I bz (Y bfa d2) n1}
noncomputable def vy(ls:nD)(i:Nat):ao:=ls.filterMap (mw (av (l.1=i) l.2 (av (l.2=i) l.1 ae)))
theorem aWl{ls:nD}{n:Nat}{e:fz}(h:e.1≠e.2)(a3:e.1<n)(a9:e.2<n):(bp (bp (d7 (vy ls)) e.1 (vy ls e.1++[e.2])) e.2 (vy ls e.2++[e.1]))=d7 (vy amS):=by rw[alP,aGB];simp only[a39,Nc,WT,M0,bA,aCZ];have f9:vy amS i=vy ls i++(v e.1 i [e.2] (v e.2 i [e.1] [])):=by{delta vy;rw[aiT];rw[dW];simp only[He,aDn];rw[N d2 e.1 i,aZ,cL]};rw[f9];rw[N q2 e.2 i,az,cL]
inductive axC(C:Addr)(vs:af)(H:Hp)(Q:VK)(E:XK):Prop|mk:dc (zw Yl) Q3 (QS->(∀l Y L,bQ->vx L l Y (ce df DI)->Q cC L)->axC C vs H Q E)
section z
theorem aWm:T.av8.Ok P w aj 1 (axC bJ):=by refine T.av8.go aTJ aL;generalize aG=e3,aA=A,aF=outer,aE=s,aD=H,aB=vs,aH=Q,aI=E;rw[aN,M iw,aX,Bk,co c1 c9 o,fD,Q2,aaY,fV,ev (b4 (e ajv 1 pI (cj "point" 2) (ci 2 ajv) kK (bC AW)) (mz pI (V 3 ajv 4 ajv) (c8 (dD amX bR) (dD (bs aq bR) bb))) aq) (a hd dR gb fX b2 rfl (dB c5 a3) (fun Z f=>g8 (bQ/\g3 Z gp (b≠Z)) f a3))];{rintro i x L S⟨s,Y,e,len,nd,al⟩;have hi:=bx S;have p4:=qY;rw[im ⟨cT,fun b U=>?_⟩];have a5:b≠Z:=J ah;rw[K3 f,l2 ak,be_,biA]};rw[Kv a8,bg2,a2 (dj hd) (s kC ku X (dB ls (dj a9)) (bV ls (bi (vp (fun j8 b1=>M=[kJ,ac Z,ae,j8,b1])) bQ (vx L Z Y aHC)) (v Kc a4 (by rw[HV a8T];have hi:=bx U;rw[a'L];rfl)) a9))];{rintro i x M L S⟨⟨j8,b1,rfl⟩,s,N⟩;rw[BU (oA f6 S)];have C:=c1 e um;rw[apj,bfz,ak g7 aHC e.1 (le e.1) m9];obtain⟨e5,e0,d2,n1⟩:=N.get g7;have d:∀j,bd (le j) 8192:=iQ (by rw[tc (a3_ _ _)];rw[eS];exact cn (oP i lH) o);rw[b b _ rfl (cx (bv U)) rfl Z _ _ (a (gR e5) rfl rfl (av wW) (nd e0) (dq d2) e5 _ (f _ rfl d2 (as (D5 (d e.1))))),aS a7 (bh (le e.1)++[gZ e.2]) (bh aaI)];rw[a7];rw[b2 (N.put e0 aaI),aj n (U L e5 (bh aaI)) (fG s (aV (al e5 (bO e0)))),i L e5 (bh aaI) b7 l n,dC g8 (ap (bp aHC e.1 aaI) e.2 (le e.2))];obtain⟨e6,g0,q2,n2⟩:=l.get g8;rw[r Z (gR e6) (av l.lst) (nd g0) (m (dq q2) e6 q2 (D5 (d e.2)) ?_),aS p (bh (le e.2)++[gZ e.1]) (bh a'K)];rw[p];rw[ak (bm _) (fG n (aV (al e6 (bO g0))))];have g:=l.put g0 a'K;rw[aWl (fX (gv z.g C.1)) m9 C.2]at g;rw[J g9 g]};rintro M L⟨⟨j8,b1,rfl⟩,s,N⟩;rw[db NZ N];exact(k Z Y L s N)
universe z
inductive rGN(K:Fg)(x y:V)(H:Hp)(Q:VK):Prop|mk:∀(p:Addr)(O:af)(j:Nat)(v:V),b x fO (y=vn j) ZK ans (AH->rGN K x y H Q)
theorem aWn{X:Cx}{K:Fg}(g:fB):aqU X (rGN K):=by subst g;intro au s M H o i ov c Q I b a h;rw[c p O j v rfl e0 S q h];cases b;rw[ep a,a9 J d5 OE,bl n m (ahe S)];have b8:=bx S;rw[fV];exact wpAny_getItem_list zl aQ fk ag (a v H I m q)
def Uo:Rl iY:=fun _ v o=>match o with|none=>v= .bC|some n=>v=jf
theorem LP{p:uv}{n i:Nat}(hi:i<n)(h:p i=ab)(g:yW (p j)):QQ=aa i:=GM.auA.mpr (v hi h g)
theorem Up{p:uv}{n:Nat}(g:E j (j<n) (p j=ai)):QQ=ae:=GM.aeK.mpr g
inductive axE(vs:af)(H:Hp)(Q:VK)(E:XK):Prop|mk:IN (A [cC] alH (t1 (ch n (dJ (s1 (a5 i))))) (axE vs H Q E))
noncomputable def Co(par:gn)(x:Nat):V:=match par x with|none=> .bC|some p=>jN
noncomputable def yX(B:ao)(par:gn):gs:=ajw (fun(x:Nat)=>((hE x:Key),Co par x))
theorem GU(par:gn)(y:Nat):∀B:ao,fa ak0 (hE y)=av (y∈B) aIK ae|[]=>rfl|x::J=>by have d6:=GU par y J;unfold yX at d6⊢;rw[da];rw[b1 x y];{rw[bY];rw[sf rfl,aK bK]};{rw[sg (by rw[fS];exact e cq),d6];by_cases m:y∈J;rw[aZ,cL]}
inductive axF(vs:af)(H:Hp)(Q:VK)(E:XK):Prop|mk:∀(l d:Addr)(Y:bg)(n:Nat)(a5:lZ)(B:ao)(par:gn),e [cC,ny] alH (j5 n) (bh d O_) (ad v (Uo H v (ch n aJ7)) AH->axF vs H Q E)
inductive axG(vs:af)(H:Hp)(Q:VK)(E:XK):Prop|mk:IN (e [cC] alH (0<n) (j5 n) (j (ad x (n<=x) (a5 x=[])) (e3 (dt (a5 x) (y<n))) (e3 (j5 Y3)) (apo) (∀d B par L,j bQ (Y d) (L d=aa O_) aLs alU (Q ny L)) (axG vs H Q E)))
section z
theorem aWo:T.av9.Ok P w aj 1 axE:=by refine T.av9.go ae2 aL;generalize aG=e3,aA=A,aF=outer,aE=s,aD=H,aB=vs,aH=Q,aI=E;rw[aN,M oc,aX,al l Y n a5,dt N,ap0,cn (bo (t bS 1 ae2.nd 2 ae2.nd (D lq (dN aw) bE aq)) cu) (av wW) (bv n (bi (vp (fun O o=>M=[tR,O,o])) bQ (yW (s1 (a5 j)))) (v Kc eg (i4 Au))),CK (as (gR (dx Y ag)) (br wW) ag),wD (av (br wW) ag)];{refine iw;rw[F i M L x b7];rintro hi⟨⟨O,o,rfl⟩,s,g⟩⟨t,y,rfl,c6,rfl,b6⟩;rw[n1 (br wW),cl gi (A (d7 a5) (a5 i)),eI X nc (N.get gi)];rw[cz,b0]at b6;cases b6;rw[tg (eq (.ref c)),d t _ rfl (cx ak) rfl c _ (as (cc (gH X)))];rw[bA];rw[FK];{rw[bD (ax b5 ?_)];rw[LP hi (ax (l_)) g];rfl};{rw[aa (bm _) b5 Rq,Z4];{rw[fT]};rw[l (g j (iM e))]}};{refine fP;rw[X1];rintro⟨⟨O,o,rfl⟩,s,g⟩;rw[Ji];rw[Up g];rfl}
theorem aWp:T.av'.Ok P w aj 1 axF:=by refine T.av'.go au9 aL;generalize aG=e3,aA=A,aF=outer,aE=s,aD=H,aB=vs,aH=Q,aI=E;rw[aN,M ob,aX];generalize kQ=l,kR=d,kS=Y,kT=n,kU=a5,kX=B,k_=par;rw[av N d1 hd k,ap0,b _ (bo (an (os nB) 2 au9.nd (dl (Bv (SG xx aw aq)) aw)) cu) l _ rfl (cc wW) cK ag (aJ aQ (w1 d1))];rw[iQ];rw[fw n (bi (L=H) (∃o,M=[tR,rx,o]) (yW (! cv (j∈B)))) (ai qg (i4 Au))];{rintro i M L hi⟨rfl,⟨o,rfl⟩,g⟩;rw[aLI];rw[d2];rw[s7 (jm.k (k:=ht xv) hd)];rw[GU];by_cases m:i∈B;{rw[aK m];refine ai ei Rq;rw[Z4,aZ,l (g j (iM e))]};{rw[aO m,bD (k _ ?_)];rw[LP hi (ar m) g];rfl}};{rw[fE L o g];refine k _ ?_;rw[Up g];rfl}
universe z
theorem LQ{n j:Nat}(h:j<n):qv n (v j)=aa j:=b0 qv (aK aQ) (aK (x (mh h))) iQ
theorem afI{I:Type}:∀l:ba,kv (au (cd 0))=Vq d_ 0|[]=>rfl|a::J=>by rw[da,afI J];rfl
theorem axH{f g:cD}{x:Nat}(e:g x+1=f x)(o:E y QG (g y=f y)):E n (x<n) ((d7 g).sum+1=(d7 f).sum)|0,h=>rf h|n+1,h=>by rw[ajx,fe,fe,aDU,aDU];simp only[da,zq,a3',List.sum_nil];rw[iL n];{rw[e_];have:ce x g=ce x f:=aiE (oU (o y l_));rw[nY];simp+arith [*]};{rw[ds (axH e o n (cw h q))];rw[o n (J (q wg))];simp+arith [*]}
noncomputable def aWq(a5:lZ)(n:Nat)(o:ao):Nat:=(d7 (ab (Y3-Yn))).sum
theorem aWr{a5:lZ}{n:Nat}{o:ao}{x:Nat}(S:x<n)(i0:aDW=n)(h:Yn<Y3):oV (aDV x (Yn+1))+1=oV o:=by refine axH (x:=x) ?_ Q5 n S;{rw[fT]};rw[dV]
theorem aWs{o:ao}{x:Nat}(S:x<aDW):(e7 (am (aDV x (Yn+1)) y 0))=GM.bump (e7 (aDX y 0)) x:=by funext y;delta GM.bump;rw[WB];rw[b1 y x,aZ,cL]
theorem aWt{B:ao}{par:gn}{y t:Nat}(h:y∉B):mM ak0 (hE y) (vn t)=yX (eA B) (WU par y t):=by rw[aPW _ (bj GU (bj h))];delta yX;rw[fe];rw[dW];{rw[jM qk];have:x≠y:=an (h ah);delta Co WU;rw[aO this]};{simp[Co,WU]}
section z
theorem aWu:T.av_.Ok P w aj 1 axG:=by refine T.av_.go aTK aL;generalize aG=e3,aA=A,aF=outer,aE=s,aD=H,aB=vs,aH=Q,aI=E;rw[aN,M oc,aX,al l Y n a5];rintro rfl N c6 d1 b8 b1 g sym k;rw[ap0];have f3:=qJ;rw[eZ (L N1 (aQh (aQf bE cu aQe) rfl rfl Rp ay) (aS N1 2 3 3 N1) (i 4 N1 (d9 bE) (F0 NV (afm K bR) (i 5 N1 (bs bR (aqZ aq2 bE)) (ai gM (iX cJ) (dN (eC cJ)) (B9 bR) aNP) (i 6 N1 (bs (eC cJ) (iX cJ)) (qH aw cJ) (fE (rZ (Bv (SG xx eu aq)) (c8 (dY aq eu cJ) (dD bR eu)) By))))) (df aq))) (s2 (f ak a7h ay ?_))];rw[yt];rw[x4 aJe,e b4 H d aJe d (.dK (yX [0] uw)),is (ad d aJe),biB,a7 l (dj wW) (sP (d oz aoS sx a9 (au xq) h7 a'M)),eZ a x b3,bbN];have c3:=vm f6;rw[eT c3,bgW];rw[g9]at c3;rw[jW];have c5:=IV;have W:=fm b4 h7;rw[v (bB) (fun p a0=>?_),T c8 b7 (U b7 p hb) a0,a e7 b7 p hb p hb,ck I p d,M O p t bM,g1 p hb];have Hp:=eV eN a0;rw[ak (qH (K_ (m=anV+aDY/\M=bh'/\dc bQ (L d=aa O_) (aj t (tm vn)) (aj p (path.map vn))))) (a _ [0] uw (Vq n 0) [0] ae ae rfl (a rfl (B eN c8) (dn c5) (dn b9) e7 aBL ?_ (aJ ah) bB a_))];{have:(ab (am (Vq n 0) x 0))=ng:=bz;rw[nY];exact GM.aRo a5};rintro m M L⟨B,par,o,path,i1,j5,rfl,rfl,s,a3,j,e1,C,D,lt,lo,b2⟩;rw[ca (.inl (bm (av e1)))];rcases a4b dI with rfl|⟨f,e,rfl⟩;{rw[bD (k d B par L s nd a3 (D.tree sym) lt)]};{have c4:=Nn e aQ;have c7:=lt e c4;rw[a4a]at*;have ne:(!(bh Ba).isEmpty)=ab:=by{simp};rw[ne];rw[cl c0 (K o e Ed),cl r (ap (d7 a5) e (a5 e))];have⟨c,b0,X,nc⟩:=(ajz s).get r;have Z:=(ajz s).lst;rw[c (of (anV+t Ba) (K_ (f7=anV+aDY/\g0=bh'/\dc (cZ H j1) (j1 d=aa O_) (b5 (j1 t) (tm vn)) (b5 (j1 p) (path.map vn))))) aaU p _ _ (vn e) (b rfl rfl (av e1) (t fe (arB _ _)) t _ (vn Ed) (b rfl rfl (av j) Pa l _ (gR c) (b rfl rfl (av Z) (nd b0) c rfl (cc X) gJ)))];rw[dN,bA];rw[FK];{rw[c (dq e1) p _ (vn e) rfl e1 aQ (a (anV+Dr) aQ B par o f _ j5 (a rfl rfl (fG s Hp) (Y I.symm a3) (Y O.symm j) (nM ak) C (D.pop rfl bz) lt lo (nE b2)))]};{have h8:=D.SY e;have d3:Ed<t (a5 e):=by{lia};have u:=dd d3;generalize(a5 e)[Ed]=y at u;have G:=b1 e y (bO u);rw[r l (gR c) (av Z) EE (D t Ed (av j) EE (D c y (av X) EE (f t _ e (vn Ed) rfl (av j) ah (cZ t e j ah)))),bN a7 (bdf) JF ajy,tw (U L t bdf)];rw[a7];rw[aj d9 (U L t JF) (fG s (gV h7)),z g4 (upd L t (.lst JF) d=aa O_) (bW W) a3,a h3 L t JF t JF,z h6 (N L t JF p (bh Ba)) (bW O) e1];generalize U L t JF=e4 at d9 g4 h3 h6;have F:=aWr (a5:=a5) c7 C d3;rw[bL e0 (t ak1) n,s7 (wW g4)];rw[GU];by_cases U:y∈B;{rw[aK U];rw[b (2*oV ak1+t Ba) bM B par _ Ba _ _ (a rfl rfl d9 g4 h3 h6 e0 ?_ lt lo b2),J bcA (D.old aHd u U)]};{rw[aO U];have R:eB+1<=n:=by{rw[dj (asl D.nd U) (eJ n) (aJ (by rw[hZ S,aZ,az])),gf]};rw[s7 (qx.k (k:=hE y) g4 (n5 yX (hn R d1 fw)))];rw[aWt U];rw[z e2 (b5 (upd e4 d (.dK (yX (eA B) (WU par y e))) p) (bh Ba)) (bW I) h6,bL d5 (t Ba) n pN,n (dq e2) p e2 (x (RR b2 R d1 fw)) (a (2*oV ak1+t (eA Ba)) (eI F.l F.l) (eA B) (WU par y e) _ (eA Ba) _ _ (a rfl rfl (fG (gb d9) Hp) ?_ ?_ ?_ e0 ?_ ?_ ag ah))];{rw[bW I.symm,ak]};{rw[bW O.symm,bW W.symm];exact h3};{rw[ak,<-List.map_singleton (f:=vn),<-fe]};rw[Z bcA (D.new sym aQ u U)];{intro x S;rw[hZ S,aZ,az]}}}}
universe z
def mA(N:bg):Rl CC:=fun H v x=>match x with| .lead row m=>∃a i7 b8,iX (lL bb8) (e4 i7 row/\aaa/\i7∉N)| .erase i j=>z a (v=bc) (lL [.int 1,pD,vn j])| .move k p=>∃a pv,v=bc/\lL [.int 2,vn k,pv]/\br pv p| .mark i m=>∃a b8,v=bc/\lL [.int 3,pD,b8]/\aaa| .drop k=>z a (v=bc) (cw (d_ 4 (vn k)))
def LR(C:Addr)(H L:Hp)(r:Gla.Plan)(b2 X:Addr)(x:Gla.Step)(v:V):Prop:=match ajA r x with|none=>v= .bC|some T=>∃b6 a e7 i I,iX (LL C L a b6 e7 i I) (DG b6/\zN b6=zN T/\z (zN T=ae->b6=T) (Y a) (Y e7\/e7=b2) (Y i\/i=X) (Y I))
inductive axI(C:Addr)(vs:af)(H:Hp)(Q:VK)(E:XK):Prop|mk:∀(a:Addr)(r:Gla.Plan)(b2 X G:Addr)(a0:V)(x:Gla.Step),e [bc,a0] Qm (mA [] H a0 x) (wX r) (Ic x->nI x->axI C vs H Q E)
def Uq(C:Addr)(H:Hp)(v:V):cu Em|none=>v= .bC|some B=>∃b b2 X G,v=cW/\LL C H b B b2 X G
inductive axJ(C:Addr)(vs:af)(H:Hp)(Q:VK)(E:XK):Prop|mk:lK (DG D) (aLF->gc (zN D)->axJ C vs H Q E)
universe GA
namespace GM
noncomputable def sm:cD|0=>0|n+1=>5*sm n+1
noncomputable def fn:gH Nat Nat|0,x=>x|n+1,x=>5*fn n x+1
theorem LS:aP n x (fn n x=5^n*x+sm n)|0,x=>eJ fn sm|n+1,x=>by simp only[fn,LS n x,sm,HR];grind-abstractProof
theorem afJ:∀(a b x:Nat),fn (a+b) x=fn a (fn b x)|0,b,x=>ar fn|a+1,b,x=>n7 fn (afJ a b x)
theorem aWv(a b:Nat):sm (a+b)=5^a*sm b+sm a:=by have h:=afJ a b 0;rw[LS,LS,LS]at h;simpa using h
theorem afK:∀k,∃u,5^(2^k)=1+4*2^k*u|0=>⟨1,ay⟩|k+1=>by rw[i4 u (afK k),dI (u+2*2^k*u*u)];rw[HR,Nat.pow_mul,h];grind-abstractProof
theorem axK:∀k,∃v,sm (2^k)=2^k*(2*v+1)|0=>hi ay|k+1=>by have⟨v,h⟩:=axK k;have⟨u,g⟩:=afK k;rw[dI (v+2*2^k*u*v+2^k*u+0+(2*v+1)*0)];rw[show uu=2^k+2^k by grind,aWv,h,g];grind
theorem aWw(k x:Nat):∃c,fn (2^k) x=x+2^k+uu*c:=by obtain⟨u,g⟩:=afK k;rw[i4 v (axK k),dI (2*u*x+v)];rw[LS,g,h,HR];grind-abstractProof
theorem axL:∀(k i j:Nat),z n (n<2^k) (JW%2^k=j%2^k)|0,i,j=>v 0 ay cq|k+1,i,j=>by rw[bc6,cZ f6 uu (2*2^k)];have p:e3 (x%uu=x%2^k\/x%uu=x%2^k+2^k):=ab (by rw[f6,aiy,a3n];rw[al (Nat.mod_two_eq_zero_or_one (x/2^k))];{rw[xn]};simp[*]);rw[T (JW%uu) (j%uu),cL];{rw[ak (2^k+n) (bn f6.g d1)];rw[afJ];rw[da h (aWw k JW)];rw[h,Nat.add_mul_mod_self_left];rw[cy (p JW),cb (p j)];rw[e]at a;rw[aS d ((JW+2^k)%uu) ((JW%uu+2^k)%uu)];rw[d];rcases a with a|a;{rw[a];rcases b with b|b;rw[az];{rw[b,er eO]}};{rw[a];rcases b with b|b;{rw[b,dw (j%2^k+2^k+2^k) (j%2^k+uu),Nat.add_mod_right,er eO]};simp_all}}
theorem aWx{k i a b:Nat}(b3:a<2^k)(U:b<2^k)(h:fn a i%2^k=fn b i%2^k):a=b:=by have O:∀(m:Nat)(f:cD),ad n (n<m) (f n<m)->ad j (j<m) (z n (n<m) (f n=j))->f a b (a<m) (b<m) (f a=f b) (a=b):=by{intro m f W c a b b3 U e;rw[a8r];let l:=(eJ m).erase a;rw[cZ G (t xQ) (m-1),e1 all (∀j∈eJ m,j∈xQ)];have len:∀{l m:ao},aMw:=by{rw[rF];induction l with|nil=>{intros;exact cT}|cons x l d6=>rw[bZ m nd];have n2:=AE;have N:=Gv cq;have a8:=h x bK;have:=aCq a8;rw[oQ N];exact mM N a8};have:=len WV all;rw[am G,uk];exact gv this (aC m 1 b3)};have V:0<2^k:=a3q ay;exact O (2^k) (eb (JW%2^k)) (fun n _=>VX _ V) (i4 (by rw[bc6];exact v n d1 (bj e (er b8)))) a b b3 U h
universe GM
namespace GM
open PySem PySem.SetTable
noncomputable def Ur(t:SetTable)(p:Probe):Ig:={p with j:=FJ,more:=kD dg FJ-FJ,i:=FJ,perturb:=(tn dg p.i Ie).2}
theorem aWy(t:SetTable)(p:Probe)(h:iW=0):zO p=Yd:=by delta aDZ Ur;simp[h]
theorem aWz(t:SetTable)(p:Probe)(h:0<iW):zO p=bcB:=cG aDZ kO
noncomputable def oG(p:Probe):ao:=ce (iW+1) (p.j+ ·)
noncomputable def lx(t:SetTable):gH Ig Ig|0,p=>p|J+1,p=>lx t J Yd
noncomputable def path(t:SetTable):gH Ig ao|0,_=>[]|J+1,p=>ur++aIS
theorem aWA(p:Probe)(h:0<iW):ur=p.j::oG bcB:=by delta oG;simp only;rw[aS (iW+1) ((iW-1+1)+1) (cV (aS iW 1)) (cV (aC iW 1 h)),ahn,da,jw];simp only[HC];rw[dW,a8k];simp only[Wu];simp+arith [*]
theorem aWB(p:Probe)(h:iW=0):ur=[p.j]:=f7 oG h
theorem axM(t:SetTable)(p:Probe):∀(J:Nat),aHq=p.j::bo (iW=0) (dI t J (zO p)) (dI t (J+1) (zO p)):=by intro J;rw[d3 h iW];{rw[aK h,aWy t p h];simp only[dI,aWB p h,List.singleton_append]};{rw[bj h,aWz t p amt];simp only[dI];rw[aWA p (x (aV aNe h)),ahu];rfl}
theorem axN(t:SetTable)(hashAt:ee)(h:Int)(nd:bdm):∀(r J:Nat)(p:Probe),bd hL r->(aJa)->ax m bgJ m|r,0,p,_,⟨j,b8,_⟩=>a7Y|0,J+1,p,l,_=>ah|r+1,J+1,p,l,⟨j,b8,e⟩=>by rw[axM]at l b8;simp only[aD0];cases c0:zP p.j with|empty=>{exact ei}|dummy=>{simp_all}|live i=>simp only;split;{simp};{rw[wK b8];have M:=b8.resolve_left Qj;rw[T iW 0,g5 (aK q) J (x (a2K l)),g5 (bj q) (J+1) ah]}
noncomputable def cands(t:SetTable)(hashAt:ee)(h:Int)(l:ao):Nat:=t (zx (iQ (match xj with| .live i=>DJ i==h|_=>ai)))
theorem GV(t:SetTable):AC (hL=(eJ J).flatMap aKF)|0,p=>rfl|J+1,p=>by rw[ahn,pa,aC6];simp only[dI,lx,GV t J]
theorem LU(t:SetTable):∀(a b:Nat)(p:Probe),lx t (a+b) p=lx t b (lx t a p)|0,b,p=>ar lx|a+1,b,p=>by rw[dw (a+1+b) ((a+b)+1)];simp only[lx,LU t a b]
theorem Us(t:SetTable):AC ((g0 J).perturb=Ie/32^J)|0,p=>ar lx|J+1,p=>by simp only[lx,Us t J];show(Ie/32)/32^J=_;rw[Nat.div_div_eq_div_mul,HR,aiy]
theorem afL(t:SetTable):nl (0<J) ((g0 J).j=(g0 J).i/\s0 (g0 J))|0,p,h=>ah|1,p,_=>by{rw[bu];show kD dg _-_<=9;delta kD;rw[Zg]}|J+2,p,_=>Hq (afL t (J+1) _ pT)
theorem Ut(t:SetTable){k:Nat}(c3:anA):∀(n:Nat)(q:Probe),q.perturb=0->q.i<2^k->(aln).i=fn n q.i%2^k/\aG_=0|0,q,b1,hi=>by{simp[lx,fn,er hi,b1]}|n+1,q,b1,hi=>by have d6:=Ut t c3 n q b1 hi;rw[dO (n+1) (n+1),LU t n 1];constructor;{show(tn dg (aln).i aG_).1=_;delta tn;simp only[d6.1,d6.2,c3,fn];rw[Nat.zero_div,HC,a4c,a4d,Nat.mod_mod,<-a4d,<-a4c,aiy]};{show(tn dg (aln).i aG_).2=0;delta tn;simp only[*]}
theorem axO(t:SetTable){k:Nat}(c3:anA):nl (0<J) ((g0 J).i<2^k)|0,p,h=>ah|1,p,_=>by{show(tn dg _ _).1<_;delta tn;simp only;rw[c3];omega}|J+2,p,_=>Hq (axO t c3 (J+1) _ pT)
theorem aWC(p:Probe):t ur=iW+1:=ar oG
structure axP(t:SetTable)(k:Nat):Prop where
 mask:anA
 GW:a9d
 fill:qZ<=dg
theorem afM{t:SetTable}{j i:Nat}(h:xj=Yj):j∈zQ:=by rw[a4 aD1];grind-abstractProof
theorem afN{t:SetTable}{k:Nat}(Y:yk)(j:Nat):xj≠.dummy:=by delta aD1 aD2;rw[Y.GW];rw[xo]
theorem afO{l m:ao}:aMw:=by induction l generalizing m with|nil=>{intros;exact cT}|cons x l d6=>rw[du nd];have n2:=AE;have:=aCq (h x bK);rw[ci (Gv (ae (a2P (fun(e:y=x)=>n2.1 (e▸b6))) (h y (ck b6)))),cR this];exact mM q (h x fu)
theorem aWD{t:SetTable}{k:Nat}(Y:yk):z e (e<=dg) (zP e= .empty):=by rw[anD];have all:aK (eJ (dg+1)) (x∈zQ):=by{rw[Bm];cases h:zP x with|empty=>{grind-abstractProof}|dummy=>{rw[dQ h (afN Y x)]}|live i=>exact afM h};have:=afO WV all;have:=Y.fill;simp at*;lia-abstractProof
theorem aWE{t:SetTable}{k:Nat}(Y:yk){p:Probe}(c2:Ie<2^64):∃j∈amL,Jb:=by rw[gt c0 (aWD Y),bdS];have D:e<2^k:=by{have:=N2;exact fb a0 this.l};rw[er D]at a7;rw[cp e c0];rw[GV,V4];rw[ak (13+n) ag,b2 (Ut t N2 n _ (by rw[Us];rw[fT]) (BE N2))];delta oG;rw[fJ];rw[ak 0 aQ,bgv]
theorem axQ{t:SetTable}{p:Probe}(c4:iW<=9):∀(J:Nat),bd hL (10*J):=by intro J;rw[GV];have:∀(l:ao),bd (ND aKF) (10*d_):=by{rw[rF];induction l with|nil=>{exact cT}|cons a b d6=>rw[pa,cj,aWC,ia];have:s0 (g0 a):=by{rw[al (a4e a),Z q c4,l (afL t a p q).2]};exact cf this d6};grind-abstractProof
theorem aWF{t:SetTable}{k:Nat}(Y:yk){p:Probe}(c4:iW<=9):bd amL (10*Ih dg):=by have:=axQ (t:=t) (p:=p) c4 I3;have:=N2;delta Ih;lia-abstractProof
noncomputable def vz(t:SetTable)(j:Nat):cb:=cv (j∈zQ)
theorem axR{I:Type}{p q:AZ}:qt (bk l (p x=ab->q x=ab)->bd (zx p) (t (zx q)))|[],_=>aQ|x::l,h=>by rw[ds (axR (p:=p) (q:=q) l aIY)];grind-abstractProof
theorem aWG{t:SetTable}{hashAt:ee}{h:Int}(l:ao):WW t DJ h l<=t (zx (vz t)):=by delta WW;refine axR l (fun j _ q=>?_);cases c0:xj with|empty=>{simp_all}|dummy=>{simp_all}|live i=>delta vz;simp only[iS];exact afM c0
noncomputable def Cp(f:cD):Nat:=(ce 10 f).sum
theorem aWH(f g:cD):py (f o+g o)=Cp f+Cp g:=by delta Cp;generalize eJ 10=l;induction l with|nil=>{rfl}|cons a b d6=>simp+arith [*]
theorem aWI{f:cD}{c:Nat}(h:∀o,f o<=c):Cp f<=10*c:=by delta Cp;have:∀l:ao,(xQ).sum<=d_*c:=by{rw[rF];induction l with|nil=>{exact cT}|cons a b d6=>rw[kv a3' ia];grind-abstractProof};grind-abstractProof
noncomputable def one(b:Bool):Nat:=Z b 1 0
theorem aWJ:∀(m:Nat)(f:uv),m<=10->bd (dy m f) (py (one (f o))):=by intro m f c4;have a:∀l:ao,t (zx f)=(kv (fun o=>one (f o))).sum:=by{rw[rF];induction l with|nil=>{rfl}|cons x J d6=>rw[bC q (f x)];{rw[ah_ q];simp[d6,one,q];simp+arith [*]};{rw[a4g q];simp[d6,one,q]}};rw[a];delta Cp;rw[show eJ 10=eJ m++ce (10-m) (m+ ·)by rw[<-a4f];rw[dW];simp[*]];rw[fe,aDU];exact xH
theorem axS{t:SetTable}(q:dg Ig)(e0:∀n,s0 (q n)):∀(ns:ao),bd (ea (ns.flatMap (eb (oG (q n)))) (vz t)) (py (t a7_))|[]=>by{rw[t_]}|n::ns=>by have d6:=axS (t:=t) q e0 ns;rw[pa,DK,cj];have e:(fun o=>gr (n::ns) (eb Jk))=fun o=>one Jk+t a7_:=by{funext o;rw[bC h Jk];{rw[ah_ (p:=eb Jk) h];simp[one,h];simp+arith [*]};{rw[a4g (p:=eb Jk) h];simp[one,h]}};rw[e,aWH];have J:gr (oG (q n)) (vz t)<=py (one Jk):=by{delta oG;rw[a4h,bA];have:=aWJ ((q n).more+1) (vz t∘((q n).j+ ·)) ag;exact this};exact aD3 J d6
theorem aWK{t:SetTable}{k:Nat}(Y:yk){p:Probe}(c2:Ie<2^64)(c4:iW<=9)(hashAt:ee)(h:Int):WW t DJ h amL<=130+10*qZ:=by rw[tc (aWG _)];rw[GV,a0 (eJ I3) (eJ 13++ce (2^k) (13+ ·)) a4f,zL,DK,cj,aC6];have a:gr ((eJ 13).flatMap aKF) (vz t)<=130:=by{rw[tc AO];rw[<-GV];exact axQ c4 13};have j4:∀n,(g0 (13+n)).j=fn n (g0 13).i%2^k:=eb (ac (aGG).1 LU (Ut t N2 n _ (by rw[Us];rw[el]) (BE N2)).1);rw[cb (axS (t:=t) (eb (lx t (13+n) p)) (eb (aGG).2) (eJ (2^k)))];have c:(py (t (dy (2^k) a_3)))<=10*qZ:=by{refine aWI (fun o=>?_);have nd:c7 (L (dy (2^k) a_3) (eb ((g0 (13+n)).j+o))):=by{rw[JZ,hY (a26 _ WV),rc e];have d:=fb b3;have j6:=fb U;simp at d j6;rw[j4,j4]at e;exact ne (aWx d j6 (a0X e))};have:=afO nd (m:=zQ) (aJ (by rw[a3 n d1 S];have:=(vL d1).2;unfold vz at this;rw[gf]));rw[gf]};exact hn a b c
theorem aWL{t:SetTable}{h:Int}:(N3 h).perturb<2^64/\s0 (N3 h)/\(N3 h).dummy=ae:=by delta SetTable.probeStart;rw[cp ?_ rfl];{delta Ii;lia};{show kD dg _-_<=9;delta kD;rw[Zg]}
def iJ(O:PN):Prop:=O.toList.Pairwise (· < ·)
theorem afP{O:PN}(h:iJ O){a b:Nat}(u:a<b){x y:Nat}(S:nT a)(b6:K O b y):x<y:=by rw[<-pj]at S b6;rw[eA F a a4i,eA i5 b a4i,dc F S,dc i5 b6];have:=Nf h a b F i5 u;rw[bX (c_ S) (c_ b6)];exact this
theorem afQ{O:PN}(h:iJ O)(j:Nat):∀(r lo hi:Nat),j (hi-lo<=r) (lo<=hi) (hi<=ip) (zY lo) (zZ hi) ((aMI<=ip)/\zY aMI/\zZ aMI)|0,lo,hi,f,l,s,a,b=>by{have:hi=lo:=gy (cf (aS hi lo) f) (cV l);rw[gm];simp only[aD4];exact v s a b}|r+1,lo,hi,f,l,s,a,b=>by simp only[aD4];by_cases q:lo<hi;{rw[aK q];have g8:uO<ip:=by{lia-abstractProof};have mg:=lI g8;rw[cs d (O.getD uO j) O[uO]];by_cases c:O.getD uO j<j;{rw[aK c];rw[d]at c;refine afQ h j r _ _ Bf fk s baa b;rw[cZ (qO (HE R)),cb (afP h z S mg) (js bG bG)];simp_all};{rw[aO c];rw[d]at c;refine afQ h j r _ _ Bf fk ej a baa;rw[cZ (qO R),cb (afP h z mg S) (ew (fb (qq c) this))];simp_all}};grind-abstractProof
theorem LV{O:PN}(h:iJ O)(j:Nat):tf O j<=ip/\zY (tf O j)/\zZ (tf O j):=cG tf (afQ h j ip 0 ip aQ (x cT) a_ (fun i x q=>ah) (fun i x q S=>ah))
theorem afR{t:SetTable}{k:Nat}(Y:yk)(R:iJ lJ){j i:Nat}:xj=Yj↔A lJ j:=by have b:=LV R j;delta aD1 aD2;simp only[Y.GW];constructor;rw[ER];{rw[eD];have e:fy=i:=by{rw[fe fy i];{rw[eA l fy qZ];have g:=lI l;have e0:=b.2.2 _ _ a_ g;have g0:=afP R q g h;lia-abstractProof};rw[iy];grind-abstractProof};rw[e,h];simp}
theorem afS{t:SetTable}{k:Nat}(Y:yk)(R:iJ lJ){j:Nat}:Jb↔j∉zQ:=by constructor;{intro h m;rw[h1 m];have:=ae (afR Y R (j:=j) (i:=i)) (a4j (WX ⟨hi,e⟩));simp_all};{rw[eD];cases c0:xj with|empty=>{rfl}|dummy=>{rw[dQ c0 (afN Y j)]}|live i=>rw[dQ (afM c0) h]}
theorem afT{I:Type}(O:fq I)(p:Nat)(x:I)(c2:p<=ip):pu (N4 O p x)=O.toList.take p++x::a1V p:=by delta N4;simp[a36,a35,a34];exact DB aQ
theorem aWM{t:SetTable}{k:Nat}(Y:yk)(R:iJ lJ){j:Nat}(b8:Jb):aGj=fy/\(I_).mask=dg/\(I_).dummies= #[]/\aG'=aLt/\iJ aG'/\(I_).place.size=qZ+1:=by revert Y R b8;revert t k j;refine ap9;rw[cp t k j];intro Y R b8;rw[cb (LV R j),gw (x (afS Y R) b8),ab d5 aG' aLt];have h8:=afT lJ fy j b.1;rw[Q rfl rfl ?_ Pf];{delta SetTable.put;simp only[Y.GW];delta aD2;rfl};{delta iJ;rw[d5,h8,qQ,oY];have C:=R;unfold iJ at C;rw[aa (C.sublist (aBM _ _)) ⟨qk,C.sublist (a4m _ _)⟩ (fun x S y b6=>?_)];{rw[h1 S,a6 a4l,dC g (K lJ (fy+i) x)];grind};{have o:x<j:=by{rw[h1 S,a6 List.getElem_take];exact b.2.1 i x bz bz};rw[wK b6,dd b6 b6,aZ];{rw[h1 b6,a6 a4l];have:=b.2.2 _ y (a4k fy i) bz;exact pN}}};{have:(aLt).toList.length=t.place.toList.length+1:=OJ;trivial}
theorem axT(t:SetTable)(hashAt:ee)(h:Int)(nd:bdm):∀(r J:Nat)(p:Probe)(m:Met),i (p.dummy=ae) (bgJ=aa m) (aJa) (∃(n j:Nat),aI8/\(aP f7 x (f7<n->ap hL f7 x->z i (zP x=Yj) (DJ i≠h)))/\((m= .empty j ae/\xj= .empty)\/(∃i q,m= .candidate j i q/\xj=Yj/\DJ i=h/\q.dummy=ae/\∃B,dI t B q=aJ9)))|r,0,p,m,_,_,⟨j,b8,_⟩=>a7Y|0,J+1,p,m,_,g,_=>bB|r+1,J+1,p,m,b4,g,⟨j,b8,e⟩=>by simp only[aD0]at g;have c5:=axM t p J;have a:(zO p).dummy=ae:=by{delta aDZ;(split<;>trivial)};cases c0:zP p.j with|empty=>{rw[c0]at g;simp at g;rw[b4]at g;rw[pg ah (dq g.symm c0)]}|dummy=>{simp_all}|live i=>rw[c0]at g;simp only at g;rw[c5]at b8;rw[wK b8];obtain⟨B,I,a3⟩:z B (j∈dI t B (zO p)) (aHq=p.j::dI t B (zO p)):=cq;split at g;{next c7=>rw[pg fk (.inr (a i (zO p) (bt (c_ g)) c0 ah a B cq))]};{next c7=>obtain⟨n,f,d1,U,c4⟩:=axT t DJ h nd r B (zO p) m a g (v j I e);rw[aP (n+1) f ah (fun f7 x q S=>?_)];{rw[a3]at S;cases f7 with|zero=>{rw[a4 S (v i c0 (ax c7))]}|succ f7=>exact U f7 x (Nat.lt_of_succ_lt_succ q) S};simp_all}
noncomputable def vA(mask k:Nat)(h:Int):ao:=dI (rd cA) I3 (ci yn (kD cA yn-yn) yn (Ii h))
theorem axU{t t':SetTable}(e:dg=WY):AC (hL=dI t' J p)|0,p=>rfl|J+1,p=>by simp only[dI];have:Yd=Ur t' p:=by{delta Ur;rw[e]};rw[this,axU e J]
theorem aWN(t:SetTable)(k:Nat)(h:Int):dI t I3 (N3 h)=vA dg k h:=f7 vA (axU (t:=t) (t':=rd dg) rfl)
def Uu(mask k:Nat)(taken:mb)(h:Int)(s:Nat):Prop:=z n (ap (vA cA k h) n s) (aP m x (m<n->ap (vA cA k h) m x->Dz x))
theorem Uu.mono{mask k:Nat}{A B:mb}{h:Int}{s:Nat}(u:E x (A x) (B x))(J:z7 A):z7 B:=by rw[aJ n e J];exact v n e (fun m x a b=>u x (q m x a b))
theorem axV(mask k:Nat)(c3:anB)(g:PQ):∀(r J i f:Nat),J<=r->let p:Ig:=ci i (kD cA i-i) i f;let t:SetTable:=rd cA;(∃j∈hL,a_x)->∃n j,aI8/\a_x/\(aP m x (m<n->ap hL m x->aJW))/\aD5 cA g r i f=aa j|r,0,i,f,_=>by{rw[bZ p t];obtain⟨j,b8,_⟩:=h;simp[dI]at b8}|0,J+1,i,f,l=>ah|r+1,J+1,i,f,l=>by rw[bZ p t];have u:i<=kD cA i:=by{delta kD;rw[Zg]};rw[bN C ur (ce (kD cA i+1-i) (i+ ·)) (Nat.sub_add_comm u),ab N aHq (ur++aIS)];simp only[aD5];cases W:ch (kD cA i+1-i) (cj (r5 (DL (i+k) xq)))with|some o=>{simp only;have:=List.find?_eq_some_iff_getElem.mp W;rw[ad po d1 a7 H this];have y:n=o:=by{rw[<-a7,WT]};subst y;have d1:=aCZ▸d1;rw[j n (i+n) ?_ po (dx bab)];{rw[N,C,hx (ax d1),cz,wH d1];rfl};{have Z:=js c4 d1;rw[N,C,hx (ax Z),cz,wH Z]at S;rw[pO];have:=H m c4;rw[gf]}}|none=>simp only;rw[a28]at W;have s:aK ur aJW:=by{rw[Bm];rw[C]at S;rw[a3 k c3 S];exact Wn (W k c3)};rw[aO j b8 h];rw[N,hy]at b8;have M:j∈aIS:=by{rcases b8 with b8|b8;{rw[a6 (s j b8),dS]};rw[l b8]};rw[ab b2 Yd (ci aaV (kD cA aaV-aaV) aaV bdY)];rw[b2]at M N;obtain⟨n,v,a,b,c,d⟩:=(axV cA k c3 g r J aaV bdY ah (v j M e));rw[o (t ur+n) v ?_ b bab d];{rw[N,pt xH,hq (t ur+n-t ur) n];exact a};{by_cases q:m<t ur;{rw[N,hx q]at S;exact s x (bO S)};{rw[N,pt (a3H bG)]at S;exact c _ x (bn (aR (qq q)) c4) S}}
theorem aWO{t:SetTable}{k:Nat}(c3:anA){p:Probe}(c2:Ie<2^64){e:Nat}(a0:e<=dg):e∈amL:=by rw[bdS,b3 D (e<2^k) (fb a0 WZ)];rw[er D]at a7;rw[GV,V4];rw[ak (13+n) ag,b2 (Ut t c3 n _ (by rw[Us];rw[el]) (BE c3))];delta oG;rw[fJ];rw[ak 0 aQ,bgv]
theorem aWP(h:Int):Ii h<2^64:=by delta Ii;lia
def LW(g:PQ)(x:Nat):Prop:=aJW
structure aWQ(mask k:Nat)(c0:aT)(g:PQ)(n:Nat):Prop where
 size:N5=cA+1
 le:n<=lK
 val:aP j i (QW->i<n)
 all:nN (∃j:Nat,QW)
 inj:∀(j f i:Nat),QW->K g f xr->j=f
 GX:∀(j i:Nat)h,QW->A c0 h->Uu cA k (LW g) h j
theorem aWR{mask k:Nat}{c0:aT}{g:PQ}{n:Nat}(I:gZ g n)(d1:n<=cA):z j (j<=cA) (aa g ae):=by rw[anD,bv ex (j<=cA) (∃i,QW) (by rw[z j4 (j<N5) Wb (aD6 bG)];cases q:g[j]with|none=>{rw[dQ (v j b8 ag) f6]}|some i=>simp[*])];let f:cD:=iQ (eR (DL j ae) 0);rw[bv p (j<=cA) (aa g (aa (f j))) (by rw[wr (ex j b8)];have:f j=i:=eJ f hi;rw[J this hi])];have nd:c7 (ce (cA+1) f):=by{rw[JZ,hY WV,rc e];simp at b3 U;have t:=p a ams;rw[e]at t;exact ne (I.inj a b _ t (p b ams))};have:=afO nd (m:=eJ n) (aJ (by rw[a3 j b8 S];simp at b8;have:=W0 j _ (p j ams);rw[gf]));rw[uk];exact gv d1 this
theorem aWS{mask k:Nat}(c3:anB){c0:aT}{g:PQ}{n:Nat}(I:gZ g n)(d1:n<=cA){h:Int}(c7:K c0 n h):z j (aD5 cA g (Ih cA) yn (Ii h)=aa j) (gZ aIL (n+1)):=by revert c3 I d1 c7;revert mask k c0 g n h;refine aa2;rw[n mask k c0 g n h];intro c3 I d1 c7;rw[gt a7 (aWR I d1)];obtain⟨m,j,c4,b8,H,W⟩:=(axV cA k c3 g (Ih cA) I3 yn (Ii h) (cG Ih (cV Ij)) (v e (aWO (t:=rd cA) c3 (aWP h) a0) (by have h2:e<N5:=(Array.getElem?_eq_some_iff.mp a7).1;rw[lI h2]at a7;simp[Wa,h2,c_ a7])));rw[ak j W,dC j4 (j<N5),ca o (aa g ae)];have get:∀x,(aIL)[x]?=av (x=j) (aa n) g[x]?:=ab (by rw[Array.getElem?_setIfInBounds];rw[b1 x j];{rw[aK CP,aK e,aK j4]};{rw[cE (hs e) e]});have d:E x (LW g x) (LW aIL x):=aJ (by delta LW at S⊢;rw[iL j,aZ,az]);rw[o (ar Wb) (bz) (fun x i S=>?_) aoa (fun x y i S b6=>?_) (fun x i h' S a=>?_)];{rw[get]at S;split at S;rw[az,cb (W0 x i S) (wd bG)]};{rw[T i n,l ⟨j,cy get cO q⟩,S x S (I.all i (cw hi q)) x (ac get (ff (by rw[b2 o S];cases S)) S)]};{rw[get]at S b6;split at S;{next q=>split at b6;rw[l (ahZ bG EV)];{rw[pO];have:=W0 y _ b6;simp_all}};{split at b6;{cases b6;have:=W0 x _ S;simp_all};rw[l (I.inj x y i S b6)]}};{rw[get]at S;split at S;{next q=>rw[pO];rw[c7]at a;cases a;rw[aa m (t q c4) (fun f7 y Z b6=>d y (H f7 y Z b6))]};rw[l (bN (I.GX x i h' S a) d)]}
theorem aWT{mask k:Nat}(c3:anB){c0:aT}(a5:lK<=cA):z g (layClean cA aD7=aa g) (gZ g lK):=by have init:gZ (Array.replicate (cA+1) ae) 0:=by{rw[o aQ cT (fun j i h=>?_) (jV ah) (fun j f i h=>?_) (fun j i h q=>?_),cL,cL];grind-abstractProof};have b:∀(m pre:aT)(g:PQ),pre++m=c0->gZ g DM->z a (m.foldl (fun(B:bZ (fq (bZ Nat)×Nat))(h:Int)=>do{let(g,k)<-B;let j<-layClean.free mask g (turns mask) (bits h%(mask+1)) (bits h);pure (g.setIfInBounds j (some k),k+1)}) (aa (g,DM))=aa (a,lK)) (gZ a lK):=by{intro m;induction m with|nil=>{grind-abstractProof}|cons h J d6=>intro pre g e I;have c7:K c0 DM h:=by{rw[xJ];simp};have d5:DM<=cA:=by{grind-abstractProof};rw[gB K (aWS c3 I d5 c7),ae b9 ((pre++[h])++J) c0];have:=d6 (pre++[h]) (a4n j (aa DM)) b9 (ax K);simp_all};rw[eq g I (b c0 [] _ rfl init),cp g I];delta layClean;rw[List.foldl_toArray];grind-abstractProof
theorem aWU{f:dg (bZ fz)}(W:bek):∀{l:ao},Jv->eQ (gU (Mi f)) (· < ·)|[],_=>bB|a::l,s=>cq
theorem axW{t:SetTable}:nl (p.j+iW<=dg) (aK hL (x<=dg))|0,p,_,x,h=>kc dI|J+1,p,c2,x,h=>by simp only[dI,hy]at h;rw[eL h];{rw[a4 oG,el]};{refine axW J _ ?_ x h;show FJ+(kD dg FJ-FJ)<=dg;have l:FJ<dg+1:=by{delta tn;exact VX _ pT};delta kD;rw[am2]}
theorem aWV{mask k:Nat}{h:Int}:aK (vA cA k h) (x<=cA):=by delta vA;refine axW (t:=rd cA) _ _ ?_;show yn+(kD cA yn-yn)<=cA;have l:yn<cA+1:=VX _ pT;delta kD;rw[am2]
theorem aWW{mask k:Nat}(c3:anB){c0:aT}(a5:lK<=cA)(finger moves:Nat)(led plain:Bool):∃t B,laid cA finger moves led plain aD7=aa (t,B)/\yk/\iJ lJ/\dg=cA/\DN=led/\Ik=plain/\qZ=lK/\B.size=lK/\a4q (eJ lK)/\∀(p s i:Nat)h,i (K lJ p s) (K B p i) (A c0 h) (z7 (ab (x∈zQ))):=by rw[eq g I (aWT c3 a5)];have d8:∀j,DL j ae=eR g[j]? ae:=iQ aQ;let f:dg (bZ fz):=iQ (L (DL j ae) (j,·));let c:=i8 (cA+1) f;have W:bek:=fun j x e=>by{rw[ku f a4p,el]};have mem:∀j i,(j,i)∈c↔QW:=by{intro j i;simp only[c,a2W];constructor;{rw[iI b U];have b4:=W b _ e;simp only at b4;rw[ku f a4p];obtain⟨n8,R,b9⟩:=e;grind-abstractProof};{rw[eD,e1 j4 (j<N5),ak j (by rw[Wb]at j4;simpa using j4)];grind-abstractProof}};have rise:eQ (Dv fM) (· < ·):=aWU W a22;have d:c7 (Dv fM):=rise.imp (y2 (gC h));have k2:c.Nodup:=by{rw[VP]at d⊢;rw[Nj]at d;exact d.imp (wo (h (by rw[e])))};have l:eK (Dv eY) (eJ lK):=by{rw[HB (by rw[JZ,hY k2];rintro⟨a,i⟩⟨b,n8⟩⟨b3,U,ne⟩e;simp only at e;rw[bY];exact ne (iG (I.inj a b i (x (mem a i) b3) (x (mem b i) U)))) WV]at⊢;intro i;rw[fJ];constructor;{rintro⟨⟨j,n8⟩,h,rfl⟩;have:=W0 j n8 (x (mem j n8) h);rw[gf]};{rw[eD,iF b8 (I.all i ah)];exact bp (j,i) (ae (mem j i) b8)}};rw[cg len gc lK l.length_eq,c (a cA (hu (Dv fM)) #[] finger led moves plain) (hu (Dv eY)) ?_ (aP c3 ah) (by delta iJ;simpa using rise) rfl rfl (a1 ah ah eO)];{delta laid;rw[d0];rfl};{intro p s i h c2 e0 c7;simp only[a4o]at c2 e0;rw[cz]at c2 e0;cases e:c[p]? with|none=>{simp_all}|some x=>rw[e]at c2 e0;simp at c2 e0;rw[iF n8 x];simp at c2 e0;subst c2;subst e0;obtain⟨n,a7,H⟩:=I.GX _ _ h (x (mem _ _) (bO e)) c7;rw[aa n a7 (fun f7 x Z G=>?_)];have S:=H f7 x Z G;have o:x<N5:=by{rw[Wb];have:=aWV x (bO G);exact aD6 bG};unfold LW at S;simp only[fJ];rw[Array.getD_eq_getD_getElem?,lI o]at S;cases v:g[x]with|none=>{simp_all}|some N=>exact bp (x,N) (ae (mem x N) ah)}
theorem axX(n:Nat):aP r s (n<2^(s+r)->∃c1,a4r n r (2^s)=2^c1/\s<=c1/\n<2^c1/\(2^c1=2^s\/2^c1<=2*n))|0,s,h=>ax s a_ bB gj|r+1,s,h=>by simp only[a4r];by_cases q:2^s<=n;{rw[aK q,show 2^s*2=2^(s+1)by rw[HR]];obtain⟨c1,e,l,g,b⟩:=axX n r (s+1) cq;grind-abstractProof};grind-abstractProof
theorem aWX{n:Nat}(h:n<2^60):∃s,sizeAbove n=2^s/\3<=s/\n<2^s/\(2^s=8\/2^s<=2*n):=by delta sizeAbove;have:=axX n 64 3 (fH h ay);exact this
structure TI(t:SetTable)(k:Nat)(a7:cU):Prop where
 ok:yk
 rise:iJ lJ
 size:ck=qZ
 room:qZ*5<dg*3
 least:7<=dg
 GX:c_ (K lJ p s) Ye dg (ab (x∈zQ))
theorem aWY(finger moves:Nat)(led:Bool):TI (SetTable.fresh finger moves led) 3 #[]:=by rw[y (h6 cT) (cG iJ .nil) (gD (0*5<7*3)) ⟨aCd 7,fun p s e h=>bB⟩]
theorem aWZ{t:SetTable}{k:Nat}{a7:cU}(T:Kk){h:Int}{n j:Nat}(d1:zF h)(b8:Jb)(H:By (iW h x)){p:Nat}{e:akN}(a0:Ye)(f:e.1=h):∃m s,m<n/\iW h s/\zP s= .live p:=by revert T d1 b8 H a0 f;revert t k a7 h n j p e;refine Ko;generalize aG=t,aA=k,aF=a7,aE=h,aD=n,aB=j,aH=p,aI=e;intro T d1 b8 H a0 f;have c2:=lI (by rw[al (ik p ck),kC Il q];simp_all);rw[bW D i7 (T.GX p _ e c2 a0)];rw[f]at D i7;have sl:=ae (afR zR N6) c2;rw[j m _ ?_ D sl,fe m n,iy,az,cb (i7 n j q d1) (cy this (x (afS zR N6) b8))]
theorem aW0{t:SetTable}{k:Nat}{a7:cU}(T:Kk){h:Int}{v:Value}{n j:Nat}(d1:zF h)(b8:Jb)(H:By (iW h x)):let t':=I_;let D:=a9H;WY=dg/\axP t' k/\iJ t'.place/\aDE=a4u/\w0 (h,v)/\a4u=qZ+1/\(c_ (K t'.place p s) (K D p e) WY (ab (x∈aD8))):=by intro t' D;have P:=aWM zR N6 b8;rw[cb (LV N6 j)];have room:=T.room;have b4:D.toList=ajB fy++a9N:=by{show pu a9H=_;rw[P.1];exact afT a7 _ _ (t Il b.1)};have b9:aD8=a4s fy++j::t.place.toList.drop fy:=by{rw[J (aS P.2) (afT _ _ _ b.1)]};have a:E x (x∈zQ) (x∈aD8):=aJ (by rw[b9];rw[<-Ds fy zQ]at S;grind-abstractProof);have e8:aDE=ck+1:=by{have:D.toList.length=a7.toList.length+1:=by{rw[b4,cj,ia,<-aDS,<-cj,Ds]};rw[gf]};rw[j P.2.1 (v (t (a0 WY dg P.2.1) T.ok.mask) (aS P) cq) (cr P) (by rw[e8,Il];grind-abstractProof) (v ?_ (a2 P.2) (fun p s e c2 a0=>?_))];{rw[b4];have e9:(ajB fy++a9N).Perm ((h,v)::(ajB fy++a4t fy)):=aCJ;rw[Ds]at e9;exact e9.trans (bt (List.perm_append_singleton _ _))};{rw[a0 WY dg P.2.1];rw[<-pj]at c2 a0;rw[b9]at c2;rw[b4]at a0;rw[ae m9 (t (a4s fy)) fy];have c:t (ajB fy)=fy:=by{simp;have:=Il;simp[*]};rw[fe p fy];{rw[hx ag,sU q,pj]at c2 a0;exact Gw p};{rw[o_ ag,m9,q,zA]at c2;rw[o_ ag,c,q,zA]at a0;simp at c2 a0;subst c2;subst a0;rw[aa n d1 (fun m x c4 S=>a x (qG (fun f6=>H m x c4 S (ae (afS zR N6) f6))))]};{obtain⟨u,rfl⟩:∃u,p=fy+(u+1):=⟨p-fy-1,bj (Mn (VO q)) (Nat.add_sub_cancel' (ew q))⟩;rw[p3 m9 c2,p3 c a0];simp at c2 a0;exact Gw _}}
theorem axY{I d:Type}{f:aHp}{g:Fj}:∀{l:ba},bk l (f x=aa (g x))->Mi f=kv g|[],_=>rfl|x::l,h=>cy (a0M (h x bK)) da (axY aIY)
theorem aW1{t:SetTable}{a7:cU}(c6:0<ck)(n1:ck<=50000):∃d8 B f7,t.relaid (a7.map fM) (ajC ck)=aa (d8,B)/\(QI).size=ck/\TI d8 f7 QI/\(QI).toList.Perm lL/\d8.led=DN/\d8.plain=Ik/\SetTable.sizeAbove (ajC ck)<=8*ck:=by revert c6 n1;revert t a7;refine Kn;rw[bV t a7];intro c6 n1;have b:ajC ck=ck*4:=by{delta ajC;rw[jY]};obtain⟨s,e,l3,c,M⟩:=aWX (n:=ck*4) (fb (Nat.mul_le_mul_right 4 n1) ay);have a:8<=2^s:=by{have:cd 2^3<=2^s:=Nat.pow_le_pow_right ay l3;exact this};have c3:(2^s-1)+1=2^s:=Mn (cn ay a);let c0:=Ml fM;have a5:lK<=2^s-1:=by{simp[c0];exact cf c Ij};obtain⟨d8,B,a3,Y,R,e1,ld,pn,c5,os,l,GX⟩:=aWW c3 a5 t.finger (t.movedTo (2^s-1)) DN Ik;rw[bL d aD7 (a7.map fM)];let g:dg akN:=dJ (eR a7[i]? (0,CD));rw[dx c4 (∀i∈W2,A a7 (g i)) bz,R k (QI).toList (B.toList.map g) Array.toList_filterMap (axY c4)];have e8:(QI).size=ck:=by{have:(QI).toList.length=ck:=bz;trivial};rw[b d8 B s ?_ e8 (a Y R bz ?_ (as ?_)) ?_ ld (as pn)];{delta SetTable.relaid;simp_all};rw[dV,l (hn a Ij e1.g)];{intro p q x c2 S;rw[e1];have d5:p<B.size:=by{grind};have xe:x=g B[p]:=by{rw[<-pj,k,cz,pj,(lI d5)]at S;simp_all};have c7:K c0 B[p] x.1:=by{simp only[c0,cz];rw[pj,(c4 B[p] aQ),xe];rfl};grind};{rw[k];have e9:=kv g;have b9:ce lK g=lL:=by{refine NF (fun i=>?_);rw[cz];rw[cZ (ik i ck)];{rw[dd (hC c0 z)];simp[g,z]};{rw[zE (hC c0 z),zE eO];rfl}};rw[b9]at e9;exact e9};{rw[b,e];lia}
theorem aW2{t:SetTable}(h:t.tooFull=ai)(d:a9d):qZ*5<dg*3:=by delta SetTable.tooFull aD9 at h;simp_all
noncomputable def hashOf(a7:cU)(i:Nat):Int:=eR (a7[i]?.map fM) 0
section z
variable{prog:Program}{w:World}{K:Type} [we K]{d:Z1}{A:Around}{E:aU}{s:Shared}
theorem LX{t:SetTable}{k:Nat}{a7:cU}(T:Kk):t.fits ck=ab:=by delta a4v aD9;rw[T.ok.GW];have:=T.ok.fill;simp[Il];exact this
theorem aW3{t:SetTable}{k:Nat}{a7:cU}(T:Kk):t.gaveWay=ai:=by delta SetTable.gaveWay;rw[bJ T.ok.mask,b2 T.least];cases k with|zero=>{simp at m;simp_all}|succ k=>rw[HR]at m;have:dg%2=1:=fk;rw[tT]
def Holds(d:Z1)(h:Heap)(a7:cU):Prop:=bk p e (Ye->∃O b,e.2=cW/\zS h O b/\e.1=a4w O)
theorem aW4{F:K}{xa:Addr}(S:aKh)(y:aMX):∀(l:aM){Q:nz},V v l (H5 cW)->X_->bl (a4y YK l):=by intro l Q a5 h;delta a4y;rw[ma,ml (H5 (dm b)) a5];{rw[ve g];obtain⟨O,b,rfl,U⟩:=g v fu;have h8:=m0 (g u (ck hu));rw[T xa b];{rw[e_,i7 aCu aB_];exact cg (h6 h8)};{rw[aC c4 (xa==b) ai (bj bG)];simp only[c4,aB9];have e:a4x (dm xa)=ai:=rfl;simp only[e,ag5,CY,iR];rw[C (d.quiet S ?_),rR,C (d.quiet U ?_),rR,C (y S ?_),uz,C (y U ?_),uz];exact cg (h6 h8)}};rw[ap']
universe z
section z
variable{prog:Program}{w:World}{K:Type} [we K]{d:Z1}{A:Around}{E:aU}{s:Shared}
theorem axZ{a:Addr}{o:Obj}{a7:cU}{e1:Nat}{t:SetTable}{k:Nat}(d0:gE a)(hd:gB=RD)(T:Kk)(hE:Im d bh a7){F:K}{xa:Addr}(S:aKh)(room:d.room A)(y:aMX){Q:dE SetFound}(L:aP n j (c (zF kI) Jb (By (iW kI x)) (bfE) (Q (.free j ai) s)))(a9:KO (Q (.there ae) s)):∀(r J c:Nat)(a6:bZ Ig)(p:Probe),b (a6.getD (N3 kI)) p (p.dummy=ae) (hL=df (vA dg k kI) c) (bd hL (10*Ih dg)) (i (aJa) (z0 hL<r) (Iz c) (bl (setSearchFrom a YK kI ab r a6)))|0,J,c,a6,p,c0,b4,c2,a5,a0,b0,U=>ah|r+1,J,c,a6,p,c0,b4,c2,a5,a0,b0,U=>by have nd:=afN zR;rw[aKQ];dsimp only;rw[aW3 T,OA,c0];obtain⟨b1,b5⟩:=axN t (W3 a7) kI nd (10*Ih dg) J p a5 a0;generalize e0:t.probe _ kI p=q;rw[br eq (q=aa b1) e0 b5];subst eq;dsimp only;obtain⟨n,j,d1,b6,c4⟩:=axT t (W3 a7) kI nd _ J p b1 b4 b5 a0;rw[c2,Dt]at d1;have b8:bk i e (A a7 e->W3 a7 i=e.1):=fun i e h=>by{unfold hashOf;rw[h];rfl};have a8:Iz (c+n):=by{intro m x Z G;rw[al (ik m c),l (U m x q G)];{obtain⟨i,hi,R⟩:=b6 (m-c) x (bn (aR q) Z) (by rw[c2,Dt,mq (c+(m-c)) m];exact G);rw[aa i hi (fun e b V f7 c3=>?_),Z b2 g Y c7 (hE i e V)];rw[f7]at g;rw[rD];have:=d.inj c3 Y;rw[gm];rw[b8 i e V,c7]at R;exact R rfl}};rcases c4 with⟨rfl,b7⟩|⟨i,q,rfl,l,b9,k4,B,I⟩;{dsimp only;rw[nZ];refine L (c+n) j d1 b7 (fun m x Z G=>?_) (fun u e b V f7 c3=>?_);{rw[bcm];rw[hi];rw[tL];cases z};{rw[Z b2 g Y c7 (hE u e V)];rw[f7]at g;rw[rD];have:=d.inj c3 Y;rw[gm];obtain⟨m,x,Z,G,c6⟩:=aWZ T d1 b7 (fun m x Z G=>by rw[bcm];rw[hi];rw[tL];cases z) V c7;obtain⟨i,hi,c5⟩:=a8 m x Z G;rw[c6]at hi;rw[a4 hi (c5 e b V f7 c3)]}};{have H:=x (afR zR N6) l;rw[cS X (i<ck) Il qZ];have P:=lI X;rw[Z b f7 c3 c7 (hE i _ P)];dsimp only;rw[bC led DN];(case' pos=>rw[led,a4z,OA]);(case' neg=>rw[Wn led,ajD,cO];rw[C (aW4 S y _ (lq (by rw[a3 e V d3,ca D (e∈lL),bW Z c8 (ib D)];obtain⟨b3,b2,g,Y,_⟩:=hE m e (by rw[<-pj,dd Z,c8]);exact d b3 b2 g Y)) ?_),uz]);all_goals rw[P];dsimp only;rw[f7];rw[C (vV (d.eqBool room c3 S ?_)),C (iQ (LX T) ?_)];dsimp only;rw[N c1 O F];{subst c1;rw[aK (g4 (ab&&ar O O) (dH rfl))];exact cg (a9 (c i _ b P f7 c3))};{rw[ea c1,ag8,OA];have sm:t.sameMemory t.moves dg=aa ab:=by{unfold SetTable.sameMemory;simp};rw[sm];dsimp only;rw[cO,l];dsimp only;rw[P];dsimp only;rw[f7];rw[C (wpAny_isSame_ref_self ?_),Qc];rw[cO];refine axZ d0 hd T hE S room y L a9 r B (c+n+1) (aa q) q rfl k4 ?_ ?_ ?_ ?_ ?_;{rw[I,c2,HU];rw[dW]};{rw[I];simp;exact cV a5};{rw[I];rw[bH M a3 a0,bW Z D (ib M)];have W:n<m:=by{rw[ac m n z z z];{obtain⟨N,p4,_⟩:=b6 m f z (bj (dd Z) D);rw[p4]at a3;cases a3};{rw[ru];have:ap hL m j:=ag;rw[bX (dd Z) D,nj];rw[l]at a3;cases a3};rw[l z]};rw[cp f a3];rw[a3c];exact⟨m-(n+1),by rw[Dt,m (n+1+(m-(n+1))) m m (n+1) W m (n+1),dd Z,D]⟩};{rw[cl j2 aI8,aO d6 n (t hL) (bx bG)];have e8:hL=an hL n++j::aJ9:=by{have C:(hL)[n]=j:=by{rw[dc d6 j2];exact c_ j2};rw[<-C];simp};have lt:z0 aJ9<z0 hL:=by{conv=>{rhs;rw[e8]};delta WW;rw[DK,ah_ (by simp only[l,b9];simp)];simp;exact tx};rw[J I (cf lt b0)]};{intro m x Z G;rw[cZ (qO (HE Z)),l (a8 m x z G)];{rw[b2 d1 G];cases G;rw[aa i l (fun e e2 V a4 f5=>?_)];rw[P]at V;cases V;rw[f7]at a4;cases a4;exact c1 (d.inj c3 f5)}}}}
universe z
section z
variable{prog:Program}{w:World}{K:Type} [we K]{d:Z1}{A:Around}{E:aU}{s:Shared}
def Uv(d:Z1)(h:Heap)(a:Addr)(a7:cU):Prop:=∃o e1 t k,pM/\o.ExactSet/\gB=RD/\Kk/\aIy/\Ik=ab/\(DN=ab\/Pb)
theorem Holds.perm{h:Heap}{a7 D:cU}(H:aIy)(p:a4A lL):Im d h D:=fun i e a0=>by rw[a_R,gB C (ib m)];exact H j e (a4j (WX ⟨b8,C⟩))
theorem Holds.push{h:Heap}{a7 D:cU}(H:aIy){F:K}{xa:Addr}(S:zS h F xa)(p:w0 apf):Im d h D:=fun i e a0=>by rw[a_R,iF m];{have⟨j,b8,C⟩:=ib m;exact H j e bz};{rw[fT]}
theorem ax0{h:Heap}{a:Addr}{o:Obj}{a7:cU}{e1:Nat}{t:SetTable}(d0:pM)(hd:gB=RD)(D:cU)(t':SetTable):di (h.update a (N7 D t')) a=aa {o with data:= .set D (e1+1) t'}:=l8 (CT (N7 D t') d0 (dc bcC)) bcC
theorem aW5{a:Addr}{a7:cU}{F:K}{xa:Addr}{Q:nz}(b2:Uv d bh a a7)(S:aKh)(room:d.room A)(z:ck<9000)(y:aMX)(X:∀{Q:nz},Y8->bl (aD' 8 YK))(keep:∀{h h':Heap}{O:K}{b:Addr}{o:Obj}{a7:cU}{e1:Nat}{t:SetTable},c (zS h O b) pM (gB=RD) (Hi a h h') (zS h' O b))(b5:KO X_)(I:(bfE)->∀(h':Heap)(D:cU),i (pa a) (Uv d h' a D) (w0 apf) (Q ab tF)):bl (a4E a YK kI):=by rw[K7 b2];delta a4E;refine ED;delta setAddHashedIn;rw[aKQ];dsimp only;have a5:byScan YK a7=ai:=rfl;rw[a5];rw[uz,eS (aWL (t:=t) (h:=kI))];have C:=aWN t k kI;delta setSearch;rw[ma];refine axZ d0 hd T hE S room y ?_ ?_ 100000 I3 0 ae (N3 kI) rfl f.2.2 (dc C) (aWF zR f.2.1) (aWE zR f.1) ?_ (fun m x c4=>ah);{intro n j d1 b8 H f6;dsimp only;rw[aKQ];dsimp only;have P:=aW0 T (v:=dm xa) d1 b8 H;simp only at P;have V:(I_).plain=ab:=d5.1;have d3:(I_).led=ab\/Pb:=d5.2;obtain⟨g9,l,Y,J,r,b7,Z⟩:=P;rw[cg N (N4 a7 aGj apf).size (ck+1) r.length_eq];generalize c0:aD_ j=L at*;rw[ks e9 L];dsimp only at*;rw[V];rw[cO];rw[C (X ?_)];rw[cO];generalize c1:N4 a7 e9 apf=c at*;rw[z f3 (a1 W4) qJ (cf N.l z),C (a4C d0 hd ?_ f3)];have g:=ax0 d0 hd c W;have v:=a4B bh a (N7 c W);have j0:zS Yy F xa:=en S d0 hd v;have R:Im d Yy c:=by{rw[a4 (Im d Yy a7) (hE i e a0) d0 hd v];exact b1.push j0 r};cases a4:W.tooFull with|false=>{simp only[ajD,ag8,CY,iR];rw[nZ];refine I f6 _ c v (a _ (e1+1) W k g hex rfl (c l Y J (aW2 a4 l.GW) (t g9 T.least) Z) (v R V d3)) r}|true=>rw[i7 ajD Bool.and_self,ma];delta setRelay;have a8:W.fits W4=ab:=by{delta a4v aD9;rw[l.GW,J];have:=l.fill;simp;exact this};rw[C (a4D g rfl a8 ?_)];dsimp only;rw[cl c6 (0<W4)];obtain⟨d8,B,f7,a6,G,a9,U,b0,b3,M⟩:=aW1 (t:=W) c6 (bn N.l z);rw[aC a3 (ck+1) W4 EV];rw[a3];rw[aO (by rw[qJ];lia-abstractProof)];rw[a6];rw[ma];change am (do{let D:=B.filterMap (c[·]?);if D.size !=c.size then{unsupported "internal:set-table-lost-an-element"};pure (D,d8)}) _ _ _;dsimp only;have f5:((Yr).size !=W4)=ai:=by{rw[G];simp};rw[f5];rw[uz,nZ];dsimp only;refine a4C g rfl ?_ (t G f3);rw[nZ];have u:=ax0 g rfl Yr d8;rw[ci (a4B Yy a (N7 Yr d8))];have b6:H0 Yr:=by{rw[a4 (H0 c) (R i e a0) g rfl q];exact b1.perm U};exact I f6 _ _ (v.trans q) (a _ _ d8 f7 u hex rfl a9 (ap b6 (t b3 V) b0 d3)) (ajE r)};{rw[eD];dsimp only;exact cg (b5 h)};{have:=aWK zR f.1 f.2.1 (W3 a7) kI;have:=Il;rw[el]}
universe z
section z
variable{prog:Program}{w:World}{A:Around}{E:aU}{s:Shared}
noncomputable abbrev tupK(prog:Program)(w:World):aEa cN w aT:=U8 (aA9 cN w)
theorem items_int{K:aT}{vs:aM}(q:aCa (aA9 cN w) K vs)(v:Value)(h:v∈vs):a7D:=by induction q with|nil=>{exact iT (oR h)}|cons c3 J i=>rw[jC (h_ h) rfl];{rw[ck u (aA8 c3)];exact av u e};rw[l (i h)]
theorem ax1{h h':Heap}{K:aT}{b:Addr}(x:nW h)(keep:E o md ha):nW h':=by obtain⟨o,f,n,d0,c,d,i⟩:=x;exact a o f n (en o d0) c d i
theorem ax2{h h':Heap}{K:aT}{a b:Addr}{o:Obj}{a7:cU}{e1:Nat}{t:SetTable}(x:nW h)(d0:pM)(hd:gB=RD)(sb:Hi a h h'):nW h':=by obtain⟨N,f,n,U,c,d,i⟩:=x;exact a N f n (t (sb.2 b (an ah)) U) c d i
theorem aW6{K:aT}{b:Addr}{Q:nz}(x:nW bh)(h:X_):a7g:=by have⟨o,f,n,d0,c,d,hi⟩:=x;unfold ofAClassStatement;rw[w3 (a4G x)];dsimp only;rw[aK ay];rw[Qc,rR,bao,ma,Jt,ba7];{rw[ve all,bcU,ab f5 (a4F 7 (W5 i u)) (eU ai)];rw[f5];rw[Qc,uz];exact a'5};rw[ap']
theorem aW7{K:aT}{b:Addr}{Q:nz}(x:nW bh)(h:Y8):bl (aD' 8 cW):=by have⟨o,f,n,d0,c,d,hi⟩:=x;rw[C (wh (a4G x) aEb ?_),bao,ma,Jt,ba7];{rw[ve all,bcU,ab f5 (aD' 7 (W5 i u)) (eU ab)];rw[f5];rw[Qc,rR];exact a'5};rw[ap']
universe z
theorem aW8{I d:Type}{R:ql}{a B:ba}(p:B.Perm a):∀{b:nG},dD R a b->z b2 (dD R B b2) (b2.Perm b):=by induction p with|nil=>{rw[du b];exact v b h aml}|cons x _ d6=>{rw[du b];cases h with|cons J t=>rw[aJ b2 h' (d6 t)];exact v (_::b2) (.cons J h') (q.cons _)}|swap x y l=>{rw[du b];cases h with|cons J t=>cases t with|cons r2 d8=>exact v (_::_::_) (ec r2 J d8) (.swap _ _ _)}|trans _ _ c i=>rw[du b,cj h2 a3 (i h),df e2 q2 (c a3)];exact v e2 a9 (q2.trans d2)
theorem ax3{I d:Type}{R:ql}:∀{l:ba}{m:nG}{i:Nat}{a:I},fZ R->Zi->z b aoe (R a b)|_,_,_,_,.nil,h=>bB|_,_,0,_,.cons J _,h=>ah|_,_,i+1,a,.cons _ t,h=>by rw[bF e f (ax3 (i:=i) t xh)];exact v b bB f
theorem ax4{I d:Type}{R:ql}:∀{l:ba}{m:nG}{i:Nat}{b:d},fZ R->aoe->z a Zi (R a b)|_,_,_,_,.nil,h=>bB|_,_,0,_,.cons J _,h=>ah|_,_,i+1,b,.cons _ t,h=>by rw[ak e f (ax4 (i:=i) t xh)];exact v a bB f
theorem aW9{I d:Type}{R:ql}{a:I}{b:d}(J:R a b){l:ba}{m:nG}(h:fZ R):dD R (l++[a]) (m++[b]):=by induction h with|nil=>{exact hp J}|cons q t i=>rw[cA q i]
section z
variable{prog:Program}{w:World}{A:Around}
def afU(prog:Program)(w:World)(h:Heap)(a7:cU)(l:fA):Prop:=hi h lL l
structure Got(prog:Program)(w:World)(h:Heap)(r:Addr)(K:fA)(a7:cU)(l:fA):Prop where
 set:z9 h
 keys:BQ h
 nd:zv
 mem:gS l K
theorem Uv.qs{h h':Heap}{r:Addr}{a7:cU}(H:z9 h)(keep:bd a7K md ha):z9 h':=by revert H keep;revert prog w h h' r a7;refine aa2;rw[n prog w h h' r a7];intro H en;rw[K7 H,b o e1 t k (en r o gj d0) hex hd T ⟨fun p e a0=>?_,d5⟩,Z b b4 b9 e7 (hE p e a0)];exact a O b b4 (E1 (.inr (v e (bO (i:=p) ag) b4))) e7
theorem afU.qs{h h':Heap}{a7:cU}{l:fA}(H:BQ h)(keep:bd (v5 lL) md ha):BQ h':=by revert H keep;revert prog w h h' a7 l;refine aa2;rw[n prog w h h' a7 l];intro H en;delta afU at H⊢;generalize a7.toList=O at*;induction H with|nil=>{rw[kL]}|cons J t d6=>rw[bF b4 b9 J];exact .cons (v b b4 (E1 (av fu b4))) (d6 (E3 (en b o (v e (ck a0) q))))
variable{R:Qf}{I:Addr}{a8 d:bg}{G:au (fq Vc) (fq Vc)}{n:Nat}{P:au Nat cS}{St:dE Nat}
theorem aW_(W:WalksS cN w kz I a8 d G n P St)(r:Addr)(g:r∉a8)(K:fA)(ad:dg ef)(E:aEd=n)(a5:j i v (P i v) (v= .ref (ad i)))(d1:Cd K)(hu:JY)(V:nN (ad i∉d)):∀(c i:Nat)(s:Shared)(a7:cU)(l:fA),b (n-i) c Ql (St i s) (Got cN w bh r (K.take i) a7 l) (i (ew lL (j<n) (ad j)) (bbY) (∀c1 D i1,i (Moved (r::d) G s c1) (Got cN w mD r K D i1) (ew D.toList (j<n) (ad j)) (eT .none c1)) (l9 "set.update.loop" (d_ [ui,pE]))):=by revert W g E a5 d1 hu V;revert prog w A R I a8 d G n P St r K ad;refine@mi _ _ _ _ _ _ _ _ _ _ _ _ _ _ ?_;generalize pZ=prog,p_=w,qa=A,qb=R,qc=I,qd=a8,qe=d,qf=G,qi=n,qj=P,qm=St,qn=r;refine Kn;rw[bV K ad];intro W g E a5 d1 hu V;have d4:=ai (g (W.sub _ q));have wide:fK d (r::d):=fun b q=>ck q;intro c;induction c with|zero=>{rw[biK];have f5:i=n:=by{exact mP (cV hi) (cf Pm b0.l)};subst f5;rw[lH a4H,hX aEf,C (ajH s _ _ z (fun c1 c4=>?_)),bh5,jy (hR c1 a7 l (aEg wide) (a1 a7' bcD ajF) a)];intro x;rw[W6 x,<-E,H5]}|succ c d6=>rw[biK,b3 X (i<n) (cf (aR hi) b0.g),lH a4H,hX aEf,C (aEe i s _ _ X z (fun v c1 C T c4=>?_))];have B:=a5 i v C;subst B;rw[bh5];have H:=a7';have Y:=bcD;have c9:∀{j:Nat}{O:aT},aa K O->j<n:=fun{j O}h=>by{rw[al (ik j aEd),az,yN (zE q)]};have a6:=t2 (kq (b9 j O h) (aEc _ o (V j (c9 h)) d0));obtain⟨F,c0⟩:∃F,A K F:=aW (dd ag);have S:=a6 i F c0;rw[C ED];delta setAdd;refine vV (bF ((hJ).pyHash (A:=kz) bcd S ?_));have c6:K.take (i+1)=K.take i++[F]:=by{rw[DO,c0];rfl};refine aW5 (d:=ajG cN w) (s:={c1 with toks:=ahs+(hJ).draws F}) H S bcd (by have a3:=Ms hG.keys;rw[fe (d1 l ajF (aJ (qT (x (W6 x) S))))];simp at a3;simp[*]) (fun x h=>aW6 x h) (c8 (aW7 S h)) (fun x d0 hd sb=>ax2 x d0 hd sb) (fun b5=>?_) (fun f6 h' D sb J b3=>?_);{rw[c a7 l (gy (hn (aC n (i+1) X) Pm b0.l) (hn b0.g (aC n i hi) (aS n (i+1)))) mD (s_ e) H Y ajF a a6 (jx e)];rw[W6 x,c6];simp only[hy,N8];constructor;rw[l .inl];{rintro(q|rfl);rw[l q];{obtain⟨p,e,b,a0,f7,U⟩:=b5;rw[Iy (t pj a0)];rw[f7]at a4;cases a4;have:=(hJ).inj U c5;rw[gm];exact x (W6 _) (bO c3)}}};{have c7:bd (v5 a'6) Pd ha:=fun b o U d0=>t (sb.2 b (by rw[fS,e_,bim,aJ e a0 U];have L:∃O,(hJ).is mD O b:=by{rcases Ni a0 with a0|a0;{rw[h_ Q (ib a0),Iy a_U];rw[q]at a4;cases a4;exact⟨O,c5⟩};rw[dV]};obtain⟨O,N,f,m,Z,_,c8,_⟩:=L;rw[u]at Z;cases Z;rw[hd]at c8;cases c8)) d0;have d2:hi h' a'6 (l++[F]):=by{refine aW9 (aP (ad i) (kq S (c7 _ o (bm (qI _ (List.mem_singleton.mpr rfl))) d0))) (Y.qs (E3 (c7 b o (v e (vQ _ a0) q))))};obtain⟨i1,d3,d5⟩:=aW8 b3 d2;have nx:F∉l:=ai (by rw[h_ Q (ib q)];obtain⟨e,a0,b,f7,U⟩:=ax4 Y (i:=p) a_U;exact f6 p e b (bl pj a0) f7 U);rw[c D i1 bM h' (fun b U o e=>?_) J d3 (by refine d5.nodup_iff.mpr ?_;rw[ah1];exact v ajF aQ (fun x d7 y b6 e=>ah)) (f2 (by rw[al (Ni (b3.mem_iff.mp a0)),l (a e q),zr (bp i X)])) (t2 (by rw[bim];exact ax2 (a6 j O h) u hd sb)) a9z,Z (sb.2 b (fun q:b=r=>g (bl q U))) e];{rw[d5.mem_iff,c6,hy,hy,W6 x]};rw[Z (sb.2 b (fun q:b=r=>U (t q fu))) e]}
universe z
universe GM
namespace PySem
open PySem.SetTable _root_.GM
section z
variable{prog:Program}{w:World}{A:Around}{E:aU}{s:Shared}
noncomputable abbrev ax5(led:Bool):Obj:={cls:=Js,dict:=ae,data:= .set #[] 0 (.fresh 0 0 led)}
theorem aW'(x:Value){R:aU}(k:R gk (fL (mH (ax5 (! xl))))):Hl XQ A (.call (.builtin "set.__new__") (d_ [Js,x])) (wants R E) s:=by revert k;revert prog w A E s x R;refine biP;generalize kQ=prog,kR=w,kS=A,kT=E,kU=s,kX=x,k_=R;intro k;refine a4J (show fv _ kz (do{checkBuiltinCall "set.__new__" ⟨[.type "set",x],[]⟩;again (.builtin "set.__new__" ⟨[.type "set",x],[]⟩)}) _ _ s from ?_);have own:=sub_set_self;rw[C (W7 (F.newCall_set_1 x) (mo a4I (N9 F.entry_set_new (by rw[hX a4I];delta Builtin.«set.__new__» Builtin.Frozenset.newClass;obtain⟨b1,e5,f,u,j⟩:=s;dsimp only;wp_walk;refine aEh (cg (by dsimp only;simp only[newObj];exact bF (a2d (mQ k))))))))]
theorem aXa{lst:Addr}{ar:dU}{K:fA}{ad:dg ef}{Q:aU}(n:od)(c:CW lst ar)(f:bk i v (A ar v->v= .ref (ad i)))(same:aEd=MD)(keys:bbY)(few:Cd K)(hu:ks 8)(fin:∀(h':Heap)(D:Nat)a7 N,i bgj a9K a87 (Q gk nr)):bl (Io Js [Yh]):=by revert n c f same keys few hu fin;revert prog w A E s lst ar K ad Q;refine@aqD _ _ _ _ _ _ _ _ _ _ _ _ ?_;generalize Y1=prog,aV cQ=w,bU cQ=A,cE cQ=E,bX cQ=s,ct cQ=lst,dv cQ=ar,d5 cQ=K,fp cQ=ad,ZS=Q;intro n c f same Ht few hu fin;rw[bl a8 b0 F.called_set.mro];have b1:=F.called_set.made;have b2:=F.called_set.sub;refine aBG (a4J ?_);rw[f9 (callAny Js _),jy ⟨Code.quiet_builtin _ cB,N9 F.entry_type_call ?_⟩];rw[Around.under_plain (weight_type_call_type "set" [Yh] []) rfl];have b3:=F.called_set.notType;have b4:=F.called_set.canCreate;have b7:=F.typeCall_set_1 Yh;rw[aK2];refine MP (aW' Yh (E:=E) (R:=fun obj a4=>∃led:Bool,led=(! xl)/\obj=gk/\a4=fL AD) (as rfl rfl rfl)) (fun J a4 a6=>?_);cases J with|error e=>{exact a6}|ok fl=>cases fl with|ret obj=>{obtain⟨led,b9,rfl,rfl⟩:=a6;rw[cl dl (led=ab\/Pb),ad atS (di AD aO) akR gI];have G:Shared.TypeIs (fL AD) gk "set":=bm atS;have c0:=F.called_set.init.lookup;rw[iR (F.called_set.init.bind gk),aK2];refine MP (codeAny_call_builtin (R:=wants (fun J b5=>J= .none/\∃h' D a7 N,b5=nr/\bgj/\a9K/\a87) E) F.called_set.init.plain F.entry_set_init (check_set_init_1 G ?_)) (fun r2 b5 g=>?_);{have c2:=c;obtain⟨d8,t,l,d6,z⟩:=c;obtain⟨c5,H,c6,I⟩:=d8;simp only at l z;subst l;rw[ru,ad L (di AD lst) (au Af H ar d6 I) (bT t)];have c7:=F.sub_list_set;have c9:=F.sub_list_frozenset;rw[ce d1 (YM==Mr "dict") ai];have B:(AD).IsList lst ar:=f _ L d6 rfl;delta Builtin.«set.__init__» noKeywords Builtin.Frozenset.updateFrom;generalize M:pyIter=PI;wp_walk;subst M;refine aBn B ?_;rw[C (aEj ?_)];have P:lst<aO:=ft t;have R:A.in1.in1.in1.handled=ae:=by{trivial};rw[z S (lst≠fH AD) lz (gC (wd P))];have e3:aO∉[fH AD,lst]:=by{simp at*;lia};have T:bl O K O (ad j<aO):=t2 (by obtain⟨o,_,_,d0,_⟩:=Ht j O h;exact PX);rw[bv V (j<MD) (∃O,aa K O) (aW (dd (bU b8 same.g)))];have C:xL bdN:=da (bT xm);refine aW_ (aBV R _ lst S ar).toS aO e3 K ad same (fun i v d3=>f i v d3) few ?hu (jV ?hw) MD 0 _ #[] [] bM cT ⟨Pq,(B.push _)⟩ ?hG (f2 (by cases a0)) (t2 (kq (Ht j O h) (C _ o d0))) ?hR;(case hu=>show _<gD;simp only[Around.in1];exact cV hu);(case hw=>obtain⟨O,c3⟩:=V i hi;have:=T i O c3;rw[fS];simp only[N8]at q;rw[bX q lz];exact jr _ (js jR this));(case hG=>rw[ad b6 (di bdN aO) akR (bT atS)];exact d (a akR 0 _ 3 b6 tG rfl (aWY 0 0 led) (aP (fun p e a0=>by simp at a0) dl)) .nil aQ (ab bI));case hR=>intro c8 a7 N c4 k a;obtain⟨e2,a5,a9,W,X⟩:=c8;have k2:a5=sQ:=c4.gens;have a3:a9=zi:=c4.drawn;have y:X=CH:=c4.os;subst k2;subst a3;subst y;rw[f9 _,nZ,f9 (ret CD),jy (a rfl e2 W a7 N rfl k a a9z)];have d:b≠aO:=gC U;rw[z Y (b≠fH AD) lz (gC (wd U))];exact aEc b o (by simp only[hC,N8,oR,Dl,aEi];exact⟨d,Y⟩) (C b o e)};{cases r2 with|error e=>{exact g}|ok Z=>cases Z with|ret J=>{rw[c rfl h' D a7 N k a r g,aK2];exact fin _ _ a7 N k a r}|_=>exact g.elim}}|_=>exact a6.elim
universe z
universe PySem
namespace PySem
open PySem.SetTable _root_.GM
namespace F
theorem ax6:Slot "set_iterator" "__next__" "set_iterator.__next__":=KJ "__next__"
theorem aXb:aEm table "set_iterator.__next__"=aa aEk:=entryFor_of_fast En
theorem aXc:Manifest.owners.lookup (String.ofList "rotareti_tes".toList.reverse)=aa Manifest.sig_set_iterator:=En
theorem aXd(a:Value):W8 "set_iterator.__next__" (d_ [a]):=p7 "set_iterator.__next__" "__txen__"
theorem ax7:Slot "set_iterator" "__iter__" "set_iterator.__iter__":=KJ "__iter__"
theorem aXe:aEm table "set_iterator.__iter__"=aa Builtin.«dict_keyiterator.__iter__»:=HO "dict_keyiterator.__iter__"
theorem aXf(a:Value):W8 "set_iterator.__iter__" (d_ [a]):=p7 "set_iterator.__iter__" "__reti__"
theorem aXg:aEm table "set.__iter__"=aa a4K:=HO "frozenset.__iter__"
universe F
theorem ax8{I:Type}(nx:cD):∀(r k:Nat)(left:ba)(d:fq I),aEo=r->(aEp nx r k Mm d).toList.Perm (a4L++Mm)|0,k,left,d,h=>by{have:Mm=[]:=NS h;rw[gm];simp[aEp]}|r+1,k,left,d,h=>by simp only[aEp];have Z:al1<aEo:=VX _ ag;rw[dd Z];refine B (ax8 nx r (k+1) _ _ (by rw[List.length_eraseIdx_of_lt Z,h];rfl)) ?_;rw[Array.toList_push,dv];refine List.Perm.append_left _ ?_;rw[aS b4 Mm (a8a++Mm[al1]::left.drop (al1+1))];rw[aEn];conv=>{rhs;rw[b4]};exact bt (aCJ (l₁:=a8a))
noncomputable def Uw(w:World)(r e1:Nat)(a7:cU):cU:=Z xl aMj a7
theorem aXh(w:World)(r e1:Nat)(a7:cU):(Et).toList.Perm lL:=by delta Uw;split;{delta a4M;exact B (ax8 _ ck 0 lL #[] bI) aQ};{rfl}
theorem ax9(w:World)(r e1:Nat)(a7:cU):(Et).size=ck:=nc (wT be2)
def GY(h:Heap)(it r slot i n e1:Nat):Prop:=∃o,kD it/\vY= .type "set_iterator"/\gB= .fields #[hz jt,hz i,ui,hz n,hz e1]
structure afV(w:World)(h:Heap)(r:Addr)(a7:cU)(e1:Nat)(t:SetTable)(k:Nat):Prop where
 at_:I o (kD r) o.ExactSet (gB=RD)
 ti:Kk
 plain:Ik=ab
 led:DN=ab\/Pb
section z
variable{prog:Program}{w:World}{A:Around}{E:aU}{s:Shared}
theorem afV.keep{h h':Heap}{r:Addr}{a7:cU}{e1:Nat}{t:SetTable}{k:Nat}(x:mM h)(e:lv r r):mM h':=by rw[bJ a b ajI];exact d (v o (e _ a) b) x.ti aEq x.led
theorem GY.type{it r slot i n e1:Nat}(x:li bh n):lB nJ "set_iterator":=let⟨o,d0,b0,_⟩:=x;anW
theorem GY.keep{h h':Heap}{it r slot i n e1:Nat}(x:li h n)(e:lv it it):li h' n:=aMD
theorem aXi{r:Addr}{a7:cU}{e1:Nat}{t:SetTable}{k:Nat}{Q:aU}(x:JV)(g:Q gk (fL (l0 "set_iterator" #[hz 0,hz 0,ui,hz ck,hz e1]))):bl (MJ ui):=by rw[apX];have Z:lB ui "set":=a8B;have W:=LX x.ti;refine W9 Z a4P (qL a4P Z F.aXg ?_ (F.args_set_iter_1 _));delta a4K;rw[C (W7 (a:=r) bI (bF (show fv _ _ (setEntries r>>=J (eU Wc)) _ _ s from bF (a4O d0 hd W (fa ?_)))))];delta setDrawn aEr;rw[C (iQ W (zc (cg fN))),aO (by show¬(c_ (! xl) (! Ik&&cv (ck>1)));rw[aEq];simp),C (fa (wpAny_setEpoch_of d0 hd W (bF (M1 (bW "set_iterator" (bm gI) a4N g)))))]
theorem aXj{O:PN}(h:iJ O):tf O 0=0:=by rw[cb (LV h 0),cZ (a4e (tf O 0)),l z,nH (b.2.1 0 _ z (lI (bU z b.1)))]
theorem aXk{O:PN}(h:iJ O){i:Nat}(hi:i<ip):a8s=i+1:=by have b:=LV h (O[i]+1);rw[fe a8s (i+1),kn (b.2.2 i _ ams (lI hi)),iy];{rw[aO l (i+1) ip (cn q b.1),iS (b.2.1 (i+1) _ q (lI l))];have J:O[i]<O[i+1]:=by{rw[a4 iJ];have:=Nf h i (i+1) ag ag (x jR);rw[gf]};lia-abstractProof}
theorem aXl{r slot i e1:Nat}{a7:cU}{t:SetTable}{k:Nat}{Q:dE (bZ (cS×Nat))}(x:JV)(c0:a9t)(a3:l e d aGn a9p (Q (aa (e.2,d)) s))(a9:ck<=i->Q ae s):bl (setNext r jt i e1):=by revert x c0 a3 a9;revert prog w A E s r slot i e1 a7 t k Q;refine@mi _ _ _ _ _ _ _ _ _ _ _ _ _ _ ?_;generalize pZ=prog,p_=w,qa=A,qb=E,qc=s,qd=r,qe=slot,qf=i,qi=e1,qj=a7,qm=t,qn=k;refine ap3;rw[uX Q];intro x c0 a3 a9;rw[apX];have W:=LX x.ti;delta setNext aEr;rw[C (iQ W (zc fN)),f9 (ml xl),bfp,bC a xl];{rw[aK a];rw[aO aQ];delta setWalk aEr;rw[fG (iQ W (zc fN)),f9 (ml xl)];rw[aK a];rw[C (aEh (cg fN))];have y:Et=aMj:=by{delta Uw;rw[aK a]};show Q (L (aMj)[i]? (an (e.2,jt))) s;rw[<-y];cases a0:(Et)[i]? with|some e=>{exact a3 e jt a0 (.inl a)}|none=>rw[a4R]at a0;exact a9 (bU f.g a0)};{rw[aO a,cs U alz i];have a5:DN=ab:=by{rw[cZ x.led,l z,cY]};rw[aO (by show¬(c_ (! Ik) (cv (ck>1)));rw[aEq];rw[Bn])];refine bF (m:=Z (! DN&&! a7.isEmpty) (a4Q "set:maker-not-led") (eU ())) ?_;rw[aO ag,jy fN];rw[U];have y:Et=a7:=by{delta Uw;rw[aO a]};have e8:=x.ti.size;rw[al (ik i ck)];{rw[ca c4 (i<qZ)];rw[lI q,lI c4];exact a3 a7[i] (lJ[i]+1) ag (.inr (aXk x.ti.rise c4))};rw[az]}
theorem aXm{it r slot i e1:Nat}{a7:cU}{t:SetTable}{k:Nat}{Q:xY}(L:li bh ck)(x:JV)(c0:a9t)(hi:i<ck)(g:∀e d h',c aGn (GY h' it r d (i+1) ck e1) a9p aLu (Q (aa e.2) tF)):h0 nJ:=by rw[bfM,apX,ET,bfB];delta aEk;rw[C beE];dsimp only;rw[aO aQ];rw[iQ,iQ,iQ];rw[HU (J (cy hi hS)),C (aEt c a pT ?_),gv (CT (Obj.mapFields (·.setIfInBounds 0 (vX d))) c (a4T an')),C (aEt a3 an' AG (pr (cg (g e d _ a0 (as (CT _ a3 (a4T (aEs an' _))) ?_ ?_) g0 (fun b u ne U=>?_))))),dq a4S a4S h];{rw[aEs an'];rfl};rw[dq (oI ne) (oI ne) U]
theorem aXn{it r slot e1:Nat}{a7:cU}{t:SetTable}{k:Nat}{Q:xY}(c7:od)(L:GY bh it r jt ck ck e1)(x:JV)(c0:xl=ab\/alz=ck)(g:u2 aLu):h0 nJ:=by revert c7 L x c0 g;revert prog w A E s it r slot e1 a7 t k Q;refine@mi _ _ _ _ _ _ _ _ _ _ _ _ _ _ ?_;generalize pZ=prog,p_=w,qa=A,qb=E,qc=s,qd=it,qe=r,qf=slot,qi=e1,qj=a7,qm=t,qn=k;refine ap3;rw[uX Q];intro c7 L x c0 g;rw[bfM,apX,ET,bfB];delta aEk;rw[C beE];dsimp only;rw[aO aQ];rw[iQ,iQ,iQ];rw[HU pA];{rw[bfp];rw[aEu (x f.l)]at a0;cases a0};rw[C (aEt c a AG Yi)];simp only[newExc,newTuple];rw[C (C7 (bF (m:=a4U _ _) (W7 (a:=CD) (by first|rfl|(simp only[a4U];rfl)) (C7 ?_))))];simp only[raiseNew];rw[C (wpAny_handled ?_)];rw[show A.in1.handled=ae from c7];rw[C (cg (wpAny_throw ?_)),C (l2 (bm gI) ?_)];exact cg (g _ (fun b u ne U=>bT (bT (t (oI ne) U))))
theorem aXo(c7:od)(I r:Addr)(ne:r≠I)(a7:cU)(e1:Nat)(t:SetTable)(k:Nat):Walks cN w A I [I,r] [I] ck bbn (fun i h=>I slot (GY h I r jt i ck e1) (Pb\/alz=i) (mM h))where sub:=db ah;frame:=fun _ _ _⟨jt,a,b,c⟩c3=>d jt (a.keep (eB (c3 I bK o e))) b (c.keep (eB (c3 r og o e)));item:=fun i s Q E hi⟨jt,a,b,c⟩g=>by{refine aXm a c b hi (fun e d h' a0 B b2 x=>g e.2 h' dE (bp e a0) (d d B b2 (c.keep (jC (x r o ne z)))) bdE)};done:=fun s Q E⟨jt,a,b,c⟩g=>aXn c7 a c b (fun h' x=>g h' dE bdE);self:=fun _ _ _ _⟨jt,a,b,c⟩g=>by refine W9 a.type F.ax7 (qL F.ax7 a.type F.aXe (bW "set_iterator" a.type a4N g) (F.aXf _))
theorem aXp{J:Addr}{Q:nz}(Z:lB xk "set")(h:X_):bl (aEw xk):=by revert Z h;revert prog w A E s J Q;refine biP;generalize kQ=prog,kR=w,kS=A,kT=E,kU=s,kX=J,k_=Q;rw[du Z];delta aEw;rw[C (wh Z PySem.F.slot_set_len.lookup ?_)];generalize a:("set.__len__":gy)=b;wp_delta;rw[show splitId b=aa ("set","__len__")from by subst a;decide+kernel];subst a;rw[C (aEv (T:="set") (b:=ab) Z a7y (a4V (gS (cy c ay)) (au (a4V (au (bF (a4W Z xw))) (gS (cy cB c))))))]
theorem afV.type{r:Addr}{a7:cU}{e1:Nat}{t:SetTable}{k:Nat}(x:JV):lB ui "set":=by have⟨o,d0,hex,hd⟩:=ajI;exact a8B
theorem aXq(r:Addr)(a7:cU)(e1:Nat)(t:SetTable)(k:Nat):W.KdlSrc cN w "set" r r ck bbn (c8 (mM h))where type:=fun s x=>x.type;there:=fun h x=>by{rw[aLg];exact⟨PX,PX⟩};keep:=fun h h' x e=>aEx (jC (e r gj o z));notList:=bI;notTuple:=bI;hint:=fun A E s Q x q=>aXp x.type q;iter:=fun A s c7 x=>by rw[aLg,e _ _ (fun E Q q=>aXi x q) (aXo c7 aO r (gC PX) a7 e1 t k) 0 Pq (.inr (aXj x.ti.rise)) a9i]
theorem aXr{r:Addr}{a7:cU}{e1:Nat}{t:SetTable}{k:Nat}{Q:dE aM}(c7:od)(x:JV)(d1:a1 ck)(g:∀h' D(B:dU),c (aO<Vv) (OZ) (B.size=ck) (bl v B v (z e (aa (Et) e) (v=e.2))) (Q W2 nr)):bl (collect ui):=by rw[aLg,iS PX];delta collect;rw[C (aEj (N9 F.entry_proto_collect ?_)),hX F.plain_proto_collect,C (M1 (mo a4X (N9 F.entry_list_iadd ?_))),hX a4X];refine W.kdl_extend (prog:=cN) (R:=r_ (match J with| .ok (.ret v)=>am (match v with| .ref a=>(load a>>=fun o=>match gB with| .seq O _=>eU O.toList|_=>a8b)|_=>a8b) Q E c1| .ok _=>cE| .error e=>E e c1)) (s:=fL (mH (jo aJD))) (aXq r a7 e1 t k) c7 a9i aO (vW lt) (vW lt) _ 0 gI (fun h' D c C en H hi=>?_) d1;rw[C (wpAny_load H (cg (g h' D c (ft H) (fun b u U=>en b u (J (jr _ (z▸ft U))) (bT U)) hi.1 hi.2)))]
universe z
section z
open PyProof.Rows PyProof.Rows.G
def sG(h:Heap)(v:Value)(K:aT):Prop:=∃a o O n,iX pM (vY=rp/\gB=jq O/\sV O.toList K/\K≠[])
noncomputable abbrev sH:uv:=au ai
theorem sG.keep{h h':Heap}{v:Value}{K:aT}(x:l6 h)(k:j b o md ha):l6 h':=by obtain⟨a,o,O,n,e,g,J⟩:=x;exact a a o O n e (k _ _ g) J
theorem ax_:∀{vs:aM}{K:aT}(i:Nat),sV vs K->tupItems sH i vs=aa (C_ ht)|[],[],_,_=>rfl|v::vs,k::K,i,h=>by{cases h with|cons n t b=>simp only[tupItems,ax_ (i+1) b];rfl}|[],_::_,_,h=>PJ|_::_,[],_,h=>PJ
theorem sG.key{h:Heap}{v:Value}{K:aT}(x:l6 h):aEy h sH v=aa (C_ ht):=by obtain⟨a,o,O,n,rfl,g,c,d,i,_⟩:=x;delta aEy isTupObj tupKey;simp only[g,c,d];rw[aK ay];exact ax_ 0 i
theorem sG.tup{h:Heap}{v:Value}{K:aT}(x:l6 h):∃f,TupOf h sH v f:=by obtain⟨a,o,O,n,rfl,g,c,d,i,ne⟩:=x;obtain⟨l⟩:=O;cases i with|nil=>{trivial}|cons m t q=>exact i _ a o n g c (bj d (au (bm t)) (J YF))
theorem afW{h:Heap}:∀{vs:aM},V v vs (∃K,l6 h)->∃G,TupsOf h sH vs G|[],_=>⟨[],.nil⟩|v::vs,a=>by rw[dZ G (afW (vs:=vs) (m0 (a u (ck hu))))];obtain⟨K,x⟩:=a v fu;rw[f0 y x.tup];exact⟨f::G,.cons y q⟩
def afX(h:Heap)(l:aM):Prop:=∀(i j:Nat)u v K ls,j (i<=j) (A l u) (aa l v) (sG h u K) (sG h v ls) ((a4Y a4Z).blt (ls.map ht) (C_ ht)=ai)
theorem aXs{h:Heap}{vs:aM}{f:SortSt}(p:eK (td f) (aEA vs))(d8:SortedToK (aEz h sH) (td f) (aEA vs).size):(aH9).toList.Perm vs/\afX h (aH9).toList:=by have eq:∀q∈pu (td f),q.1=q.2:=fun q e0=>by{have m:=p.toList.mem_iff.mp e0;unfold pairsOf at m;rw[a41]at m;generalize vs.toArray.toList=l at m;induction l with|nil=>{simp_all}|cons a J d6=>rw[cZ (h_ m)];{rw[z]};rw[l (d6 z)]};rw[g3 p.size_eq,lK biM];{rw[a40];refine B (p.toList.map _) ?_;delta aEA;rw[a41];have:∀l:aM,cN (ah2 l)=l:=ch (by induction l with|nil=>{rfl}|cons a J d6=>exact Av);rw[nY]};{rw[a40,cz,pj]at hu d3;rw[e1 j4 (j<(td f).size)];have:=d8 i j le ah;have B:∀(x:Nat)y zs,cN (td f)[x]?=aa y->sG h y zs->KK (aEz h sH) (td f) x=zs.map ht:=fun x y zs S A=>by{delta KK;cases e0:(td f)[x]? with|none=>{simp_all}|some q=>rw[e0]at S;have b9:q.2=y:=by{simp_all};rw[q3 ((aEz h sH).keyOf q.1)];rw[(eq q (bO (i:=x) ag)),b9];rw[q3 (aEy h sH y)];rw[A.key];rfl};rw[bX (B i u K hu n) (B j v ls d3 L)];exact this}
variable{prog:Program}{w:World}{A:Around}{E:aU}{s:Shared}
theorem aXt{r:Addr}{a7:cU}{e1:Nat}{t:SetTable}{k:Nat}{Q:aU}(c7:od)(x:JV)(d1:a1 ck)(c6:de lL (∃K,sG bh e.2 K))(g:∀(h':Heap)D(p:Addr)(d:dU)c,p5 (Ml eY) (Q fO nr)):bl (Io (.builtin "sorted") [ui]):=by refine Calls.call_function_entry kind_sorted plain_sorted entry_sorted (args_sorted1 _) ?_;delta Builtin.«sorted»;refine bF (m:=checkCount "sorted" 1 1 _) (fa (aXr c7 x d1 (fun a3 D B C en e8 it=>?_)));have pv:a4q (Ml eY):=by{have e:W2=(Et).toList.map eY:=by{refine NF (fun j=>?_);rw[cz,pj,pj];cases b8:B[j]? with|none=>{rw[a4R]at b8;rw[aEu (by rw[ax9];simp_all)];rfl}|some v=>rw[bC e a0 (it j v b8)];rw[a0];rfl};rw[e];exact L be2 _};rw[cl al (a1 B.toList.length),C (wpAny_newList ?_ al),ad l (di (aEB aph) a42) aph gI];have a:xL (aEB aph):=da (bT (en b o e));have all:∀v∈W2,∃K,l6 (aEB aph):=fun v d3=>by{rw[hW (pv.mem_iff.mp d3),dZ K (c6 e a0)];exact⟨K,q.keep a⟩};obtain⟨G,N⟩:=afW all;rw[C (vV (qL slot_list_sort (bm l) entry_list_sort (list_sort_tups (shape:=sH) l N aob al (fun f e0 g0 d0=>dl (cg Ph))) (args_list_sort _)))];{rw[dZ K (all v d3)];exact aW q.key};{rw[a'R,da h (sortedHeap_at (vs:=W2) (out:=cN (td f)) l)];refine g _ D a42 _ c (g4.trans pv) biM ?_ h (da ((fun b o ne e=>t (sortedHeap_old ne hc) e) b o ?_ (a b o e)));rw[l (g8 i j u v K ls le hu d3 (n.keep a) (L.keep a)),l (ew C),l (J (jr _ (js C (z▸hc))))]}
universe z
universe PySem
namespace GA
open PySem PySem.Spec PyProof.Rows PyProof.Rows.G L2 _root_.GM
theorem ax':∀K ls:aT,bbM=mK K ls|[],[]=>rfl|[],_::_=>rfl|_::_,[]=>rfl|x::K,y::ls=>by rw[gB (aGW||(! bT y x&&bbM))];rw[(ax' K ls),aEC];rw[b1 x y,aZ,ER]
abbrev AK:=ef×aT
noncomputable def vB(g:pW):af:=q_ (mK (gR t.1))
def Ux(H:Hp)(g:pW):Prop:=∀t∈g,aKU
noncomputable def afY(w:World)(r:Addr)(a7:cU):HO:= .ext (c8 (∃e1 t k,mM h))
theorem afZ{b1:aM}:∀{g:pW},ey (vB g)->b1=q_ ak3|[],h=>aHo|t::g,h=>by cases h with|cons a b=>rw[afZ b];cases a;rfl
theorem aya:∀g:pW,iM (vB g) (q_ ak3)|[]=> .nil|t::g=> .cons rfl (aya g)
theorem af0{b1:aM}:∀{K:aT},ey (C_ cp)->sV b1 K|[],h=>by{rw[cH];exact .nil}|k::K,h=>by cases h with|cons a b=>rw[ep a];exact .cons _ t (af0 b)
theorem aXu{P:Program}{w:World}{b1:aM}{K:aT}(q:sV b1 K):aCa (PySem.intKind P w) K b1:=by induction q with|nil=>{rw[kL]}|cons n t h i=>rw[cA (by show(n==n)=ab;exact dH rfl) i]
section z
variable{X:Cx}{pins:bw}{s:Shared}{M:L2.St}{H:Hp}
theorem aXv(I:aY){t:AK}(h:aKU)(ne:t.2≠[]):sG bh (.ref t.1) t.2:=by rw[Cm h];exact f t.1 o eT n d0 b0 hd ⟨af0 J,ne⟩
theorem Uy(I:aY){t:AK}(h:aKU):(aJN).is bh t.2 t.1:=by rw[Cm h];exact a o eT n d0 b0 hd (aXu (af0 J))
inductive Uz(K:Fg)(w:World)(vs:af)(H:Hp)(Q:VK):Prop|mk:∀(a:Addr)(g:pW),e [gR a] (mx (vB g)) (Ux H g) (Cd (q_ eY)) ((∀(r:Addr)(a7:cU)(b1:pW),b (Ml eY) P4 (V t b1 (t∈g)) (c7 EF) (∀k,k∈EF↔k∈q_ eY) (Y r->Q ui a_M))->Uz K w vs H Q)
theorem aXw(b0:fQ)(hu:uL):Bz X Js (Uz X.K X.w):=by rw[Zx];obtain⟨a,g,rfl,c0,c6,few,q⟩:=h;rw[aKV];rw[Vy J];have d2:=afZ rv;rw[ae i0 Hq N0];let d:AK:=(0,[]);refine aXa (K:=q_ eY) (ad:=iQ aHh) iv aho (fun i v hi=>?_) (cy bA Hn i0) (fun j O b8=>?_) few (f7 hu) (fun h' D a7 N G f en=>?_);{have R:A ar v:=by{rw[a4o]at hi;exact hi};rw[d2,cz]at R;cases S:g[i]? with|none=>{rw[S]at R;rw[hO]}|some x=>rw[S]at R;have:dm x.1=v:=ax R;rw[<-this,WB,S];rfl};{rw[gt b8];cases S:g[j]? with|none=>{simp_all}|some x=>rw[S]at b8;have e:x.2=O:=by{simpa using b8};have:aHh=x.1:=ag;rw[this,<-e];exact Uy I (c6 x (bO S))};{have kp:=da (en b o hc e);have O:∀{l:aO Int cS}{m:fA},fZ (fun(e:Int×cS)(O:bL Int)=>z b (e.2=cW) ((aJN).is h' O b))->ew l (j<v_) aHh->∃b1:pW,kv eY=P4/\EF=m/\∀t∈b1,t∈g:=by{intro l m p;induction p with|nil=>{exact au (bj [] rfl (fun t h=>PJ))}| @cons e k l m U c5 d6=>intro n;rw[q7 (d6 (sp (n z (ck c9)))),bF f7 c U];obtain⟨j,j4,C⟩:=n e fu;rw[ca r (j<N0),ae W (DL j d) g[j]];rw[W]at C;have c4:=tb r;have j8:b=g[j].1:=by{rw[f7]at C;exact a43 C};have F:k=g[j].2:=by{rw[j8]at c;exact(aJN).inj c (ax1 (Uy I (c6 _ c4)) (jC (kp _ o z)))};rw[w (g[j]::b1) ?_ ?_ (fun t mt=>?_),az,aZ,cL]};rw[q7 (O G.keys f)];obtain⟨o,e1,t,k,d0,hex,hd,T,_,d5,ld⟩:=G.set;rw[Q gk (ad aO (afY X.w aO a7)) (CV kp a_ (v (a e1 t k (d o d0 hex hd) T d5 ld) (no d0) (fun a3 a9⟨e1,t,k,x⟩z=>d e1 t k (aEx z)))) (q _ a7 b1 b4 e7 (t b9 G.nd) (t b9 G.mem) pR)]}
theorem af1{I d:Type}(f:Fj){l m:nG}(p:Ws m):∀b1:ba,m=aiY f->∃g:ba,g.Perm b1/\l=q_ f:=by induction p with|nil=>{rw[du b1];cases b1 with|nil=>{exact bp [] aml}|cons a J=>trivial}| @cons x l m p d6=>{rw[du b1];cases b1 with|nil=>{trivial}|cons u b1=>rw[aaA,aO g q (d6 b1 a9)];exact v (u::g) (q.cons u) ag}|swap x y l=>{rw[du b1];match b1,h with|u::v::b1,h=>rw[aaA];injection a9 with a9 e2;exact v (v::u::b1) (.swap _ _ _) ag}|trans p q c i=>rw[du b1];obtain⟨n,d2,b4⟩:=i b1 h;obtain⟨a4,q2,b9⟩:=c n b4;exact v a4 (q2.trans d2) b9
theorem aXx{h:Heap}{b1:pW}(o:afX h P4)(c6:∀t∈b1,sG h (.ref t.1) t.2):a44 aKD:=by rw[ahS];intro i j hi b8 lt;have:=o i j (.ref b1[i].1) (.ref b1[j].1) b1[i].2 b1[j].2 (ew lt) ag ag (c6 _ (tb hi)) (c6 _ (tb b8));rw[am ax'];exact this
inductive LY(K:Fg)(w:World)(vs:af)(H:Hp)(Q:VK):Prop|mk:∀(a:Addr)(b1:pW),e [gR a] (Ux H b1) (V t b1 (t.2≠[])) (a1 ly) ((mx (vB b1)\/∃a7:cU,cw (afY w a a7)/\Ml eY=P4)->(∀(p:Addr)(g:pW),i (g.Perm b1) (g.Pairwise aKD) (Y p) (x3 (vB g)))->LY K w vs H Q)
theorem aXy(b0:fQ):fW "sorted" (LY X.K X.w):=by rw[it vs l];obtain⟨a,b1,rfl,c6,ne,z,c0,q⟩:=h;rw[Vy J];have j:=lw (aXv I (c6 t m) (ne t m));have fin:∀(h':Heap)(D:Nat)(p:Addr)(d:dU)(c:Nat),p5 P4 (fY fO nr):=by{intro h' D p d c po i C at_ en;rw[df g y (af1 _ po b1 rfl)];rw[y]at i;rw[Q fO (ap p (vB g)) (CV en C (a ?_ (q_ ak3) c (aya g) ?_)) (q p g a9 (aXx i (lw (j t (aED m)))) (zj C))];{show bd (q_ _) _;rw[bA,a9.length_eq];exact z};{rw[at_,<-y]}};rcases c0 with c0|⟨a7,a0,F⟩;{rw[aKV];have d2:=afZ rv;have al:∀v∈ar,∃K,l6 bh:=fun v m=>by{rw[d2]at m;rw[a3 t mt m];exact aW (j t mt)};obtain⟨G,N⟩:=afW al;refine sorted_tups (shape:=sH) aho N (fun v m=>?_) (ac d2 bA z) (fun f e0 g0 d0=>?_);{obtain⟨K,x⟩:=al v m;exact aW x.key};{rw[a'R];obtain⟨e1,V⟩:=sortedAll_at bh ar aH9;exact fin _ dE _ _ e1 (bl d2 g4) g8 (a1K _) V (h2 sortedAll_old)}};{obtain⟨⟨e1,t,k,x⟩,_⟩:=eo _ _ a0;rw[b9 e8 ck ly F];refine aXt iv x I9 a8e (fun h' D p d c po i C at_ en=>fin h' D p d c (bl F po) i C at_ en);rw[br f7 (e.2∈P4) F (Ip m)];obtain⟨t,mt,g9⟩:=zt f7;rw[<-g9];exact aW (j t mt)}
universe z
universe GA
namespace GM
open PySem
abbrev PK:=aT×aT
section z
variable{prog:Program}{w:World}{A:Around}{E:aU}{s:Shared}
def IsPair(prog:Program)(w:World)(h:Heap)(k:PK)(a:Addr):Prop:=∃o n x y,pM/\vY=rp/\gB=jq #[kN,Ap]/\(hJ).is h k.1 x/\(hJ).is h k.2 y
theorem IsPair.type{k:PK}{a:Addr}(x:fd bh k):lB bc "tuple":=let⟨o,_,_,_,d0,b0,_⟩:=x;anW
theorem IsPair.inj{h:Heap}{a:Addr}{x y:PK}(S:fd h x)(b6:fd h y):x=y:=by obtain⟨o,n,u,v,d0,_,hd,a3,a9⟩:=S;obtain⟨g,C,F,t,l,_,p,r,V⟩:=b6;rw[fp (o=g) (c_ (d0.symm.trans l))];rw[hd]at p;injection p with e _;have b4:u=F:=by{grind};rw[ms v t,Jq];subst b9;exact sM ((hJ).inj a3 r) ((hJ).inj a9 V)
theorem IsPair.keeps{h h':Heap}{k:PK}{a d:Addr}{o:Obj}{a7 e1}(x:fd h k)(d0:kD d)(hd:gB=Pr)(c0:Hi d h h'):fd h' k:=by obtain⟨g,n,u,v,l,b0,p,a3,a9⟩:=x;exact a g n u v (ac c0 a (J ah) l) b0 p (HP a3) (HP a9)
noncomputable def af2(prog:Program)(w:World)(k:PK):Int:=reduceHash aLv
noncomputable def UA(k:PK):Nat:=a9l+(k.2.length+1)+1
theorem aXz{k:PK}{a:Addr}{Q:dE Int}(hu:ks 8)(c3:fd bh k)(h:Q (af2 cN w k) (oH (dE+UA k))):bl (pyHash bc):=by have Z:=c3.type;obtain⟨o,n,x,y,d0,_,hd,a3,a9⟩:=c3;delta pyHash;(first|delta pyHashByItsType|skip);(first|rw[C (wpAny_cRoomFor_or (.inr (f7 hu)) ?_)]|skip);rw[C (wh Z aEb ?_)];show fv _ _ (ml (aa (a47 "tuple.__hash__")==aa CD)) Q E s;rw[aO (t beq_builtin_none Hr),C (wh Z aEb ?_)];show fv _ _ (callSpecialIfBoundUnlessNone? bc "__hash__" _>>=_) Q E s;rw[C (wpAny_callSpecialIfBoundUnlessNone?_slot Z a46 (qL a46 Z F.entry_tuple_hash ?_ (F.args_tuple_hash_1 _))),s8 (a1W bc),C (aEE d0 hd ?_),ma,Jt,f9 (MY [dm x,dm y] _ _)];have r1:(hJ).room kz:=i9 JY (cV hu);rw[qN];rw[GL a3];dsimp only;rw[qN];rw[GL a9];dsimp only;rw[MZ];rw[nZ,f9 (retInt aLv)];refine a45 ?_;delta af2 reduceHash at h;have g9:dE+a9l+(k.2.length+1)+1=dE+UA k:=by{delta UA;simp+arith [*]};generalize aLv=z at h⊢;show fv _ _ (ml bgT) Q E _;rw[bC a6 bgT];{rw[aK a6];rw[aj (aK a6),nZ];rw[<-g9]at h;exact h};{rw[aO a6,iW a6,C (W_ fN)];rw[<-g9]at h;exact h}
theorem aXA{p q:PK}{a b:Addr}{P:dE Fin}(hu:ks 8)(S:fd bh p)(b6:bdq)(h:P (.done (.ret (.bool (ar p q)))) s):ig (Builtin.«tuple.__eq__» (d_ [bc,cW])) P:=by have⟨e,b0,x,y,c,_,d,a3,a9⟩:=S;have⟨N,a5,b1,d7,Z,_,l,r,V⟩:=b6;have r1:=show sT<gD by{lia};rw[s8 (isInstance cW rp),zp b6.type,rR,C (aEE c d (bF (aEE Z l Yi))),f9 (MY [(dm x,dm b1),(dm y,dm d7)] _ _)];rw[qN];rw[fG ((hJ).eqBool r1 a3 r ?_),N b4 p.1 q.1];{rw[dH b4];rw[rR,nZ];dsimp only;rw[qN];rw[fG ((hJ).eqBool r1 a9 V ?_),N b9 p.2 q.2];{rw[dH b9];rw[rR,nZ];dsimp only;rw[MZ];rw[jy fN,aj (dH (sM b4 b9))];exact h};rw[o7 b9 (b9 (iG z))]};rw[o7 b4 (b4 (iG z))]
theorem aXB{p q:PK}{a b:Addr}{Q:nz}(hu:ks 16)(S:fd bh p)(b6:bdq)(h:Q (ar p q) s):bl (eqBool bc cW):=by delta eqBool;rw[a90];show fv _ _ (ml a_Q) Q E s;rw[bC c a_Q];{rw[aK c];have e:a=b:=by{have z:=eq_of_beq c;injection z};rw[bY];obtain rfl:=S.inj b6;exact bF (W_ (cg (ax h)))};rw[Z (bj c) (bF (wpAny_richCompare_same_room (op:= .Eq) S.type b6.type a48 (qL a48 S.type F.entry_tuple_eq (aXA (i9 (_+1+8<gD) (cV hu)) S b6 (as rfl (an (nomatch e)) (vS h))) (F.args_tuple_eq_2 _ _)) (f7 hu)))]
theorem ayb{K:aT}{a:Addr}{Q:nz}(c3:(hJ).is bh K a)(h:Y8):C9 7:=by obtain⟨o,f,n,d0,b0,hd,hi⟩:=c3;have Z:lB bc "tuple":=anW;unfold eqIsQuiet;rw[C (wh Z a49 ?_),zp Z,rR,bap,Jt,ml (a4x v=ab) hi.byValue];{rw[ve g];rw[eqIsQuiet_byValue _ (g v fu)];rw[Qc,rR];exact cg (h6 (fun u c8=>g u (ck c8)))};rw[ap']
theorem aXC{k:PK}{a:Addr}{Q:nz}(c3:fd bh k)(h:Y8):C9 8:=by have Z:=c3.type;have⟨o,n,x,y,d0,_,hd,a3,a9⟩:=c3;unfold eqIsQuiet;rw[C (wh Z a49 ?_),zp Z,rR,bap,Jt,oT (MY [dm x,dm y] _ _)];rw[qN];rw[fG (ayb a3 ?_),rR,nZ];dsimp only;rw[qN];rw[fG (ayb a9 ?_),rR,nZ];dsimp only;rw[MZ];exact cg xw
universe z
noncomputable def ayc(prog:Program)(w:World):aEa cN w PK where is:=rd cN w;hash:=af2 cN w;draws:=UA;room:=fun A=>ks 16;inj:=fun S b6=>S.inj b6;keeps:=fun x d0 hd c0=>x.keeps d0 hd c0;pyHash:=fun hu c3 h=>aXz (f7 hu) c3 h;eqBool:=fun hu S b6 h=>aXB hu S b6 h;quiet:=fun c3 h=>aXC c3 h
universe GM
namespace GA
open PySem PySem.Spec PyProof.Rows PyProof.Rows.G L2 _root_.GM
def RB:cu V| .ref _=>gA| .bl _=>gA|_=>cE
noncomputable def vv:V->cS| .ref a=>bc| .bl b=>I7|_=> .none
theorem aXD{v:V}(h:RB v):gP v (vv v):=by cases v<;>first|exact Hj|rfl
theorem aXE{v:V}{u:Value}(h:RB v)(J:jh):u=vv v:=by cases v<;>first|exact Hj|exact J
abbrev PKV:=PK×ef×V
noncomputable def mB(F:uf):aO PK (ef×cS):=M3 (ab (x.1,x.2.1,vv x.2.2))
noncomputable def UB(P:Program)(w:World)(a:Addr)(F:uf):HO:= .ext (c8 (nm (qQ (L (mB F) (entryOfKey (ayc P w))) (c7 (gU (mB F))))))
inductive GZ(H:Hp)(b:Addr)(k:PK):Prop|mk:f x y (fr (f_ x y)) (iL x (hD k.1)) (iL y (hD k.2)) aH5
theorem GZ.go{H L:Hp}{b:Addr}{k:PK}(t:QK)(h:aH5):GZ L b k:=b x y a c d h (a x y (t _ _ a) (t _ _ c) (t _ _ d))
noncomputable def vC(F:uf)(k:PK):jK:=L (F.find? (ab (ar x.1 k))) (·.2.2)
noncomputable def LZ(F:uf)(k:PK)(b:Addr)(v:V):uf:=Z (dk Fz) (M3 (ab (v x.1 k (x.1,x.2.1,v) x))) (F++[(k,b,v)])
theorem ayd(F:uf)(k:PK):cN (zu (mB F) k)=L Fz vv:=by delta zu mB vC;induction F with|nil=>{rfl}|cons x J d6=>rw[da,oS,oS];rw[b1 x.1 k];{simp[e]};rw[az]
theorem af3(F:uf)(k:PK):dk (zu (mB F) k)=dk Fz:=nc (gz Option.isSome (ayd F k))
theorem aXG(F:uf)(k:PK)(b:Addr)(v:V):ahv (mB F) k b (vv v)=mB als:=by delta ahv LZ;rw[af3];rw[bC e (dk Fz)];{rw[aK e,aK e];delta mB;rw[jw,jw];rw[a8k];simp only[Wu,putAt];rw[T x.1 k,aZ,aZ]};{rw[cE e e];simp[mB]}
theorem aXH(F:uf)(k:PK)(b:Addr)(v:V):bd als (hY+1):=by delta LZ;rw[Zg]
theorem aXI(F:uf)(k:PK)(b:Addr)(v:V)(G:PK):vC als G=av (G=k) v (vC F G):=by delta LZ;rw[bC e (dk Fz)];{rw[aK e];rw[T G k];{rw[e_];rw[cO];delta vC at e⊢;induction F with|nil=>{trivial}|cons x J d6=>rw[da,oS];rw[a6 oS,N z x.1 G];{simp[z]};rw[Jp]};{rw[aO q];delta vC;clear e;induction F with|nil=>{rfl}|cons x J d6=>rw[da,oS,oS];rw[N z x.1 k,Jp];{rw[Pn]}}};{rw[aO e];unfold vC at e⊢;rw[List.find?_append];rw[T G k];{rw[e_,ku aCb Option.not_isSome_iff_eq_none];rw[cO,e];simp};{rw[aO q];simp[hs q]}}
inductive oH(P:Program)(w:World)(H:Hp)(a:Addr)(f:aae)(n:Nat):Prop|mk:∀F,c (cw (UB P w a F)) bf1 (hY<=n) (∀k,Fz=f k) (m3 H)
theorem oH.go{P:Program}{w:World}{H L:Hp}{a:Addr}{f:aae}{n:Nat}(h:m3 H)(t:QK)(e:E o Y4 (be (L a))):m3 L:=b F a3 a9 e2 e5 h (a F (e _ a3) (fun x m=>ba8) e2 e5)
theorem oH.mono{P:Program}{w:World}{H L:Hp}{a:Addr}{f:aae}{n:Nat}(h:m3 H)(s:bQ):m3 L:=h.go (cP s) (s _)
section z
variable{X:Cx}{pins:bw}{s:Shared}{M:L2.St}{H:Hp}{A:Around}{E:aU}
theorem L0(I:aY){b:Addr}{k:PK}(h:aH5):(aJO).is bh k b:=by obtain⟨x,y,a3,a9,e2⟩:=h;rw[Cm a3];have e:ar=[kN,Ap]:=by{cases J with|cons a q=>cases q with|cons b q=>rw[kG];cases a;cases b;rfl};rw[bY];exact a o n x y d0 b0 hd (Uy (t:=(x,k.1)) I a9) (Uy (t:=(y,k.2)) I e2)
theorem af4(I:aY){a:Addr}{f:aae}{n:Nat}(h:bhE):I F (cw (UB eA X.w a F)) bf1 (z (hY<=n) (∀k,Fz=f k) (a1 hY) (lc a) (s.heap.DictOfH aJO a (mB F))):=by obtain⟨F,a3,a9,e2,e5⟩:=h;obtain⟨⟨z,hd,o,a7,e1,g7,g8,a5,W,g6⟩,_⟩:=eo _ _ a3;rw[b F a3 a9 e2 e5 z hd o (a a7 e1 g7 g8 a5 W a8f g6)];unfold mB at m;rw[a3 y U m];exact L0 I (a9 y U).1
theorem aXJ(I:aY){a:Addr}{f:aae}{n:Nat}(h:bhE):a8O:=by obtain⟨F,_,_,_,_,_,_,j⟩:=af4 I h;exact VC
inductive jPG(P:Program)(w:World)(Q:VK)(x y:V)(b7:Hp):Prop|mk:∀a b k f n v,fu b7 b7 (f k=aa v->Q v b7->jPG P w Q x y b7)
def aXK(P:Program)(w:World)(l A:TE):TE:=GA (jPG P w Q x)
inductive jPI(P:Program)(w:World)(neg:Bool)(Q:VK)(y x:V)(b7:Hp):Prop|mk:∀a b k f n,fu b7 b7 (Q (.bl (if neg then ! lb k else lb k)) b7->jPI P w neg Q y x b7)
def ayg(P:Program)(w:World)(neg:Bool)(A l:TE):TE:=wu (sn (l M a8 (jPI P w neg Q y)))
inductive jPP(P:Program)(w:World)(N:jb)(v x y:V)(d4:Hp):Prop|mk:∀a b k f n,fu d4 d4 (i (RB v) (n<hv) (ad o (oH P w (qx o) a (fun G=>av (G=k) v (f G)) (n+1)) (N (qx o))) (jPP P w N v x y d4))
def aXL(P:Program)(w:World)(l A L:TE):TS:=Dt (jPP P w (mF M) v x)
theorem room_in(hu:ks 64):(aJO).room kz:=i9 (sT+1+16<gD) (cV hu)
variable{o i e B:Expr}{pos E T:Pos}{l A L:TE}
theorem aXM{g:Program}{w:World}(hu:uL)(d0:Bh)(hi:yh)(c0:SD i)(C:Ru)(hw:Qq):M (eW o i) (aXK g w l A):=by rw[nU];cases hw;rw[fx];refine bgl;obtain⟨y,b7,Y,Z,a,b,k,f,n,v,ex,c3,d,K,m,q2⟩:=P;rw[lW,jW,Es,apH,vk Y];have B:=B (e5 k) m;have c4:=ayd F k;rw[B]at c4;rw[h_ b0 (ze c4),v VC (a2t (ajJ hu) (L0 Y K) j c2 (a v b7 (aiV _) ?_ q2))];rw[b0];exact aXD (by delta vC at B;rw[aO y b6 (ze B),xJ];exact(a9 y (a27 b6)).2)
theorem aXN{g:Program}{w:World}(hu:uL)(hi:yh)(d0:Bh)(C:Ru)(hw:Qq):PC X .In i o (ayg g w ai A l):=by rw[nU];cases hw;rw[fx];refine ap6;obtain⟨x,b7,Y,R,a,b,k,f,n,ex,c3,d,K,q2⟩:=P;rw[lW,jW,Es,apH,vk Y];refine a2v (ajJ hu) (L0 Y K) hd j ?_;rw[af3,e5];exact bi (lb k) b7 (aiV _) q2
theorem aXO{g:Program}{w:World}(hu:uL)(hi:yh)(d0:Bh)(C:Ru)(hw:Qq):F3 g:=by rw[nU];cases hw;rw[fx];refine ap6;obtain⟨x,b7,Y,R,a,b,k,f,n,ex,c3,d,K,q2⟩:=P;rw[lW,jW,Es,apH,vk Y];refine a2w (ajJ hu) (L0 Y K) hd j ?_;rw[af3,e5];exact bi (! lb k) b7 (aiV _) q2
theorem af5{g:Program}{w:World}(hu:uL)(d0:Bh)(hi:yh)(d3:aof)(c0:A8 (qZ E))(C:Ru)(hw:Qq):bn [qZ E] B pos (aXL g w l A L):=by rw[nU];cases hw;rw[kW];refine bia;obtain⟨y,d4,O,Z,a,b,k,f,n,ex,c3,d,K,rb,a0,q3⟩:=P;rw[lW,jW,Es,apH];obtain rfl:=aXE rb rv;rw[vk O];refine a2x (hsz:=n5 mB z) (ajJ hu) (L0 O K) j (fun h' p c0=>?_);rw[aXG]at p;obtain⟨q,a7,e1,e0,g8,a5,W,_,g6⟩:=p;have i0:=aXH F k b v;have a6:cE (qx aJc) a aJc:=v (a (br i0 e2 a0) hd q a7 e1 e0 g8 a5 W g6) alJ biT;rw[w M _ (SA O (jz a3) c0 alJ a6) (q3 _ (a _ ak a8f (bn i0 e2) (fun G=>?_)))];{rw[ae t d4 (qx aJc) (nC a3)];unfold LZ at m;split at m;{rw[a3 y U m];have Q:=a9 y U;split;rw[jm (Q.1.go t) rb,jm (Q.1.go t) Q.2]};{rw[iF m,l ba8];{rw[OX];subst m;exact⟨K.go t,rb⟩}}};{rw[aXI,e5]}
def aXP(P:Program)(w:World):TE:=lF (l p o (Y p) (oH P w amU p uw 0) (Q fO amU))
theorem af6{g:Program}{w:World}(C:Ru)(hw:Qq):z_ (aXP g w):=by rw[nU];cases hw;exact ra (by refine fY (UB eA X.w aO []) (v (a cT (wL ahz) _ #[] 0 gI tG rfl (bd aCc)) (aW gI) biT) (h _ _ pR (a [] ak (fun x m=>nomatch m) a_ (cj rfl))))
universe z
universe GA
namespace PySem
section z
variable{prog:Program}{w:World}{A:Around}{E:aU}{s:Shared}
def ayi(h:Heap)(z TI d:Addr)(b:Bool)(TO:Addr):Prop:=Ig (vX d)
theorem aXQ{z TI d TO:Addr}{b:Bool}{j:Obj}{Q:nz}(c9:an1)(b1:aaz)(g:oo (ft h' ab) z):bl (Xa pF):=bio
theorem ayj{z TI d TO c2 N a7 d5:Addr}{b:Bool}{c0 f7:Nat}{O d7:dU}{x y:Value}{j:Obj}{Q:xY}(c9:an1)(b1:aaz)(f:ot bh)(D:aaQ)(a3:apz)(a9:apy)(m:aow)(B:aox)(S:nT c0)(b6:K d7 f7 y)(g:∀h',j (ft h' ab) bdX bdW (rd h' aO x y) (bhZ) a8y):h0 pF:=by rw[aac,ET,ap1,nV pF,anl,apI,bcK,uz,ma,Jt];rw[qN];rw[fG ED,C (Iq aH' aIb S (fun U l sb=>cg fN))];dsimp only;rw[qN];rw[fG ED,C (Iq baF baG b6 (fun b0 i a=>cg fN))];dsimp only;rw[MZ];rw[nZ,bhX,C (aEH (pr fN) (hsz:=aIQ)),ad h (di (b0.push (jt #[x,y])) a4_) (jt #[x,y]) gI];rw[e0]at h⊢;refine g _ (bT (Xb _ _ aEG (N_ _ _ aEF k))) ?_ ?_ h (Dn (bT ((Dn (Xb _ _ c1 (F6 e))) c o e5 e6 c1 e)));rw[HS (l.extBut Xb D.i12),HS i]
theorem ayk{z TI d TO c2 N a7 d5:Addr}{b:Bool}{c0 f7:Nat}{O d7:dU}{j:Obj}{Q:xY}(c7:od)(c9:an1)(b1:aaz)(f:ot bh)(D:aaQ)(a3:apz)(a9:apy)(m:aow)(B:aox)(J:bbG)(g:u2 (bhZ)):h0 pF:=by revert c7 c9 b1 f D a3 a9 m B J g;revert prog w A E s z TI d TO c2 N a7 d5 b c0 f7 O d7 j Q;refine@mi _ _ _ _ _ _ _ _ _ _ _ _ _ _ ?_;generalize pZ=prog,p_=w,qa=A,qb=E,qc=s,qd=z,qe=TI,qf=d,qi=TO,qj=c2,qm=N,qn=a7;refine Ko;generalize aG=d5,aA=b,aF=c0,aE=f7,aD=O,aB=d7,aH=j,aI=Q;intro c7 c9 b1 f D a3 a9 m B J g;rw[aac,ET,ap1,nV pF,anl,apI,bcK,uz,ma,Jt];rw[qN];rw[fG ED];cases S:O[c0]? with|none=>{rw[C (Xc c7 aH' aIb S (fun U e sb a0=>?_)),beO,HT (sb c o e6 (Ir _ _ e5 q))]}|some x=>rw[C (Iq aH' aIb S (fun U l sb=>cg fN))];dsimp only;rw[qN];rw[fG ED,C (Xc c7 baF baG bz (fun b0 e a a0=>?_)),beO,HT (a c o c1 (F6 q))]
def ayl(h:Heap)(e it:Addr)(i:Int)(d:Addr)(b:Bool)(u:Value):Prop:=f7 e (.type "enumerate") (.fields #[vX d,I7,nJ,vX i,.none,u])
theorem aXR{e it d:Addr}{i:Int}{b:Bool}{u:Value}{j:Obj}{Q:nz}(c9:ia bh i)(b1:aaz)(g:oo (D6 i) e):bl (Xa OS):=bio
theorem aXS{e it l d:Addr}{i:Nat}{b:Bool}{u x:Value}{f:dU}{j:Obj}{Q:xY}(a0:ia bh i)(b1:aaz)(c6:d≠e)(n1:d≠it)(L:ajK it l i)(a5:CW l f)(S:fh f)(R:e≠it)(g:∀h' t D,c (D6 (v i+1)) (Oa it l (i+1)) (gQ aO=aa (jt #[eZ i,x])) (f b o (b≠e) (b≠it) gY ha) a8l):h0 OS:=by revert a0 b1 c6 n1 L a5 S R g;revert prog w A E s e it l d i b u x f j Q;refine@mi _ _ _ _ _ _ _ _ _ _ _ _ _ _ ?_;generalize pZ=prog,p_=w,qa=A,qb=E,qc=s,qd=e,qe=it,qf=l,qi=d,qj=i,qm=b,qn=u;refine aMU;rw[al x f j Q];intro a0 b1 c6 n1 L a5 S R g;rw[zI a0,ET,bfL,nV OS,de a0 nJ (bF (Iq L a5 S (fun b3 n sa=>?_)))];have c:=ac sa e R a0;rw[de c (vX i) ?_,de c .none ?_,C (a4' ?_),C (DP c AG (fun U h sb=>?_))];replace h:ia U (v i+1):=h;replace sb:Hi e b3 U:=sb;rw[C (DP h (x xH) (fun b0 k a=>?_))];replace k:ia b0 (v i+1):=k;replace a:Hi e U b0:=a;rw[C (aEH ?_),bhX];have G:f b o (b≠e) (b≠it) gY (be (b0.get? b)):=GO (Xb _ _ e5 (N_ _ _ e5 (Ir _ _ e6 q)));rw[C (aXR (bT k) (bT (G _ _ c6 n1 b1)) (fun hd p sd=>?_)),uz,jy (dl fN),bJ (aEI _ _ (vW (t e0 (ft a0))) gI)];rw[e0]at m⊢;refine g hd dE _ p ?_ m (GO (aEI _ _ e5 (bT (G b o e5 e6 q))));have⟨o,d0,J⟩:=b7 (n.extBut N_ (hs R)) Xb (hs R);exact v o (aEI _ _ (hs R) (bT d0)) J
theorem aXT{e it l d:Addr}{i:Nat}{b:Bool}{u:Value}{f:dU}{Q:xY}(c7:od)(a0:ia bh i)(L:ajK it l i)(a5:CW l f)(S:f[i]?=ae)(g:u2 aLu):h0 OS:=by rw[zI a0,ET,bfL,nV OS,de a0 nJ (bF (Xc c7 L a5 S (fun h' x V G=>?_)))];have⟨o,d0,b0⟩:=G;rw[C (l2 anW (cg (g _ V)))]
universe z
structure af7(prog:Program)(w:World)(A:Around)(T:String)(I:Addr)(a8:bg)(base n:Nat)(St:QL)(p:dJ iL ef):Prop where
 mem:I∈a8
 low:hR (b<aj)
 type:∀i(s:Shared),iV i->lB pE T
 item:∀i(s:Shared)(Q:xY)(E:aU),c (i<n) (iV i) (aj<=aO) (f h' D (p i h' aO) (St (i+1) h') a86 a8l) (h0 pE)
 done:∀(s:Shared)(Q:xY)(E:aU),iV n->(j h' D a86 (Q ae nr))->h0 pE
 self:∀i(s:Shared)(Q:aU)(E:aU),iV i->Q pE s->bl (MJ pE)
 keep:∀(r:Addr)i h h',i (aj<=r/\(BX (kD r))) (St i h) (l b o (b≠r) md ha) (St i h')
 af8:∀i h h' a,p i h a->ad o pM (be (gQ a))->p i h' a
 tup:∀i h a,p i h a->z o pM (vY=rp)
section z
variable{prog:Program}{w:World}{A:Around}{R:Qf}{T:String}{I:Addr}{a8:bg}{base n:Nat}{St:QL}{p:dJ iL ef}
theorem aXU(W:Ci kz)(d1:a1 n)(r:Addr)(v:aj<=r)(x:Value){b1:Heap}:∀(k i:Nat)(s:Shared)(Y:bg)(c:Nat),b (n-i) k Ql (iV i) (c7 r apb) (b eM i (nP Y bh) (EQ gY) (f4 r (EQ Pd) (eT x c1)) (l9 "list.extend.loop" (d_ [.ref r,pE,x]))):=by have g:=nT r v;intro k;induction k with|zero=>{rw[biV];have e:i=n:=by{exact mP (cV hi) (cf Pm WZ)};rw[bY,lH a5a,hX ajN,C (ajH s _ _ st (fun h' D en=>cg (hR _ Y c rfl rfl rfl (en _ _ g b2) i0 aKi (Dw bg3))))];obtain⟨q,l⟩:=apm;exact⟨fK a q bfK,l⟩}|succ k d6=>rw[biV,b3 lt (i<n) (cf (aR hi) Ij),lH a5a,hX ajN];have t:=ew (fb v (ft b2));rw[C (aEe i s _ _ lt st t (fun h' D c2 f en=>?_))];have H:=en _ _ g b2;rw[ma];have G:bd (b≠r) ha (iE aJP):=fun b o U z=>qD z;have u:(Ob dm).toArray.size=i:=by{simp[i0]};have ne:∀{j:Nat}{h:Heap}{a:Addr},p j h a->bA r apb->a≠r:=fun{j h a}q z y=>by{rw[bJ a3 a9 (W.tup j h a q)];rw[y,z]at a3;rw[a4 a3 (cy (aEJ a9) ay)]};rw[aS d0 (hu (L (Y++[aO]) dm)) a_j];obtain⟨e6,J⟩:ax e6 (di aJP r) (hi a_j e6):=aW aKG;rw[<-d0]at J;refine ajL H rfl (mo ajN (d6 (i+1) (dn aJP D) (Y++[aO]) e6 (gy (hn (aC n (i+1) lt) Pm WZ) (hn Ij (aC n i hi) (aS n (i+1)))) lt (ajM r _ _ _ ⟨v,(jC (by rw[H]at z;cases z;rfl))⟩ f G) J (ar i0) aKi (Dw (G b o e2 bg3)) (fun c1 M C g7 g8 a5 B E K L=>?_))) (t u pN) (ac Array.size_push u (cf lt d1));{rw[List.getElem?_append]at b3;split at b3;rw[S q l apm (fK a q (G _ _ (ne q b2) bfK)) l];{rw[bL d j i];subst d;rw[show j-eM=0 by simp[*]]at b3;rw[b7 d0 aO a b3,xR];exact⟨fK _ c2 (G _ _ (ne c2 H) z),t⟩}};rw[l (hR c1 M C g7 g8 a5 B E K L)]
theorem aXV{s:Shared}(W:Ci kz)(d6:a8Z)(i:a80)(h7:biE)(d1:a1 n)(r:Addr)(v:aj<=r)(x:Value)(u:Nat)(st:iV 0)(b2:c7 r (rI (.seq #[] u)))(hR:f4 r (lc a8 Pd) (eT x c1)):fv (ju cN w) kz (aEK ui pE x) (fun fin c1=>match fin with| .done f=>R (.ok f) c1| .again C=>C.quiet=ab/\Hl XQ A C R c1) a66 s:=by have g:r≠I:=an (jr _ (fH (a5b I W.mem) (e▸v)));delta aEK;rw[w3 aLw,aC a3 (Builtin.List.listSameRef ui pE) ai (bj bG)];simp only[a3,n8 "list" bK,n8 "tuple" og,aBt,CY,iR];rw[C (W.self 0 _ _ _ st (bF ED))];delta aEw;rw[C (wh aLw d6 ?_),C (wh aLw i fN),C (W_ Yi),kV b2 ?_];have J:=CT (v3 CD) b2 rfl;refine ajL (hz:=by seq_fits) J rfl ?_;have h:bd (b≠r) gY (iE ((Vu r (v3 CD)).update r a8u)):=jx (qD (qD e));rw[iO ajN (aXU W d1 r v x (b1:=bh) n 0 _ [] _ rfl cT (ajM r _ _ _ ⟨v,(jC ah)⟩ st h) (CT a8u J rfl) rfl (fun j a b3=>bB) (fun b o _ e2 z=>h b o e2 z) (fun c1 M C g7 g8 a5 a b c d=>hR c1 M C g7 g8 a5 a b c d))]
theorem aXW{s:Shared}{E:aU}{Q:aU}(W:Ci A.in1.in1)(d6:a8Z)(i:a80)(h7:biE)(d1:a1 n)(U:aj=aO)(st:iV 0)(g:f4 aj (l b o (b∉a8) gY Pd) (Q (.ref aj) c1)):bl (Io Af [pE]):=by subst U;refine callType_codes (Q₁:=fun obj l=>obj=gk/\l=fL Q1) F.called_list (F.typeCall_list_1 _) F.entry_list_init (code_list_new _ xG) (fun obj a4 a3=>?_);rw[dm rfl a3,ad b2 (di Q1 aO) (jo #[]) gI,ak (bm b2) (F.args_list_init_2 _ _)];have h:bd (b≠aO) (iE Q1) (iE ((Q1).update aO a9')):=jx (qD e);have f:BX (gE aO):=fun o z=>ix (ft z);have k:St 0 Q1:=ajM aO _ _ _ ⟨a_,f⟩ st (fun b o _ z=>bT z);have m:BX (be (di Q1 aO)):=fun o z=>ah;have b4:=ajM aO _ _ _ ⟨a_,m⟩ k h;rw[f9 (do{let a7<-Builtin.List.listItems (.ref s.heap.objs.size);Builtin.List.listUpdate (.ref s.heap.objs.size) (fun _=> #[]);letGo a7.toList.reverse;Builtin.List.listExtendWith (.ref s.heap.objs.size) (.ref I) .none}),ma];delta bj';rw[C (gd b2 fN),f9 (updateSeq aO (au #[])>>=au (letGo (#[]:dU).toList.reverse>>=au (aEK gk pE .none))),C (ajL b2 rfl ?_)];have J:=CT a9' b2 rfl;rw[C (zT ?_)];refine aXV W d6 i h7 d1 aO a_ .none _ b4 J (fun c1 M C g7 g8 a5 a b c d=>?_);exact bd (g c1 M C g7 g8 a5 a b c (fun x o e7 z=>d x o e7 (gC (ft z)) (h x o (gC (ft z)) (bT z))))
universe z
section z
variable{prog:Program}{w:World}{A:Around}
theorem aXX:hA "zip" "__len__":=YC
theorem aXY:hA "zip" "__length_hint__":=YC
theorem aXZ:hA "enumerate" "__len__":=YC
theorem aX0:hA "enumerate" "__length_hint__":=YC
theorem IsListIter.at'{h h':Heap}{it l:Addr}{i:Nat}(x:CL it l i)(e:lv it it):Oa it l i:=aMD
theorem IsList.at'{h h':Heap}{l:Addr}{O:dU}(x:ajO l O)(e:lv l l):h'.IsList l O:=aMD
def aX1(base:Nat)(z TI TO c2 N a7 d5:Addr)(O d7:dU)(i:Nat)(h:Heap):Prop:=((i=0/\bgL/\∃a b,rd h TO a b)\/∃d b j,ft h b/\bA d j/\bcP)/\ot h/\N (CL c2 a7 i) (CL N d5 i) (ajO a7 O) (ajO d5 d7)
theorem aX2(c7:od){base z TI TO c2 N a7 d5:Addr}(D:aaQ)(h2:z<aj)(e2:TO<aj)(i8:c2<aj)(b3:N<aj)(t:TI<aj)(u:a7<aj)(H:d5<aj)(O d7:dU):af7 cN w A "zip" z [z,TO,c2,N] aj aJB (aX1 aj z TI TO c2 N a7 d5 O d7) (fun i h a=>∃x y,nh/\A d7 y/\rd h a x y)where mem:=bK;low:=db Bf;type:=fun i s x=>by{rw[DL x.1,l (bm q),l (bm q)]};item:=KZ (by rw[aMR];have S:A O O[i]:=lI eO;have b6:A d7 d7[i]:=lI eO;have d1:E c (c∉[z,TO,c2,N]) (N (c≠z) (c≠TO) (c≠c2) (c≠N)):=fun c b0=>ah;rw[Ld rfl];{refine a5g D c9 f n a3 a9 m B S b6 (fun h' z1 h6 k7 l9 v I p=>df (.inr (a aO ai _ z1 (aP v C))) (p _ _ D.TIz D.TITO D.TIi1 D.TIi2 f) (p _ _ ajS D.l1TO D.l1i1 D.l1i2 e) (p _ _ ajR D.l2TO ajQ D.l2i2 e));rw[bf'];exact p c o e5 e6 c1 i0 e};{refine ayj c9 b1 f D a3 a9 m B S b6 (fun h' z1 k7 l9 v p=>?_);have c6:d≠z/\d≠c2/\d≠N:=v (qQ h2) (qQ i8) (qQ b3);refine df (.inr (a d ab j z1 (p _ _ c6.1 c6.2.1 c6.2.2 b1) G c0)) (p _ _ D.TIz D.TIi1 D.TIi2 f) (p _ _ ajS D.l1i1 D.l1i2 e) (p _ _ ajR ajQ D.l2i2 e);rw[bf'];exact p c o e5 c1 i0 e});done:=fun s Q E st g=>by{rw[aMR];have J:O[aJB]?=ae\/d7[aJB]?=ae:=by{rw[xo]};rcases zs with⟨_,c9,a,b,n⟩|⟨d,b,j,c9,b1,G,c0⟩;rw[lJ (a5f c7 D c9 f n a3 a9 m B J (tv aGo)) (p c o b0.1 b0.2.1 (aS b0) b0.2.2.2 e),lJ (ayk c7 c9 b1 f D a3 a9 m B J (tv aGo)) (p c o b0.1 (aS b0) b0.2.2.2 e)]};self:=ID (by rw[DL st.1,l (aEL q g)];{have Z:lB pF "zip":=bm q;refine W9 Z ajP (qL ajP Z a5e (bW "zip" Z a5d g) (a5c _))});keep:=K2 (by rw[aMR];have ne:∀{a:Addr},a<aj->a≠r:=bct;rw[o ?_ (ax (ne t) f) (mQ a3 i8) (mQ a9 b3) (Iu m (eB (r9 u))) (Iu B (eB (r9 H))),Ld e,cL,IK (a d b j bbm (ax pA b1) G c0)]);af8:=fun i h h' a⟨x,y,b4,b9,e7⟩k=>a x y b4 b9 (k _ e7);tup:=fun i h a⟨x,y,b4,b9,e7⟩=>bm e7
def aX3(base:Nat)(e it l:Addr)(O:dU)(i:Nat)(h:Heap):Prop:=((i=0/\Il 0)\/∃d b u j,ia h i/\bA d j/\bcP)/\CL it l i/\ajO l O
theorem aX4(c7:od){base e it l:Addr}(R:e≠it)(c1:l≠e)(f:l≠it)(h2:e<aj)(e2:it<aj)(i8:l<aj)(O:dU):af7 cN w A "enumerate" e amY aj ip (aX3 aj e it l O) (fun i h a=>∃t x,nh/\bA a (jt #[eZ i,x]))where mem:=bK;low:=db Bf;type:=fun i s x=>by{rw[DM x.1,l (bm q),l (bm q)]};item:=KZ (by rw[aL7];have S:=lI hi;rw[ce d2 (ae (i+1)) (v i+1)];have d1:E c (c∉amY) (c≠e/\c≠it):=fun c b0=>ah;rw[nC rfl a0];{refine a2D a0 L a5 S R (fun h' z1 h6 k7 l9 v=>qX _ (.inr (a aO ai _ _ z1 k7 rfl C)));rw[y8 (d1 c b0)];exact bfY};{have c6:d≠e/\d≠it:=⟨qQ h2,qQ e2⟩;refine aXS a0 b1 c6.1 c6.2 L a5 S R (fun h' t D z1 h6 k7 v=>qX D (.inr (a d ab u j bB (v _ _ c6.1 c6.2 b1) G c0)));rw[y8 (d1 c b0)];exact bfY});done:=fun s Q E st g=>by{rw[aL7];have J:O[ip]?=ae:=aEu a_;rw[nC z a0,lJ (a2C c7 (i:=ip) (old:=a7) Be L a5 J (tv aGp)) (p c o b0.2 q),lJ (aXT c7 a0 L a5 J (tv aGp)) (p c o b0.2 q)]};self:=ID (by rw[DM st.1,l (aCe q g)];{rw[zI q];refine W9 Z a5h (qL a5h Z F.entry_enumerate_iter (bW "enumerate" Z F.slot_enumerate_next.lookup g) (F.args_enumerate_iter_1 _))});keep:=K2 (by rw[aL7];have ne:∀{a:Addr},a<aj->a≠r:=bct;rw[aa ?_ (mQ L e2) (Iu a5 (eB (r9 i8))),nC z c9,cL,IK (a d b u j bbm (ax pA b1) G c0)]);af8:=fun i h h' a⟨t,x,b4,b9⟩k=>d t x b4 (k _ b9);tup:=fun i h a⟨t,x,b4,b9⟩=>bm b9
universe z
universe PySem
namespace GA
open PySem PySem.Spec PyProof.Rows L2
section z
variable{X:Cx}{pins:bw}{s:Shared}{M:L2.St}{H b7:Hp}{h':Heap}
theorem aX5{t':Nat}(I:aY)(k:ZE)(d:cZ H b7)(a6:hr (b7 b) (Pc\/(aO<=b/\cE b7 b o))):aR b7 uE:=by refine I.un (a (wl Yc) a83 (fun b u q n _=>?_) bdk (xd (gl q)) (ys (gl q)) (fun b c5 q=>o0 (dc (gl q)))) a8t;{cases e:b7 b with|none=>{rfl}|some o=>rcases a6 b o e with z|⟨z,_⟩;rw[az,l (ix (fH (ft q) z))]};{rcases a6 b o e with z|⟨_,z⟩;rw[l ((eo b o z).qs bd2 (fun c q=>gl q) (zD (gl q))),l z]}
noncomputable def lay(H:Hp)(l:Addr)(Y:bg)(L:ZZ):Hp:=h8 (av (b=l) (.lst Ar) (match L b with|some O=>aa tK|none=>H b))
theorem aX6{t':Nat}(I:aY)(k:ZE){l:Addr}{Y:bg}{c:Nat}{L:ZZ}(a5:aO<=l)(at_:gQ l=aa apb)(z:a1 eM)(c6:j b O (hB O) (aO<=b/\Jg/\∃ar:aM,EA/\Mt h' b eT)):aR aMk uE/\cZ H aMk:=by rw[aj sm aMk (da (by have lt:=I.dt.lt e;delta lay;rw[aO (he lt a5)];cases q:L b with|none=>{exact e}|some O=>rw[dQ (fH lt (c6 b O q).1) (jr _)])),v (aX5 I k sm a8t) sm];unfold lay at e;rw[T b l];{rw[a6 (aK q),dS,e_];refine .inr (c a5 ag (Ob dm) c ?_ at_);clear at_ z sm;rw[ww Y]};{rw[a6 (bj q)];cases d:L b with|none=>{rw[a6 d];exact YO}|some O=>rw[a6 d,dS,df a3 e2 (c6 b O d)];exact .inr (v a3 a9 e2)}
universe z
theorem aX7{H:Hp}{l:Addr}{Y:bg}{L:ZZ}:b5 (lay H l Y L l) Ar:=by delta lay;rw[cO]
theorem aX8{H:Hp}{l b:Addr}{Y:bg}{L:ZZ}{O:af}(ne:b≠l)(h:hB O):lay H l Y L b=aa tK:=by delta lay;rw[bj ne,h]
inductive UC(a8 b7:Hp)(l:Addr)(n:Nat)(P:dJ V V):Prop|mk:cZ a8 b7->gz l->∀Y:bg,i (eM=n) (b5 (b7 l) Ar) (bl a Y a (gz a/\∃x y,P j x y/\b7 a=aa ZT)) (UC a8 b7 l n P)
inductive jLZ(K:Fg)(Q:VK)(vs:af)(a8:Hp):Prop|mk:o4 (py (min bx oQ) a'') (jLZ K Q vs a8)
def aX9(K:Fg)(d6:TA):TE:=k9 (jLZ K Q)
inductive jLE(K:Fg)(Q:VK)(vs:af)(a8:Hp):Prop|mk:f a O (vs=uh) Yv (py bx (BD O)) (jLE K Q vs a8)
def aX_(K:Fg)(d6:TA):TE:=k9 (jLE K Q)
open Classical in theorem aX'{X:Cx}{pins:bw}{s:Shared}{M:L2.St}{H:Hp}{h':Heap}{t':Nat}(I:aY)(k:ZE){l:Addr}{Y:bg}{c n:Nat}{P:dJ V V}(a5:aO<=l)(at_:gQ l=aa apb)(i0:eM=n)(z:a1 n)(c6:bl a Y a (aO<=a/\∃x y u v,N (P j x y) pL Yo (gQ a=aa (jt #[u,v])))):z b7 (aR b7 uE) (UC H b7 l n P):=by have ex:E b (apq) (∃O:af,bhs):=fun b e0=>by{rw[iF b8 e0];obtain⟨_,x,y,u,v,_,r1,r2,e⟩:=c6 j b b8;exact a _ x y u v rfl r1 r2 e};let L:ZZ:=h8 (if q:apq then aa (agR (ex b q))else ae);have g:j b O (hB O) ((apq)/\bhs):=w6 (by by_cases q:apq;{have:hB (agR (ex b q)):=dif_pos q;rw[amH,dS];exact⟨q,aA7 (ex b q)⟩};{have:IT:=dif_neg q;rw[amH,dS]});obtain⟨d0,sm⟩:=aX6 (t':=t') (L:=L) I k a5 at_ (t i0 z) (w6 (by obtain⟨⟨j,b8⟩,x,y,u,v,ex,r1,r2,d3⟩:=g b O e;rw[g (c6 j b b8).1 ?_ [u,v] ?_ _ d3 _ rfl];{rw[ex];show a1 2;decide};rw[Z ex (hY r1 r2)]));rw[e _ d0 sm (zj a5) Y i0 aX7 aKi];obtain⟨w,x,y,u,v,p,r1,r2,e⟩:=c6 j a b3;have g9:ax O (L a) O:=aW (dif_pos ⟨j,b3⟩);obtain⟨O,g9⟩:=g9;obtain⟨_,b1,d7,F,t,d,h,i,d3⟩:=g a O g9;rw[Zj];injection d3 with d3;injection d3 with _ _ d3 _;injection d3 with d3 _;have f:u=F:=c_ (gz (fun z:dU=>z[0]?) d3);have B:v=t:=c_ (gz (fun z:dU=>z[1]?) d3);rw[rE];subst B;rw[M ne a l bM,aP (zj w) x y p];rw[aX8 ne g9,d,RelV.inj r1 h,RelV.inj r2 i]
theorem af9{O:af}{b1:aM}{j:Nat}{u:Value}(q:nL)(h:aa b1 u):z x (aa O x) pL:=mx q h
section z
variable{X:Cx}{e b9:Expr}{d6:TA}{p f6 pos d:Pos}
theorem lt5{n m k:Nat}(h:m=n+5)(c3:k<5):n+k<m:=ag
theorem ayp{n m a:Nat}(h:m=n+5)(l:a<n):a<m:=bn l h.g
theorem le5{n m:Nat}(h:m=n+5):n<=m:=ag
theorem share{s c1:Shared}(g7:Ve=sQ)(g8:a5i=zi)(a5:Vf=CH):c1=dn mD ahs:=by cases s;cases c1;simp at*;exact v g7 g8 a5
theorem aYa(b0:fQ)(k:amN)(l:amW)(d8:aHu)(c4:aHB)(b3:aHM)(c0:aKn)(b8:ga d [b9])(i:bd9)(A:Zk):FM X.K:=by rw[fx];refine Oc (FX I k l (bI:aKd) (ahg ?_ i A) ay ay);rw[i];rw[qT asi b8,JS,bis,lW];cases r1 with|cons J C=>cases C with|cons B C=>rw[nU,hM];cases B;rw[bfj];obtain⟨t,d4,D,h6⟩:=CM c6;have F:=e9.lt;have i5:=D.lt;refine qK D.isList (aBE ?_);have a7:min v_ a2b=min bx oQ:=by{simp[CK,d4.length]};have W:=aX2 (prog:=eA) (w:=X.w) (A:=a5k) iv (base:=Vv) (a5j fI a b F i5) aoN aoN (lt5 (k:=0) G ay) aoN aoN (ayp G F) (ayp G i5) eT Vw;rw[a7]at W;rw[dk aXX aXY bc4 (c (.inl (a rfl c9 _ _ n)) f a3 a9 (zm ajT) (zm D.isList)),a3 a'' (by refine be3;rw[iS (ft z),Bl,kC m,ao1,ao1,az,ao1]) (le5 G) bc4 (by obtain⟨⟨u,v,hu,d3,c5⟩,w⟩:=apm;rw[dI (cn (le5 G) w),c_ c8 (aa ar u) hu,c_ g (aa t v) d3,lm R (af9 rv c8),ib Z (af9 d4 g)];exact a x y u v ⟨S,b6⟩ R Z c5)];rw[bgt];exact bfc
universe z
universe GA
namespace GA
open PySem PySem.Spec PyProof.Rows L2
section z
variable{X:Cx}{e b9:Expr}{d6:TA}{p f6 pos d:Pos}
theorem ayr{n m k:Nat}(h:m=n+2)(c3:k<2):n+k<m:=ag
theorem aYb{n m a:Nat}(h:m=n+2)(l:a<n):a<m:=bn l h.g
theorem ays{n m:Nat}(h:m=n+2):n<=m:=ag
theorem aYc(b0:fQ)(k:amN)(l:amW)(d8:aHt)(c4:aHA)(b3:QM)(c0:RA)(i:bd8)(A:Zk):FB X.K:=by rw[fx];refine Oc (FX I k l (bI:aKd) (ahg ?_ i A) ay ay);rw[i];rw[qT a2F rfl,JS,w O ex b2 q d2,lW];cases r1 with|cons J C=>rw[nU,hM,bfj];have F:=e9.lt;rw[qD ajT (aBE ?_)];have W:=aX4 (prog:=eA) (w:=X.w) (A:=a5k) iv (base:=Vv) (e:=fI+1) (it:=fI) (l:=a) (a2E _) (gC (wd F)) (gC F) (ayr G ay) (ayr (k:=0) G ay) (aYb G F) eT;have a7:v_=bx:=by{simp[CK]};rw[a7]at W;rw[dk aXZ aX0 eO (v (.inl (ai _ a0)) L (zm ajT)),a3 (BD O) (by refine be3;rw[iS (ft z),Bl,dd m rfl,ao1,az]) (ays G) eO (by obtain⟨⟨t,v,d3,c5⟩,w⟩:=apm;rw[dI (cn (ays G) w),ca g (aa ar v),ib Z (af9 rv g)];exact a (.int (cd j)) y (eZ j) v (bd b6) (dx t) Z c5),J bgt bfc]
theorem aYd{P:Program}{w:World}{k:Key}{v:Value}(h:z2 v):gP (kV k) v:=by cases k with|inl n=>{rw[ep (aA8 h)];exact dx t}|inr x=>rw[ep (a01 h)];exact dx t
theorem aYe{F:gs}{vs:am3}(J:tS)(j:Nat):(F[j]?.map fM)=vs[j]?.map fM:=by induction J generalizing j with|nil=>{rfl}| @cons a b l m h t d6=>cases j with|zero=>{simp[*]}|succ j=>simpa using d6 j
theorem aYf{P:au Nat V}{O:af}{b1:aM}(l:bx=ly)(h:∀(j:Nat)x u,aa O x->aa b1 u->pL):nL:=by induction O generalizing b1 with|nil=>{rw[J (NS l.symm) .nil]}|cons x O i=>cases b1 with|nil=>{exact iT (a5l _ l)}|cons u b1=>rw[K5 l]
inductive ayt(vs:af)(H:Hp)(Q:VK):Prop|mk:∀(d:Addr)(F:gs),A [ny] (bh d pX) (ad l xf (Q cC (ap l a8Q))) (ayt vs H Q)
theorem aYg(b0:fQ):Bz X Af ayt:=by rw[Zx,Q d F hd q h];rw[Vy J];rw[X b2 ws i m (eo d _ hd)];obtain⟨e1,c2⟩:=m.dictAt;have i0:=Ms i;refine PySem.W.kdl_call (PySem.W.kdl_dict (knd:=aJs) (kvs:=ws) (ep:=e1) b2) iv c2 ah (fun h' D c C c3 a7 a=>m gk (ap aO a8Q) (CV c3 a_ (a ah c.toList C (aYf (P:=Ay) (by have:=a.1;simp;exact ahZ bG EV) (fun j x u S hu=>?_)) eO)) (q _ pR));obtain⟨k,y,b6,b⟩:=a.2 j u ah;rw[iR (aYe i j)];rw[b6]at c1;rw[gt S];cases c9:F[j]? with|none=>{simp_all}|some w=>rw[c9]at S c1;have b4:kV w.1=x:=by{simp at*;lia-abstractProof};have b9:w.1=k:=by{simp_all};rw[<-b4,b9];exact aYd b
universe z
section z
variable{X:Cx}
inductive af_(K:Fg)(x:V)(y:V)(H:Hp)(Q:VK):Prop|mk:∀p a b c5 c7 dx,b y fO (nb [bc,cW]) AL (cs x dx) (l (cs bc c5) (cs cW c7) (iD dx) (iD c5) (iD c7) (dB (jv c5 dx||jv c7 dx)) (af_ K x y H Q))
theorem aYh(hu:zr+128<gD):be .In (af_ X.K):=by rw[xu];obtain⟨p,a,b,c5,c7,dx,rfl,e0,ne,S,a3,a9,c,a4,b5,q⟩:=h;cases Z;rw[a9 J d5 IZ,fu m (MX I dx x v S R),fE r1 (MX I c5 _ bc a3 rfl),f0 r2 (MX I c7 _ cW a9 rfl)];have d2:ar=[bc,cW]:=by{cases J with|cons e7 i8=>cases i8 with|cons f5 d6=>cases d6;cases e7;cases f5;rfl};subst d2;refine a18 (J (v z bc (jv c5 dx) (jv c7 dx))) d5 aGb ZX;{have room:∀{d d':PyData},iD d->X.A.in1.units+min d.depth d'.depth<gD:=fun{d d'}hd=>SeqAt.room_of_shaped hd fk;rw[dd (ax hw) rfl,Z cO (dq c5 r1 a4 a4),Z (ff (ne (bt (a43 z)))) (dq c7 r2 b5 b5)]};rw[ER]
universe z
universe GA
namespace GA
open PySem PySem.Spec PyProof.Rows L2 _root_.GM
section z
variable{prog:Program}{w:World}{A:Around}{E:aU}{s:Shared}
theorem aYi{d:Addr}(hd:lc d):MeetsIn cN w (Builtin.«dict.__len__» (d_ [ny])) (fun _ R s=>∃o a7 e1,gE d/\gB=Pr/\eT (.int ck dE) OY):= .of_wp (fun A R s⟨o,a7,e1,d0,a,h⟩=>by rw[s8 (dictSize d)];delta dictSize;rw[fG (wpAny_dictEntries d0 a fN),C (wpAny_pendingCount_other hd (a45 ?_)),J HC h])
theorem aYj{d:Addr}{o:Obj}{a7:fq VE}{e1:Nat}{Q:aU}(hd:lc d)(d0:gE d)(Z:a8P)(a:gB=Pr)(a9:v ck<2^63)(h:Q a7v (oH (dE+1+1))):ig (a5n (d_ [ny])) (fun fin c1=>z J (fin= .done (.ret J)) (Q J c1)):=by delta a5n;refine bF (m:=oneArg "len" _) (cg (bF (m:=callSpecial? ny a7p) (cd "__len__" Z a5m (call_meetsIn a5m Z F.entry_dict_len (F.args_dict_len_1 _) (aYi hd) (a o a7 e1 d0 (as a))))));rw[C (vV (fa (zT ?_))),aO fk,J (bj (fX (Kr z a9))) (bF (a4' (pr h)))]
theorem aYk(m:Nat):(v m !=0)=m6 m:=bz
theorem aYl{d:Addr}{o:Obj}{a7:fq VE}{e1:Nat}{Q:nz}(hd:lc d)(d0:gE d)(Z:a8P)(a:gB=Pr)(a9:v ck<2^63)(h:Q (m6 ck) (oH (dE+1+1))):bl (aBr ny):=by have R:(v ck !=0)=m6 ck:=aYk _;have O:ig (runValue (.builtin "len" (d_ [ny]))) baO:=by{refine aEj (N9 entry_len ?_);rw[a5o plain_len _];exact mg (aYj (Q:=baO) hd d0 Z a a9 (bd h)) (fun fin c1 h'=>by obtain⟨J,rfl,e0⟩:=h';exact e0)};delta aBr;(first|rw[C be4]|rw[C (fa be4)]);(first|rw[C be5]|rw[C (fa be5)]);first|exact bF bgn|exact bF (fa bgn)
universe z
section z
variable{X:Cx}{a:Expr}{d6:TE}
theorem aYm:∀{F:uf},(∀k,Fz=ae)->F=[]|[],_=>rfl|x::J,h=>by have:=h x.1;unfold vC at this;rw[am oS,uk]
theorem aYn{g:Program}{w:World}(b3:fU)(a0:apu)(C:Ru)(hw:Qq):CG (∃d f n,x=ny/\oH g w L d f n/\∀b:cb,(b=ai↔∀k,f k=ae)->Q b L):=by rw[nU];cases hw;rw[fx];refine aBj (kt rN) (a0 _);rw[JR];obtain⟨d,f,n,rfl,D,q⟩:=d2;cases r1;obtain⟨F,a3,a9,e2,e5,z,hd,o,a7,e1,g7,g8,a5,W,g6⟩:=af4 r D;have e8:ck=hY:=by{rw[ik W,oS mB]};rw[Br];refine aYl hd g7 (aXJ r D) a5 (by rw[e8];lia-abstractProof) (v a8 (r.tok _) (q _ ?_));rw[e8];constructor;{intro e k;have:F=[]:=ah;rw[<-e5 k,this];rfl};{intro e;have:F=[]:=aYm (cj (t e5 (e k)));rw[nY];rfl}
universe z
section z
variable{prog:Program}{w:World}{A:Around}{R:Qf}{I:Addr}{a8 d:bg}{n:Nat}{P:au Nat cS}{St:QL}
noncomputable abbrev dfl:Jh:=[(a7Z,.none)]
theorem aYo(W:bh6)(bt:aHT)(p:bhF)(r:Addr)(g:r∉a8):∀(k j:Nat)(s:Shared)(i:Value)(c:Nat),b (n-(j+1)) k (j+1<=n) (iV (j+1)) (P (Iv bt j) i) (c7 r (hi #[i,i] c)->(∀v h' D,bbj->lc d ha->eT v nr)->bf3):=by revert W p g;revert prog w A R I a8 d n P St bt r;refine@mi _ _ _ _ _ _ _ _ _ _ _ _ _ _ ?_;generalize pZ=prog,p_=w,qa=A,qb=R,qc=I,qd=a8,qe=d,qf=n,qi=P,qj=St,qm=bt,qn=r;intro W p g;have B:=a_Z;rw[aMK];intro k;induction k with|zero=>{rw[biy];have k8:j+1=n:=by{exact mP (cV b8) (cf (aS n (j+1)) WZ)};rw[lH aEM,hX Od,aI5,C (ajU (ajH s _ _ (k8▸z) (fun h' D Y=>?_))),kV (Y r _ B b2) (bF (zT (cg (hR i _ D (t (mP (Nat.sub_le_of_le_add (Nat.le_of_sub_eq_zero c3)) (VD b8)) y) (wa aKz)))))]}|succ k d6=>rw[biy,aO Z (j+1) n (cf (aR b8) Ij),lH aEM,hX Od,aI5,pn (j+1) Z];have H:=Y r _ B b2;rw[Ir (tryCatch (bka [v,v] (a5p .Lt v i>>=_)) _),C (ajU (vV (bF (p (j+1) (Iv bt j) v i _ _ _ C y (bF (vV (vS (bF (zT fN)))))))))];cases U:bt (j+1) (Iv bt j)with|true=>{rw[cO];rw[kV H (bF (zT ?_))];rw[m];rw[x v _ bbW (by rw[i7 Iv U];exact C) aKG bgc,bg6,l (hR t l q u (BY aKz))]}|false=>rw[uz,C (zT ?_)];rw[m];rw[x i c T (by simp only[Iv,U,CY,iR];exact y) H (fun t l q u x=>hR t l q u (BY aGh))]
theorem aYp(W:bh6)(bt:aHT)(p:bhF)(r:Addr)(g:r∉a8){s:Shared}{c:Nat}(z:iV 0)(b2:c7 r (hi #[] c))(b1:n=0->j h' D (lc d ha) (eT .none nr))(hR:0<n->∀v h' D,bbj->lc d ha->eT v nr):bf3:=by rw[aMK,lH aEM,hX Od,aI5];by_cases d1:0<n;{rw[pn 0 d1];have H:=Y r _ a_Z b2;rw[Ir (updateSeq r (au #[v,v])),kV H ?_];rw[m];rw[iO Od (aYo W bt p r g _ 0 _ v _ rfl d1 bbW C aKG bgc),bg6,l (hR d1 t l q u (BY aKz))]};{rw[cs f5 n 0,C (ajU (ajH s _ _ I9 (fun h' D Y=>bF (W_ (cg (b1 f5 h' D (wa aGh)))))))]}
universe z
section z
variable{prog:Program}{w:World}{A:Around}{E:aU}{s:Shared}
theorem aYq(a v:Value):W8 "min" ⟨[a],[(a7Z,v)]⟩:=by delta W8;kernel_rfl
theorem aYr{l:Addr}{O:fq (Int×Tok)}{Q:aU}(c7:od)(a5:CW l (Oe O))(b1:ip=0->bbH)(a3:0<ip->∀v h' D,ap (Oe O) (Iv (ox (bT (ajV O i) (ajV O j))) (ip-1)) v->(OZ)->Q v nr):bcY:=by revert c7 a5 b1 a3;revert prog w A E s l O Q;refine Ko;generalize aG=prog,aA=w,aF=A,aE=E,aD=s,aB=l,aH=O,aI=Q;intro c7 a5 b1 a3;rw[aMK];have e8:(Oe O).size=ip:=by{simp[Oe]};refine kmb_tree F.kind_min F.plain_min F.entry_min (aYq _ _) ?_;rw[C (W7 (dO (Builtin.Builtins.bindParams "min" ["key","default"] 0 ⟨[],dfl⟩) (eU [ae,aa .none])) (bF (fa (iter_intList a5 (fun g e st h a=>?_))))),bY,C (M1 ?_)];rw[m];have W:=aBV (prog:=cN) (w:=w) (A:=kz) c7 _ l a (Oe O);have a7:∀{h':Heap},(f b o (b∉[aO]) (b≠fH aKt) (iE ((aKt).push (jo #[]))) ha)->OZ:=fun{h'}c3 b o e=>by{have lt:=hc;refine c3 b o (fun c4=>?_) pA (bT xm);rw[az];{simp_all;lia}};rw[iO Od (aYp W _ (CmpOf.ints_lt (ajV O) (h2 a5q)) _ (fun c4=>jr _ (h _ c4)) (aEN _ _ _ st (x6 xm)) gI (fun z h' D c3=>?_) (fun z v h' D C c3=>?_)),l (b1 ah h' D (a7 c3))];{refine a3 ah v h' D ?_ (a7 c3);rw[<-e8];exact C}
theorem aYs{l:Addr}{ar:aM}{ns:aT}{Q:aU}(c7:od)(a5:CW l eT)(hi:sV ar ns)(b1:ns=[]->bbH)(h:∀h' D d5 t',i (OZ) (d5∈ns) (ad a (a∈ns) (d5<=a)) (Q (.int d5 t') nr)):bcY:=by rw[ck O hi.allInts.items];have d1:numsOf (pu (Oe O))=ns:=by{rw[xJ];exact hi.numsOf};rw[nums_intItems]at d1;subst d1;rw[e]at a5;refine aYr c7 a5 (fun z h' D c3=>b1 ah h' D c3) (fun G v h' D d3 c3=>?_);rw[ep (a5q d3),ky (argBest_lt (ajV O) (ip-1))];refine h h' D _ t c3 ?_ (fun a b3=>?_);rw[Z numAt_eq (PySem.getD_mem bz)];{rw[bC j b8 (mem_getD b3)];rw[bA,Vh]at b8;rw[<-numAt_eq];exact a9 j (bn b8 (aS ip 1))}
universe z
section z
variable{X:Cx}{e:Expr}{d6:TA}{p pos kp q:Pos}{B:Nat}
def aYt(K:Fg)(d6:TA):TE:=k9 (fun vs a8=>∃(a:Addr)(ns:aT),vs=uh/\fW K a8 a xK/\(ns=[]->Q .bC a8)/\o m (m∈ns) (ad y (y∈ns) (m<=y)) (Q (.int m) a8))
theorem aYu(b0:fQ)(d8:Gl X "min")(c4:f8 "min")(b3:QM)(c0:RA):Kw X.K:=by rw[fx];refine Oc (FX I d8 c4 (bI:a'W) (callWith_kw (bD akX (fun b1 a4⟨vs,a8,r,r1,a,ns,ex,e0,N,d2⟩=>?_)) (dc c0) (dc c0) rfl rfl) ay ay);rw[lW];rw[Vy r1];refine kws_cons (wpAny_Constant_none (kws_nil ?_));rw[iP a5 (CM e0)];exact aYs (r.ok.hd b0) aho rv.ints (fun z h' D c3=>m .bC a8 (ag6 c3) (N z)) (fun h' D m t' c3 a3 a9=>a (.int m) a8 (ag6 c3) ei (d2 m a3 a9))
universe z
universe GA
namespace PySem
section z
variable{prog:Program}{w:World}{A:Around}{E:aU}{s:Shared}
theorem aYv{z TI d TO:Addr}{b:Bool}{Q:nz}(c9:an1)(b1:amA)(g:Y8):bl (Xa pF):=by delta Xa;rw[r1 (vX d),a7H];rw[iQ];have al:ig (a5r d) (fun o c1=>o=ae/\c1=s):=vs (bB:amA/\s=s);rw[C (mg al (fun o c1 P=>?_)),eB b4 P,Jq];subst b9;simp only[Option.isNone_none,mJ];exact cg g
abbrev aga(h:Heap)(z TI TO:Addr)(v:Value)(b:Bool):Prop:=Ig v
theorem aYw{z TI d TO c2 N a7 d5:Addr}{fl:Bool}{c0 f7:Nat}{O d7:dU}{x y a b:Value}{Q:xY}(D:aaQ)(c9:ft bh fl)(b1:amA)(f:ot bh)(n:a9R)(a3:apz)(a9:apy)(m:aow)(B:aox)(S:nT c0)(b6:K d7 f7 y)(g:∀h',c (ayi h' z TI aO ai TO) (tn h') bdX bdW (rd h' aO x y->(ap_)->a8y)):h0 pF:=by revert D c9 b1 f n a3 a9 m B S b6 g;revert prog w A E s z TI d TO c2 N a7 d5 fl c0 f7 O d7 x y a b Q;refine@mi _ _ _ _ _ _ _ _ _ _ _ _ _ _ ?_;generalize pZ=prog,p_=w,qa=A,qb=E,qc=s,qd=z,qe=TI,qf=d,qi=TO,qj=c2,qm=N,qn=a7;refine@aqF _ _ _ _ _ _ _ _ _ _ _ _ _ ?_;generalize(hk).1=d5,aV hk=fl,bU hk=c0,cE hk=f7,bX hk=O,ct hk=d7,dv hk=x,d5 hk=y,fp hk=a,k3 hk=b,a8S=Q;intro D c9 b1 f n a3 a9 m B S b6 g;rw[aac,ET,ap1,nV pF,anl,apI,bcL];rw[cO];rw[C bgK,bgk,ma,beY,fG (aET ?_),C (Iq aIa aIc S (fun g8 f6 b5=>fN))];have d8:=bd5;rw[C (gd d8 (bF (aES d8 (fun a5 j c8=>?_))))];replace j:rd a5 TO x b:=j;rw[C (zT a8h),C (Iq bd_ bd' b6 (fun W e2 d9=>fN)),eM (ajW _ _ D.TOi2 j),C (gd I (bF (aES I (fun g6 J f9=>?_))))];replace J:tn g6:=J;rw[C (zT (cg (fa (gd J (bF (aEH ?_))))))];have e8:aER=aO:=by{rw[f9.1,d9.1,c8.1,b5.1,a4.1]};have v:=Of _ _ a5u (ajW _ _ aEG a'1);have k:=ft v;rw[ma];delta Builtin.SmallTypes.ownedTupleHandOut;rw[C (DP (bT v) pT (fun l p R=>?_))];replace p:aga l z TI TO (vX aER) fl:=p;refine DP p AG (fun i h d6=>?_);replace h:aga i z TI TO (vX aER) ai:=h;have G:l c o (c≠z) (be (g6.get? c)) (be (i.get? c)):=fun c o e5 e=>gx e5 e5 xm;rw[ci (gx (vW k) (vW k) gI)];rw[e8]at h q;rw[jy (dl fN)];rw[e8];exact g i h (G _ _ aEQ J) ((b7 (b7 (f6.extBut Iw a5t) ajW D.i12) Of a5t).at (eB (G _ o aEP e))) ((e2.extBut Of a5s).at (eB (G _ o aEO e))) q (Dl (G c o e5 ((Dl (Of _ _ e6 (ajW _ _ i0 (G1 e)))) c o e5 e6 c1 i0 e)))
theorem aYx{z TI d TO c2 N a7 d5:Addr}{fl:Bool}{c0 f7:Nat}{O d7:dU}{a b:Value}{Q:xY}(c7:od)(D:aaQ)(c9:ft bh fl)(b1:amA)(f:ot bh)(n:a9R)(a3:apz)(a9:apy)(m:aow)(B:aox)(J:bbG)(g:u2 (ap_)):h0 pF:=by revert c7 D c9 b1 f n a3 a9 m B J g;revert prog w A E s z TI d TO c2 N a7 d5 fl c0 f7 O d7 a b Q;refine@mi _ _ _ _ _ _ _ _ _ _ _ _ _ _ ?_;generalize pZ=prog,p_=w,qa=A,qb=E,qc=s,qd=z,qe=TI,qf=d,qi=TO,qj=c2,qm=N,qn=a7;refine@aE9 _ _ _ _ _ _ _ _ _ _ _ ?_;generalize E5=d5,E7=fl,E8=c0,E9=f7,E_=O,Fb=d7,Fe=a,Fi=b,Fw=Q;intro c7 D c9 b1 f n a3 a9 m B J g;rw[aac,ET,ap1,nV pF,anl,apI,bcL];rw[cO];rw[C bgK,bgk,ma,beY,fG (aET ?_)];cases S:O[c0]? with|none=>{rw[C (Xc c7 aIa aIc S (fun g8 e b5 a0=>?_)),bfh];have h6:=b5 _ _ aEF z1;refine DP h6 pT (fun a5 _ c8=>bF (fd (Iw _ _ (ab ah) i) a5 (fun c o e5 _ c1 _ x=>Iw _ _ e5 (b5 _ _ c1 (Iy _ _ e5 x)))))}|some x=>rw[C (Iq aIa aIc S (fun g8 f6 b5=>fN))];have d8:=bd5;rw[C (gd d8 (bF (aES d8 (fun a5 j c8=>bF (zT a8h))))),C (Xc c7 bd_ bd' bz (fun W e d9 a0=>?_)),bfh];have l9:=d9 _ _ aEG a'1;refine DP l9 pT (fun g6 _ f9=>bF (fd (Of _ _ (ab bz) i) g6 (fun c o e5 e6 c1 i0 x=>Of _ _ e5 (d9 _ _ i0 (G1 x)))))
universe z
universe PySem
namespace GA
open PySem PySem.Spec PyProof.Rows L2
def ZSt(z TI TO c2 N a b:Addr)(i:Nat)(h:Heap):Prop:=z (bgL\/∃d fl,ft h fl) (ot h) (∃x y,tn h) (CL c2 a i) (CL N b i)
theorem aYy{P:Program}{w:World}{K:Fg}{d1:Str}{T:Pos}{a b z TI TO c2 N:Addr}(D:a5v z TI TO c2 N a b):ahC P w K aJy (Itz K a b) ap2 z (ZSt z TI TO c2 N a b)where mem:=bK;obj:=fun i h st c b0=>by{obtain⟨c9,f,⟨x,y,n⟩,⟨g4,b4,_,c5⟩,⟨g8,b9,_,c7⟩⟩:=st;rw[Ku b0];{rw[q];rw[q9 c9,aZ,l (av c9 (fun v q=>nomatch q))]};rw[aZ,aZ,aZ,az]};keep:=o3 (by rw[nx x y,j ?_ (k TI og _ f) (v x y (k TO Y_ _ n)) (a3.at (lx (k c2 aQ o q))) (a9.at (lx (k N aQ o q))),q9 c9,cL,co (v d fl (k z bK _ c9))]);item:=by{intro X C hw g b0 i au s M H E I W st d8;rw[uP,nx R k3];obtain⟨O,d7,x,y,b2,c6,S,b6⟩:=d8;rw[iP p (sS b2),kd d4 (sS c6),ZY];obtain⟨a4,l9,a8⟩:=d4.get b6;have fin:∀h':iL,c (∃d fl,ft h' fl) (∃x y,tn h') (Oa c2 a (i+1)) (Oa N b (i+1)) (rd h' aO u a4->(ap_)->z v (aa (dm aO)=aa v) (a2 (MK aJy pF v) (fun _ b5=>∃x L,z (L2.Inv X au M L b5) tW (rX (Itz X.K a b)) (ZSt z TI TO c2 N a b (i+1) ag4) (∀c∈ap2,L c=ae)) E tF)):=by{intro h' d3 e r V Z c3;rw[ca rfl];delta MK;rw[nZ];have a6:cE (ad aO ZT) aO ZT:=a aIQ [u,a4] (hY m a8) _ Z rfl _ rfl;rw[Q gk _ (I.ar' (t':=dE) (ch:=ap2) bie W a_ a6) (v (m _ x y (bj pR (fd (t (I.ac' a5 b2) S)) (fd (t (I.ac' a5 c6) b6)))) (a (.inr d3) (c3 _ _ D.TIz D.TITO D.TIi1 D.TIi2 f) e r V) (fun c Y=>?_)),J (bW (gC (by rw[Ku Y,Z q (by rcases c9 with c9|⟨_,_,c9⟩<;>exact ft c9),Z q (ft f),Z q (ft n),gy b4 a3 b4,gy b9 a9 b9]))) (W c Y).1]};rw[c_ c8 (A eT u) hu,c_ B (A Vw a4) l9,q9 c9,l (a5g D c9 f n a3 a9 qH Iz c8 B (fun h' d3 e r V Z G c3=>nw e c3))];{cases f5:Hh d with|some j=>{exact ayj c9 f5 f D a3 a9 qH Iz c8 B (fun h' d3 r V Z c3=>nw (c3 _ _ aEQ D.TOi1 D.TOi2 n) bhV)}|none=>exact aYw D c9 f5 f n a3 a9 qH Iz c8 B (fun h' d3 e r V Z c3=>nw e c3)}};done:=by{intro X C hw g b0 i au s M H E I W st d8;rw[uP,nx R k3,Z d7 b2 c6 J d8,iP p (sS b2),kd d4 (sS c6)];have a7:=CK;rw[it d4.length,ca a0 (eT[i]?=ae\/Vw[i]?=ae)];have fin:∀h':iL,(ap_)->(ae:pw)=ae/\L2.Inv X au M H tF:=fun h' c3=>bd (I.aQj (t':=dE) (ch:=ap2) bie W);rw[q9 c9,l (a5f iv D c9 f n a3 a9 qH Iz a0 fin)];{cases f5:Hh d with|some j=>{exact ayk iv c9 f5 f D a3 a9 qH Iz a0 (fun h' c3=>fin h' bhV)}|none=>exact aYx iv D c9 f5 f n a3 a9 qH Iz a0 fin}};self:=vf (by rw[q9 st.1,l (aEL c9 h)];{rw[aac];refine W9 Z ajP (qL ajP Z a5e ?_ (a5c _));exact bW "zip" Z a5d h})
theorem aYz{d:PySem.W.Frag}{X:Cx}{e b9:Expr}{d6:TA}{p pos T:Pos}{d1:Str}(d8:aHu)(c4:aHB)(b3:aHM)(c0:aKn)(b8:ga pos [b9])(g:Bb):PI X aJy (er "zip" XR) (aQs d d6):=by rw[rD,JG];refine jB asi b8;rw[JS,bis,lW];cases r1 with|cons J C=>cases C with|cons B C=>rw[nU,hM];cases B;rw[iP e9 (CM b2),kd d4 (CM c6)];refine qK Iz (aEL c9 ?_);rw[c (fI+4) [fI+4,fI+2,fI+3,fI,fI+1] _ _ a8 (sh c3) (aYy (a5j fI a b e9.lt f6.lt)) (v (a (.inl c9) f (av _ n) a3 a9) (fun c Y=>?_) q)];have c1:fI<=c:=by{rw[el]};exact a96
universe GA
namespace GA
open PySem PySem.Spec PyProof.Rows L2
theorem aYA{k:Nat}{A:Around}(J:JP):ks 128:=aIT
section z
variable{X:Cx}{K:Fg}{w:World}{e b9:Expr}{d6:TA}{p f6 pos d kp q:Pos}{B:Nat}
theorem aYB(g:fB)(b0:fQ)(k:amN)(l:amW)(d8:aHu)(c4:aHB)(b3:aHM)(c0:aKn)(b8:ga d [b9])(i:bd9)(A:Zk):FM K:=g▸aYa b0 k l d8 c4 b3 c0 b8 i A
theorem aYC(g:fB)(b0:fQ)(k:amN)(l:amW)(d8:aHt)(c4:aHA)(b3:QM)(c0:RA)(i:bd8)(A:Zk):FB K:=g▸aYc b0 k l d8 c4 b3 c0 i A
theorem aYD(g:fB)(b0:fQ)(d8:Gl X "min")(c4:f8 "min")(b3:QM)(c0:RA):Kw K:=g▸aYu b0 d8 c4 b3 c0
theorem aYE(g:fB)(hw:X.w=w)(b0:fQ):fW "sorted" (LY K w):=g▸hw▸aXy b0
theorem aYF(g:fB)(hw:X.w=w)(b0:fQ)(hu:uL):Bz X Js (Uz K w):=g▸hw▸aXw b0 hu
theorem aYG(g:fB)(hu:zr+128<gD):be .In (af_ K):=g▸aYh hu
universe z
theorem agb(B:ao)(par:gn):(gA ak0 (kV x.1))=lS:=f7 yX jw
universe GA
namespace GM
variable{a5:lZ}{B:ao}{par:gn}{E f:cD}{t h:Nat}
noncomputable def UD(par:gn)(B:ao)(E:cD)(h w:Nat):Nat:=if dK w h then E w else dw w
structure L1(a5:lZ)(B:ao)(par:gn)(E:cD)(t:Nat):Prop where
 un:ln (nk<t->E v=nk)
 a:x2 (E v<=nk)
 b:x2 (∀w∈a5 v,E v<=il E v)
 d:x2 (E v=nk\/gx (a5 v) (E v=il E v))
theorem aYH(h:ln (E v=nk)):y6 eB:=d (fun v d3 _=>h v d3) (zQ ag) (zQ fk) (zQ eO)
theorem L1.low(Z:y6 0):BU a5 B par E where a:=lq (Z.a v d3 cT);b:=bhl;c:=bhl;d:=lq (by rcases Z.d v d3 cT with z|⟨w,hw,e⟩;rw[l AS];{delta UD at e;grind-abstractProof})
theorem L1.step(T:ji)(Z:y6 (t+1))(c7:h∈B)(d6:dw h=t)(o:E v (v≠h) (f v=E v))(b4:f h<=t)(b9:∀w∈a5 h,f h<=il E h)(e7:f h=t\/gx (a5 h) (f h=il E h)):L1 a5 B par f t:=by have vv:E v (t<=nk) (∀w,il f v=il E v):=fun v d3 w=>by{delta UD;by_cases c2:aHw;{rw[aK c2,aK c2];refine o w pA;have:=a2 (aid c2);rw[am z];exact yr d3 this d6.l};simp[*]};have ne:ln (t<=nk->v≠h->t+1<=nk):=fun v d3 z n=>by{rw[al (ik t nk),l q,cF (V9 d3 c7 (gy (cf q d6.g) (cf d6.l z))) n]};rw[w aKR aKR (fun v d3 z w hw=>?_) aKR,Z (o v Qj) (Z.un v d3 Jd)];{rw[T v h,aZ,Z (o v q) (Z.a v d3 aMm)]};{rw[vv v z w];rw[T v h,az,Z (o v q) (Z.b v d3 aMm w hw)]};{rw[T v h,aZ];{rw[o v q];rcases Z.d v d3 aMm with J|⟨w,hw,J⟩;rw[Fl];grind-abstractProof}}
universe GM
namespace GA
open PySem PySem.Spec PyProof.Rows L2
inductive ayv(K:Fg)(vs:af)(H:Hp)(Q:VK)(E:XK):Prop|mk:∀(l d:Addr)(Y:bg)(n:Nat)(a5:lZ)(B:ao)(par:gn),Gf (c aLs alU a'8 (∀(t c0 le:Addr)(lo:cD)L,j bQ (L t=aa (f_ c0 le)) anT a8H be6 (Q nu L)) (ayv K vs H Q E))
theorem getD_some{l:ao}{x:Nat}(h:x<d_):K l x (l.getD x 0):=ag
theorem aYI{l:ao}{x y v:Nat}(h:QG):am (V_ x v) y 0=l.getD y 0:=cq
theorem aYJ{l:ao}{x v:Nat}(h:x<d_):am (V_ x v) x 0=v:=ag
theorem aYK{l:ao}{n:Nat}(h:d_=n):l=d7 (ab (l.getD x 0)):=by apply NF;intro i;rw[cz];rw[cZ (ik i n),aZ,aZ]
section z
theorem aYL:T.awa.Ok P w aj 1 (ayv K):=by refine T.awa.go aTL aL;generalize aG=e3,aA=A,aF=outer,aE=s,aD=H,aB=vs,aH=Q,aI=E;rw[aN,M ob,aX];generalize kQ=l,kR=d,kS=Y,kT=n,kU=a5,kX=B,k_=par;rintro rfl N hd d1 r lt al k;rw[ap0];have f3:=qJ;rw[bgm,K (X zU a'3 (aS zU 3 4 4 zU) (a6 (t aw 5 zU 6 zU (d3 cJ bb eu)) (bU 7 zU (us bb)) (an (ash rfl T.reversed (dY aw)) 8 zU (mz (oo (eC kf)) (sF 9 zU) (c8 (bU 10 zU (R4 (dZ gM (SF xx aq xC lO) kf) (bs ke xC) (bs bb xC))) (bm lq EY (bs ke kf) (d3 EY ke kf))))) (as bb ke))) d _ (ai hd (fun lo O=>?_))];rw[agb];rw[gQ (ap lo lS) O,a b4 H lo lS lo lS,is (ap lo lS),biB,a7 l (dj wW) (fun c0 c1=>d oz aoS sx a9 (au xq) c1 a'M),eZ a x b3,bbN];have c3:=vm f6;rw[eT c3,bgW];rw[g9]at c3;rw[jW];have g8:=eN;have c5:=IV;have h1:=gV c1;have h3:=fm b4 c1;rw[bA lo c5 (bv eB (fo (vo (EP (ct ae ae ae ae)) bQ (aj lo lS) (∃R:ao,yU (aj c0 (R.map vn)) (R.length=n) (aP j x (j<i->aa B x->K R x j))))) (a Kc g8 c5 _ b9 aBL a7E))];{rw[bhG];exact as (vn B[i]) (av e) (p5 pJ)};{rintro M L⟨_,s,e,_⟩;exact cd e aQ};{rintro i M L x d4 hi⟨⟨i1,j5,rfl⟩,s,e,R,c4,a3,g⟩⟨t,y,rfl,c6,rfl,b6⟩;rw[n1 (av e)];have d0:=pJ;rw[dP B z d0];rw[cz,d0]at b6;cases b6;have a0:=lt z (bO d0);have k1:=em c6;have c7:=fm c4 c6;rw[b t _ rfl (cx ak) rfl c0 _ _ (a z rfl rfl (Y c7 c4) (yw a3.g) (bm _) (fG (il cm) h1) (ac (bW h3) (bW k1) e) (d (R.set z i) aGy (t M0 a3) (fun j x b8 S=>?_))),iL z];{rw[e_];have:j=i:=F8 Xe S d0;rw[gm];exact My (bU a0 a3.g)};{rw[a7w];rw[N q2 j i];{lia};rw[l (g j x (iM q2) S)]}};rintro M d4⟨⟨i1,j5,rfl⟩,c8,e7,R,U,a3,g⟩;have h5:R=d7 dw:=by{apply NF;intro x;rw[cz];rw[cZ (ik x n)];{rw[wH z];rw[bJ (al x z)];exact g _ x (wB m) (WX ⟨wB m,aie (wB m)⟩)};rw[aZ]};subst h5;clear g;rw[aW c0 (cc U) a_C];have d9:=wV (ac Er j3);rw[z g5 (N d4 le Er lo lS) (gE e7 j3) e7,z e0 (N d4 le Er c0 Er) (gE U j3) U,a e9 d4 le Er le Er];generalize U d4 le Er=e4 at d9 g5 e0 e9;have f5:=WN j3;have a7:=fm e7 j3;have b1:=fm U j3;clear c8 e7 U j3;rw[bA lo g5 (bv eB (fo (GF (LB (fun i9 e1 j9=>M=ct Ax i9 e1 j9)) bQ (aj lo lS) anT (∃E:ao,yU (aj le (E.map vn)) (VY=n) (GM.L1 a5 B par (ab (aEV x 0)) (eB-i))))) (a bdJ d9 g5 e0 _ e9 bB ?_))];{refine GM.aYH aob;have:=lt v d3;rw[WB,cz,wH this];rfl};{rw[bhG];rw[bA];rw[aP hi _ (vn B[eB-1-i]) (av e)];rw[cz,dd eO];rfl};{rintro M L _;show bd lS eB;rw[J bA a_]};{rintro i M L x g6 hi⟨⟨i9,e1,j9,rfl⟩,s,e,c4,E,F,b2,D⟩⟨rfl,b6⟩;rw[n1 (av e)];rw[bA]at b6;have d0:K B (eB-1-i) (B[eB-1-i]'(fv (s4 eB) (aC eB 1 hi))):=dd eO;generalize B[eB-1-i]'(eO)=z at d0;rw[cz,d0]at b6;cases b6;have C:=bO d0;have a0:=lt z C;have c9:dw z=eB-i_:=by{have:=F8 Xe (WX ⟨wB C,aie (wB C)⟩) d0;rw[jY]};have W:eB-i=eB-i_+1:=by{exact mP (L eB i hi eB (i+1)) (L eB (i+1) hi eB i)};rw[W]at D;rw[ak d2 (d7 a5) z (a5 z) a0];have⟨c,b0,X,nc⟩:=N.get d2;rw[r l (gR c) (br wW) (nd b0) (a1 c rfl (aW (br X)))];have g0:=D.un z C (x (Vm c9.l));refine aJ (bh (a5 z)) (fun j M L=>GF (vp (fun e1 j9=>M=ct Ax (bE z) e1 j9)) bQ (aj lo lS) anT (∃f:ao,Aa6 (aj le (ajX vn)) (Dr=n) (E v (v≠z) (Xd v 0=aEV v 0)) (Ez<=dw z) (∀w∈an (a5 z) j,Ez<=va w) (Ez=dw z\/gx (a5 z) (Ez=va w)))) (a (bp e1 j9) s e c4 E F b2 lO (qF g0) (fun w hw=>by simp at hw) (.inl g0)) (fun j M L _ z=>av (z.2 _ _ X));{rintro j x M L S⟨⟨e1,j9,rfl⟩,s,e,c4,f,F,u,o,h2,e2,i8⟩;rw[gt S,a2 y b6 S,eM (r.Lh z C y (bO b6))];have G:=lt y I;rw[dd (an (a5 z) (j+1)) (eA (an (a5 z) j)) b6];have p:=bv hd;have d5:jm L d (kV (hE y)) (aa aIK):=by{have:=wW p;rw[bX GU (aK I)];exact this};have ne:le≠lo/\le≠c0:=⟨a7.symm,b1.symm⟩;rw[aW d d5 (as (by delta Co;rw[li (par y)]))];have h6:ar aIK (vn z)=cv (dK y z):=by{delta Co;cases c2:par y with|none=>{rfl}|some q=>simp only[dN,aiW];rw[iN];simp;rw[t_]};rw[h6];by_cases Z:dK y z;{rw[dH Z];rw[r le (vn (Xd y 0)) (av F) EE ?_];have f7:Xd y 0=va y:=by{delta aEU;have h8:y≠z:=ai (by have:=a2 (r.aee Z);rw[am q];exact jr _ bG);rw[J (aK Z) (o y h8)]};generalize Xd y 0=b at f7;rw[bbI];{rw[wz (b<Ez),r le z F (yw u.g) ?_,bgQ,qZ (br e8.l (Bs e5) h2) (Gl (x (aQ2 e8 f7)))];rw[e8];rw[g9]at hw;rw[iF hw,cb (e2 w m) (ew (fH bG bG)),az]};rw[biZ]};{rw[ea Z];rw[r c0 (vn (dw y)) (av c4) (su G) ?_];have f7:dw y=va y:=by{delta aEU;rw[aO Z]};generalize dw y=b at f7;rw[bbI];{rw[wz (b<Ez),r le z F (yw u.g) ?_,bgQ,qZ (br e8.l e6 h2) (Gl bM)];rw[e8];rw[g9]at hw;rw[iF hw,dV,az]};rw[biZ]}};{rintro M L⟨⟨e1,j9,rfl⟩,s,e,c4,f,F,u,o,h2,e2,i8⟩;rw[db bA e2,e (as _ _ rfl) s e c4 f F u (D.step r C c9 o aGS e2 (bl c9 i8))]}};rintro M g6⟨⟨i9,e1,j9,rfl⟩,f9,i2,g4,E,g7,b2,D⟩;rw[zA]at D;rw[v es (sP (k t c0 le _ _ (mW (b_ h7)) ak (Y (fm g4 h7) g4) (by rw[gE g7 h7,<-aYK b2];exact g7) D.low))]
universe z
theorem agc(O:af)(p:Nat):jl O (gG p) ae=Ha p:=by delta jl;rw[ai8,HT.aru];rw[eL (ik p bx)];{rw[qP (ew h),DB aQ]};rw[aZ]
theorem yY(O:af)(p:Nat):jl O ae (gG p)=O.take p:=by delta jl;rw[ai8,HT.aru,List.drop_zero,ah7];rw[eL (ik p bx)];{simp};{simp}
theorem aYM{I:Type}{l:ba}(nd:l.Nodup)(h:1<d_):∃c d,c∈l/\d∈l/\c≠d:=by match l,nd,h with|c::d::J,nd,_=>rw[j c d bK og pA,ru];simp at nd
theorem of_two{I:Type}{l:ba}{c d:I}(b0:c∈l)(hd:d∈l)(ne:c≠d):1<d_:=by match l,b0,hd with|[x],b0,hd=>{simp at b0 hd;exact cy (b0.trans hd.symm) ne}|_::_::_,_,_=>exact tx
def aYN(B:ao)(par:gn)(lo:cD)(i:Nat):Prop:=bho
inductive ayw(K:Fg)(vs:af)(H:Hp)(Q:VK)(E:XK):Prop|mk:∀(l d:Addr)(Y:bg)(n:Nat)(a5:lZ)(B:ao)(par:gn)(p:uv),Gf (j aLs alU a'8 (ad lo be6 (nN (bE (p i) (aYN B par lo i)))) (t1 QQ) (ayw K vs H Q E))
section z
theorem aYO:T.awb.Ok P w aj 2 (ayw K):=by refine T.awb.go aTM aL;generalize aG=e3,aA=A,aF=outer,aE=s,aD=H,aB=vs,aH=Q,aI=E;rw[aN,M aL,aX];generalize aG=l,aA=d,aF=Y,aE=n,aD=a5,aB=B,aH=par,aI=p;rintro rfl N hd d1 r lt al c2 k;rw[fV,bgm,b _ (X DR (b4 aYL aq) (bU 3 DR xF) (i 4 DR xF (bU 5 DR bE) (i 6 DR AW (mz (oo (xe a'3)) (sF 7 DR) (c8 (bU 8 DR (SF xx aq ke lO)) (rZ (dZ gM kf bE) (fE (eS 5 DR bE)) (fE (bm uY (bs bR ke) (bs bb kf) (dD eu kf)))))) (bo (D uX cJ bE bE) (aYD (K:=K) rfl rfl bI T.min (dY eu)))))) l d Y n a5 B (a par rfl N hd d1 r lt al (fun t c0 le lo a8 a4 c6 d7 c1 r3=>?_))];have c2:=c2 lo r3;rw[bn t c6 (as t c6 dr ⟨cT,fun g b9=>?_⟩)];have b5:=eX (ac [] b9);have c5:upd a8 g al' c0=_:=(co b9 d7);have c7:upd a8 g al' le=_:=(co b9 c1);rw[a a0 a8 g [] g (ii ([]:ao))];have ne:=fm c1 b9;rw[bo (U a8 g []) c5 c7 a0,aW d (gH hd) (fun R O=>f R _ (av ak) (fun b2 a=>?_))];rw[agb]at a;rw[agb,a0 (jl lS (gG 1) ae) ak9 (agc _ 1)];have c8:=fg apN;have d0:=(apN) _ _ c5;have d3:=(apN) _ _ c7;have d5:=(apN) _ _ a0;have a7:N (U b7 R lS) b2 ak9 b2 (bh (DQ 1)):=by{rw[ak,Dk]};generalize U (U b7 R lS) b2 ak9=d4 at c8 d0 d3 d5 a7;rw[a7 b2 a7 (aJ (bh (DQ 1)) (fo (LB (fun(j3 i9:bZ V)(C:bL Nat)=>Aa8 (M=[tR,rx,ac t,OQ,Ax,bE (t8 anu),ac g,j3,i9]) bQ (aj b2 (bh (DQ 1))) anT a8H (aj g (C.map vn)) (C.length<=i) (∀u,u∈C↔∃c∈anu,Qk/\u≠0/\dw u<=lo c)))) (a ae ae [] rfl c8 a7 d0 d3 d5 a_ (fun u=>aQ)) (fun i M L _ e0=>by obtain⟨_,_,_,_,_,z,_,_,_,_,_⟩:=e0;exact av z))];{rintro i x M L S⟨j3,i9,C,rfl,s,a3,G,F,b,d6,f⟩;rw[gt S,a2 y b6 S,dd (an (DQ 1) (i+1)) (eA anu) b6,ca b3 (K B (i+1) y),eM (bO b3)];obtain⟨u,a9,e2,un,e4⟩:=r.ve y I (J (by rw[ru];exact cy (F8 Xe b3 (bl aEW r.head)) bM));have X:=bx b3;rw[aW d (by have:=wW (bv hd);rw[bX GU (aK I)];delta Co at this;rw[am a9];exact this) gJ];rw[dN];rw[FK];{have z:u=0:=by{simp at z;omega};rw[ru,b _ _ rfl rfl (bE y) (bE 0) C ?_ (a s a3 G F b EM aHj),az,az]};{rw[eB z (u≠0) z,cs c9 (t8 (an (DQ 1) (i+1))) (t8 anu),r le (vn (lo y)) (av F) (su (lt y I)) (D c0 (dw u) (av G) (su (lt u e2)) (fF (fun q=>?_) (fun q=>?_)))];{rw[n (dq b) g b (t bA (Kp d6 X d8 d1 fw)) (a (bE y) (bE u) (C++[u]) (dc c9) (fG s (gV b9)) (Y (J (by rw[z]at a;rw[gE a0 O,a0]at a;cases a)) a3) (Y (fm d7 b9) G) (Y ne F) (nM ak) (by simp;omega) aHj)];rw[hy,f v,g9];constructor;{rintro(⟨c,b0,J⟩|m);rw[l (v c (vQ _ b0) J)];{rw[OX];subst m;exact a y aHd a9 z (pe q)}};{rw[bga,iF b0,dQ bfZ,az]}};{rw[b (bE y) (bE u) C (dc c9) s a3 G F (v b EM aHj)];rw[f v,g9];constructor;{rintro⟨c,b0,J⟩;exact v c (vQ _ b0) J};{rw[bga,iF b0,l bfZ];{rw[OX];subst m;rw[a9]at d2;cases d2;exact cy q3 (by simp at q;rw[xI])}}}}};rintro M L⟨j3,i9,C,rfl,s,a3,G,F,b,d6,f⟩;rw[db bA f];rw[bA,H5];rw[br b1 (K B 0 0) aEW r.head];have d9:=lt 0 r.zero;have b4:∀{c u},Qk->c∈DQ 1:=fun{c u}D=>by{have:=r.aee D;rw[n2 et];cases j with|zero=>{simp_all}|succ j=>exact bO (i:=j) (ac Dt VR b8)};have e1:1<t8 (DQ 1)↔a7M:=by{constructor;{rw[fS];obtain⟨c,d,b0,hd,ne⟩:=aYM (ea (a5w (a4m _ _) Xe) _) q;rw[Nk]at b0 hd;exact a c d (ax b0.2) (ax hd.2) ne};{rintro⟨c,d,b0,hd,ne⟩;exact of_two (U9 ⟨b4 b0,ax b0⟩) (U9 ⟨b4 hd,ax hd⟩) ne}};rw[FK];{rw[Ji];rw[LP d9 (ae (c2 0 d9) (.inl (bd (e1.mp (by simp at z⊢;lia))))) (i4 Au)];rfl};{rw[dx c3 (nN (bE (p i) (i∈C))) (by rw[c2 i hi,f i];constructor;{rintro(⟨_,q⟩|⟨o,c,D,q⟩);rw[l (cy q (ai (z (by have:=e1.mpr q;simp at this⊢;exact(mh this))))),l (a c (b4 D) D o q)]};{rintro⟨c,_,D,o,q⟩;exact bj o c D q}),y g (C.map a_2) (av (t jw b)) ⟨Y5,fun m c4 U=>?_⟩];{have e:C=[]:=by{simpa using e};rw[Ji];rw[Up (i4 (by cases q:p j with|false=>{rfl}|true=>have:=x (c3 j b8) q;rw[am e,nj]))];rfl};{rw[a3 f7 Z c4,eI D q (x (f f7) Z)];have W:=lt f7 (bU (r.aee D));rw[Ji];rw[LP W (ae (c3 f7 W) Z) (i4 (by cases q:p j with|false=>{rfl}|true=>have:=U j (Ip (x (c3 j EK) q));rw[fT]))];rfl}}
universe z
theorem bj2{n:Int}{A B:Prop}(h:A):x1 (cp n):=bB
theorem aYP{p q:uv}{n:Nat}(h:nN (p i=q i)):QQ=ch n q:=by cases e:ch n q with|some m=>{rw[ak b c (GM.auA.mp e)];exact LP a ag (i4 cq)}|none=>exact Up (i4 ah)
inductive ayx(C:Addr)(vs:af)(H:Hp)(Q:VK)(E:XK):Prop|mk:dc (zV D) (zw Yl) (c (1<df) Q3 QS (gc (GM.yR D)) (ayx C vs H Q E))
section z
theorem aYQ:T.awm.Ok P w aj 3 (ayx bJ):=by refine T.awm.go aTU aL;generalize aG=e3,aA=A,aF=outer,aE=s,aD=H,aB=vs,aH=Q,aI=E;rw[aN,M iw,aX,Bk];rintro rfl h Z c1 n1 k0 j7 k;rw[d _ (L ajY (dK aWm) (bU 2 ajY (j7 aWo)) (ai (dP aw alT) (bU 3 ajY (j7 aWu)) (qx aWp (qx aYO (df cu))))) a D b2 X G (a h c1 k0 j7 (fun l Y a8 a4 N=>a l Y df DI (ai N (fun v b7 b5 d3=>?_)))),QR,dZ GM.yR,bu];cases j9:ch df (oA (s1 (DI i)))with|some m=>{rw[u1 j9,At (IA cm)]}|none=>rw[lm j9,X5,tJ];have g:=ajz b5;have d6:e3 (bd (DI x) 8192):=ab (cG Gla.Plan.near (cn (a3_ _ _) j7));rw[b l Y df DI rfl g ej (f7 k0) (a qk (GM.Ll Z) (ab bz) (GM.aRD Z) (fun d B par d4 c8 nd hd r lt=>?_))];{cases q:DI x with|nil=>{rfl}|cons y J=>rw[dQ (GM.aek Z x y ag) ag]};have n:=IA c8;rw[cb (g.mono c8),d l d Y df DI B par (d b bM hd (lq gJ))];have c:(ch df (Da (Gla.seenFrom a5x df 0 (Gla.noneSeen df))))=ch df aJ7:=aYP (jV (by have:=GM.aRE Z ej r hi;rw[dW];rw[iN,this];simp));rw[bs c];cases j8:ch df aJ7 with|some m=>{rw[u1 j8,At (tp cm)]}|none=>rw[lm j8,X5,tJ];have al:=aJ (nc (GM.aeK.mp j8 x S));rw[b l d Y df DI B par a_k (a rfl b hd bM r lt al (fun lo W i hi=>GM.aRF Z n1 r W al lt hi) bbt)];have U:=tp d9;rw[bu];cases e2:ch df a_k with|some m=>{rw[lm e2,tJ,At (ajE cm)]}|none=>rw[lm e2,tJ,bD (ax U rfl)]
universe z
noncomputable def vD(e:fz):tE:=[hE e.1,hE e.2]
theorem aYR{e f:fz}(h:vD e=vD f):e=f:=by rw[a4 vD,aaA,a't,gv (ajZ a3),fe (ajZ a9)];exact sM Bf Bf
inductive Cq(H:Hp)(d:Addr)(ls:nD):Prop|mk:gF wQ (∀e:fz,dk (fa F (vD e))=cv (e∈ls)) (Cq H d ls)
theorem Cq.mono{H L:Hp}{d:Addr}{ls:nD}(s:bQ)(h:Cq H d ls):Cq L d ls:=bir
noncomputable abbrev ptD(p:Pt):CX:=dT yo
theorem age(p q:Pt):jv (ptD p) (ptD q)=ar p q:=by rw[GS,iN,IB,IB];rw[n0 p,da d q];simp only[Oh,Og,Xf];rw[Ff]
theorem dG.dp{K:Fg}{H:Hp}{v:V}{p:Pt}(h:br v p):cs v (ptD p):=by rw[ak rfl h h];exact Uk (ns:=yo) (cx h)
inductive ayy(vs:af)(H:Hp)(Q:VK)(E:XK):Prop|mk:∀(b2 c0 d:Addr)(n i5:V)(D:Gla.Plan)(row:ao)(a b:Pt),e [YJ,O8,n,i5,ny] (e4 b2 lG) (am c0 P8) (V i row (i<df)) (c (br n a) (br i5 b) (Cq H d gU) (ta (aEX D row a b)) (ayy vs H Q E))
section z
theorem aYS:T.awj.Ok P w aj 1 ayy:=by refine T.awj.go au_ aL;generalize aG=e3,aA=A,aF=outer,aE=s,aD=H,aB=vs,aH=Q,aI=E;rw[aN,M Jz,aX];generalize E5=b2,E7=c0,E8=d,E9=n,E_=i5,Fb=D,Fe=row,Fi=a,Fw=b;rintro rfl⟨c5,a3,e9⟩I c1 W a5 b8 k;rw[K (b4 (dl (aEZ (ac9 (ac_ (afm K aq)) (ac9 (dZ al2 (eC AA) aw) (aqQ (dZ al2 (eC (bs aq (aqZ aq2 bE))) bb))))) mj) (an (aYz rfl T.zip (sD aq (xe aq))) 5 au_.nd (dl (Bv (SG xx cJ bR)) mj)) mj) _ (.inl (bm (av I))) ?_,dZ aEX];cases row with|nil=>{rw[bD ?_,c_ G (dB ai) XW];exact G}|cons m row=>have f5:(! !(aHm).isEmpty)=ai:=rfl;rw[f5];have o:=c1 m bK;obtain⟨j,e5,N⟩:=gG e9 o;rw[<-(wU o)]at N;rw[r c0 (vn m) (av I) dh (f b2 _ _ j rfl (av a3) (dX e5) (a _ _ N.dp W.dp tU tU ?_))];rw[age];rw[N R (wY m) a];{rw[dH R];have c:I z ((aFZ).getLast?=aa z) (BC aHm (-1)=aa (vn z)) (z<df):=by{rcases a4b (m::row)with q|⟨f,z,q⟩;rw[cY];{rw[cR a4a,w z ag (ac q fe (arB _ _)) (c1 z ag)]}};obtain⟨z,z1,h6,k7⟩:=c;rw[cP g7 d2 (gG e9 k7)];rw[<-(wU k7)]at d2;rw[d _ rfl c0 _ _ (vn z) rfl (u (av I) h6 b2 O (a (av a3) (dX g7) _ _ d2.dp a5.dp tU tU ?_))];rw[age];rw[bs z1,N d1 (wY z) b];{rw[dH d1];have k:E L bQ (Q (.bl (yB Rm)) L):=by{rw[ZA]};rw[bA c0 I (fun ls e1=>?_)];rw[a0 (jl aHm (gG 1) ae) P8 (agc _ 1)];rw[gQ (ap ls P8) e1,a e7 H ls P8 ls P8];generalize ap ls P8=a8 at a4 e7;rw[e c0 ls _ _ rfl (av (dj I)) (av e7) (bv ff (bi (∃i1,M=[ac b2,OQ,aa n,aa i5,rx,i1]) OL (yB (an Rm i)=ab)) (bp qg eg))];{rw[pk s];exact a _ _ (vn (dx aFZ (x (ahm hi)))) (vn row[i]) aJ5 (br e7) bz ag};rw[i0 s (a _ _ aJ5 (br e7) (.inr aQ))];{rintro i M L x b7 hi⟨⟨i1,rfl⟩,s,g⟩⟨t,b1,d7,rfl,c6,rfl,S,b6⟩;have S:=S _ aJ5;have b6:=b6 _ (br e7);rw[cz]at S b6;rw[a2 u hu S,a2 v d3 b6];have c9:A (Rm) JJ:=List.getElem?_zip_eq_some.mpr ⟨hu,d3⟩;rw[aK (an Rm (i+1)) (an Rm i) JJ c9,tg (bx u v),A4 (b8.mono eN)];have d5:jm (ld (bx u v)) d nu (fa F (vD JJ)):=jm.t c3 (dc ak);rw[s7 d5];have c4:=c4 JJ;by_cases mm:JJ∈gU;{rw[dH mm]at c4;rw[ci y b6 c4];rw[b6];rw[ak ei b5];rw[g9,aEY,g];simp[mm]};{rw[aHR,ff b6 (fa F (vD JJ)) c4];rw[b6];have:=k _ eN;rw[R g5 (yB Rm) ai a5y (v JJ (bO c9) hS),am g5];exact this}};{rw[bJ L i1 s g];rw[DB aQ]at g;have:=k _ (eX s);rw[am g];exact this}};{rw[ea d1];rw[b4 G (dB ai) d1 XW];exact G}};{rw[ea R];rw[bD ?_,b4 G (dB ai) R XW];exact G}
universe z
theorem UE{c:Type} [we c](F:hT)(k:c)(v:V):bd Yb (hY+1):=by delta mM;rw[Zg]
theorem ayz{I d:Type}{F:ql}{l:ba}{m:nG}(e:d_=aE0)(h:∀(j:Nat)a b,aa l a->aa m b->F a b):fZ F:=by induction l generalizing m with|nil=>{rw[J (NS CP) .nil]}|cons x O i=>cases m with|nil=>{exact iT (a5l _ e)}|cons u b1=>rw[K5 e]
inductive EnV(H:Hp)(v:V)(e:Nat×Pt):Prop|mk:f a y (v=bc) (cw (cP (vn e.1) y)) (br y e.2) (EnV H v e)
theorem UG:lu EnV:=sd (b a y e h p e0 (a a y e (bv h) (hH s p)))
theorem aYT{H a8:Hp}{l:Addr}{c5:af}{pts:eh}(e9:dD (dG H) c5 pts)(N:UC H a8 l kx (BD c5)):dB EnV a8 l ((eJ NL).zip pts):=by obtain⟨s,d6,Y,i0,e,al⟩:=N;rw[ca e,it qY];refine ayz ag (fun j v x d3 S=>?_);rw[gt d3,a2 a b3 d3];obtain⟨_,e7,i8,⟨rfl,b6⟩,g9⟩:=al j a b3;rw[aW p c2 e9 b6];have G:x=(j,p):=by{rw[n0 (List.getElem?_zip_eq_some.mp S)];obtain⟨_,c⟩:=Xh a;rw[WT]at c;exact sM Xg (c_ (b.symm.trans c2))};subst G;exact f a i8 g9 (bL s J)
theorem UH(D:Gla.Plan)(on:OK):kw ((eJ df).zip lG) (hm (on e.2) e.1)=IC D on:=by delta IC Gla.Plan.pt;generalize D.pts=pts;have O:∀(pts pre:eh),kw ((Xi DM NL).zip pts) (hm (on e.2) e.1)=ea (Xi DM NL) (dJ (on ((pre++pts).getD i jO))):=by{intro pts;induction pts with|nil=>{intro pre;rfl}|cons p J d6=>intro pre;have:=d6 (pre++[p]);rw[cj,aBU,dv]at this;rw[ia,List.range'_succ,a5z,He,aCX];have e:(pre++p::J).getD DM jO=p:=by{simp};rw[e,this];rw[li (on p)]};have:=O pts [];rw[oS List.range_eq_range']
abbrev Edg:=ao×Pt×Pt
inductive G0(H:Hp)(v:V)(e:Edg):Prop|mk:∀t c0 n i5,b v nu (iL t [.ref c0,n,i5]) (am c0 (ii e.1)) (br n e.2.1) (br i5 e.2.2->G0 H v e)
theorem G0.mono{H L:Hp}{v:V}{e:Edg}(s:bQ)(h:G0 H v e):G0 L v e:=by obtain⟨t,c0,n,i5,a,b,c,d,f⟩:=h;exact a t c0 n i5 a (bv b) (bv c) (bL s d) (bL s f)
noncomputable def yZ(D:Gla.Plan):bL Edg:=[baK,baL,baY,baX]
theorem ayA(D:Gla.Plan):aj0 D=ez (yZ D) (an aL0):=by delta aj0 yZ;simp[MW]
theorem aYU(D:Gla.Plan):de (yZ D) (∀i∈e.1,i<df):=by intro e a0 i hi;have O:E on (i∈IC D on) (i<df):=fun on h=>by{rw[a4 IC];exact List.mem_range.mp (fb h)};delta yZ at a0;simp only[hC,oR,Dl]at a0;rw[kC a0]<;>(simp only at hi;exact O _ hi)
inductive ayB(C:Addr)(vs:af)(H:Hp)(Q:VK)(E:XK):Prop|mk:dc Q3 QS (gc (GM.Cb D)->ayB C vs H Q E)
section z
theorem aYV:T.awi.Ok P w aj 2 (ayB bJ):=by refine T.awi.go aTR aL;generalize aG=e3,aA=A,aF=outer,aE=s,aD=H,aB=vs,aH=Q,aI=E;rw[aN,M iw,aX,Bk,av h k0 j7 k,fD,Q2,aaY,fV,pa (L rf bP (bU 2 rf bP) (i 3 rf (aYC (K:=K) rfl rfl bI aj2 bI a5A (dY bP)) (bU 4 rf (KQ (vt (e1 bE ua (dO aq)) (e1 bE ua (as aw bE)) (e1 aq (dO aq) (as aw aq)) (e1 aw (as aw bE) (as aw aq))))) (i 7 rf adL (an pI 8 rf (dY ke kf mj)) (bo (mz (adi bR) (nE 3 (KD (sF 9 rf) (KD (sF 10 rf) (KD (sF 11 rf) aqR)))) (fE (ge (uV (d9 aYS (GL bP xC EY OV ke))) (dO (gi T.aVb))))) cu)))) (f b2 c5 (av a3) (fun Z a8 J=>?_))];have p5:=aYT e9 J;have s0:=J.1;clear J;rw[cG v l p5,a7 Z v (fun b4 v5=>d oz UG sx apA (u5 (f_ 0)) v5 anj)];{rintro i e x L h4 N a0 s⟨b,y,rfl,U,c,rfl,b0⟩b6 d1;rw[c b _ rfl pH rfl c _ (t9 dh)];rw[dN];rw[FK];{rw[qI e.2.y];exact(ab e.1 (ar d3) eg rfl)};{rw[zv e.2.y];exact anK}};intro r k6 r1 h8 e2;rw[UH D (f_ 0)]at e2;have j4:=vm e2;subst j4;clear e2 v5;rw[v (bB) (fun g4 h9=>?_),l e5 r r g4 yd h9,v (ah) (fun a7 e4=>?_)];have e6:=kx Qs e4;rw[v (yi) (fun W k1=>?_)];have c1:=b3 b4 g4 a7 k1;rw[a u (E (upd r g4 yd) a7 Qs W (bV b4 g4 a7)) (.ref W) baK W b4 g4 a7 h8 (eT g4 e4 k1) a7 k1];generalize E (upd r g4 yd) a7 Qs W (bV b4 g4 a7)=k7 at c1 u;rw[iR (r1.trans c1)];have a4:=aE' c1;have v:=ano;rw[aoZ];clear h9 e4 k1 e5 e6 h8 r1;clear c1;rw[a7 Z v (fun b9 v7=>d oz UG sx apA (u5 (ga 0)) v7 anj)];{rintro i e x L h4 N a0 s⟨b,y,rfl,U,c,rfl,b0⟩b6 d1;rw[c b _ rfl pH rfl c _ (t9 dr)];rw[dN];rw[FK];{rw[qI e.2.x];exact(ab e.1 (ar d3) eg rfl)};{rw[zv e.2.x];exact anK}};intro Y k8 r2 i1 e7;rw[UH D (ga 0)]at e7;have j5:=vm e7;subst j5;clear e7 v7;rw[v (bB) (fun h3 i2=>?_),l e5 Y Y h3 yd i2,v (ah) (fun d5 f5=>?_)];have e6:=kx Rr f5;rw[v (yi) (fun d8 c7=>?_),iR (b3 b9 h3 d5 c7),a C (E (upd Y h3 yd) d5 Rr d8 (bV b9 h3 d5)) (.ref d8) baL d8 b9 h3 d5 i1 (eT h3 f5 c7) d5 c7];generalize E (upd Y h3 yd) d5 Rr d8 (bV b9 h3 d5)=k9 at c1 C;rw[iR (r2.trans c1)];have b5:=eX c1;have v:=ano;rw[aoZ];clear i2 f5 c7 e5 e6 i1 r2;have u:=aj1 c1;clear c1;rw[a7 Z v (fun c2 i3=>d oz UG sx apA (u5 (ga D.w)) i3 anj)];{rintro i e x L h4 N a0 s⟨b,y,rfl,U,c,rfl,b0⟩b6 d1;rw[c b _ rfl pH rfl c _ (t9 dr)];rw[dN];rw[FK];{have d3:e.2.x=D.w:=by{simp at z;lia};exact(ab e.1 (ar d3) eg rfl)};{have d3:¬e.2.x=D.w:=by{simp at z;lia};exact anK}};intro O l0 m i6 f7;rw[UH D (ga D.w)]at f7;have j8:=vm f7;subst j8;clear f7 i3;rw[v (ah) (fun h6 i7=>?_),l e5 O O h6 Qs i7,v (ah) (fun l3 g0=>?_)];have e6:=kx Rw g0;rw[v (yi) (fun j c4=>?_),iR (b3 c2 h6 l3 c4),a b3 (E (upd O h6 Qs) l3 Rw j (bV c2 h6 l3)) (.ref j) baY j c2 h6 l3 i6 (eT h6 g0 c4) l3 c4];generalize E (upd O h6 Qs) l3 Rw j (bV c2 h6 l3)=l1 at c1 b3;rw[iR (m.trans c1)];have c8:=fg c1;have v:=ano;rw[aoZ];clear i7 g0 c4 e5 e6 i6 m;have u:=aj1 c1;have C:=C.mono c1;clear c1;rw[a7 Z v (fun d2 i8=>d oz UG sx apA (u5 (f_ D.h)) i8 anj)];{rintro i e x L h4 N a0 s⟨b,y,rfl,U,c,rfl,b0⟩b6 d1;rw[c b _ rfl pH rfl c _ (t9 dh)];rw[dN];rw[FK];{have d3:e.2.y=D.h:=by{simp at z;lia};exact(ab e.1 (ar d3) eg rfl)};{have d3:¬e.2.y=D.h:=by{simp at z;lia};exact anK}};intro a5 l2 c9 j0 g6;rw[UH D (f_ D.h)]at g6;have k2:=vm g6;subst k2;clear g6 i8;rw[v (ah) (fun f4 j1=>?_),l e5 a5 a5 f4 Rr j1,v (ah) (fun e0 g7=>?_)];have e6:=kx Rw g7;rw[v (yi) (fun I d4=>?_)];have c1:=b3 d2 f4 e0 d4;rw[a g8 (E (upd a5 f4 Rr) e0 Rw I (bV d2 f4 e0)) pE baX I d2 f4 e0 j0 (eT f4 g7 d4) e0 d4];generalize E (upd a5 f4 Rr) e0 Rw I (bV d2 f4 e0)=j2 at c1 g8;have c1:=c9.trans c1;rw[l9 c1];have v:=ano;rw[aoZ];clear j1 g7 d4 e5 e6 j0 c9;have u:=aj1 c1;have C:=C.mono c1;have b3:=aE_ c1;clear c1;rw[v (yi) (fun b8 k3=>?_)];have i0:=b_ (o:=aJt) k3;have h2:upd j2 b8 aJt b8=_:=ak;rw[m j2 b8 aJt d0 i0 h2];have f9:=mX i0;have al:dD (G0 d0) (v_ (gR W)) (yZ D):=ec (aj1 i0) (C.mono i0) (hY (aE_ i0) (g8.mono i0));clear u C b3 g8 v l i0 d9 c8 b5 a4 s0;refine J1;rw[l h1 d0 d0 d pY nd];have j3:Cq (upd d0 d pY) d []:=F0 bI;rw[m d0 d pY p6 h1 j3,a2 (iP QC) (s kC ku X (dB ls (iP (hy a9))) (bV ls (bi (∃i9,M=he ae ae ae) (cZ d0 L) (Cq L d (pq i))) (v qg h1 j3) (hy a9)))];{rintro i x M L S⟨⟨i9,rfl⟩,s,F,c3,lk,mk⟩;rw[BU (oA f6 S)];have hi:=bx a0;have j6:=bv (hy U);rw[eS]at lk;rw[b d _ rfl (qx.t (k:=vD e) c3 j6 (db lk (oP i lH) j7)) ei (gb s) (mM F (vD e) YS) ak (lG (fun f=>?_))];{have:=UE F (vD e) YS;rw[eS];exact a2N ⟨hn this lk (wy i lH),uR this lk (wy i lH) hi⟩};{rw[Sx,DO,a0];have h5:=mk f;rw[T f e,az];{rw[bj (J (q (aYR z))),h5];simp[q]}}};rw[bJ p7 i9 R o,db NZ o,bD b8 (aW (cx (R _ _ h2))) (cl (v_ (gR W)) (bi (LB (fun e1 j9 e8=>M=he e1 j9 e8)) (cZ p7 L) (ez (an (yZ D) i) (an aL0)=ab)) (bp bdJ eg) (z.2 _ _ (R _ _ h2)))];{rintro i x M L S⟨⟨e1,j9,e8,rfl⟩,s,g⟩;rw[gt B (oA al S),ds (mW (wC s))];obtain⟨t,c0,n,i5,rfl,c6,d7,k4,k5⟩:=B.mono (wC s);rw[dd (an (yZ D) (i+1)) (an (yZ D) i++[e]) a0,b t _ rfl (cx c6) rfl a _ dx (a _ _ rfl (n9 hd) dR gb fX b2 (a c0 d n i5 D e.1 e.2.1 e.2.2 (a rfl (ai4 dk d6) d7 (aYU D e um) k4 k5 (o.mono s) (fun b7 i4=>?_))))];cases st:aL0 with|true=>{rw[ak (as _ _ rfl) (il i4)];rw[g9,aEY,g];simp[st]}|false=>rw[v (bB) (sP (ax (dL (wZ i4) h7) ?_))];have g5:aj0 D=ai:=by{rw[ayA,a5y];exact v e um ah};delta GM.Cb;rw[g5];exact lQ};{rintro M L⟨⟨e1,j9,e8,rfl⟩,s,g⟩;rw[oF (mW (wC s)),z g (aj0 D=ab) ayA g];delta GM.Cb;rw[g];rfl}
universe z
noncomputable def L3(p:Pt):tE:=[hE p.y,hE p.x]
theorem ayC{e f:Pt}(h:L3 e=L3 f):e=f:=by rw[a4 L3,aaA,a't,gv (ajZ a3),fe (ajZ a9),n0 e,da d f];simp only[Xf];simp only at a3 a9;rw[el]
inductive Cr(H:Hp)(d:Addr)(c5:eh):Prop|mk:gF kx (∀p:Pt,dk (fa F tZ)=cv (p∈c5)) (Cr H d c5)
theorem Cr.mono{H L:Hp}{d:Addr}{c5:eh}(s:bQ)(h:Cr H d c5):Cr L d c5:=bir
noncomputable def gO(l:ki):GM.PK:=(dp l.1.y l.1.x,dp l.2.y l.2.x)
theorem ayD{l m:ki}(h:gO l=gO m):l=m:=by obtain⟨⟨a,b⟩,c,d⟩:=l;obtain⟨⟨B,b2⟩,C,d'⟩:=m;simp only[gO,CA,Oh,Og,Xf]at h⊢;lia
theorem eR.pk{H:Hp}{v:V}{l:ki}(h:aok){b:Addr}(e:v=cW):GZ H b (gO l):=by obtain⟨a,x,y,d3,h,⟨p,rfl,c2⟩,q,rfl,e0⟩:=h;rw[Zj,a4 d3 (a p q h c2 e0)]
inductive Cs(P:Program)(w:World)(H:Hp)(d:Addr)(ls:mZ):Prop|mk:o f (oH P w H d f wQ) (∀l:ki,lb (gO l)=cv (l∈ls)) (yC H)
theorem Cs.mono{P:Program}{w:World}{H L:Hp}{d:Addr}{ls:mZ}(h:yC H)(s:bQ):yC L:=by rw[bH a b h];exact v f (a.mono s) b
noncomputable def Ct(a:mZ)(b:eh)(r:Gla.Plan)(i:Nat)(l:fz):cb:=Z (a.contains Eg) (dG (a3d (bn (! b.contains p))) (DE pz rl)||dG (DR (a.contains aJq)) (GM.Lm r l)) (GM.Gp r i l)
noncomputable def agh(D:Gla.Plan):i Em Nat fz cb|none=>GM.Gp D|some B=>GM.Tj B D
inductive ayE(C:Addr)(vs:af)(H:Hp)(Q:VK)(E:XK):Prop|mk:lK (GM.Ord D) (l (pm D.w) (pm D.h) Q3 QS aLF (gc aJR) (ayE C vs H Q E))
section z
theorem aYW:T.awk.Ok P w aj 4 (ayE bJ):=by refine T.awk.go aTS aL;generalize aG=e3,aA=A,aF=outer,aE=s,aD=H,aB=vs,aH=Q,aI=E;rw[aN,M ob,aX];generalize kQ=a,kR=D,kS=b2,kT=X,kU=G,kX=b4,k_=B;rintro rfl h hB Y b3 n4 k0 j7 e6 k;rw[fD,Q2,aaY,Br,ak c1 gU (e.1<df/\e.2<df) (bv jd beb),cP d5 (cz lG (kr p)) b3 n4,eZ (X ps af6 (bU 3 ps adL) (ai (ai KI aq cu (bd (j7 LM) 4 ps (af5 wj aw bR mj rfl)) (bd (GN K aq) 5 ps (dY bb cJ mj))) (e ps 6 pI (cj "point" 5) (ci 5 ps) (lf (Bv (SG xx cJ bb))) (bC cJ)) (i 7 ps (dK LM) (bU 8 ps AW) (bo (mz (ll ke) (V 9 ps 4 ps) (c8 (rZ (Bv (aXN wj bR aw)) (fE (bU 10 ps (Z axB bR eu kf))) (i 11 ps (f1 xC) (bU 10 ps (Z axB bR (Ck K bP (oq (hn (di OV))) (oq (di OV))) (hG ke xC))) (fE (dD kf bR)))) (dl (uV EY) (yy xC)))) cu)))) (fun dl g4 k2 k3=>?_),gQ (ad dl g4) k2];generalize ad dl g4=a8 at k3 a4;refine fun dp m9=>?_;rw[l b5 a8 a8 dp pY m9];have d8:Cr (upd a8 dp pY) dp []:=F0 (ar fa);rw[m a8 dp pY b7 b5 d8];have r:=eN;have f7:Cs P w b7 dl []:=av (k3.mono b5) (ch aQ);rw[bu];cases B with|none=>{subst hB;rw[de ae [] [] bI];have n6:oR Ei (p∈Ei):=bn Wo;rw[KW Ei];{rw[dH p x c2,A4 (aFb s),bd3];have c4:=c4 p;by_cases mm:p∈Ei;rw[cY];{rw[aHR];have O:fa F tZ=ae:=by{simp at*;lia};rw[O];rw[bD bbz];simp[mm]}};rw[bbS];rw[LC]at e2;have l1:=aj3 d9;rw[bf2,aJo,bcX,bhQ,bbE,bed,bep];have n7:a5D=lH:=Xj D;have n8:=i9.length;rw[hr [kJ,al4,ac dl,ac dp,b1,ae,ac i0,Ax,ac n,e1,j9,e8] Zs baW,beA,bae];{rintro i M L x h5 hi⟨⟨b1,e1,j9,e8,rfl⟩,s,b9,g⟩⟨t,y,rfl,c6,rfl,b6⟩;rw[jw i9 (b6 _ (br e5)),bez,dP gU e a0,Iv (bt (c_ a5))];subst h2;have ix:=c1 e um;have j1:=j4 ix.1;have k8:=j4 ix.2;rw[P st L (ld hK) cm];have rv:=tq (cP (il st)) J;rw[gr (aFa gx st),ba1];have R:=il st;have d:=zW R;have k9:=bff;rw[hs Ry baW Ry];have o1:=W rm;rw[F8 (as (m9 rv)),apj];by_cases j2:rm∈OC;{rw[b3 g0 (apO=ab) (iT (oR bG))];rw[g0];rw[o i0 n rv be7 b9.ls (fb c2) (fun J a6=>bz)];have c7:(j3 (tz Ei) Zs)=Ry:=by{trivial};rw[mh (tz Ei) Zs];rw[c7];rw[bL c9 (uU OC) Zs];cases h6:Ry with|true=>{rw[bde]}|false=>exact d an3 R bB (l0 h6)};{have g0:apO=ai:=by{trivial};rw[g0];rw[Y c l2 C b0 (mx f6 a0)];have l4:=gl b0;rw[bip,bdO,bij,bhP,i h5 d2 X8 h9 g4 d6,bA le (n9 (R _ _ e5)) (fun q2 m5=>?_)];rw[yY a7 i];rw[bhJ,bhR,bhK];have d7:=wZ i4;rw[biS,Lh Ry];cases h6:Ry with|true=>{rw[q8 (ag) ah]}|false=>rw[w an3 c0 (jl ak) (l0 h6),ae c9 (uU OC) ((Zs)++[e])];rw[c9,fe];exact bey}};rw[biX]}|some B=>rw[bh2];have n0:=e6 B rfl;have m7:=n0.Gw;rw[de (aa B) th pd rfl,c b B i2 h7 i7 (U.mono r) (f2 (by have:=n0.clean.ord.lt e a0;rw[jY])) (iT (aS m7.2).2 (fun i5 d4 c8 n5 k5=>?_))];obtain⟨bs,l8,n1⟩:=k5;have k1:=aj3 c8;have ldn:Xk=B.lines.length:=Xj B;have d8:=aFb c8;have f7:=aFd c8;rw[a7 i5 l8 ?_,M n2 dp dl (by rw[be8];obtain⟨m8,q2,_,_⟩:=d8;rw[b2 q q2];cases q2)];refine aJ bs (fo (Aa6 (∃b1,M=[kJ,ac b,ac dl,ac dp,b1,ae,ae,ae,ae,ae,ae,ae]) bQ (aj i5 bs) (dD (eR L) bs th) (Cr L dp []) (Cs P w L dl (B.drawn.take i)))) (c qg k1 l8 n1 d8 ag) (mL (av z.3));{rintro i x M L S⟨⟨b1,rfl⟩,s,l7,m1,d3,f,h3,W⟩;rw[jw m1 S,BW J,lf Xk a5];rw[eS]at h3;rw[c dl c (gO l) f _ rfl h3 (Ib (x (Kp (wy i Xk) hi ldn.l (aS m7.2).2 fw))),gc k4 h3];obtain⟨m8,q2,q3,i6⟩:=d3;rw[e ei (fG s k2) (Y (J (by rw[be8,b2 q l8];cases l8)) l7) (cc (nC k4) m1) (d m8 (Y n2 q2) q3 i6) _ (pc (min (i+1) Xk) (min i Xk)) Yk];rw[DO,a5];rw[T m l,aZ,bbT]};rintro M d4⟨⟨b1,rfl⟩,k1,l7,m1,d8,f7⟩;rw[db n1.length f7,bb4,dn e0 n3 U.p,y b j8 (k1 _ _ l9) dR (s gb fX i2 (k2 (k1 _ _ e0)) (bV v (fo (vo (∃i1,M=[kJ,ac b,ac dl,ac dp,b1,i1,ae,ae,ae,ae,ae,ae]) bQ (Cs P w L dl th) (Cr L dp (B.pts.take i)))) (d qg k1 f7 d8) e0))];{rintro i x M L S⟨⟨i1,rfl⟩,s,⟨f,h3,W⟩,F,c3,lk,mk⟩;rw[Y p c2 c b0 (oA n3 S),lf a5E c2];rw[eS]at lk;rw[b dp _ rfl (qx.t (k:=tZ) c3 (bv b0) (x (Kp lk (wy i a5E) hi (aS m7).2 fw))) ei (fG s (gV m9)) (v f (h3.go (nC c3) (eB (Y aFc e))) W) (mM F tZ YS) (v ak ?_ akT)];{have:=UE F tZ YS;rw[eS];rw[fT]};{rw[Sx,DO,c2];rw[N z q p,aZ];{rw[bj (e7 (z (ayC y))),(mk q)];simp[z]}}};rintro M d4⟨⟨i1,rfl⟩,r,f7,d8⟩;rw[db n3.length d8];have n6:oR (pd) (p∈(pd)):=bn Wo;rw[KW (pd)];{rw[dH p x c2,A4 (aFb s),bd3];have c4:=c4 p;by_cases mm:p∈(pd);{rw[dH mm]at c4;rw[ci y O c4];rw[O];rw[bD (d1 ?_ _ eg)];simp[mm]};{rw[aHR,ff O (fa F tZ) c4];rw[O];rw[bD bbz];simp[mm]}};rw[bbS];rw[LC]at e2;have l1:=aj3 d9;rw[bf2,aJo,bcX,bhQ,bbE,bed,bep];have n7:a5D=lH:=Xj D;have n8:=i9.length;rw[hr [kJ,ac b,ac dl,ac dp,b1,i1,ac i0,Ax,ac n,e1,j9,e8] Zu baV,beA,bae];{rintro i M L x h5 hi⟨⟨b1,e1,j9,e8,rfl⟩,s,b9,g⟩⟨t,y,rfl,c6,rfl,b6⟩;rw[jw i9 (b6 _ (br e5)),bez,dP gU e a0,Iv (bt (c_ a5))];subst h2;have ix:=c1 e um;have j1:=j4 ix.1;have k8:=j4 ix.2;rw[P st L (ld hK) cm];have rv:=tq (cP (il st)) J;rw[gr (aFa gx st),ba1];have R:=il st;have d:=zW R;have k9:=bff;rw[hs Rx baV Rx];have o1:=W rm;rw[F8 (as (m9 rv)),apj];by_cases j2:rm∈(th);{rw[cl g0 (apO=ab)];rw[g0];rw[o i0 n rv be7 b9.ls (fb c2) (fun J a6=>by rw[a3 m c4 a6];have:=c1 m (qT (fb c4));exact⟨j4 et,j4 fj⟩)];have c7:(j3 (tz (pd)) Zu)=Rx:=by{delta Ct;rw[aK (a5C j2),a5B];rfl};rw[mh (tz (pd)) Zu];rw[c7];rw[ae c9 (uU (th)) Zu];cases h6:Rx with|true=>{rw[bde]}|false=>exact d an3 R bz (l0 h6)};{rw[ae g0 apO ai];rw[g0];rw[Y c l2 C b0 (mx f6 a0)];have l4:=gl b0;rw[bip,bdO,bij,bhP,i h5 d2 X8 h9 g4 d6,bA le (n9 (R _ _ e5)) (fun q2 m5=>?_)];rw[yY a7 i];rw[bhJ,bhR,bhK];have d7:=wZ i4;rw[biS,Lh Rx];cases h6:Rx with|true=>{rw[q8 (yi) bz]}|false=>rw[w an3 c0 (jl ak) (l0 h6),ae c9 (uU (th)) ((Zu)++[e])];rw[c9,fe];exact bey}};rw[biX]
universe z
theorem bj3{A B:Prop}(h:A):x0 Hm:=asj h
inductive ayF(C:Addr)(vs:af)(H:Hp)(Q:VK)(E:XK):Prop|mk:mJ (Oi D) (ayF C vs H Q E)
noncomputable def Cu(D:Gla.Plan):Em->cb|none=>ai|some B=>cv aK0
inductive ayG(C:Addr)(vs:af)(H:Hp)(Q:VK)(E:XK):Prop|mk:lK (dB anQ) (ayG C vs H Q E)
noncomputable def ayH(D:Gla.Plan)(B:Em):bZ Mo:=GM.ko aJR (GM.yR D)
inductive ayI(C:Addr)(vs:af)(H:Hp)(Q:VK)(E:XK):Prop|mk:lK (Oi D=ae) (aLF->gc aoO->ayI C vs H Q E)
theorem Uq.mono{C:Addr}{H L:Hp}{v:V}{B:Em}(s:bQ)(h:Uq C H v B):Uq C L v B:=by cases B with|none=>{exact h}|some B=>rw[j b x y z e d h (c b x y z e (d.mono s))]
theorem UI{D:Gla.Plan}(h:zJ D=ae):N (D.w<=1048575/\pm D.h) Q3 QS (qX<=2048):=by delta zJ jC ajg aDL aDK aDJ at h;(repeat' rw[eH]);(all_goals first|(rw[cH])|skip);simp_all
theorem ayJ{K:Fg}{H:Hp}{l:Addr}{c5:eh}(h:e4 l c5):cs cC (sc (aiX (bn yo))):=by rw[bE e p h];refine a_g;clear e;induction p with|nil=>{rw[kL]}|cons J t d6=>rw[cA J.dp d6]
theorem ayK{K:Fg}{H:Hp}{l:Addr}{c5:nD}(h:dB sr H l c5):cs cC (sc (aiX (bn aaw))):=by rw[bE e p h];refine a_g;clear e;induction p with|nil=>{rw[kL]}|cons J t d6=>rw[ak rfl b3 J];exact .cons (ws Jx) d6
theorem ayL{I d:Type} [we I] [we d]{f:Fj}(W:eS (f a=f b) (a=b))(l m:ba):ar xQ (aDq f)=ar l m:=by rw[iN,IB,IB];exact⟨c8 (a31 W|>.mp h),c8 (iG h)⟩
theorem aYX(l m:eh):po (bn yo) (bn yo):=by rw[jv,afD];refine ayL (fun a b h=>?_) l m;rw[bba,aK1];simp only[Oh,Og,Xf]at h⊢;lia-abstractProof
theorem aYY(l m:nD):po (bn aaw) (bn aaw):=by rw[jv,afD];refine ayL (fun a b h=>?_) l m;rw[bba,aK1];simp only[Oh,Og,CA]at h⊢;rw[Ff]
section z
theorem aYZ:T.awd.Ok P w aj 1 (ayG bJ):=by refine T.awd.go aTN aL;generalize aG=e3,aA=A,aF=outer,aE=s,aD=H,aB=vs,aH=Q,aI=E;rw[aN,M ob,aX];generalize kQ=a,kR=D,kS=b2,kT=X,kU=G,kX=b4,k_=B;rw[aV h hB k,fD,y _ (cn (Bw (afl KI aq cu) (Bw bcE (R3 bcE)))) _ gJ];cases B with|none=>{subst hB;exact k}|some B=>rw[bh2,bb4,a2 hd (a kC ku b _ j8 _ _ rfl (b l9 dR kC ku _ (ayK h.l) (ayK U.l) (m (Ul _) (Ul _) _ ?_)))];rw[aYY];rw[T gU Wm];{rw[dH q];rw[a2 hd (a gb fX b _ j8 _ _ rfl (b l9 dR gb fX _ (ayJ h.p) (ayJ U.p) (aJ (Ul _) (Ul _))))];rw[aYX];have:Cu D (aa B)=ar lG pd:=by{delta Cu;rw[iN,IB,IB];exact⟨J z.2.symm,J ⟨zz,wg⟩⟩};rw[ama];exact k};{rw[ea q];have:Cu D (aa B)=ai:=cG Cu (ea (J (q z.1.symm)));rw[bs this];exact k}
theorem aY0:T.awf.Ok P w aj 4 (ayF bJ):=by refine T.awf.go aTO aL;generalize aG=e3,aA=A,aF=outer,aE=s,aD=H,aB=vs,aH=Q,aI=E;rw[aN,M iw,aX,Bk,dt h,a'V];have⟨c5,a3,e9⟩:=h.p;have⟨ls,a9,f6⟩:=h.l;have⟨d8,e2,j0⟩:=h.m;rw[pa (L a5F (d9 axk (GL bP bP nK nK nK)) (z8 aV_) (bX (z8 aV') (z8 aYV) aq)) (b b2 _ rfl (cc a3) a dx _ (j hd dR kC ku X _ (ev rfl (cc a9) (o9 e2 (a D.w D.h kx wQ (aP NA (fun v a8 a4 p=>?_)))))))];have f5:LO D.w D.h kx wQ NA=zJ D:=by{rw[qY,NZ,Ib];rfl};rw[f5]at p;rw[bu,dZ Oi];cases N:zJ D with|some e=>{rw[N]at p k;rw[g8 p,rE];refine h6 (iN a4)}|none=>rw[N]at p k;rw[QF];subst p;rw[g3 (UI N),nt uq aH6,QR,bu];cases d2:ajn D with|some e=>{rw[QN,g8 p,rE];exact bd (iN i9)}|none=>rw[QN,QF];subst p;rw[nt (gd i9) (fun v d4 c8 p=>?_)];have n:=IA c8;rw[bu];cases q2:ajo D with|some e=>{rw[q2]at p k;rw[g8 p,rE];exact iN n}|none=>rw[q2]at p k;rw[QF];subst p;rw[fb n JE ⟨aS e8,fun v e4 d9 p=>iN (tp d9)⟩]
theorem aY1:T.awe.Ok P w aj 5 (ayI bJ):=by refine T.awe.go ae3 aL;generalize aG=e3,aA=A,aF=outer,aE=s,aD=H,aB=vs,aH=Q,aI=E;rw[aN,M ob,aX];generalize kQ=a,kR=D,kS=b2,kT=X,kU=G,kX=b4,k_=B;rw[co hB W e6,If W,g3 (UI N),b _ (X ae3.nd (b4 aYW aq) (bm yy aw cu (bU 2 ae3.nd (dK aYQ))) (df aw)) a D b2 X G b4 (a B rfl h hB Y e8.1.1 YL JE (aS e8) e6 a'F),dZ ayH];cases d2:aJR with|some e=>{rw[QN,g8 p,rE];exact iN a4}|none=>rw[QN,QF];subst p;rw[c a D b2 X G uq (by have q2:a_l=ae:=by{delta Xl at d2;cases z:a_l with|none=>{rfl}|some i=>simp_all};refine GM.aep Y ?_;rw[<-q2];refine GM.aen a'h;cases B with|none=>{exact bt (GM.S6 Y (bO S))}|some B=>exact bt (GM.aeM (e6 B rfl).clean.lay Y S)) (a eb n1 JE (aS e8) bd6)]
universe z
universe GA
namespace GM
open Gla
variable{r:Plan}
theorem agi{I:Type}{p:AZ}:k4 (oW (jD (p y=ab->p x=ab))) (bH x xN (aCS p) (p x=ab))|[],_,i,x,h=>bB|a::J,q,i,x,h=>by rw[cR oY];cases u:p a with|true=>{rw[aj5 u,ia];cases i with|zero=>{simp_all}|succ i=>have:=agi q.2 i x bB;rw[ama];simp}|false=>rw[aj4 hS];grind-abstractProof
theorem UF.congr{f:ao}{cnt:Nat}{aP lab':cD}(d:FA)(h:E x I0 (kM=lab' x)):UF f cnt lab':=by have lt:BC I0:=fun x l e=>l8 (bx e) qS;rw[w qS Nt a8Y a8Y];{have:=Nt x l e;have S:=lt x l e;rw[<-h x S,<-h l aKo];exact HN x l e};rw[kC (h x (lt x l e)) (Wd x l e)]
noncomputable def aY2(r:Plan)(e:Ln):ki:=(eE,eF)
theorem ayM{I d:Type}(f:Fj)(p:d->cb):∀l:ba,t ((xQ).takeWhile p)=t (aCS aHl)|[]=>rfl|a::J=>by rw[da];cases q:p (f a)with|true=>{rw[aj5 q,aj5 (p:=aHl) q,ia,ia,ayM f p J]}|false=>rw[aj4 hS,aj4 (p:=aHl) cq];rfl
theorem ayN(Z:bq){t:Nat}{s:Sw}(I:Inv iq t s){z:Pt}(h:de tM aLc):bH e (A (tM) e) (hw oV) (j_<0):=by intro i e a0;have:=agi (p:=an (mz (fK e))) (l:=tM) ((atV Z I h).imp Qj) i e a0;unfold linesOf at this;rw[am ayM];delta yM;rw[nY];delta Lp;simp
theorem Cv(g:Nat)(A X:Row):dR (A++X)=dR A++X.map eY:=i0 du
theorem agj:∀(A:Row)(g:Nat),dR A=an (dR A) ie++[dj g A]|[],g=>rfl|(e,g')::A,g=>by rw[ab b4 (dR ((e,g')::A)) (g::du g' A)];rw[b4,ia,List.take_succ_cons,ahu];show g::du g' A=g::(_++[dj g' A]);rw[<-(agj A g')]
theorem L4(g:Nat)(A:Row):t (dR A)=ie+1:=i0 du
theorem agk(g:Nat)(A X:Row):ap (dR (A++X)) ie (dj g A):=by rw[Cv,hx (t L4 jR),agj A g,o_ Be,eS,L4];simp
theorem aY3(A E B d5:Row):du 0 (hI d5)=a8I++(du hh d5++a'y):=by have a3:a8I=an (du 0 A) ie:=by{rw[Cv,List.take_append_of_le_length (t L4 xH)]};have a9:a'y=ajw eY:=by{rw[<-dv,Cv,a3r (ac L4 cj jR),aiz (ac L4 cj jR),a5G]};rw[a3,a9,Cv];rw[ab e2 (du hh d5) ([hh]++d5.map eY)];rw[e2,dv,<-dv,<-agj,fe]
theorem aY4(A E B d5:Row):bH (hI d5)=an (bH (hI E)) ie++(EW++df (bH (hI E)) (ie+VY)):=w5 bH
theorem ayO:∀(N:cI)(l c J:Nat),N≠[]->du l Q9=l::((Xi c (iP-1))++[J])|[],_,_,_,h=>aIr|[e],l,c,J,_=>rfl|e::f::a7,l,c,J,_=>by rw[ab b4 (du l (iE (e::EH) c J)) (l::du c a'q)];rw[b4,(ayO EH c (c+1) J Rp)];rfl
theorem ayP:∀(d5:Row)(g j:Nat)(e:Ln),c7 EW->aa (EW) e->mr g d5 e=aa (am (dR d5) j 0,am (dR d5) (j+1) 0)|[],g,j,e,_,h=>bB|(f,g')::d5,g,j,e,nd,h=>by rw[b4 c (f∉EW/\c7 EW) bH nd];cases j with|zero=>{have:f=e:=hs bH h;rw[gm];exact cO}|succ j=>have h':aa (EW) e:=by{assumption};have:=ayP d5 g' j e c.2 h';unfold mr;rw[bj (fun(z:e=f)=>c.1 (z▸bO h')),this];rfl
theorem ayQ:∀(d5:Row)(g:Nat)(e:Ln),e∉EW->mr g d5 e=ae|[],_,_,_=>rfl|(f,g')::d5,g,e,h=>by rw[b4 h' (¬e=f/\e∉EW) bH h];unfold mr;rw[J (bj h'.1) (ayQ d5 g' e h'.2)]
theorem aY5(Z:bq){v a:Nat}{row:ao}(a6:bH row uB)(b3:JK)(dO:aJH):bH b (A row b) (Wg Bi) (akU<0):=by intro i b U;have:=agi (p:=Bi) (l:=row) ((a5H dO).imp (fun{x y}q=>by rw[aJ S b6 q];simp only[IB,yI];rw[tL];exact atL (k7 x S) (k7 y b6) (aeh Z b3) q z)) i b U;rw[nY];simp
universe GM
namespace GM
open Gla
variable{r:Plan}
theorem agl(Z:bq)(v:Nat):V b I4 uB/\c7 I4:=by rw[dI tX];{unfold BY at U;rw[hW U];simp_all};{delta BY;rw[JZ,hY (V0 _),rc q];grind-abstractProof}
theorem ayR(Z:bq)(v:Nat):eK aLo I4:=by have t:=agl Z v;exact(qG t.1 ag).1
theorem ayS(Z:bq)(v:Nat):c7 Zh:=by delta Nx;rw[JZ];exact((ayR Z v).nodup_iff.mpr (agl Z v).2).imp (fun ne q=>ne (lE q).2)
noncomputable def Cw(r:Plan)(t:Nat):Nat:=w2 (bT e.1 t)
theorem agm(Z:bq)(t:Nat):Cw r (t+1)=Cw r t+t Ex:=by have b4:t Ex=w2 (e.1==t):=by{delta Nx;rw[bA,wT (ayR Z t)];delta BY;rw[bA]};rw[b4];delta Cw;induction bX with|nil=>{rfl}|cons e J d6=>rw[ac e.1 t p p p];{simp[p,wd p,gC p,d6,Nat.add_right_comm]};{subst p;simp[d6,aDS]};{simp[a2Z p,vW p,show¬e.1<t+1 from a2X p,d6]}
theorem UJ(r:Plan)(t:Nat):Cw r t<=dP:=AO
theorem ox(Z:bq):∀t,ic t<=1+Cw r t|0=>by{show 1<=_;exact xH}|t+1=>by rw[ds (ox Z t)];rw[agm Z];show ic t+(t Ex-1)<=_;exact cf d6 (qM (t Ex) 1)
theorem aY6(Z:bq)(t:Nat):bd Ex dP:=by have:=agm Z t;have:=UJ r (t+1);rw[el]
theorem aY7(Z:bq){v:Nat}(d3:v<aJ):bH e (A (bH (jk v)) e) (yM r ed (jk v)) (eV eE eF ed<0):=by have Y:=hF;have I:=a'm;refine ayN Z I nO;rw[jw ir,i5 be0 (Gr (Ym).2)]
theorem aY8(Z:bq){t:Nat}{z:Pt}(b3:QA)(T:oh):bbJ:=by rw[eM anJ];refine ayN Z I nO;rw[jw ir];exact⟨bbQ,bbP⟩
theorem aY9(Z:bq){t:Nat}{e:Ln}(a0:iz)(lt:e.1<t+1):(jQ/\(mr (t+1)).side e=(mr t).side e/\e∉Ex)\/z j (aa (Ex) e) ((mr (t+1)).side e=(am (du alp aLh) j 0,am (du alp aLh) (j+1) 0)):=by have bo:=(aeq Z t).1 e;rw[T e.1 t];{right;rw[n2 (bo.mpr ⟨a0,q⟩),ak j b8];have:=ayP aLh alp j e (t mq (ayS Z t)) (t mq b8);rw[q3 (mr _ _ e),nY];rfl};{left;rw[gw (bo (q (bo.mp m).2)),cp (cw lt q) d1,q3 (mr _ _ e)];rw[ayQ _ _ _ (t mq d1)];rfl}
universe GM
namespace GA
open PySem PySem.Spec PyProof.Rows L2
def SB(N:bg)(H L:Hp):Prop:=bd Pc (b∉N) aly
theorem SB.of{N:bg}{H L:Hp}(s:bQ):uA:=fun b o e _=>s b o e
theorem SB.trans{N:bg}{H a8 b7:Hp}(a:SB N H a8)(b:SB N a8 b7):SB N H b7:=fun c o e n=>b c o (a c o e n) n
theorem SB.put{N:bg}{H L:Hp}{l:Addr}{o:HO}(s:uA)(m:l∈N):SB N H (upd L l o):=fun b u e n=>Y aHi (s b u e n)
def oI(N:bg)(H:Hp):Prop:=ep N (∀O,H a≠aa tK)
theorem SB.ts{N:bg}{H L:Hp}(s:uA)(n:oI N H):QK:=fun a O e=>s a _ e (bo (n a m O e))
theorem dB.sb{I:Type}{R:kh}(A:uo){N:bg}{H L:Hp}{a:Addr}{O:ba}(h:apn)(s:uA)(n:oI N H)(m:a∉N):dB R L a O:=ll (dR q m) (s.ts n)
theorem aY_{f g:Str}{v u:V}{J:hU}(h:¬g=f):ge ((g,u)::J)=(g,u)::ge J:=by show(v g f _ _)=_;rw[aO h]
theorem UK{f:Str}{v u:V}{J:hU}:ge ((f,u)::J)=(f,v)::J:=by show(v f f _ _)=_;rw[cO]
noncomputable def qE(b2 B X c7:Addr):hU:=aK "sides" c7 (aK "links" X aFS)
section z
variable{b2 B X c7:Addr}
theorem G1:bN uJ "passed" b2:=by delta qE;rw[bgq]
theorem L5:bN uJ "gaps" B:=by delta qE;rw[bhB]
theorem y_:bN uJ "links" X:=by delta qE;rw[aLa]
theorem aY'{f:Str}(a3:tf "sides")(a9:tf "links")(e2:tf "gaps")(e5:tf "passed"):fh uJ f=ae:=by delta qE;rw[di,ff (a3 wg),di,ff (a9 wg),di,ff (e2 wg),di,ff (e5 wg)];rfl
theorem ayT:bN uJ "sides" c7:=by delta qE;rw[di,cO]
universe z
inductive ayU(C:Addr)(H:Hp)(x b2 B X c7:Addr):Prop|mk:E dx (bh x (aC C uJ)) (hd H)
inductive vE(H:Hp)(X:Addr)(cnt:Nat)(aP:cD):Prop|mk:∀f:ao,am X (ajX vn)->GM.UF f cnt aP->g5 H
theorem L6{H:Hp}{X:Addr}{cnt:Nat}{aP:cD}(h:g5 H):oI [X] H:=qL (by rw[f2 f h,OX];rw[m,q]at e;rw[dS])
theorem aZa{C H x b2 B X c7 cnt aP}(h:hd H)(k:g5 H):x≠X:=by rw[cv e h,f2 f k];exact bJ e q
theorem ayU.sb{C H L x b2 B X c7 cnt aP}(h:hd H)(k:g5 H)(s:uH):hd L:=by have⟨dx,e⟩:=h;exact⟨dx,dR e (ax (aZa h k))⟩
inductive ayV(C:Addr)(P:Program)(w:World)(vs:af)(H:Hp)(Q:VK)(E:XK):Prop|mk:∀(x dx:Addr),A [kN] (bh x Zc) (∀L b2 B X c7,c (fJ [x]) (hd L) (Y b2) (Y B) (c (Y X) (Y c7) (aj b2 []) (aj B [vn 0]) (j (vE L X 1 id) (oH P w L c7 uw 0) (X≠b2) (X≠B) (b2≠B) IU))) (ayV C P w vs H Q E)
inductive ayW(C:Addr)(vs:af)(H:Hp)(Q:VK)(E:XK):Prop|mk:∀(x b2 B X c7:Addr)(cnt:Nat)(aP:cD),e [kN] (hd H) (g5 H) (j5 cnt) ((o L uH (vE L X (cnt+1) apc) (r6 cnt))->ayW C vs H Q E)
inductive ayX(C:Addr)(vs:af)(H:Hp)(Q:VK)(E:XK):Prop|mk:∀(x b2 B X c7:Addr)(cnt n:Nat)(aP:cD),e [kN,jf] (hd H) (g5 H) (n<cnt) ((o L uH (g5 L) (r6 (aP n)))->ayX C vs H Q E)
inductive ayY(C:Addr)(vs:af)(H:Hp)(Q:VK)(E:XK):Prop|mk:∀(x b2 B X c7:Addr)(cnt a b:Nat)(aP:cD),e [.ref x,vn a,vn b] (hd H) (g5 H) (a<cnt) (b<cnt->(o L uH (vE L X cnt (aFe aP a b)) IU)->ayY C vs H Q E)
section z
theorem aZb:T.TY.Ok mg P w aj 1 (ayW dq):=by refine T.TY.go aTE aL;generalize aG=e3,aA=A,aF=outer,aE=s,aD=H,aB=vs,aH=Q,aI=E;rw[aN,M ob,aX];generalize kQ=x,kR=b2,kS=B,kT=X,kU=c7,kX=cnt,k_=aP;rw[KK j,fV,bT (bo (dD bP nK) (ew yw nK)) x (a S gG zX y_ (dq a5) x _ dx (a _ _ rfl S gG zX y_ X (b _ rfl (cc a5) X _ rfl rfl (aJ a5 (ac bA qS (cf j fw))))))];rw[bA,qS];rw[aS b4 (ajX vn++[gZ cnt]) (bh aat)];rw[b4];rw[iR (Y (bJ S a5) S) (bt zX y_ X ak)];have b9:kk (bh aat)-1=v cnt:=by{rw[bA,cj,qS,aBU];simp};show Q (.int (kk (bh aat)-1)) _;rw[b9];exact k _ alL (av ak d.new)
theorem ayZ:T.av4.Ok mg P w aj 1 (ayX dq):=by refine T.av4.go au6 aL;generalize aG=e3,aA=A,aF=outer,aE=s,aD=H,aB=vs,aH=Q,aI=E;rw[aN,M aL,aX];generalize aG=x,aA=b2,aF=B,aE=X,aD=c7,aB=cnt,aH=n,aI=aP;rw[KK nc];have ne:=bJ S a5;rw[K (bo (F0 NV (dZ Sf (f1 aq) aq) (c8 (d3 (f1 (f1 aq)) bP aq) (bU 1 au6.nd (f1 aq)))) aq) (qH (M=[ac x,bE m]/\uH/\g5 L/\m<cnt/\aP m=aP n)) (c n rfl (cG (tr H)) (v f a5 d) nc rfl) ?_];refine Aq;rw[cp m M L];rintro⟨rfl,sb,⟨lk,h2,d⟩,c,D⟩;have G:=sb _ _ S ag;obtain⟨l,gl,i⟩:=aik c;rw[fH G (vn l) (a1 (av h2) Pa rfl)];rw[dN];rw[T l m];{rw[e_];refine adP rfl ?_;have:=k L sb (qS h2);rw[<-D,We gl]at this;exact this};{rw[(ea bM)];obtain⟨p,b3,d5⟩:=aik (i9 (l<cnt) Ri);rw[d (fun g0 j1=>∃f7,f7<m/\g0=[ac x,bE f7]/\SB [X] H j1/\g5 j1/\f7<cnt/\aP f7=aP n) aaU x _ dx _ _ (b G gG zX y_ x dx _ (j G gG zX y_ X _ (a _ (vn l) rfl rfl (av h2) Pa X _ (f _ jN rfl (aJ (av h2) Pa)))))];have g8:=bx gl;rw[fH G m (aJ h2 (LQ ag)),aS a7 (bp (lk.map vn) m jN) (bh (lk.set m p))];rw[a7];rw[fH (Y ne G) jN (f (av ak) EE p bM (sb.put bK) (av ak (d.aRy gl b3 q)) (br d5 i c) ?_)];rw[HN l p b3,HN m l gl,D]}
theorem aZc:T.TZ.Ok mg P w aj 2 (ayY dq):=by refine T.TZ.go aeY aL;generalize aG=e3,aA=A,aF=outer,aE=s,aD=H,aB=vs,aH=Q,aI=E;rw[aN,M Jz,aX];generalize E5=x,E7=b2,E8=B,E9=X,E_=c7,Fb=cnt,Fe=a,Fi=b,Fw=aP;rintro rfl S c3 k9 f k;rw[ca (L aeY.nd (H1 aq) (bU 2 aeY.nd (H1 aw)) (fE (d3 (F4 (aOD rfl) bI T.min aS' aGq) bP beu))),yr S,c x dx ex xP x b2 (a B X c7 cnt a aP rfl S c3 k9 (fun a8 a4 I=>?_))];have j0:=S.sb c3 a4;have⟨h4,c⟩:=j0;rw[c x h4 c xP x b2 (a B X c7 cnt b aP rfl j0 I f a8L)];have⟨W,m1⟩:=(j0.sb I b5);have⟨lk,h2,d⟩:=f5;have F:=d.Lk k9;have i5:=d.Lk f;rw[q5 _,k2 (bo (amy<amx) amy amx) (ae aal),w amy amx amy amx (ae FE) (ik (aP a) (aP b))];rw[e];rw[ih m1 (a zX y_ _ _ gJ)];rw[k1];have h5:=qS;rw[r X FE h2 (LQ fR) (k _ ((eN).put bK) (v (lk.set FE aal) aGy (d.link k9 f)))]
universe z
noncomputable def UL(l J cnt b:Nat):ao:=cu b [l] (l::(Xi cnt (b-1)++[J]))
noncomputable def UM(aP:cD)(l J cnt b:Nat):cD:=cu b (aFe aP l J) apc
inductive ay0(C:Addr)(vs:af)(H:Hp)(Q:VK)(E:XK):Prop|mk:∀(x b2 B X c7:Addr)(cnt l J b:Nat)(aP:cD),e [kN,vn l,vn J,vn b] (hd H) (g5 H) (l<cnt) (i (J<cnt) (j5 (cnt+b)) (∀L a,c uH (Y a) (aj a (bh (UL l J cnt b))) (vE L X (cnt+(b-1)) (UM aP l J cnt b)) Pe) (ay0 C vs H Q E))
noncomputable def UN(ls:mZ)(a:ao)(z:Pt)(n:Nat):iY:=match ls[n]? with|some l=>cu (NU l.1 l.2 z) ae a[n]?|none=>a[n]?
inductive ay1(C:Addr)(vs:af)(H:Hp)(Q:VK)(E:XK):Prop|mk:∀(x b2 B X c7:Addr)(v:V)(ls:mZ)(a:ao)(z:Pt)(n:Nat),e [kN,v] (hd H) (dB eR H b2 ls) (am B (a.map vn)) (b mL (wQ+1) (br v z) (gN z) bd0 (i (n<=wQ) (bfA) (ad u (Uo H u (UN ls a z n)) (Q u H)) (ay1 C vs H Q E)))
inductive ay2(vs:af)(H:Hp)(Q:VK)(E:XK):Prop|mk:∀(pv:V)(lt:Addr)(r:Gla.Plan)(v:Nat)(c:ao),e [pv,.ref lt] (br pv ed) (e4 lt (Dv bp)) (zV r) (l (V b c uB) c.Nodup (gN ed) (V b c (gN (bp b))) (j5 gc) (zA (k3 (GM.aei r v c) an6)) (ay2 vs H Q E))
section z
theorem aZd:T.TX.Ok mg P w aj 1 (ayV dq P w):=by refine T.TX.go aTD aL;generalize aG=e3,aA=A,aF=outer,aE=s,aD=H,aB=vs,aH=Q,aI=E;rw[aN,M fP,aX,bV x dx,dt S,w _ (fq AW (ij T.afp) (m0 (ij T.afp) af6)) cT (fun b2 a0=>cs (fm S a0) S DS (ay)),ck f b2 x,au a4 [x] (d7 aog aaX) (hn (b_ a0) bK)];have e9:bp aog aaX b2 []:=by{rw[bW f,ak]};rw[e e7 aog x aaX x aaX];generalize d7 aog aaX=a8 at a4 e9 e7;rw[kl (fun B b=>cs (fm e7 b) e7 ID (vq ay)),ck i B x,b2 (fm e9 b)];have b5:=mT (eX (cG (ac hb b))) Qt;have f6:bp ao9 Qt b2 []:=by{rw[bW f,bW l];exact e9};have g8:bp ao9 Qt B hb:=by{rw[bW i,ak]};rw[e f5 ao9 x Qt x Qt,bo (d7 ao9 Qt) f6 g8 f5,kl (fun X d6=>cs (fm f5 d6) f5 zX (np ay)),ck m X x,cy (fm f6 d6)];have n:=fm g8 d6;have c8:=mT (fg (cG (ac hb d6))) FL;have j0:bp Z7 FL b2 []:=by{rw[bW f,bW a];exact f6};have a5:bp Z7 FL B hb:=by{rw[bW i,bW n];exact g8};have l3:bp Z7 FL X hb:=by{rw[bW m,ak]};rw[e d Z7 x FL x FL];generalize d7 Z7 FL=d4 at c8 j0 a5 l3 d;refine fun c7 o nd o3=>?_;rw[ck j c7 x,b x _ dx _ rfl (Y aj6 d) gG T.afr (as (np (vq ay))),z c (upd d4 c7 o x=aa FL) (bW aj6) d];refine k _ b2 B X c7 (mT (wV (cG (b_ (o:=o) nd))) (aC dq uJ)) (sy ak) a0 (by cases q:H B with|none=>{rfl}|some o=>have:=a4 _ _ q ag;rw[oQ b];cases b) (ca X (b5 _ _ q ag) d6 d6) (ca c7 (c8 _ _ q ah) nd nd) ?_ ?_ ?_ ?_ a.symm n.symm l;{rw[bW f,gE j0 nd];exact j0};{rw[bW i,gE a5 nd];exact a5};rw[cw [0] (ac (bW m) (gE l3 nd) l3) GM.aRx,l (o3.go (nC c) (fun g e=>Y j e))]
theorem aZe:T.T1.Ok mg P w aj 3 (ay1 dq):=by refine T.T1.go aeZ aL;generalize aG=e3,aA=A,aF=outer,aE=s,aD=H,aB=vs,aH=Q,aI=E;rw[aN,M amo,aX];generalize Y1=x,aV cQ=b2,bU cQ=B,cE cQ=X,bX cQ=c7,ct cQ=v,dv cQ=ls,d5 cQ=a,fp cQ=z,ZS=n;rintro rfl⟨dx,S⟩c2 d8 gl d3 e8 sl d6 d1 k;rw[tk (id c2),bT (X aeZ.nd (bh afu bP aq) (ai lq aw nK (bU 3 aeZ.nd (f1 aw)) (D gM (Z awU xZ xZ aq) bE cu)) (df (f1 aw))) x (a S gG DS G1 b2 v ls z (a n rfl c2.ls d3 e8 sl d6 d1 (GS (bt DS G1 b2 hu))))];rw[aj7];have r:K a n a[n]:=dd eO;rw[dZ UN,kj];{have C:n<wQ:=by{rw[fw (Bs c)]};have b4:=dd C;have sm:=sl _ (tb C);rw[bs b4,c u d b e7 f5 U r1 r2 (mx a9 b4),iR S (u DS G1 b2 _ (u (av hu) (dX d) b _ (u pH dh b _ (a pH dr _ _ z (cA r1 r2 d3) sm.1 sm.2 (aP e8 ?_)))))];rw[dN];rw[T (NU ls[n].1 ls[n].2 z) 0];{simp only[q,mJ]at k;rw[dH q];exact(k _ rfl)};{simp only[q,iR,r]at k;rw[ea q];rw[iR S beK]}};{rw[zE (x (Bt c)),r]at k;exact GS beK}
theorem aZf:T.T2.Ok mg P w aj 3 (ay0 dq):=by refine T.T2.go ae0 aL;generalize aG=e3,aA=A,aF=outer,aE=s,aD=H,aB=vs,aH=Q,aI=E;rw[aN,M amo,aX];generalize Y1=x,aV cQ=b2,bU cQ=B,cE cQ=X,bX cQ=c7,ct cQ=cnt,dv cQ=l,d5 cQ=J,fp cQ=b,ZS=aP;rintro rfl S c3 g r j k;delta UL UM at k;rw[fV,q5 (b4 (rZ (dZ gM bb bE) (bo (yu (jk bS gG T.TZ.h (ez aZc) a6 T.TZ.b .nil fp aGq)) (d9 aq)) By) (e ae0.nd 4 (os (ew yw bb)) (cj "number" 5) (ci 5 ae0.nd) kK (bC (Sj bS gG T.TY.h (ez aZb) a6 T.TY.b .nil fp))) (c4 (d9 aq) bR (d9 aw)))];rw[dN];rw[d3 n b];{subst n;rw[yr S,c x dx ex xP x b2 (a B X c7 cnt l J aP rfl (a S c3 g r (fun a8 a4 I=>⟨(ag),fun a b0=>?_⟩))),cE d6 a I b0];rw[cO,cO]at k;refine k _ a (eX (lJ b0)) (by cases q:H a with|none=>{rfl}|some o=>have:=a4 _ _ q fR;rw[oQ b0];cases b0) ak ?_;rw[qJ I];exact qS (Y d6 e)};{rw[(ea ag)];rw[j (ae (b-1)) (gz (J [cp z]) (bt (ahB (VW n)))) aQ eO a9j];rw[iQ];rw[cE p D c3 m,fI (b-1) (yU uH (aj D (v1 i)) (vE L X (cnt+i) apc)) (aJ (lJ m) (dc ak))];{rw[qJ c3];exact v lk (Y p e) (d.congr (aJ ag))};{rintro i L hi⟨s,f,Y⟩;have G:=S.sb c3 s;rw[yr G,im (a x dx _ rfl ex xP x b2 (a B X c7 (cnt+i) _ rfl G Y (br j hi (qM b 1)) a8L)),K (b5 _ _ f fR) fR ?_ Pf,DN ((il b5) c o g7 nc)];{rw[ak,List.range'_concat];simp};{rw[qJ f5,aa lk (Y p e) (d.congr qk)];by_cases q:I0;{simp at*;lia};rw[aZ]}};rintro b7⟨s,f,f5⟩;rw[v (ag) (fun e0 n1=>?_),n e0 D ak (co n1 f) ⟨fR,fun g0 n2=>⟨(ah),fun d0 u=>m g0 d0 (co u ak) ak ⟨fR,fun R y=>?_⟩⟩⟩];have c0:=B aMq (ac (([vn l]++v1 (b-1))++[vn J]) y);rw[bj n,bj n]at k;refine k _ R (il (cG c0)) (ca R ((aMq) _ _ (dR q (ax (J (by rw[qJ f5];have:=(aMq) _ _ e;rw[b2 this y];cases y))))) y y) (nM ak) ?_;rw[qJ f5];exact qS (c0 _ _ e)}
universe z
section z
theorem aZg:T.av5.Ok P w aj 3 ay2:=by refine T.av5.go ae1 aL;generalize aG=e3,aA=A,aF=outer,aE=s,aD=H,aB=vs,aH=Q,aI=E;rw[aN,M iw,aX,F u lt r v c];rintro rfl c2⟨b1,hu,a9⟩Z l nd a0 st q k;rw[fV,w _ (X ae1.nd AW (bd aq 3 ae1.nd (yu (adw aj8 PySem.F.slot_list_insert PySem.F.type_list_insert aWi aw (sD (bh afu aw bb) (as bS bb))))) (df aw)) cT aJU,gQ (ap c0 []) c1,a7 lt (dj hu) (bV b1 (bi (∃j8,M=[aa u,ac lt,OQ,j8]) bQ (dB eR L c0 (k3 aad an6))) (a qg a4 [] ak .nil) hu)];{rintro i x M L S⟨⟨j8,rfl⟩,s,e⟩;rw[aW p a3 a9 S,gt a3,a2 a b3 a3];have a8:=bO b3;rw[aK (Xm (i+1)) (Xm i) a b3];have d8:=GM.aej Z (Xm i) [] a7r (db (l b (qT U))) (ax (a5w (aBM _ _) nd)) .nil;rw[ch mem (fK aad c) (by have:=d8.1.mem_iff.mp U;rw[pp a5G];exact qT this)];have len:t aad<=gc:=by{rw[d8.1.length_eq];simp;exact(oP i gc)};rw[cs c9 (CC (Xm (i+1))) (aFf r v aad a)];rw[c9];generalize aad=R at*;rw[bE d3 d (id e)];have i5:=oT;rw[bA]at i5;have B:bd aLy R.length:=aIt;rw[bJ (bL s J),g (dq d3) c0 x (R.map (hv an6)) rk (t aLy) e.ls (a m (st a a8) Q5 ah (as aIV))];{rw[a3 b U b6];exact⟨a0,st b (mem b U)⟩};{rw[gt b8,a2 b U b8];exact(GM.aY5 Z (db (l b (mem b U))) (l a a8) d8.2) j b U};rw[v (ah) (fun t h7=>?_),T f L aKk h7];have g:=f _ _ d3;have i0:eR aKk nu an6:=m t u x (v ak (bL (il f) c2) (bL f m));rw[gT (il f)];have o:=cc (cP f) d;generalize aKk=b7 at g i0 b5 o;generalize d1:t aLy=n at*;have h8:=GB (o:= .lst bdD) g;rw[c c0 vs n nu rfl g ag (a (db i5.l len q) ei (fG b5 c1) bdD (as ak)),dR d2 (aFf r v R a) (R.take n++a::R.drop n)];rw[d2,fe,da,Dj,Dk];have j0:=cc h8 o;exact oB (sy n j0) (.cons (tq h8 i0) (Cf n j0))};rw[bJ L j8 s e];have h5:=aj7;rw[bA]at h5;rw[db h5 e,fw (k c0 L s c1 e)]
universe z
structure sI(C:Addr)(P:Program)(w:World)(r:Gla.Plan)(H:Hp)(x b2 B X c7:Addr)(s:GM.Sw)(t:Nat):Prop where
 at_:hd H
 p:dB eR H b2 (L (tu oV) (jH r))
 g:am B (bh (IE 0 oV))
 k:vE H X ec eK
 d:∃f n,oH P w H c7 f n/\n<=GM.Cw r t/\hN (jQ->zM (fr (bx Y2 amr)))
 n1:X≠b2
 n2:X≠B
theorem sI.nt{C P w r H x b2 B X c7 s t}(h:anL):oI aaK H:=qL (by rw[cv d2 mV,hZ lk h.k];obtain⟨f,n,⟨F,q3,_,_,_⟩,_⟩:=h.d;rw[Bl,apM,az,az];{rw[a6 q3,dS]})
theorem sI.mono{C P w r H L x b2 B X c7 s t}(h:anL)(sm:bQ):iK L s:=by rw[cv d2 mV,bbK,y7 q3];exact r (sy (sm _ _ d2)) (ai4 gx sm) (sm _ _ h.g) (qS (sm _ _ q2)) (D.mono sm) (q3 e a0 lt) (sm _ _ b9)
noncomputable def swL(b2 B X c7:Addr):hU:=[fI "passed" b2,fI "gaps" B,a's,fI "sides" c7]
theorem L7(b2 B X c7:Addr):uJ=swL b2 B X c7:=by delta qE;show aK "sides" c7 (aK "links" X (aK "gaps" B [("passed",YJ)]))=_;rw[rJ];rw[rJ,rJ];show aK "sides" c7 [fI "passed" b2,fI "gaps" B,a's]=_;rw[rJ,rJ,rJ];rfl
theorem aZh(b2 B X c7 l:Addr):kk "passed" cC uJ=qE l B X c7:=by rw[L7,L7];delta swL;rw[UK]
theorem aZi(b2 B X c7 l:Addr):kk "gaps" cC uJ=qE b2 l X c7:=by rw[L7,L7];delta swL;rw[rJ,UK]
theorem aZj(b2 B X c7:Addr):t uJ<1000:=by rw[L7];show 4<1000;decide
inductive ay3(C:Addr)(P:Program)(w:World)(vs:af)(H:Hp)(Q:VK)(E:XK):Prop|mk:∀(x b2 B X c7:Addr)(r:Gla.Plan)(t:Nat)(pv:V)(lt:Addr),e [kN,pv,vn (t aGK),.ref lt] a'A (br pv (bp t)) (e4 lt (L anR bp)) (j (zV r) (t<aJ) (V p de (gN p)) aHS (∀L e7 d,c (fJ aaK) (Y e7) (Y d) (sI C P w r L x e7 d X c7 (mY r (t+1)) (t+1)) IU) (ay3 C P w vs H Q E))
theorem ay4{r:Gla.Plan}(Z:zV r){i j:Nat}(hi:gX)(b8:oe)(h:eG=bp j):i=j:=by have O:∀{a b},a<b->b<aJ->rk≠bp b:=fun{a b}lt U z=>by{have:=Nf Z.dO a b EK U lt;rw[<-wU (b7 lt U),<-wU U,z]at this;exact GM.mv _ this};rw[fe i j,az,iy,cL]
theorem ago{N d5:bg}{H L:Hp}(s:uA)(h:ep N (a∈d5)):fJ d5:=fun c o e n=>s c o e (bo (n (h c m)))
section z
theorem mi2{a b c s:Nat}(h:b+c<=s):aak+c<=s:=cn (a5I (oP ..) _) h
theorem mi3{a b c d e s:Nat}(h:b+c+d<=s):aak+c+(d-e)<=s:=cn (aD3 (a5I (oP ..) _) (qM ..)) h
theorem aZk:T.T3.Ok mg P w aj 4 (ay3 dq P w):=by refine T.T3.go aTF aL;generalize aG=e3,aA=A,aF=outer,aE=s,aD=H,aB=vs,aH=Q,aI=E;rw[aN,M Jz,aX];generalize E5=x,E7=b2,E8=B,E9=X,E_=c7,Fb=r,Fe=t,Fi=u,Fw=lt;rintro rfl d5 c2 c6 Z l e8 j7 k;rw[Br,dx sm (ia (gN eG)) (e8 _ (DV hi)),eM (GM.qA Z t (ew l))];have parts:=GM.Lq r (bp t) akS;have e9:=GM.ox Z t;rw[gw (GM.UJ r t)];have h7:=GM.aY6 Z t;have bs:=GM.agm Z t;have r4:=GM.UJ r (t+1);have C:=GM.agl Z t;have D:=GM.aY7 Z l;have r5:=fun{e:Nat×Nat}(a0:e∈bX)(lt:e.1<t+1)=>GM.aY9 Z a0 lt;rw[ab o8 (aHx).row (alY++(aFg Ro (OB).cnt a_m++bcF)),ab r6 (aHx).cnt ((OB).cnt+(t Ro-1)),ab vb (aHx).aP (v Ro [] (aFe (OB).aP (DU 0 alY) a_m) (eb (x<(OB).cnt) ((OB).aP x) x))];have r7:k3 (GM.aei r t anR) (bp t,rk)=L Ro (jH r):=by{delta a5L;rw[jw];rfl};rw[ak r8 Ro iz (p3 bbA)];have r9:=GM.ayS Z t;generalize mY r (t+1)=a4 at*;generalize alY=c at*;generalize aGK=d at*;generalize bcF=RB at*;generalize mY r t=s0 at*;generalize hN:Ro=N at*;rw[ca (i 4 Xq (bh afu bP aq) (bU 5 Xq (bh aZg aq bb)) (i 6 Xq (jk bS gG T.T2.h (ez aZf) a6 T.T2.b .nil fp (yV (f1 bR) (f1 aIR) (dN cJ))) (t cJ 7 Xq 8 Xq (af5 wj bP kf (as (bs eu ke) (bs eu (hn ke))) rfl)) (m0 (c4 (hG bP bR) cJ (ss aIR)) (c4 (hG bP bR) eu (ss (hn aIR)))))),cv S Xp,tk d5.p,o0 (t (tu Xo)) aj9];have nA:gc<=t (tu Xo):=by{rw[i7,lC];simp};rw[iR S (a DS G1 b2 u (L (tu Xo) (jH r)) (bp t) gc rfl (a d5.p.ls c2 (sm t l) Q5 (t bA nA) aIV ?_))];{rw[hW b6];have:=fZ e (p3 ir);exact⟨sm _ Q7,sm _ fj⟩};{rw[gt b8,a2 e a0 b8];exact D j e a0};have h8:t anR<=dP:=by{delta akc;rw[bA];exact AO};rw[c u lt r t anR c2 c6 (a Z C.1 C.2 (sm t l) (db (sm b (fZ _ (C.1 b U)).2)) (bn h8 j7) (fun i5 a8 d2 n5 k5=>?_))];rw[r7]at k5;have Y:=d5.mono d2;obtain⟨h4,j0⟩:=akb;have gl:IP<=aj9:=by{simp[*]};have g7:ap Oy gc (vn Zz):=by{rw[cz,lC,GM.agk];rfl};have g8:ap Oy IP (vn (DU Zz d)):=by{have:=GM.agk 0 (c++d) RB;rw[dv,<-lC,cj,GM.ot]at this;rw[cz,this];rfl};obtain⟨p,o9,p0⟩:=id k5;have s6:Zz<DT:=Hw _ (ac lC GM.Cv (vQ _ (GM.si c 0)));have s7:DU Zz d<DT:=Hw _ (by rw[lC,<-dv,GM.Cv,<-GM.ot];exact vQ _ (GM.si (c++d) 0));generalize s8:Zz=h9 at*;generalize DU h9 d=b5 at*;have n6:=p0.length;rw[bA]at n6;rw[c x h4 j0 xP x _ (a h4 _ _ rfl j0 gG ID L5 (D B h9 (av Y.g) (dX g7) (i x _ h4 _ j0 gG (u ID L5 B (vn b5) (bt (av Y.g) (dX (j:=IP) g8) i5 o9)))))];rw[n6];rw[b x b2 B X c7 DT h9 b5 (a iP s0.aP rfl akb Y.k s6 s7 (x (uR e9 bs.g r4 j7)) (fun b7 k7 q2 x1 k2 f5=>?_))];have s9:UL h9 b5 DT iP=aJS:=by{delta UL;rw[N z N []];{rw[z];rfl};{rw[bj (ai (z (NS q))),GM.ayO N _ _ _ z]}};have v:UM s0.aP h9 b5 DT iP=a4.aP:=by{rw[vb];delta UM;rw[N z N []];{simp};{simp}};rw[s9]at k2;rw[v,<-r6]at f5;have p1:t aJS=iP+1:=by{rw[Xn];rw[ik (GM.mq N DT b5)];unfold GM.linesOf at this;rw[am bA,xI]};generalize hG:aJS=G at*;have k1:=L6 Y.k;have m2:=q2.ts k1;have j6:=Y.at_.sb Y.k q2;obtain⟨x2,t2,_⟩:=Y.k;have t4:H X≠ae:=by{rw[gl lk d5.k];rw[e];rw[Bn]};rw[M t5 i5 X (t4 (bl z n5)),ck x3 k7 X];obtain⟨g4,n1,k3,t6,t7⟩:=Y.d;rw[M p2 c7 X (by rw[gc q k3,b2 t2 q,kG]),ab m3 x c7 k3 j0];have i4:oH P w b7 c7 g4 n1:=k3.go m2 (eB (lE e p2));have c5:=lE o9 t5;have m4:=cc m2 p0;obtain⟨sA,l8,t8⟩:=Y.p;have l9:=lE l8 d5.n1.symm;have t9:=cc m2 t8;have p3:=lE Y.g d5.n2.symm;rw[au o7 aaK b7 (B (cG d2) (ago q2 ah)),ab p4 k7 c7 i4 k2,ab m7 i5 c7 i4 c5,ab u0 b2 c7 i4 l9,ab u1 B c7 i4 p3];have inj:hN (∀d3∈bX,gO xB=gO (jH r d3)->e=d3):=fun e a0 d3 V q=>by{have q:=ayD q;unfold GM.aY2 at q;rw[cy ye,cb (fZ d3 V)];exact qE (lE q) (lE q).2};rw[ks m1 j6,bA i5 c5 (bv iP (bi (vp (fun j3 i9=>M=[ac x,aa u,bE oT,ac lt,bE gc,ac i5,ac k7,j3,i9])) (SB [c7] b7 L) (vp (fun f n=>vo (oH P w L c7 f n) (n<=GM.Cw r t+i) (hN (jQ->zM (hB (bx (s0.side e).1 (s0.side e).2)))) (P e (j<i) N e (zM (hB (bx (IF j 0) (IF (j+1) 0)))))))) (a Kc (cG eg) g4 n1 i4 t6 (v8 (nQ (t7 e a0 lt) (m2 _ _ b9))) (fun j e b8=>Au)))];{rw[pk sb];exact as (dx p ag) (av aKl) pG};rw[i0 sb (cd aKl (x n6.l))];{rintro i M L d7 d4 hi⟨⟨j3,i9,rfl⟩,sb,f,n,h3,a3,d8,f9⟩⟨d6,y,rfl,k4,rfl,b6⟩;rw[n1 (av aKl)];have k8:A N N[i]:=pJ;have m8:N[i]∈N:=tb hi;generalize N[i]=e at k8 m8;rw[bhv];have m9:=aj' n7;obtain⟨i1,h1,rv⟩:=oA m4 b6;rw[cz,k8]at h1;rw[b7 h1 xB i1 h1];subst h1;rw[T c8 L (kp hK) k4,d4 l5 hK hK];generalize kp hK=d4 at c8 l5;have f6:=aka (cG c8);have p5:=tq (m9.trans (cP c8)) rv;rw[p2 u2 p5];have i2:=f6 _ _ m1 (ax m3);have l6:=f6 _ _ k2 (ax p4);rw[aW d6 (cx l5) gJ,bv gi (j<iP+1) (aa (PV) (vn (IF j 0))) (p5 (getD_some ag)),ai k7 (av l6) (dX (gi i Jd)) (m k7 _ (av l6) (dX (j:=i+1) (gi (i+1) ag)) ⟨es,fun c3 u3=>?_⟩),l d9 d4 d4 c3 aK6 u3,e p8 d4 c3 aK6 c3 (bx (IF i 0) (IF (i+1) 0)),m d4 c3 aK6 e4 d9 p8];have k9:=f6.trans (cG d9);have n0:=Eh;rw[ih (fF i2) (a T.afr ayT c7 u2 (gO xB) f n rfl (a rfl (h3.mono n0) (m9 (tq (cP d9) p5)) CO ⟨l_,fun o k6=>?_⟩))];have u4:=h3.mono n0;obtain⟨x4,i6,_,_,_⟩:=u4;rw[ae J e4 (upd e4 c7 o) (nC i6)];obtain⟨le,b4⟩:=x bbA (t hN m8);rw[e (bm _) (k9.put bK) _ _ k6 (x (aD6 bG)) (fun d3 V lt'=>?_) (fun j d3 b8 V=>?_)];{rw[q4 (d8 d3 V lt')];have ne:a_6:=ai (by have:=inj d3 V e le q;rw[this,b4]at lt';simp_all);exact bfs};{rw[T j i];{rw[e_];rw[k8]at V;rw[b7 V e d3 V];subst V;exact v c3 aQ (J _ _ p8)};{rw[q4 (f9 j d3 Yq V)];have u5:=r8 d3 (bO V);have ne:a_6:=J (by have:=inj d3 u5 e le z;rw[gm];exact q (F8 r9 V k8));exact bfs}}};rintro M d4⟨⟨j3,i9,rfl⟩,sb,f,n,h3,a3,d8,f9⟩;rw[bhv];have m9:=aj' n7;have i2:=dT m1 m3;have p9:=dT l9 u0;have u6:=dT c5 m7;have l6:=dT p3 u1;have q0:=dT k2 p4;obtain⟨u7,u9,Un⟩:=f5;have n2:=dT u9 p2.symm;have q1:=cc m9 t9;have v3:=cc m9 m4;have h5:=q1.length;rw[bA,i7]at h5;have x5:aj9<=dP:=by{have nd:c7 (tu Xo):=I.dO.imp (fun q z=>by rw[ru];exact q.asymm q);rw[dj nd bX (f2 (p3 ir))];simp_all only};rw[au n8 aaK d4 (o7.trans (ago sb aQ)),ih i2 (K DS G1 b2 (av p9) (fun e0 g9=>?_))];rw[yY sA gc];rw[T e5 d4 (U d4 e0 xE) g9,a b4 d4 e0 xE e0 xE,i d4 e0 xE p6 e5 b4,n e0 i5 b4 (e5 _ _ u6) ⟨t eS (mi2 bM),fun g0 e1=>?_⟩];have e6:=a5K (bs xE p e1);rw[a b9 p6 g0 (xE++p) g0 (xE++p),i p6 g0 (xE++p) p7 e6 b9,ih (e6 _ _ i2) (K DS G1 b2 (av (e6 _ _ p9)) (fun d0 j5=>?_)),aa sA (aa (v gc+v oT)) I8 sA IP];have c1:=ac I8 j5;rw[a e7 p7 d0 I8 d0 I8,i p7 d0 I8 v8 c1 e7,n g0 d0 (c1 _ _ b9) e7 ⟨by simp only[cj,eS,sO];exact mi3 bM,fun R b0=>?_⟩];have i0:=B (aj_ c1) (bs (xE++p) I8 b0);rw[a g5 v8 R aLP R aLP,i v8 R aLP m5 i0 g5];have n9:=i0 _ _ i2;have o1:R≠x:=bJ g5 n9;rw[M q4 R X (mE (w9 n2) b0),pv n9 DS];rw[aZh];rw[z v5 (uS (m5 x)) n9 CO,ae J m5 (d7 m5 Zv) (yT v5),cn i3 (m5 b) (upd m5 x Zv b) (Y a5 e),e l1 m5 x Zv x Zv];generalize d7 m5 Zv=m6 at J i3 l1;have q5:x≠X:=bJ i2 n2;have v7:B≠x:=bJ l6 i2;have v9:k7≠x:=bJ q0 i2;have g6:=ic v7 l6;have w0:=ic v9 q0;rw[ih l1 (K ID L5 B (av g6) (fun h2 c0=>?_))];rw[yY _ gc];rw[T o2 m6 (U m6 h2 Bo) c0,a j1 m6 h2 Bo h2 Bo,i m6 h2 Bo q6 o2 j1];have x6:t Oy=aj9+1:=by{rw[bA,Xn]};rw[n h2 k7 j1 (o2 _ _ w0) ⟨by rw[eS,bA,bA,p1,Xn];exact mi2 bM,fun e2 f7=>?_⟩];have l0:=o2.trans (bs Bo PV f7);rw[a j2 q6 e2 (Bo++PV) e2 (Bo++PV),i q6 e2 (Bo++PV) q7 l0 j2,ih (l0 _ _ l1) (K ID L5 B (av (l0 _ _ g6)) (fun i8 w1=>?_)),aa Oy (aa (v gc+v oT+1)) Rz _ (IP+1)];have k0:=ac Rz w1;rw[a j9 q7 i8 Rz i8 Rz,i q7 i8 Rz q8 k0 j9,n e2 i8 (k0 _ _ j2) j9 ⟨by simp only[cj,eS,sO,bA,p1,Xn];exact mi3 bM,fun b3 n3=>?_⟩];have w2:Bo++PV++Rz=Zb:=by{rw[o8,GM.aY3 c d RB (aFg N DT b5),<-lC,fe,fe,Dj,Dk,dv,s8,hG]};rw[w2];have l2:=B (a5J k0) (ac Zb n3);rw[a j8 q8 b3 Zb b3 Zb,i q8 b3 Zb l4 l2 j8];have o3:=l2 _ _ l1;have o4:b3≠x:=bJ j8 o3;have w3:=ic q5.symm n2;rw[M q9 b3 X (mE (xa w3) n3),pv o3 ID];rw[aZi];rw[ae r0 l4 (d7 l4 aaC) (nC o3),cn n4 (l4 b) (upd l4 x aaC b) (Y a5 e),e r1 l4 x aaC x aaC];generalize d7 l4 aaC=o5 at r0 n4 r1;rw[ae l7 d4 o5 (b_ (B (cP i0) J) (cP l2) r0),cn o6 (d4 b) (o5 b) (n4 _ _ a5 (l2 _ _ (ic a5 e)))];have r2:d4 c7≠ae:=by{rw[gc q h3];rw[q];rw[Bn]};rw[d w4 (H R) (H R) w5 R (w9 c4) b0 (w9 (n8 _ _ q (bx o1 q4 w5))) b0,d w6 (H b3) (H b3) w7 b3 (xa (ic m3.symm c4)) n3 (xa (ic o4 (n8 _ _ q (bx o4 q9 w7)))) n3];refine k o5 R b3 (fun b o e a5=>?_) w4 w6 (a ⟨W,r1⟩ ?_ (n4 _ _ o4 j8) (v u7 (o6 _ _ q5.symm n2) Un) (a f n (h3.go l7 (eB (o6 _ _ m3.symm e))) ag (fun e a0 lt=>?_)) q4.symm q9.symm);{have w8:b≠x:=J (a5 (ar z));exact o6 _ _ w8 (n8 b o e a5)};{rw[ca (n4 _ _ o1 (l2 _ _ (i3 _ _ o1 g5)))];rw[o8,GM.aY4 c d RB,GM.mq,fe,fe,Dj,Dk,<-lC,<-dv];have r3:=cc l7 q1;have w9:=cc l7 v3;exact oB (oB (sy _ r3) w9) (Cf _ r3)};{rcases r5 a0 lt with⟨lt',a7,_⟩|⟨j,b8,a7⟩;{rw[q4 (d8 e a0 lt')];exact v b h2 (t a7 (l7 _ _ e2))};{have j4:j<iP:=bx b8;rw[q4 (f9 j e j4 b8),ak b h2];rw[a7];exact l7 _ _ e2}}
universe z
abbrev za{I:Type}(O:JM):kh:=fun H v a=>LA (L (O a) cp) H v
theorem ay7{I:Type}(O:JM):lu (za O):=sd (by rw[bF e h e0];exact v b e (bv h))
theorem ay8{I:Type}{O:JM}{H:Hp}{d7:af}{Z:ba}(q:dD (za O H) d7 Z):∃b1:pW,d7=vB b1/\EF=ahF O/\Ux H b1:=by induction q with|nil=>{exact bj [] rfl (lw (by cases m))}|cons J t i=>rw[bF e h J,q7 i,w ((b,O _)::b1) ?_ (gz _ b9) a7s];{rw[e,b4];rfl};{rw[cZ (h_ m),Z z h,l (e7 t z)]}
theorem ay9{I:Type}{O:JM}{H:Hp}:∀{b1:pW}{W:ba},EF=aFh O->Ux H b1->dD (za O H) (vB b1) W|[],[],_,_=> .nil|u::b1,a::W,e,h=>by rw[da,da]at e;injection e with b4 b9;refine .cons (aP u.1 ?_) (ay9 b9 (lw (h t (ck m))));rw[<-b4];exact h u bK
theorem ay_{I:Type}{O:JM}{b1:pW}{W:ba}(e:EF=aFh O)(p:a44 aKD):aLz:=by have e9:eQ EF (jD (mK y x=ai)):=a3C p;rw[e]at e9;exact List.pairwise_map.mp e9
theorem agp{I:Type}{O:JM}{K:Fg}{w:World}{H:Hp}{Q:VK}{a:Addr}{Z:ba}(h:baH)(ne:a_X)(z:a1 fK)(q:∀p o W,c (W.Perm Z) (aLz) (Y p) (dB (za O) amU p W) (Q fO amU)):LY K w uh H Q:=by rw[cz d7 c0 c5,q7 (ay8 c5),Jq,b9 h5 ly fK b9,y a b1 e7 (pe I9 (.inl c0)),KN (Ip m)];{obtain⟨W,C,n⟩:=af1 O aJk Z b9;refine q p _ W C (ay_ n po) a0 (o6 (b_ a0) (aED m))}
theorem agq{I:Type}{O:JM}(inj:j x y (O x=O y) (x=y)){K:Fg}{w:World}{H:Hp}{Q:VK}{a:Addr}{Z:ba}(h:baH)(ne:a_X)(c:fK<=100000)(z:∃B:ba,eB<9000/\aK Z nq)(q:∀p L W,l (gS W Z) W.Nodup (aLz) bQ (Y p) (dB (za O) L p W) (Q fO L)):Uz K w uh H (fun v a8=>LY K w [v] a8 Q):=by rw[cz d7 c0 c5,q7 (ay8 c5),Jq,b9 h5 ly fK b9,fV,y a b1 c0 (v e7 (fun m nd c4=>by rw[dO h7 hB z,dj nd (ajw O) (fun k c3=>by have a3:=c4 k c3;rw[b9]at a3;rw[aO x S (zt a3),xJ];exact Ip (hB x S)),am bA];exact Ri) (fun r a7 vs F sub nd mem nS=>?_)),gQ a_M nS,bL i5 iO ly (a5M (pd eY nd) (lw (sub t m))),y r vs (lw ((cP a4) _ _ (e7 t (sub t m)))) (pe (db i5 h5.l c) (.inr (v a7 ak F))),KN (Ip (sub t m))];{have ex:Hm (Vr eY):=by{have b3:∀l:fA,V k l (k∈ahF O)->Hm l:=by{rw[rF];induction l with|nil=>{rw[Yp]}|cons k J d6=>intro c3;rw[bH e c9 (d6 (fun G m=>c3 G (ck m))),lm ex (zt (c3 k fu))];exact v (x::f) (by rw[da,ex,<-e]) (fun y U=>by rw[cZ (h_ U),aZ,l (c9 y z)])};exact b3 _ (fun k m=>bl b9 (x (mem k) m))};rw[bH f5 c9 ex];obtain⟨W,C,n⟩:=af1 O aJk f f5;rw[gT (eX (ac (vB g) a0))];refine q p _ W (ab (by constructor;rw[l (bo (c9 x (C.mem_iff.mp m)))];{intro m;have:O x∈Vr eY:=h5 _ (t b9 (Ip m));rw[am f5,aO y b6 (zt this)];rw[<-inj _ _ e];exact C.mem_iff.mpr b6})) (by have n1:=(aJk).nodup_iff.mpr nd;rw[n]at n1;exact pd O n1) (ay_ n po) b5 (gV a0) (o6 b5 (sub t (aED m)))}
noncomputable abbrev sJ(p:Pt):aT:=yo
noncomputable abbrev G2(e:fz):aT:=dp e.1 e.2
noncomputable abbrev L8(m:Gla.Mark):aT:=[v ih,v ij,v jx,v kB]
noncomputable abbrev Cy(e:alA):aT:=[v e.1.y,v e.1.x,v e.2]
universe GA
namespace GM
open Gla
variable{r:Plan}
theorem aZl(Z:bq){t:Nat}{z:Pt}(b3:r.w<z.x)(T:oh){e:Ln}(a0:e∈bH iZ):j_<0:=by rw[jw ((anJ).mem e),aoY,gv (akd (mR e.1 An)),fe (akd (mQ e.2 m.2.2 l.2))];have e7:=HF (i:=e.1) ZW;have f5:=HF (i:=e.2) l.2;generalize eE=p at*;generalize eF=q at*;have b4:Kb= -(bdL)-bfn:=by{rw[ud];grind};rw[b4];have a:0<bdL:=hD bM (FW e7);have b:0<=bfn:=s_ bM (FW f5);exact Kq a b
theorem aZm(Z:bq){t:Nat}{z:Pt}(T:oh):bbJ:=by by_cases b3:QA;rw[l (aY8 Z b3 T)];{rw[ak al (bH iZ) (j_<0) (aZl Z (x (aNl b3)) T a0)];intro i e a0;have le:hw iZ=iZ:=by{delta yM;have O:∀J:Row,bk J (i1 x.1.1 x.1.2<0)->J.takeWhile aHk=J:=by{intro J;induction J with|nil=>{rw[Yp]}|cons x J d6=>rw[eD];rw[aj5 (sj Lp),d6 aIY]};exact O _ (aJ (al x.1 (Ip S)))};rw[le];have X:=bx a0;unfold linesOf at X;rw[bA]at X;exact⟨au (al e um),au X⟩}
theorem aZn(Z:bq){t:Nat}{z:Pt}(T:oh):Aj=t:=by delta Gr;have e:de=Wl t++Xr t:=aGk;have a3:cz (Wl t) (oZ z=ab):=fun p c2=>by{rw[wr (aFi c2)];have X:i<t:=fH (bx hi) (List.length_take_le _ _);rw[sU X]at hi;have:=mR i X;rw[f0 (bx hi),am (sk a5),dc a5 hi];cases hi;exact this};rw[e,List.takeWhile_append_of_pos (gP (a3 p c2))];have a9:(Xr t).takeWhile Qh=[]:=by{cases q:Xr t with|nil=>{rfl}|cons p J=>have hi:K de t p:=by{rw[<-List.head?_drop,q];rfl};have X:=bx hi;have:=mQ t a_ X;rw[am (sk X),dc X hi];cases hi;rw[aj4];intro d3;rw[cy (akd this),cb (akd d3)];exact cd (FR a b) (jr _) (cj (jr _ k.2))};rw[a9,qK,eS];have:=wz;exact qP Ew
noncomputable def UO(r:Plan)(z:Pt)(row:Row):iY:=bhp
theorem aZo{z:Pt}(h:z∈de):Fy=ae:=sj B_
theorem ay'(Z:bq){t:Nat}{z:Pt}(T:oh):Fy=UO r z iZ:=by delta B_ UO;simp only;rw[aZn Z T,bj (c8 (by rw[h1 (Nw h),ps (sk hi),al (ik i t),c9 (mR i q) e (mv _ this),c9 (mQ i q hi) e (mv _ this)]))];all_goals rfl
theorem aZp(Z:bq){z:Pt}(h:ia (qA z)):Fy=aa 0:=by rw[ay' Z (v a_ h (fun i a b=>fk))];have e:jk aJ=[]:=by{cases q:jk aJ with|nil=>{rfl}|cons x J=>have:x.1∈bH (jk aJ):=t q Ab;rw[bJ (x ((qA Z aJ a_).mem x.1) this),b2 (fZ x.1 m.1)];lia-abstractProof};rw[e];rfl
theorem aZq(Z:bq){z:Pt}{g:Nat}(h:Fy=aa g):g<Bd:=by have d:eS cM (ic a<=ic b):=fun a b le=>by{induction le with|refl=>{exact a_}| @step m _ d6=>rw[tc d6];show ic m<=ic m+_;exact xH};have h8:Aj<=aJ:=by{delta Gr;exact aIt};have O:a8A<ic Aj:=by{refine(qA Z _ h8).gap _ ?_;have e:Pg=hw Pg++Gq r z Pg:=by{delta yM Gq;rw[zC]};have m:a8A∈du 0 (hw Pg):=si _ 0;rw[e,Cv];grind-abstractProof};rw[a4 B_];grind-abstractProof
universe GM
namespace GA
open PySem PySem.Spec PyProof.Rows L2
noncomputable def nv:iY->V|none=> .bC|some n=>jf
theorem aZr{H:Hp}{v:V}{o:iY}(h:Uo H v o):v=nv o:=by cases o<;>exact h
noncomputable def UP(x I:Addr):hU:=aK "mark_gaps" I (aK "sweep" x [])
section z
variable{x I:Addr}
theorem L9:bN aao "sweep" x:=by delta UP;rw[aLa]
theorem aZs:bN aao "mark_gaps" I:=by delta UP;rw[di,cO]
theorem aZt{f:Str}(a3:¬f="mark_gaps")(a9:¬f="sweep"):fh aao f=ae:=by delta UP;rw[di,bj a3,di,PU];rfl
universe z
structure L_(b c:Addr)(P:Program)(w:World)(r:Gla.Plan)(H:Hp)(y x b2 B X c7 I:Addr):Prop where
 at_:∃dx,bh y (aC c aao)
 sw:sI b P w r H x b2 B X c7 (mY r aJ) aJ
 mg:am I (L (Wv (bo aoP)) nv)
 ne:I≠X
theorem L_.mono{b c P w r H L y x b2 B X c7 I}(h:i7 H)(s:bQ):i7 L:=by rw[JL];exact dw (bv q) (h.sw.mono s) (bv h.mg)
theorem sI.lk{C P w r H L x b2 B X c7 s t}(h:anL)(sb:uH)(k:vE L X ec eK):iK L s:=by have h7:=L6 h.k;have g:=aj' h7;rw[y7 sd];exact r (h.at_.sb h.k sb) (h.p.sb gx sb h7 (ax h.n1.symm)) (dT h.g h.n2.symm) k (D.go g (eB (dT e (J (by rw[gc q D,hZ lk h.k,b2 q2 q,kG]))))) (sd e a0 lt) (g _ _ b9)
theorem L_.lk{b c P w r H L y x b2 B X c7 I}(h:i7 H)(sb:uH)(k:vE L X (mY r aJ).cnt (mY r aJ).aP):i7 L:=by rw[JL];exact dw (dT q (by rw[hZ lk h.sw.k];exact bJ q q2)) (h.sw.lk sb k) (dT h.mg ake)
inductive aza(C:Addr)(vs:af)(H:Hp)(Q:VK)(E:XK):Prop|mk:∀(y dx x I:Addr),A (ea y kN I) (bh y Zc) (Q .bC (ad y (aC C aao))) (aza C vs H Q E)
inductive azb(b c:Addr)(P:Program)(w:World)(vs:af)(H:Hp)(Q:VK)(E:XK):Prop|mk:∀(r:Gla.Plan)(y x b2 B X c7 I:Addr)(i:Nat)(m:Gla.Mark),e [Ap,pD] (i7 H) anS (zV r) ((o L uH (i7 L) (Q (nv (IG r eL)) L))->azb b c P w vs H Q E)
inductive azc(b c:Addr)(P:Program)(w:World)(vs:af)(H:Hp)(Q:VK)(E:XK):Prop|mk:∀(r:Gla.Plan)(y x b2 B X c7 I:Addr)(v:V)(e:fz),e [Ap,v] (i7 H) (eR H v xB) iz (zV r->(∀L t,c uH (i7 L) (L t=aa (bx (a5O r e) (a5N r e))) (Y t) (Q nu L))->azc b c P w vs H Q E)
inductive azd(b c:Addr)(P:Program)(w:World)(vs:af)(H:Hp)(Q:VK)(E:XK):Prop|mk:∀(r:Gla.Plan)(y x b2 B X c7 I:Addr),e [Ap] (i7 H) (GM.Net r) aHS (x7 Nm->azd b c P w vs H Q E)
section z
theorem aZu:T.T4.Ok mg P w aj 1 (aza lF):=by refine T.T4.go aTG aL;generalize aG=e3,aA=A,aF=outer,aE=s,aD=H,aB=vs,aH=Q,aI=E;rw[aN,M oc,aX,al y dx x I,dt b6,g _ (m0 aq aw) y _ dx _ b6 (a rg Oj (ay) y _ dx _ rfl (a ak rg T.avI (vq ay) ?_)),J yt k]
theorem aze:T.GO.Ok mg P w aj 2 (azb dq lF P w):=by refine T.GO.go au7 aL;generalize aG=e3,aA=A,aF=outer,aE=s,aD=H,aB=vs,aH=Q,aI=E;rw[aN,M amo,aX];generalize Y1=r,aV cQ=y,bU cQ=x,cE cQ=b2,bX cQ=B,ct cQ=X,dv cQ=c7,d5 cQ=I,fp cQ=i,ZS=m;rw[av d5 c4 Z k,cv b6 Xp,bT (bo (bU 2 au7.nd (f1 aq)) (R4 (dZ yy aw cu) cu (B0 aw))) y (b b6 rg T.avI aZs I _ (nv aoP) (ax rfl (av d5.mg) EE gJ)),dZ IG];cases q:aoP with|none=>{rw[bs q];exact(k H (cG (tr H)) d5)}|some g=>rw[bs q,aLe];rw[(ea Z5)];rw[y y dx b6 rg (a Oj L9 x m2 _ rfl S xP (b x b2 B X c7 g _ (a rfl aFj Xs (GM.aZq Z q) (fun a8 a4 c0=>k a8 a4 (d5.lk a4 c0)))))]
theorem aZv:T.T5.Ok mg P w aj 2 (azc dq lF P w):=by refine T.T5.go au8 aL;generalize aG=e3,aA=A,aF=outer,aE=s,aD=H,aB=vs,aH=Q,aI=E;rw[aN,M amo,aX];generalize Y1=r,aV cQ=y,bU cQ=x,cE cQ=b2,bX cQ=B,ct cQ=X,dv cQ=c7,d5 cQ=I,fp cQ=v,ZS=e;rintro rfl d5 d3 a0 Z k;rw[cv b6 Xp,aLe,ad f D a3 sd d5.sw.d,iS ye,q4 (sd e a0 aK9)];have sl:=(GM.qA Z aJ a_).aQx e a0 aK9;rw[p2 i5 d3,bT (bo (bU 2 au8.nd (aXM wj (GN K bP) aq lO)) (as (B0 xF) (B0 xF))) y (b b6 rg Oj L9 x m2 _ (j S gG T.afr ayT c7 i5 (f (gO xB) f n cW rfl D (m9 d3) (b h2 y _ dx _ rfl b6 (b rg Oj L9 x m2 rfl S (bh xP b (cx e2) (a dh x b2 B X c7 _ _ (c _ rfl aFj Xs sl.1 (fun a8 a4 c0=>?_)))))))))];have Y:=d5.lk a4 c0;obtain⟨h4,u⟩:=akb;obtain⟨a,j0⟩:=Y.sw.at_;rw[y y h4 u rg (a Oj L9 x a _ rfl j0 xP (as b (a4.ts (L6 Xs) _ _ e2) dr (b x b2 B X c7 _ _ (a rfl Y.sw.at_ Y.sw.k sl.2 (fun b7 b5 f7=>?_)))))];have O:=Y.lk b5 f7;rw[v es (fun t h7=>?_),QR];exact k _ t (IA (lJ h7)) (O.mono (b_ h7)) ak (ca t (i9 _ _ q (ax (J (by rw[f2 lk O.sw.k,b2 q h7];cases h7)))) h7 h7)
theorem aZw:T.T6.Ok mg P w aj 1 (azd dq lF P w):=by refine T.T6.go TB aL;generalize aG=e3,aA=A,aF=outer,aE=s,aD=H,aB=vs,aH=Q,aI=E;rw[aN,M aL,aX];generalize aG=r,aA=y,aF=x,aE=b2,aD=B,aB=X,aH=c7,aI=I;rw[av d5 N j7 k,fV,cv b6 Xp,aLe];obtain⟨lk,a5,d⟩:=Xs;rw[cy (GM.aRT N d)];have e9:=GM.ox iT aJ;have d1:=GM.UJ r aJ;have h5:=qS;rw[bT (L TB.nd (GN K bP) (e TB.nd 2 (os (dN aq)) (cj "number" 3) (ci 3 TB.nd) (lf (dZ gM amX bb)) (bC bb)) (df (ew yw (dN aw)))) y (b b6 rg Oj L9 x m2 _ (j S gG zX y_ X _ (a rfl (cc a5) (v lk.length) aQ aQ bM a9j)))];rw[iQ];rw[fI lk.length (bQ/\∃d7:ao,aj D (ajf vn)/\d7=dy i (iQ (lk[j]?==aa j))) (d (b_ m) [] ak rfl)];{rintro i L hi⟨s,d7,f,c3⟩;rw[aLI];rw[d2];have gi:=pJ;rw[dP lk l gi];have V:oQ<=i:=by{grind};rw[c rfl X _ _ (vn l) rfl (br a5) (aP Pa ?_)];rw[dN];rw[T l i];{rw[e_];rw[dH rfl];rw[K f bz (fG s m) (aJ (d7++[l]) (nM ak))];rw[ajx,DK,<-c3];simp[gi]};{have:ar (v l) xv=ai:=ea bM;rw[nY,bZ s d7 f];rw[ajx,DK,<-c3];simp[gi,q]}};rintro a8⟨a4,d7,f,c3⟩;rw[<-c3]at a;rw[aW D (cc f) ?_,ms (kk (ajf vn)-1) (v Nm)];show Q (.int (kk (ajf vn)-1)) _;rw[J b9 (k a8 a4)]
universe z
structure zb(r:Gla.Plan)(H:Hp)(l:Addr)(Y:bg)(c:AR):Prop where
 lst:am l Ar
 nd:aDT
 len:eM=gc
 at_:Ht (I g (A c g) (e4 a (q_ bp)) (a≠l))
theorem zb.mono{r:Gla.Plan}{H L:Hp}{l:Addr}{Y:bg}{c:AR}(h:aJd)(s:bQ):zb r L l Y c:=KL (q.mono dk s)
theorem zb.get{r:Gla.Plan}{H:Hp}{l:Addr}{Y:bg}{c:AR}(h:aJd){i:Nat}{ns:ao}(hi:A c ns):I a Ey (e4 a (wF bp)) (a≠l):=by rw[z a5 (i<eM) aju (bx hi)];obtain⟨I,e,q,n⟩:=a'T;rw[a6 hi,dS];exact bc5
theorem zb.put{r:Gla.Plan}{H:Hp}{l:Addr}{Y:bg}{c:AR}(h:aJd){i:Nat}{a:Addr}(b3:Ey){vs:af}{ns:ao}(d3:dD (dG H) vs (wF bp)):zb r (ap a vs) l Y (c.set i ns):=by obtain⟨d,f5,N,c6⟩:=aGD;have h8:uS (H a):=by{rw[f2 b1 N];rw[q];exact CO};rw[bgS,Z4,H8 (v vs ak (g9 (yT h8) d3))];{obtain⟨I,b4,d2,n1⟩:=mV j b U;exact d I bz (d2.put dk h8 bfa) n1}
theorem sI.put{C P w r H x b2 B X c7 s t}(h:anL){l:Addr}{o:HO}(m:uS (H l))(c6:l≠x)(n1:l≠b2)(n2:l≠B)(u:l≠X)(y:l≠c7):iK JQ s:=by rw[cv d2 mV,bbK,y7 q3,ae c3 H JQ (yT m)];exact r (sy (Y a5Q d2)) (h.p.put gx m n1.symm) (Y aFc h.g) (qS (Y u.symm q2)) (D.go c3 (eB (Y a5P e))) (q3 e a0 lt) (c3 _ _ b9)
theorem aZx(r:Gla.Plan)(z:Pt)(row:GM.Row):UN (L (tu row) (jH r)) (IE 0 row) z (t FI)=GM.UO r z row:=by have e:row=FI++Kl:=by{delta Xu a5R;rw[zC]};have g:ap (IE 0 row) (t FI) (DU 0 FI):=by{have:=GM.agk 0 FI Kl;rw[<-e]at this;exact this};have l:(L (tu row) (jH r))[t FI]?=(Kl).head?.map (ab (jH r x.1)):=by{have h:row[t FI]?=m8 Kl:=by{have:=o_ (l₁:=FI) (l₂:=Kl) a_;rw[<-e,zA,<-aEW]at this;exact this};delta tu;rw[cz,cz,h];rw[li (m8 Kl)]};delta UN GM.UO;rw[l,g];cases m8 Kl with|none=>{rfl}|some x=>rfl
noncomputable def Ma(r:Gla.Plan):aO Pt Nat:=L ((eJ fL).zip dQ) (an (e.2.at_,e.1))
theorem azf{r:Gla.Plan}{e:alA}:e∈Ma r↔z m (K dQ e.2 m) (eL=e.1):=by delta Ma;rw[fJ];constructor;{rintro⟨⟨i,m⟩,h,rfl⟩;rw[n2 h];rw[aiU]at b8;have:j=i:=by{obtain⟨_,c⟩:=Xh b8.1;rwa [WT]at c};rw[gm];exact bp m b8.2};{rintro⟨m,h,b4⟩;rw[aa (e.2,m) (bO (i:=e.2) ?_) (sM b4 rfl),J aiU (io (wH (bx h)))]}
theorem azg(r:Gla.Plan):t (Ma r)=fL:=i0 Ma
theorem aZy{a b:alA}(h:mK (Cy b) (Cy a)=ai):b.1.below a.1=ai:=f2 (b.1.below a.1) (GM.iF.mp q) Cy
structure PoI(C:Addr)(P:Program)(w:World)(r:Gla.Plan)(d0:Hp)(x X c7 I:Addr)(W:aO Pt Nat)(t k:Nat)(H:Hp):Prop where
 sb:SB aaW d0 H
 sw:∃b2 B,a'A/\I≠b2/\I≠B
 kl:k<=fh
 gl:∃gl:I5,am I (aFk nv)/\a5S=fL/\bk i m (anS->A gl (bo aF' aoP xq))
 lo:F_ (E i (i<t) (qA e.1))
theorem PoI.mono{C P w r d0 x X c7 I W t k H L}(h:bZ C r t H)(s:bQ):bZ C r t L:=by obtain⟨b2,B,d5,a,b⟩:=h.sw;rw[cF gl e h.gl];exact a (h.sb.trans (cG s)) (a b2 B (d5.mono s) a b) h.kl (v gl (bv e) J) h.lo
theorem aZz{ls:nD}{e:fz}{n:Nat}(h:e.1<n):bp (d7 (e1 (cN (akf Qx)))) e.1 (cN (akf aKp)++[e.2])=d7 (e1 (cN (ea amS Qx))):=qz fe e.1
theorem aZA{ls:nD}{e:fz}{n:Nat}(h:e.2<n):bp (d7 (e1 (t (akf OM)))) e.2 (t (akf a7a)+1)=d7 (e1 (gr amS OM)):=qz cj e.2
inductive azi(C b c:Addr)(P:Program)(w:World)(vs:af)(H:Hp)(Q:VK)(E:XK):Prop|mk:dc (zV D) Q3 (j QS (qX<=2048) (V p lG (gN p)) (V m gS (gN eL)) (∀L y x e7 d i c7 I,c bQ (Y i) (Y y) (L_ b c P w D L y x e7 d i c7 I) (Q Ap L)) (azi C b c P w vs H Q E))
section z
theorem azj:T.av6.Ok P w aj 5 (azi bJ dq lF P w):=by refine T.av6.go aTH aL;generalize aG=e3,aA=A,aF=outer,aE=s,aD=H,aB=vs,aH=Q,aI=E;rw[aN,M iw,aX,F a D dp dl o4];rintro rfl h Z k0 j7 x3 n9 A6 k;rw[Br,fD,Q2,aaY,aKT,ca (L iX (arn T.TX.h (bN aZd a_) (ahb ay) rfl T.aVB T.TX.b .nil fp) (e iX 2 pI (cj "point" 3) (ci 3 iX) kK (bC AW)) (ai (e iX 4 pI (cj "point" 3) (ci 3 iX) kK (mq bE)) (mz pI (V 5 iX 6 iX) (c8 (dD (iX cJ) (f1 eu)) (qH bR eu))) (ai (e iX 7 pI (cj "mark" 8) (ci 8 iX) kK (bC (gi T.afp))) (bU 9 iX (se (BE rfl iX (ll bP) (bk "number" 10 "mark" 8) (bC (V 10 iX 8 iX)) kK (bC (cr (di kf) (di kf) EY))))) (i 11 iX bE (mz (ll bP) (V 10 iX 3 iX) (c8 (F0 NV (gD (dZ lq OV (dN xC)) (mk (B8 aJZ) bb)) (i 12 iX (B8 aJZ) (d3 (R4 (dZ a7P (pv 12) bb) cu (jk aq gG T.T1.h (ez aZe) a6 T.T1.b .nil fp (dY (pv 12)))) ke (di aJZ)) (fE (eS 11 iX bE)))) (yu (jk aq gG T.T3.h (ez aZk) a6 T.T3.b .nil fp (yV bb (bs bR EY) (iX EY)))))) (df (av T.T4.h aZu T.aVC T.T4.b (sD aq ke))))))),mp m2,aj r4 (d7 (ad m2 Ec) (.ins dq m2 [])) Pw,y x m2 ak (fun F r5 r6 X c7 x4 v9 A7 A8 p8 x5 FT w0 l7 o3 d2 q2 q3=>gJ),aj n F (wn (x4 c o (r4 c o e) (ax (em nx))))];have x6:Y X:=r4.free p8;have A9:Y c7:=r4.free x5;clear x4 r4 A7 A8 p8 x5;have B0:sI dq P w D F x r5 r6 X c7 (mY D 0) 0:=a v9 (pd FT) w0 l7 (a _ 0 o3 cT (v8 (rf lt))) d2 q2;have B1:F x≠ae:=by{rw[ck q v9];rw[e];rw[Bn]};have B2:F X≠ae:=by{rw[gl q l7];rw[e];rw[Bn]};have B3:F c7≠ae:=by{obtain⟨q,e,_,_,_⟩:=o3;rw[e];rw[Bn]};have B4:F r5≠ae:=by{rw[FT];rw[Bn]};have B5:F r6≠ae:=by{rw[w0];rw[Bn]};rw[ch p9 (E b (F b=ae) (z (b≠x) (b≠X) (b≠c7) (b≠r5) (b≠r6))) (a (J (B1 (z▸U))) (J (B2 (z▸U))) (J (B3 (z▸U))) (J (B4 (z▸U))) (J (B5 (z▸U))))];clear v9 FT w0 l7 o3 d2 q2 q3;rw[a2 (n _ _ hd) (s gb fX dp (dB c5 (n _ _ a3)) (fun lt r7=>g8 (cZ F L/\g3 lt (F b=ae) (b≠lt)) r7 (n _ _ a3)))];{rintro i y L b6⟨s,Y,e,len,nd,al⟩;rw[lf kx b6];have p4:=qY;rw[im ⟨cT,fun b U=>?_⟩];have a5:b≠lt:=J ah;rw[K3 r7,l2 ak,be_,biA]};rw[Kv p6,bg2];have r8:zb D p6 lt Y (sX (([]:nD).filter Qx)):=by{rw[HV (pd a8T),lf eM U,a'L];rfl};rw[ch x7 (bH Y (F b=ae)) (aV (al b U))];have B6:F lt=ae:=r7;clear b4 al r7;have r9:=tp a4;rw[a2 (r9 _ _ hd) (s gb fX dp (dB c5 (r9 _ _ a3)) (fun le j3=>d oz dk sx (ai4 dk r9).ls (au xq) j3 bM)),eZ p y c2];intro p7 d7 b5 b9 x8;have c3:=vm x8;rw[eT c3];have f5:D.pts.map ng=lA (t (([]:nD).filter OM)):=by{rw[afI];rw[alP,aGB];simp};rw[f5]at c3;rw[jW];clear x8 f5;have B7:=r8.mono b5;have p3:F le=ae:=gV j3;rw[r B8 le lt r8.lst j3 j3,c2 x9 (b≠le) (r8.at_ i b hi) j3];clear r8 j3;have o5:=r9.trans b5;have i9:=eN;rw[a2 (o5 _ _ hd) (s kC ku dl (dB ls (o5 _ _ a9)) (bV ls (fo (vo (EP [kJ,ac x,ac lt,ae,Ax,i1,j5,ae,ae,ae,ae,ae,ae]) (cZ F L) (zb D L lt Y (sX (jn Qx))) (aj le (bh (lA alF))))) (d Kc i9 B7 b9) (n _ _ a9)))];{rintro i y M L b6⟨⟨i1,j5,rfl⟩,s,TP,p5⟩;rw[BU (oA f6 b6)];have C:=fZ e um;have r:=tp s;rw[apj,bfz,ak g7 (sX (jn Qx)) e.1 (cN (jn aKp)) m9];obtain⟨c,b0,⟨vs,d3,pv⟩,nc⟩:=TP.get g7;have u7:=x7 c (bO b0);obtain⟨l4,b3,d1⟩:=gG e9 C.2;rw[<-wU C.2]at d1;have i5:iO<=lH:=by{rw[pv.length,bA,bA];exact cn AO (t eS (oP i lH))};rw[b b _ rfl (cx (r _ _ U)) rfl lt _ _ (a (gR c) rfl rfl (av TP.lst) (nd b0) (dq d3) a _ (nV (r _ _ hd) (f dp _ _ l4 rfl (av (r _ _ a3)) (dX b3) (m c _ _ (a1 rfl d3 (br i5 j7 fw))))))];have o6:=TP.put (i:=e.1) b0 (vs:=aIP) (ns:=cN (jn aKp)++[e.2]) (t fe (eC pv (bL r d1)));rw[aZz m9]at o6;rw[z s6 (N L c aIP le (bh (lA alF))) (bW (bt (x9 c (bO b0)))) p5,P c1 F (aV L c vs l4) (fG s u7),f L c aIP b7 o6 s6 c1,ak u9 (lA alF) e.2 aGl C.2,c le _ e.2 (vn aGl) rfl (av s6) (p5 u9) (cZ le e.2 s6 (by simp;exact C.2))];have a7:baE=bh (lA (gr (pq i++[e]) OM)):=by{rw[<-aZA C.2,ajy];rfl};rw[tw (U b7 le baE)];rw[a7];rw[w (bm _) (fG c1 p3) ?_ (t g9 ak)];rw[g9];rw[gU (b7 le) s6];exact d (Y B8.symm o6.lst) o6.nd o6.len (fun j b2 j6=>let⟨g,d2,q2,q3⟩:=o6.at_ j b2 j6;d g d2 (q2.put dk h8 (x9 b2 (bO j6))) q3)};rintro M v8⟨⟨i1,j5,rfl⟩,c8,q0,s7⟩;rw[NZ,H5]at q0 s7;have k1:=tp c8;rw[a2 (k1 _ _ hd) (s jA jq o4 (dB d8 (k1 _ _ e2)) (fun I n0=>d oz jo sx (aDC jo k1).ls (au xq) n0 (f5 x3))),eZ p y c2];intro m5 d7 d9 g5 y0;have c3:=vm y0;rw[eT c3,jW];clear y0;have g5:b5 (m5 I) (L (akh (au (xq:iY))) nv):=by{rw[g5,jw,jw];rfl};have y1:=q0.mono d9;have y2:=fF s7;have y3:F I=ae:=WN n0;rw[r B9 I lt q0.lst n0 n0,r C0 I le s7 n0 n0,c2 C1 (b≠I) (q0.at_ i b hi) n0];have l1:=aFm d9;have y4:=Eh;clear q0 s7 c8 d9 n0;rw[a2 (l1 _ _ hd) (a jA jq o4 d8 (ai (av (l1 _ _ e2)) (fun c0 p8=>aSO (K:=K) (R:=za Cy) jo (ay7 Cy) (aDC jo l1).ls (an (aa (e.2.at_,e.1))) p8 bM ?_ ?_)))];{rintro i m d6 y L h4 l8 c4 s k4⟨b,rfl,U⟩b6 j2;refine f d6 _ (cx k4) (ai rfl (Tx (m b _ pH dh (m b _ pH dr (r4 (sP (ab (eL,i) rfl (b_ h7) lQ)))))))};intro m6 ws f9 i2 n3;rw[eT n3];have n3:dD (za Cy m6) ws (Ma D):=n3;delta r_;refine agp (K:=K) (O:=Cy) (v ws (av i2) n3) (fun e _=>akO) (t azg (cf x3 fw)) (fun N o W w1 dO s8 r3=>?_);rw[l h1 m6 m6 N o s8,m m6 N o d0 h1 r3];have o7:=mW h1;have s9:=a5U o7;have C2:=y4.trans o7;have TP:=y1.mono o7;have p5:=o7 _ _ y2;have m8:=o7 _ _ g5;rw[M C3 N I (mE (hy g5) s8)];have C4:F N=ae:=eV (y4.trans f9) s8;clear y1 y2 g5 f9 h1 o7 i2 n3 s8 p8;have a8:=p9 I y3;have w2:=p9 N C4;have w3:=a8.1;have t2:=a8.2.1;have w4:=aS a8;have q1:fh=qX:=by{rw[w1.length_eq,azg]};rw[it (B0.mono C2)];have h7:oI aaW d0:=fun b m O e=>by{rw[Bl,kC m,A6 bK,A6 og,A6 Y_];{lia}};rw[cG hw y5 r3];have C5:=y5.length;have q4:∀b,c (b≠x) (b≠X) (b≠c7) (b≠I) (b∉aaW):=fun b z1 h6 k7 l9 m=>ah;have C6:∀{b o},Pc->b∉aaW:=fun{b o}e=>q4 b (em nx) (em x6) (em A9) (em (n.free y3));have t4:∀{L:Hp},SB aaW d0 L->∀{b o},Pc->aly:=fun{L}sb{b o}e=>sb _ _ (s9 _ _ e) (C6 e);rw[a2 (s9 _ _ hd) (a gb fX dp c5 (ai (av (s9 _ _ a3)) (bv df (fun t M L=>GG (fun(k:Nat)(j8 j9 l6:bZ V)=>M=n2 j8 j9/\up L)) (f 0 ae ae ae (cG (tr d0)) (a r5 r6 d5 (aS a8.2) (a2 a8)) cT ⟨as m8 (x (bA _)) (fun i m hi=>by rw[cz,hi];simp),fun j e _ _ i hi=>rf hi⟩))))];{rintro t M L c6⟨G,_,_,_,_,PI⟩;exact as (c5[t]'(ah)) (av aIM) pG};{rintro M L⟨G,_,_,_,_,PI⟩;exact cd aIM (bU len.g i0.l)};{rintro t M L k3 b7 l5⟨p2,j8,j9,l6,rfl,PI⟩⟨d6,y,rfl,k4,rfl,b6⟩;rw[n1 (av aIM),h_ d1 (oA e9 b6)];have e1:xU=p:=by{rw[wU l5];rw[dc l5 c2];exact c_ c2};subst e1;rw[T b5 L (kp aaM) k4,d4 w5 aaM aaM];have q5:=PI.mono b5;have w6:dG (kp aaM) y xU:=hH (B (cP s9) (q5.sb.ts h7)) d1;generalize kp aaM=b7 at w5 q5 w6;rw[aW d6 (cx w5) (a1 rfl (qH (HJ (m=fh-k/\M=bb1/\k<=fh/\up L/\dG L y xU))) (m _ p2 l6 (d rfl q5.kl q5 w6)))];clear q5 w6 w5 b5 PI k4 b6;rintro m M d4⟨k,l6,rfl,rfl,kl,t5,w7⟩;have w8:=t5.sb _ _ hw (ar N w2 w2 w2 C3);rw[aW N (cc w8) ?_];rw[C5];have fin:∀e4,i (up e4) (dG e4 y xU) (F_ ((xU).below e.1=ab)) (I c (K Y t c) (fW K e4 lt Ar) (fW K e4 le (bh (lA (t (akj OM))))/\dB dG e4 c (L (akc D t) wY)/\∃e7 d,sI dq P w D e4 x e7 d X c7 (mY D t) t/\∀g6 n4 n5,c (SB aaK e4 g6) (e4 n4=ae) (e4 n5=ae) (sI dq P w D g6 x n4 n5 X c7 (mY D (t+1)) (t+1)) (bZ dq D (t+1) g6))):=by{intro e4 f t6 D9;rw[ak g7 (sX (akj Qx)) t (akc D t) l5,eI q6 nc (TP.get g7)];have k5:=bO b0;have k9:=p9 c (x7 c k5);have w9:=p9 lt B6;have x1:=p9 le p3;rw[lI o1 f.sw,b c b0 (av (f.sb _ _ TP.lst (ar lt w9 w9 w9 B9.symm))) (av (f.sb _ _ p5 (ar le x1 x1 x1 C0.symm))) (q6.sb dk f.sb h7 (ar c k9 k9 k9 (C1 c k5))) e7 d o1 (fun g6 n4 n5 B g4 h3 m7=>?_)];{rw[cF gl k2 f.gl,j (f.sb.trans (ago B aQ)) (a n4 n5 m7 pA pA) f.kl (v gl (B _ _ k2 (bx w3 t2 w4)) J) (fun j e b8 a0 i hi=>?_),az,az];{rw[al (Nat.lt_succ_iff_lt_or_eq.mp hi),l (f.lo j e b8 a0 i q),dV]}}};refine fF (fun e5=>?_) (fun e5=>?_);{rw[eB t7 (k<fh) e5];have o8:K W k W[k]:=dd t7;rw[Y v t8 wb y6 (mx y5 o8)];have y7:=azf.mp (w1.mem_iff.mp (tb t7));generalize C7:W[k]=C8 at o8 y6 y7;obtain⟨z,num⟩:=C8;obtain⟨mk,t9,c9⟩:=y7;have c9:mk.at_=z:=c9;rw[ad y8 (d4 wb) (.tup beg) ((t5.sb.ts h7) _ _ y6),mj w8 (f wb _ (cx y8) ⟨?_,fun e8 u0=>?_⟩),A7 3,ab u1 (ca beg 0 2) (hz z.y z.x)];rw[u1];rw[l d9 d4 d4 e8 FG u0,e y9 d4 e8 FG e8 FG,m d4 e8 FG q7 d9 y9];have z0:=t5.mono d9;have u2:=bL d9 w7;obtain⟨m1,C9,D0⟩:=id u2;rw[b e8 m1 _ _ rfl C9 (oC y9) (oC D0) ?_];rw[afG];rw[aJ3];{rw[b7 o9 ((xU).below z) ai e6,ak (of (fh-k) (HJ (f7=fh-k/\g0=bb1/\k<=fh/\up j1/\dG j1 y xU))) aaU];have z2:=fF w8;have z3:=fF y8;rw[mj z2 (f wb _ (cx z3) ⟨?_,fun m4 D1=>?_⟩),A7 3];rw[u1];rw[l f9 q7 q7 m4 FG D1,e z4 q7 m4 FG m4 FG,m q7 m4 FG e4 f9 z4,eS (z0.mono f9)];have t6:=bL f9 u2;have z5:dG e4 (.ref m4) z:=aP m4 z4;have z6:=hy z2;have z7:=hy z3;rw[K _ z5.dp t6.dp (aJ tU tU)];rw[age];rw[N u3 z xU];{rw[dH u3];have z8:X0=ae:=(t u3 (GM.aZo (DV l5)));rw[P i4 e4 e4 eg,lI l2 (O4).sw,BK (O4).gl,bfg,bhk];have a7:a9a=L aGw nv:=by{rw[ajy,z8];rfl};rw[tw (U e4 I a9a)];rw[a7];rw[y9 l2.at_,gU (e4 I) k2,Lf (bn (aR (Bs e5)) (aS fh k))];{rfl};{rw[bfv];rw[g9,fe];rw[T i num,az,biq]}};{rw[ea u3];have A0:VU xU=ab:=by{rw[al (aFl u3),iy,az]};have TT:GM.Time D t z:=v (ew l5) (jV (f.lo k (z,num) a_ o8 i hi)) (fun i hi k8=>by rw[al (qO hi),l (GM.vf A0 (wu q k8)),kC q A0]);obtain⟨q8,q9,m3,v5,v7⟩:=f.sw;obtain⟨r0,r1⟩:=aki;rw[o0 (t (tu amh)) (mY D t).row.length,c x r0 r1 xP x q8 (a q9 X c7 (.ref m4) (L (tu amh) (jH D)) (IE 0 amh) z (t (Xu D z amh)) (a rfl aki m3.p m3.g (cy Xn bA i7) z5 (bl c9 (A6 mk (bO t9))) a_A ?_ (fun i q e0=>?_) a_B))];{rw[hW e0];have:=fZ e (p3 ((GM.qA Z t (ew l5)).mem e));exact⟨n9 _ (DV Q7),n9 _ (DV fj)⟩};{rw[bA,i7];delta Xu;exact aIt};{rw[gt e0,a2 e a0 e0];exact GM.aZm Z TT i e a0};rw[aZx,<-GM.ay' Z TT]at hu;have hu:=aZr hu;subst hu;rw[ab z8 X0 X0,P i4 e4 e4 eg,lI l2 (O4).sw,BK (O4).gl,bfg,bhk,aS a7 a9b (L aGw nv),tw (U e4 I a9b)];rw[a7];rw[y9 l2.at_,gU (e4 I) k2,Lf bM];{rfl};{rw[bfv];rw[g9,fe];rw[T i num];{rw[e_];rw[My u4,aK aHd];rw[t9]at hi;have:mk=m:=ax hi;rw[<-this,c9]};rw[biq]}}};{rw[c_ o9 ((xU).below z=ab) e6];obtain⟨c,b0,d2,q2,q6,q8,q9,m3,i6⟩:=fin q7 z0 u2 (wx (by rw[al (qO b8)];{have j4:=bx a0;have:=Nf dO k j t7 j4 q;rw[dc j4 a0];have a0:=c_ a0;rw[bX a0 C7];have h2:=aZy this;simp only at h2;rw[N q2 e.1 z,Z q2 o9];{rcases aFl q2 with J|J;{rw[J]at h2;cases h2};rw[l (GM.vf o9 J)]}};{rw[e_];rw[o8]at a0;cases a0;exact o9}));obtain⟨r0,r1⟩:=id aki;rw[K6 u2]}};{rw[eB t7 (fh<=k) e5];obtain⟨c,b0,d2,q2,q6,q8,q9,m3,i6⟩:=fin d4 t5 w7 (wx (cy (bx a0) (fX (yr z (Bt e5) b8))));obtain⟨r0,r1⟩:=id aki;rw[K6 w7]}};rintro M h9⟨A1,j8,j9,l6,rfl,PI⟩;intro y dy n6 D2 D3;rw[lI A2 PI.sw,BK PI.gl];have D4:gl=akh (bo (akg D eL)):=by{apply NF;intro i;rw[cz];cases hi:gS[i]? with|none=>{have:qX<=i:=by{rw[al (ik i qX)];{rw[dc q hi];cases hi};rw[iy]};rw[zE ag];rfl}|some m=>rw[o2 i m hi];by_cases q:i∈cN (Xv A1);{rw[aK q];rfl};{rw[aO q];have D5:(eL,i)∈W:=w1.mem_iff.mpr (azf.mpr (bp m hi));rw[n2 D5];show _=aa (akg D eL);rw[GM.aZp Z (z:=eL) (fun n8 R=>PI.lo j _ (by rcases ik j A1 with J|J;rw[l (cy (aB3 (bp (eL,i) (bO (i:=j) (t (sU J) b8)))) q),l J]) b8 n8 R)]}};subst D4;rw[P u5 h9 bgU (afF n6 D2 D3),aj A3 h9 (da (t4 a5T e)),e i8 (upd h9 dy (.own y)) y aGC y aGC];have r2:Y y:=A3.free n6;rw[r D6 y I k2 n6 n6];generalize bgU=i3 at u5 i8;rw[e y dy x I rfl i8 rfl ?_];have n7:=A2.mono u5;have A4:=n7.at_;obtain⟨A5,A4⟩:=A4;obtain⟨E1,u6,_⟩:=n7.k;obtain⟨f8,v3,⟨E2,p1,_,_,_⟩,_⟩:=n7.d;obtain⟨E3,D7,_⟩:=n7.p;rw[M D8 y x (by rw[ck q A2.at_,b2 e n6];cases n6)];refine k _ y x e7 d X c7 I (fG (A3.trans u5) r2) x6 r2 (I dy ak (n7.put (jz i8) D8 (bJ i8 D7) (bJ i8 n7.g) (bJ i8 u6) (qr i8 p1 Z5)) (Y D6.symm (u5 _ _ k2)) t2)
universe z
noncomputable def vF(D:Gla.Plan)(W:G_->iY)(m:Gla.Mark):cb:=alQ&&dk (W m)
inductive azk(C:Addr)(vs:af)(H:Hp)(Q:VK)(E:XK):Prop|mk:∀(a p:Addr)(D:Gla.Plan)(b2 X G:Addr)(W:G_->iY),e [bc,fO] Ag (am p (L (akh W) nv)) (t1 (WR ak_ tv gS)) (azk C vs H Q E)
inductive azl(vs:af)(H:Hp)(Q:VK)(E:XK):Prop|mk:∀(p:Addr)(c0:ao),e [fO] (am p (akk vn)) (j5 lK) (t1 (Xw 0 [] (akk aa))) (azl vs H Q E)
theorem azm{I:Type}:Gi ((zz (x∉c/\l f y (f<j) (K l f y) QG))->Xw i c l=ae)|[],_,_,_=>rfl|x::J,i,c,h=>by have b1:=h 0 x rfl;unfold GM.yN;rw[aO (J (b1.1 (Nw z)))];refine azm (I:=I) J (i+1) (x::c) aIV;have M:=h (j+1) y bB;rw[v Yk (fun f d7 lt O=>M.2 (f+1) d7 ag bB),cZ (h_ m),l (M.2 0 x aQ rfl wg),az]
theorem azn:∀(l:I5)(i:Nat)(c:I5)(k:Nat)(x:iY),i (K l k x) (P y (j<k) l y (y∉c/\l f z (f<j) (K l f z) (z≠y))) (x∈c\/z j (j<k) Ep) (Xw i c l=aa (i+k))|[],_,_,_,_,h,_,_=>bB|y::J,i,c,0,x,h,_,S=>by{have:y=x:=ax h;rw[gm];delta Xw;rcases S with m|⟨j,lt,_⟩;rw[aZ,az]}|y::J,i,c,k+1,x,h,g,S=>by have e5:=g 0 y aQ rfl;unfold GM.yN;rw[ff (e5.1 (Nw z)),(azn J (i+1) (y::c) k x xh (fun j z lt c9=>by have a:=g (j+1) z ag xh;rw[v Yk (fun f d3 lt' a0=>a.2 (f+1) d3 ag xh),al (h_ m),l (a.2 0 y aQ rfl zz),l (a.1 q)]) (by rcases S with m|⟨j,lt,b8⟩;rw[l (.inl (ck m))];{cases j with|zero=>{simp_all}|succ j=>rw[o6 (v j ah xh)]}))]at⊢;rw[dW];simp+arith [*]
section z
theorem aZB:T.awp.Ok P w aj 1 azl:=by refine T.awp.go TH aL;generalize aG=e3,aA=A,aF=outer,aE=s,aD=H,aB=vs,aH=Q,aI=E;rw[aN,M fP,aX,bV p c0,aV c7 c9 k,fV,eZ (L TH.nd aQd (mz (ll bS) (V 2 TH.nd 3 TH.nd) (c8 (dl (Bv (aP_ xx bb aq)) aw) (dY aq bb mj))) (df cu)) J1,x4 xS,e b4 H d xS d xS,is (ad d xS),bA p (dj c7) (bv lK (fo (vo (vp (fun o j8=>M=[ac p,rx,o,j8])) bQ (ow pX (∀n:Nat,dk (fa F (ht cK))=cv (n∈Xx i))) (aP j n (j<i->aa c0 n->n∉Xx j)))) (d Kc a4 (d [] b4 a_ (eb (ar fa))) (fun j n b8=>Au)))];{rw[pk s];exact as (vn c0[i]) (br c7) ah};rw[i0 s (av (br c7) aQ)];{rintro i M L k3 b7 hi⟨⟨o,j8,rfl⟩,s,⟨F,c1,lk,mk⟩,g⟩⟨d6,y,rfl,k4,rfl,b6⟩;rw[n1 (br c7)];have d1:=pJ;rw[dP c0 n d1];rw[cz,d1]at b6;cases b6;rw[aK (Xx (i+1)) (Xx i) n d1,gT (j4 (eq jf) k4)];have a:upd L d6 (eq jf) d=aa pX:=co k4 c1;rw[d4 b9 (eq jf) (eq jf)];generalize kp (eq jf)=b7 at b5 a b9;rw[d d6 _ rfl (cx b9) rfl d _ (as (jm.k (k:=ht cK) a))];have W:=mk n;by_cases m:n∈Xx i;{rw[dH m]at W;rw[ci q e0 W];rw[e0];rw[bD (ax b5 ?_),n2 m,dC j4 (j<i)];rw[sU j4]at b8;rw[azn (akk aa) 0 [] i (aa n) ah (fun j y b8 b6=>by rw[v jI (fun f z lt c9 e=>?_)];rw[cz]at b6 c9;rw[a2 d7 O b6,a2 d3 a0 c9,de (c_ e),bY];exact g j d3 b8 O (bO (i:=f) ah)) (.inr (v j j4 ah)),Nat.zero_add]at⊢;rfl};{rw[ea m]at W;rw[ff e0 (fa F (ht cK)) W];rw[e0];rw[aW d (qx.k (k:=ht cK) a (db lk hi c9)) (d (bm _) (gb b5) (as ak ?_ (fun C=>?_)) (fun j C b8 j2=>?_)),cb (UE F (ht cK) YS) (cf this lk)];{rw[Sx,g9];have:=mk C;rw[T C n,az,dV]};{rw[T j i];{lia};rw[l (g j C Yq j2)]}}};{rintro M L⟨⟨o,j8,rfl⟩,s,_,g⟩;rw[Ji];rw[azm (I:=Nat) (akk aa) 0 [] a'h]at⊢;{rfl};{rw[v jI (fun f y lt b6 e=>?_)];rw[cz]at S b6;rw[a2 b1 G S,a2 d7 O b6,de (c_ e),bY];exact g j d7 (bx G) G (bO (i:=f) ah)}}
theorem aZC:T.awo.Ok P w aj 1 (azk bJ):=by refine T.awo.go aTW aL;generalize aG=e3,aA=A,aF=outer,aE=s,aD=H,aB=vs,aH=Q,aI=E;rw[aN,M ob,aX];generalize kQ=a,kR=p,kS=D,kT=b2,kU=X,kX=G,k_=W;rw[aV h c7 k,fD,aKT,ev (X Xz cu (mz (ll bP) (V 3 Xz 4 Xz) (i 5 Xz (B8 bR) (ge (gD bgI bgI) bb) (c8 (fc (dZ yy amX cu) (gD (dZ KI aw cu) (mk cJ aw)) bb) (bU 2 Xz cJ)))) (df cu)) (a hd dR jA jq G d8 rfl (av e2) (bv qX (bi (GG (fun l j8 b1 i1=>M=[kJ,ac p,aa l,j8,b1,i1]/\Cm aMr L l gS i)) bQ (ae (j<i) gS ak_ tv gS)) (v (a .bC ae ae ae (bd (.inl xG))) eg (fun j y b8=>Au)))),cj d8 d8 Ib (br e2),wD (ap d8 (br e2) Ib a_)];{refine iw;rw[F i M L k3 b7];rintro hi⟨⟨l,j8,b1,i1,rfl,a5⟩,s,g⟩⟨d6,y,rfl,k4,rfl,b6⟩;rw[aW m c4 j0 (b6 d8 (br e2))];have e:lu aMr:=fun _ _ _ _ t h=>hH t h;rw[gT (j4 hK k4),my e k4,d4 b9 hK hK,om (lM (cP b5) J),bo (kp (eq cW)) B b9 U,d d6 _ rfl (cx b9) rfl b _ (v pH ?_ (fun e8 u0=>?_)),A7 4,ab u1 (ca [cp ih,cp ij,cp jx,cp kB] 0 2) (hz ih ij)];rw[u1];have c8:=fg a_i;rw[eS (B.mono e a_i),e e7 b7 e8 aGz e8 (bx ih ij)];generalize upd b7 e8 aGz=d4 at c8 f e7;rw[fl apW (Q pD d4) (by rw[oF c8];rw[afH c4 U g];rfl),u apW gS ak_ tv gS bz];have d:vF D W m=ai->apW=ab:=ai (f7 oD q);have c3:=dn hd;rw[da e8 e7 (dl a7x)];{rw[a2 c3 (v H7 yW a_P)];{rw[bn e8 e7 (dl a_N)];{rw[a2 c3 (aJ H6 GR)];by_cases i0:ih<D.h;{have st:alQ=ab:=by{delta Xy;simp[pe e5,pe e6,pe c1,i0]};refine adP (x (mh i0)) (f p _ _ (nv (W m)) rfl (av (dn c7)) EE gJ);cases n:W m with|none=>{rw[bD aH8];delta vF;rw[n];simp}|some Z=>rw[(ea Z5)];have ok:vF D W m=ab:=by{delta vF;rw[st,n];rfl};have yH:Cm aMr d4 (.ref e8) gS (i+1):= .inr (f i m c4 (aP e8 e7));rw[bu,Cq f];{rw[bD (v a8E c8 (ML ?_))];delta oD;rw[ok];subst o;simp};{rw[n e8 c (oC e7) (oC b0) ?_];rw[afG];have f7:apW=! q.at_.below eL:=by{delta oD;subst c0;simp only[ok,a5V,e0];simp[tv]};refine fF (fun r=>?_) (fun r=>?_);rw[l (fin aIO),cw a8E c8 (ML bz)]}};{have st:alQ=ai:=by{delta Xy;simp[i0]};refine aVT ag (fin (d ?_));delta vF;rw[st];rfl}};rw[oW aH8 c1]};{rw[b3 o9 (¬ij<D.w) (sM (Bt e6)),bD (fin (d ?_))];delta vF Xy;simp[o9]}};rw[oW (aH8) e5]};{refine fP;rw[X1];rintro⟨⟨l,j8,b1,i1,rfl,a5⟩,s,g⟩;rw[Ji];rw[axu g];rfl}
universe z
inductive azo(C:Addr)(vs:af)(H:Hp)(Q:VK)(E:XK):Prop|mk:dc (GM.Net D) (DG D) (zJ D=ae->gc (GM.vi D)->azo C vs H Q E)
theorem aZD{D:Gla.Plan}(Z:zV D)(c0:zJ D=ae):cz lG (gN p):=gP (by rw[g3 (UI c0)];exact⟨ht (Z.wide p c2) e8.1.1,ht (Z.BO p c2) YL⟩)
theorem aZE{D:Gla.Plan}(F:DG D):∀m∈gS,gN eL:=fun m c4=>⟨t0 (wI m c4).1.1,t0 (wI m c4).1.2⟩
theorem azp{I:Type}{f:I->iY}:k4 (bk l (dk (f x)=ab)) (∃ns:ao,xQ=wF aa)|[],_=>dx []|a::J,h=>by rw[ck ns (azp (l:=J) anU),ci n d1 (h a bK)];exact rt (n::ns)
theorem aZF(D:Gla.Plan)(B:Em):GM.Tq D B=GM.ko (Oi D) (GM.ko (Z anQ ae aoO) (GM.vi D)):=by cases B with|none=>{rfl}|some B=>delta GM.Tq Cu;by_cases q:aK0;rw[aZ];{simp only[q,iR,aCW,CY];rfl}
theorem aZG{D:Gla.Plan}{B:Em}(U:E b (B=aa b) (GM.Clean b))(W:Oi D=ae)(d1:(Z anQ ae aoO)=ae):GM.Net D:=by refine(GM.aSk U W ?_).1;cases B with|none=>{exact d1}|some B=>delta Cu at d1;by_cases q:aK0;rw[cL];{simp only[q,iR,aCW,CY]at d1⊢;exact d1}
section z
theorem aZH:T.awn.Ok P w aj 6 (azo bJ):=by refine T.awn.go aTV aL;generalize aG=e3,aA=A,aF=outer,aE=s,aD=H,aB=vs,aH=Q,aI=E;rw[aN,M iw,aX,F a D b2 dl G,co N F c0,fV,g3 (UI c0)];have Z:=iT;rw[y (L akl (dK azj) (e akl 2 (os nK) (cj "number" 3) (ci 3 akl) kK (bC (jk aq rg T.GO.h (sx aze) a6 T.GO.b .nil fp (dY bb)))) (oE (b4 aZC aw) (oE (a7 aZB aw) (bo (D lq (dN aw) (Sj aq rg T.T6.h (sx aZw) a6 T.T6.b .nil fp) (dO (dK aVJ))) cu)))) JE (aS e8) aHc (aZD Z c0) (aZE F)];have k3:=uq;rw[cv hd k3.at_,di e2 j0 k3.m];have g8:=Ib;rw[a2 hd (a jA jq G _ rfl (cc e2) (v NA) rfl (v aQ bM (fun p g=>?_)))];rw[iQ];have j:X≠p:=by{rw[f2 lk Y.sw.k];exact fm q g};rw[fI NA (oV a8 (aj p (L (L (D.marks.take i) (bo Jj)) nv))) (v (lJ g) (Y.mono (b_ g)) ak)];{rintro i L hi⟨sb,d5,e⟩;rw[aLI,j6 3 (cp (0+xv))];rw[d2];have c4:A gS (dx gS ah):=pG;generalize dx gS (bU hi g8.l)=m at c4;rw[a9G,im (a y dy _ rfl b6 aap D y (gw m d5 c4)),gr (b5 _ _ e (ax aj6)),K b9 (by simp;exact hn (oP i qX) aHc fw) ?_ Pf];{intro c o g7 nc;rw[ck ch c p,J (bW ch) ((aka b5) c o g7 nc)]};{rw[ba_,gU (b7 p) b9];have B:=bJ b9 a3;obtain⟨R,j6⟩:=O.sw.at_;obtain⟨h3,n2,⟨m8,d7,_,_,_⟩,_⟩:=O.sw.d;rw[M n1 p e7 (by rw[f2 vs Y.sw.p,fq g q,kG]),an n2 p d Y.sw.g g,an u p I Y.mg g];exact I b1 (Y B.symm a3) (O.sw.put h8 (bJ b9 j6) n1 n2 aj6 (qr b9 d7 Z5)) (Y u.symm O.mg) O.ne};{rw[ak,DO,c4];simp}};rintro b7⟨sb,O,f⟩;rw[db g8 f,aj b5 b7 (da (sb b o (a4 b o e) (ax (em b0))))];have i4:=gd b5;rw[dZ GM.vi,d a p D b2 dl G (bo Jj) (v i4 f (fun v d4 c8 d3=>?_))];have n:=fg c8;rw[ab c1 (WR (vF D (bo Jj)) tv gS) baT];rw[c1]at d3;rw[bu];cases g0:baT with|some i=>{rw[u1 g0,fa dl n ⟨(ah),hG (tp cm)⟩]}|none=>rw[lm g0,X5,tJ];have e9:=(GM.S8.mp g0).1;obtain⟨ns,a7⟩:=azp (f:=fun m:G_=>Jj) (l:=gS) (fun m c4=>ah);rw[b2 (dn f)];rw[a7,jw]at l;have d6:zm=qX:=by{rw[ik a7];simpa using aCp};have r:=l;rw[y p ns r ⟨bn d6.l aHc,bbt⟩];have U:=tp d9;rw[<-a7]at d3;rw[bu,amd];cases M:Xw 0 [] (akh (bo Jj))with|some i=>{rw[u1 M,fa dl U ⟨(ah),hG (ajE cm)⟩]}|none=>rw[lm M,X5,tJ];have o1:=bN (O.mono c8) d9;obtain⟨dy,b6⟩:=o1.at_;have J:=fF r;rw[d p _ rfl (cc J) y dy _ (a b6 aap D y x e7 d X (f c7 I o1 (v N (aS e8) (fun g6 f9=>?_))))];have S:=ajE f9;rw[bA,d6];rw[kj];{have C:qX<a5W:=by{rw[fw (Bs c)]};simp only[C,mJ]at k;rw[c a D b2 dl G (gd S) (ah) (hG (S.trans cm))]};{rw[b3 C (¬qX<a5W) (sM (Bt c))];simp only[C,iR]at k;exact ax S rfl}
theorem azq:T.judge.Ok P w aj 7 (axJ bJ):=by refine T.judge.go TF aL;generalize aG=e3,aA=A,aF=outer,aE=s,aD=H,aB=vs,aH=Q,aI=E;rw[aN,M ob,aX];generalize kQ=a,kR=D,kS=b2,kT=X,kU=G,kX=b4,k_=B;rw[co hB F e6,ca (X TF.nd (dK aY0) (rZ (gD (dZ yy aw cu) (ac_ (uV (b4 aYZ aq)))) (fE (bU 2 TF.nd (b4 aY1 aq))) By) (bo (bm yy aw cu (bU 2 TF.nd (dK aZH))) aw))];rw[<-(GM.aSj (r:=D) (k:=B) bc8),aZF]at k;rw[nt h a'F];cases d2:Oi D with|some e=>{rw[QN,g8 p,rE,bD (bd (iN a4))]}|none=>rw[QN,QF];subst p;rw[d a D b2 X G b4 B (aJ uq (hB.mono a4)),If d2];have o:=aZG (D:=D) (B:=B) bc8 d2;have k:=k;cases l:anQ with|true=>{rw[l,cO]at k o;rw[g rfl a D b2 X G uq (d (o rfl) F N bd6)]}|false=>rw[l,OA]at k o;rw[d a D b2 X G b4 B (a uq (hB.mono a4) d2 e6 aH6),QR,bu];cases y:aoO with|some e=>{rw[y]at p k;rw[g8 p,rE];exact iN i9}|none=>rw[y]at p k o;rw[QF];subst p;rw[fb i9 (o rfl) (v F N (fun v d4 c8 p=>iN (IA c8)))]
universe z
theorem azr{D:Gla.Plan}(C:GM.Clean D){m:Gla.Mark}(c4:m∈gS):ax h Jj h:=by obtain⟨g,_,_,e,_⟩:=GM.Tc C.net NJ C.aeF (HY.1 m c4);exact aW e
inductive azs(C:Addr)(vs:af)(H:Hp)(Q:VK)(E:XK):Prop|mk:∀(a:Addr)(D:Gla.Plan)(b2 X G:Addr)(i j:Nat)(c6 e0:Gla.Mark),e [bc,pD,vn j] Ag (wX D) (A gS c6) (aa gS e0->zA (L (akj (XA D (IG D aFo) (IG D aFn))) (jH D))->azs C vs H Q E)
section z
theorem aZI:T.av7.Ok P w aj 6 (azs bJ):=by refine T.av7.go aTI aL;generalize aG=e3,aA=A,aF=outer,aE=s,aD=H,aB=vs,aH=Q,aI=E;rw[aN,M Jz,aX];generalize E5=a,E7=D,E8=b2,E9=dl,E_=G,Fb=i,Fe=j,Fi=c6,Fw=e0;rw[co a9 hi b8,Br];have C:=aFq;have Z:=Dx;rw[g3 Ol];obtain⟨R,c9⟩:=azr C (bO hi);obtain⟨M,d9⟩:=azr C (bO b8);rw[y (i 3 XB (dK azj) (bU 4 XB (as (Hz aq) (Hz aw))) (bo (bU 5 XB (as (di bR) (di bR))) (BE rfl XB (oo (dK LM)) (cj "line" 6) (ci 6 XB) (lf (KL (aYG (K:=K) rfl (aYA a6)) (jk bb rg T.T5.h (sx aZv) a6 T.T5.b .nil fp (dY eu)) (as bR cJ) bI)) (bC eu)))) ag ag ag (gP ⟨ht (Z.wide p c2) YL,ht (Z.BO p c2) (JE).2⟩) aoc];{have:=HY.1 m c4;unfold Gla.clear at this;rw[yv this];exact⟨eI this.2.1 YL,eI (aS fj) (JE).2⟩};obtain⟨f7,u⟩:=akb;rw[c y f7 u aap D y (gw c6 Y hi),ba_,c y b1 a3 aap D y (a x e7 d X c7 I j e0 (a rfl O b8 Z (fun d4 c8 g0=>?_)))];rw[c9,d9];rw[v (ag) (fun W n1=>?_),l i6 d4 d4 W (bx R M) n1,e g5 d4 W a7e W (bx R M)];have o1:C1 aKr:=g0.mono i6;have k9:SB [X] a8 aKr:=B (fg c8) (cG i6);generalize aKr=e4 at g5 o1 k9;rw[da W g5 (as W g5 dh ⟨(ag),fun d8 n2=>?_⟩),l e2 e4 e4 d8 (bx M R) n2,e i2 e4 d8 (bx M R) d8 (bx M R)];have U:=e2 _ _ g5;have m7:=o1.mono e2;have B:=k9.trans (cG e2);generalize upd e4 d8 (bx M R)=g6 at e2 i2 U m7 B;rw[aj d0 g6 (da (B b o (a4 b o e) fR)),c a D b2 dl G (gd d0) (f2 (bv (aC2 e a0) beb)) (iT iA (fun le h5 h1 j3 LE=>?_))];obtain⟨a7,e1,e5⟩:=LE;have N:=m7.mono h1;rw[eS (zW h1),a7 le e1 aJU];have b3:=e5.length;rw[Xj]at b3;obtain⟨i0,g4,_⟩:=N.sw.k;have g8:X≠c0:=fm g4 c1;rw[an h2 c0 d N.sw.g c1,an h3 c0 I N.mg c1];refine arW (O:=a7) (fun n L=>oV h5 (∃d7,yU (aj c0 d7) (oQ<=n) (dD (eR L) d7 (L (ea (pq n) a7J) (jH D))))) (c (lJ c1) (ajz (ac [] c1)) [] ak a_ .nil) (fun n L _ z=>av (z.1 _ _ e1 (ax (J (ez (g6 X≠ae) (by rw[f2 lk m7.sw.k];rw[q];rw[Bn]) (this (z▸j3))))))) ?_ ?_;{rintro n v L d3⟨sb,d5,d7,c3,V,r⟩;rw[jw e5 d3];delta aFp at a5;rw[gt a5,a2 e a0 a5];have d1:n<akm:=bx d3;have g:=aj' (L6 N.sw.k);have rv:eR L v (jH D e):=tq g J;rw[dd (pq (n+1)) (pq n++[e]) a0,a9G,b rfl y dy _ rfl b6 aap D (a y x e7 d X c7 I v (a e rfl d5 rv (um) Z (fun i3 t d6 n7 h4 i1=>?_)))];have c5:=d6.ts (L6 Xs);rw[v (ag) (fun q d2=>?_),l b9 i3 i3 q ao0 d2,e j8 i3 q ao0 q ao0,m i3 q ao0 i7 b9 j8,g q W d8 (dT (dp R M)) (dT (dp M R)) aLV (cx j8) (a (fm g5 n2) (ws (cx (b9 _ _ h4))) (Hy (iP U)) (Hy (iP i2)) tU tU tU ?_)];have k2:(jv (dT (dp R M)) aLV||jv (dT (dp M R)) aLV)=be9:=by{rw[GS,GS];delta XA;rw[iN];simp only[aht,iS,Oh,Og,CA,aiW];rw[t_]};rw[k2];have S:SB [X] h5 i7:=B (aka d6) (cG b9);have l2:=n7.mono b9;have F:=b9 _ _ (d6 _ _ c3 fR);rw[ae e6 L i7 (c5.trans (cP b9))];have e9:=cc e6 r;cases f5:be9 with|true=>{rw[b d7 F (x (Kp V d1 b3.l iA fw)) ?_ ?_ (d7++[v]) ak ag ?_,DN (S c o g7 nc)];{obtain⟨h6,f6⟩:=l2.at_;rw[y9 l2.sw.at_];obtain⟨f9,i4,⟨i5,h7,_,_,_⟩,_⟩:=l2.sw.d;exact I h6 (Y (bt (bJ F f6)) f6) (l2.sw.put (jz F) (bJ F x2) (J (by rw[f2 vs N.sw.p,fq c1 q,kG])) h2 g8.symm (qr F h7 Z5)) (Y h3.symm l2.mg) l2.ne};{rw[ae h8 i7 (aV i7 c0 d7 v) (GB F)];rw[g9,DK,fe];rw[GN [e]];rw[b4];exact eC (cc h8 e9) (tq (aj_ h8) rv)}}|false=>rw[j S l2 d7 F (as EM)];rw[g9,DK];rw[GN []];rw[b4,qK];exact e9};rintro h9⟨sb,d5,d7,c3,V,r⟩;rw[db b3 r];rw[c9,d9]at k;exact k c0 h9 (da (sb b o (f b o e) bz)) (f.free c1) (v d7 c3 r)
universe z
inductive NumV(C:Addr)(H L:Hp)(v:V)(T:Gla.Plan)(c:Jo):Prop|mk:∀(d8:Jo)(a b2 X G:Addr),b v bc (g3 L am6) (aiJ c) (a3D (fs amB)) (c (Y a) (Y b2) (Y X) (Y G) aKY)
inductive azt(C:Addr)(K:Fg)(vs:af)(H:Hp)(Q:VK)(E:XK):Prop|mk:∀(w h:Nat)(b2 le G:Addr)(pts:eh)(g:mZ)(marks:Jo),e [vn w,vn h,YJ,.ref le,.ref G] a9E (bm eR le g) (bm sv G tk) (j bdp (N0<9000) (aC7<9000) bcR (DT (aFr w h pts g tk)) (azt C K vs H Q E))
theorem aZJ{a b:Pt}(h:mK (sJ b) (sJ a)=ai):aiv a=ai:=by have:=Ug b a;rw[ama];exact h
theorem aZK{a b:fz}(h:mK (G2 b) (G2 a)=ai):DH b a=ai:=f2 (DH b a) (GM.BW.mp q) G2
theorem aZL{a b:Gla.Mark}(h:mK (L8 b) (L8 a)=ai):amB:=f2 (a5X aix) (GM.iF.mp q) L8
theorem azu{I:Type}{lt:yf}(cR:eS AL (lt a b=ab\/lt b a=ab)){l:ba}(nd:l.Nodup)(s:oW (jD (lt y x=ai))):oW (jD (lt x y=ab)):=by refine(List.Pairwise.and nd s).imp (fun{a b}⟨ne,h⟩=>?_);rw[al (cR a b ne),iy,az]
theorem azv(x y:Pt)(h:sJ x=sJ y):x=y:=by rw[n0 x,da d y];simp only[sJ,Oh,Og,Xf]at h⊢;lia-abstractProof
theorem aZM(x y:fz)(h:G2 x=G2 y):x=y:=cq
section z
theorem azw:T.numbered.Ok P w aj 3 (azt bJ K):=by refine T.numbered.go aTk aL;generalize aG=e3,aA=A,aF=outer,aE=s,aD=H,aB=vs,aH=Q,aI=E;rw[aN,M aL,aX];generalize aG=C,aA=c,aF=b2,aE=le,aD=G,aB=pts,aH=g,aI=marks;rintro rfl c2 a0 c4 R I D k8 k;rw[fV,ca (i 5 IH (Ck aw) (bU 6 IH adL) (bX (t cJ 7 IH 8 IH (dY eu kf ke)) (e IH 9 (oo bb) (bk "p" 10 "q" 11) (bC (V 10 IH 11 IH)) kK (bC (bh aVK (SF xx eu EY lO) (SF xx eu OV lO)))) (aP bS aq cJ (Ck xC) (se bR))))];delta r_;refine agq (K:=K) (O:=sJ) azv c2 (fun p _=>Rp) R.1 R.2 (fun ls a8 W r O dO a4 e1 c5=>?_);have b4:=bhH;have V:fh<9000:=by{obtain⟨_,B,h7,hB⟩:=R;rw[dj O B (aJ (hB x (x (r x) S)))];exact Ri};refine J1;rw[l b5 a8 a8 d pY nd,e b9 a8 d pY d pY,m a8 d pY b7 b5 b9,tk c5,y ls b1 (av (gH hu)) (bv fh (bi (vp (fun j3 i9=>M=[bE C,bE c,ac b2,Ax,ac G,ac ls,rx,j3,i9,ae,ae,ae])) OL (ow tY (P p (j<i) W p (fa F tZ=aa (vn j))))) (c Kc b5 [] b9 a_ (fun j p b8=>Au)))];{rw[pk s];exact d b1 (dx b1 (t aj7 hi)) (br hu) pG};rw[i0 s (ap b1 (br hu) aj7 a_)];{rintro i M L k3 d4 hi⟨⟨j3,i9,rfl⟩,s,F,c1,lk,mk⟩⟨d6,y,rfl,k4,rfl,b6⟩;rw[aW p a3 a9 (b6 b1 (br hu))];have c8:=j4 hK k4;have a7:upd L d6 hK d=aa tY:=co k4 c1;rw[d4 l5 hK hK,om (bL c8 J)];generalize kp (eq cW)=d4 at c8 a7 l5 U;rw[d d6 _ rfl (cx l5) rfl d _ (a (qx.t (k:=tZ) a7 U (db lk hi V)) (bm _) (gb c8) (mM F tZ pD) ak ?_ (fun j q b8 e0=>?_)),cb (UE F tZ pD) (cf this lk)];{rw[Sx];rw[N z j i];{lia};{rw[bj (e7 (z ?_))]at⊢;rw[l (mk j q (iM z) e0)];{have:=ayC y;rw[gm];exact F8 O e0 a3}}}};rintro M d4⟨⟨j3,i9,rfl⟩,c8,F,c1,lk,mk⟩;have k1:=eX c8;have numOf:=gP (by rw[iS (wB (ae (r p) c2))];exact mk _ p lt (WX ⟨lt,aie lt⟩));rw[bE d3 pv (id a0),bD le (aW (k1.seq d3)) (fun i0 i8=>d sr gx iI (a0.mono gx k1) (ch (aa (min YX YW,max YX YW))) i8 (f5 I))];{rintro i l v L h4 N a5 s⟨b,e7,f5,rfl,U,⟨e5,rfl,l2⟩,e6,rfl,m⟩b6 d1;have c4:=k8 l (bO a5);have c7:=bv c1;rw[AK (b d _ rfl (gM l.1 l2 c4.1) d rfl (gM l.2 m c4.2) (cg YX YW (fun v e4 d9 d3=>fs d9 d3)))]};rw[bbO,eT e2];have l1:=aFm d9;rw[bD (agq (K:=K) (O:=G2) aZM (Z:=q_ (bE YX YW YX YW)) (v d7 (av g5) e2) aIu (nE I) (av hS (aJ S)) (fun X g6 V d5 e8 e9 f9 b0 Z=>?_)),aJo,bD (agp (K:=K) (O:=L8) (aEg jo d0) aIu (f5 D) (fun u o d8 b3 c6 Y c0=>?_)),bgi,beG];have f:=zW h1;rw[mp dx,P sm h5 (cx h5 dx ant) Pw,e t (upd h5 dx Ec) x ant x ant];generalize cx h5 dx ant=h9 at sm t;rw[d x dx C c ls X u amJ];have n:=f.free nx;rw[gU (h9 x) t];have c9:=XC dk (b_ Eh f9 (zK sm)) (v b1 hu a9);have d2:=XC iI (zK sm) Z;have c3:=XC jo sm c0;refine ax (fG (aFs sm) n) (a d8 x ls X u rfl (I dx ak ?_ ?_ (c3.put jo h8 (zR c3))) b3 (a a_p n e1 (l1.free b0) (d0.free Y)));rw[c9 (c9.put (o:=bgb) dk h8 (m2 c9 ah)) b4 this];{have:=d2.put (o:=bgb) iI h8 (m2 d2 bM);rw[bX (GM.aew d5 (azu GM.aev e8 (e9.imp (ai (aZK q))))) b4];exact this}
universe z
inductive azx(K:Fg)(vs:af)(H:Hp)(Q:VK)(E:XK):Prop|mk:∀(l:Addr)(row:eh),A [cC] (bm dG l row) (HX YY) (azx K vs H Q E)
inductive azy(K:Fg)(vs:af)(H:Hp)(Q:VK)(E:XK):Prop|mk:∀(v:V)(c0:Addr)(l:ki)(row:eh),e [v,O8] aok (bm dG c0 row) (gN l.1) (c (gN l.2) (V p row (gN p)) (ff<1000) (HX (II row l)) (azy K vs H Q E))
inductive azz(C:Addr)(K:Fg)(vs:af)(H:Hp)(Q:VK)(E:XK):Prop|mk:∀(a b c d:Addr)(r:Gla.Plan)(b2 le G:Addr)(pts:eh)(g:mZ)(marks:Jo),e (ce bc b2 le G) (LL C H a r b c d) a9E (bm eR le g) (l (bm sv G tk) bdp (N0<9000) (aC7<9000) bcR (DT (aFr r.w r.h pts g tk)) (azz C K vs H Q E))
theorem azA{I:Type}{row:ba}{j:Nat}{e:I×I}(h:aa (YY) e):aa row e.1/\K row (j+1) e.2:=by rw[a4 aFt];rw[aiU,Dt,VR 1 j]at h;exact h
section z
theorem azB:T.joined.Ok P w aj 1 (azx K):=by refine T.joined.go aTZ aL;generalize aG=e3,aA=A,aF=outer,aE=s,aD=H,aB=vs,aH=Q,aI=E;rw[aN,M fP,aX,bV l row];rintro rfl⟨vs,d3,d⟩k;rw[cn (cn (aYB (K:=K) rfl rfl bI aj2 bI T.zip (sD bS (xe bS)))) d3 (fun b a5=>?_),aa vs (gG 1) (Om 1) _ 1,aj a4 (ap b (Om 1)) xD,a b4 H b (Om 1) b (Om 1),is (ap b (Om 1)),e l b _ _ rfl (akn d3) (av b4) (fun i1 b7 J=>?_)];obtain⟨b5,d6,Y,F,h2,al⟩:=J;have i9:=eN;refine k i1 b7 i9 (gV d6) (jl h2);have i5:=oT;refine ayz (by rw[bA,F,(GM.pairs_len row),sO];simp[*]) (fun j v e b8 a0=>?_);rw[gt b8,a2 a b3 b8];obtain⟨_,x,y,⟨S,b6⟩,d0⟩:=al j a b3;obtain⟨g7,g8⟩:=azA a0;rw[Dt,VR 1 j]at b6;rw[cP d2 r1 (mx d g7),bJ q2 r2 (mx d g8)];rw[S]at d2;rw[b6]at q2;cases d2;rw[a4 q2 (bO a d0 (bL i9 r1) (bL i9 r2))]
theorem aZN:T.parted.Ok P w aj 3 (azy K):=by refine T.parted.go ae4 aL;generalize aG=e3,aA=A,aF=outer,aE=s,aD=H,aB=vs,aH=Q,aI=E;rw[aN,M oc,aX,al v c0 l row];rintro rfl d3 I j1 d5 u e k;rw[fV,ax a b3 j0 j6 d3,tk (id I),K (b4 (e ae4.nd 2 (oo aq) (cj "point" 3) (ci 3 ae4.nd) (lf (uV (Z awV kH kH bb))) (bC bb)) (ge (afm K aw) (d9 bS)) (a7 azB (c4 (d9 kH) (Ck aw) (d9 kH)))) c0 rfl ⟨aW hu,fun m y=>d dG dk dk I (bn (jM (DE l.1 l.2 p) p)) y (f5 e)⟩];{rintro i p x L h4 N c2 s S b6 d1;have g:=cP s;rw[c rfl a _ _ _ rfl (cx (bv b3)) (bh dh a (cx (bv b3)) (a dr l.1 l.2 p (cA (hH g j0) (hH g j6) S) j1 d5 (u p (bO c2)) ?_)),gr (DE l.1 l.2 p) (ab p (x kO) eg S) hS]};rw[apV];rw[LC]at e9;rw[ca (.inl (bm (av b4)))];have B:=cP a4;rw[dZ II];cases f:NI aan with|nil=>{rw[f]at e9 k;cases e9;rw[v (ag) (fun b a5=>?_),gT (jk bc a5)];exact k b _ b5 (gV a5) (av ak (hp (tq (cP b5) d3)))}|cons z zs=>obtain⟨k3,c,rfl⟩:∃k3 c,d7=k3::c:=by{have:=qY;rw[am f];cases d7 with|nil=>{trivial}|cons k3 c=>exact bp k3 c};rw[bn a OD ⟨(ag),fun b a5=>?_⟩,gT (jk e7 a5),a b9 a8 b [e7] b [e7],i M a8 b [e7] m (k3::c) a5 b4];have j:=fX (ac [e7] a5) e9;rw[bo (U a8 b [e7]) b9 M j];delta r_;refine agq (K:=K) (O:=sJ) azv (Z:=NI aan) (cd M j) (fun p _=>Rp) bz (v row (x (fH e tx)) (aJ (fb S))) (fun ls d4 W r O dO c8 e1 c5=>?_);have V:fh<1000:=by{rw[dj O row (aJ (fb (x (r x) S)))];exact Ri};obtain⟨ws,hw,C⟩:=c5;have q1:=C.length;rw[n b ls (dn b9) hw ⟨jl q1.l V,fun e5 n=>?_⟩];have d9:=B (fg c8) (bs [e7] ws n);rw[a g5 d4 e5 alM e5 alM];have o:=er sJ (bs [e7] ws n) C;rw[f d4 e5 alM e4 d9 g5 o,da a (fF b3) ⟨(ah),fun e6 d=>?_⟩];have f9:=mX (ac [f5] d);rw[a i2 e4 e6 [f5] e6 [f5]];have U:upd e4 e6 (.lst [f5]) e5=_:=co d g5;have n3:=er sJ (ac [f5] d) o;generalize U e4 e6 [f5]=g6 at f9 i2 U n3;rw[n e5 e6 U i2 ⟨jl q1.l V,fun c1 t=>?_⟩];have h1:=mW bem;rw[y c1 (l.1::(W++[l.2])) (jl (av ak)) (fun i1 h9 R e0 Z=>?_),l (.cons (bL h1 j0) (eC (er sJ bem n3) (bL h1 j6)))];{rw[(bhH)]at Z;exact k i1 h9 (zK R) (h1.free e0) Z}
theorem aZO:T.awr.Ok P w aj 4 (azz bJ K):=by refine T.awr.go aTY aL;generalize aG=e3,aA=A,aF=outer,aE=s,aD=H,aB=vs,aH=Q,aI=E;rw[aN,M (aqF ?_),aX];generalize(hk).1=a,aV hk=b,bU hk=c,cE hk=d,bX hk=r,ct hk=b2,dv hk=le,d5 hk=G,fp hk=pts,k3 hk=g,a8S=marks;rintro rfl h c2 a0 c4 R I D k8 k;rw[fD,ev (cn (d9 azw (GL bP bP aq aw bb))) (b hd dR H7 yW a dx _ (j hd dR H6 GR r.w r.h (a b2 le G pts g tk rfl c2 (a a0 c4 R I D k8 (fun v a8 a4 nv=>k v a8 a4 nv)))))]
universe z
theorem azC{T:Gla.Plan}{c d8:Jo}(F:DG T)(Z:WC=XD tv c)(p:aiJ c):DG am6:=by rw[z V (aiJ WC) Z (aDO (bt (GM.yO _ _)))];exact a F.w F.h F.p F.l (t V.length_eq F.m) aiB aC0 (fun m c4=>wI m (V.mem_iff.mp c4))
theorem aZP{C:Addr}{H L:Hp}{r T:Gla.Plan}{b2 X:Addr}{x:Gla.Step}{v:V}{c:Jo}(h6:aKY)(c4:ajA r x=aa T)(Z:WC=XD tv c)(a9:wX r)(ask:Ic x):l1 x v:=by obtain⟨d8,a,e7,i,I,e,d,p,s,n1,n2,u,y⟩:=h6;rw[cb (GM.auI Z p s)];delta LR;rw[c4];exact a _ a e7 i I e d (azC (GM.To a9 ask.ok c4) Z p) (c b.1 b.2 n1 (.inl n2) (.inl u) y)
theorem NumV.up{C:Addr}{H a8 L:Hp}{v:V}{T:Gla.Plan}{c:Jo}(s:cZ H a8)(h:aFu C a8 L v T c):aKY:=by obtain⟨d8,a,e7,i,I,e,d,p,q,n1,n2,u,y⟩:=h;exact a d8 a e7 i I e d p (a q (XE n1) (XE n2) (XE u) (XE y))
theorem Mb{C:Addr}{H L:Hp}{r:Gla.Plan}{b2 X:Addr}{x:Gla.Step}(c4:ajA r x=ae):l1 x .bC:=by delta LR;rw[c4]
theorem azD{I:Type}{O:ba}{l:I×I}(h:l∈aFt O):l.1∈O/\l.2∈O:=by rw[n2 h];have:=azA b8;exact⟨bO et,bO fj⟩
theorem aZQ{row:eh}{d l:ki}(h:l∈II row d):(l.1=d.1\/l.1=d.2\/l.1∈row)/\(l.2=d.1\/l.2=d.2\/l.2∈row):=by rw[a4 II];have:=azD h;have O:E p (p∈d.1::(XD WI (vP (DE d.1 d.2))++[d.2])) (cN d.1 d.2 (p∈row)):=fun p c2=>by{rw[al (h_ c2),l AS];{rw[hZ q,l (o7 (fb (NH ((GM.yO _ _).mem_iff.mp q)))),az]}};exact⟨O _ et,O _ fj⟩
inductive azE(C:Addr)(vs:af)(H:Hp)(Q:VK)(E:XK):Prop|mk:∀(a c0:Addr)(b8:V)(r:Gla.Plan)(b2 X G:Addr)(row:eh)(m:Gla.Mark),e [bc,O8,b8] Qm (e4 c0 row) aaa (i (wX r) (Ic Rn) (nI Rn) (azE C vs H Q E))
inductive azF(C:Addr)(vs:af)(H:Hp)(Q:VK)(E:XK):Prop|mk:∀(a:Addr)(pv:V)(r:Gla.Plan)(b2 X G:Addr)(k:Nat)(p:Pt),e [bc,vn k,pv] Qm (br pv p) (wX r) (Ic aoJ->nI aoJ->azF C vs H Q E)
inductive azG(C:Addr)(vs:af)(H:Hp)(Q:VK)(E:XK):Prop|mk:∀(a:Addr)(b8:V)(r:Gla.Plan)(b2 X G:Addr)(i:Nat)(m:Gla.Mark),e [bc,pD,b8] Qm aaa (wX r) (Ic Z3->nI Z3->azG C vs H Q E)
theorem UQ{I:Type}{l:ba}{k:Nat}(h:k<d_)(x:I):G9 k++[x]++oK (k+1)=V_ k x:=by rw[List.set_eq_take_append_cons_drop,aK h,dv];rfl
section z
theorem aZR:T.aws.Ok P w aj 5 (azE bJ):=by refine T.aws.go ae5 aL;generalize aG=e3,aA=A,aF=outer,aE=s,aD=H,aB=vs,aH=Q,aI=E;rw[aN,M Jz,aX];generalize E5=a,E7=c0,E8=b8,E9=r,E_=b2,Fb=X,Fe=G,Fi=row,Fw=m;rintro rfl h I c4 a9 ask k;rw[fV];have C:=aFq;have Y:=NJ;rw[g3 Ol];have j:aMO:=ask;have t:=GM.auw C row (fun p _ e a0 q=>GM.auy Y a0 q);rw[cP n9 (cz de (gN p)) YL (JE).2];have e9:∀d∈HW,d.1∈de/\d.2∈de:=fun d hd=>by{obtain⟨e,a0,b4,b9⟩:=GM.aem.mp (show(d.1,d.2)∈HW from hd);have:=jd;exact⟨bl b4 (DV Q7),bl b9 (DV fj)⟩};rw[K (i 3 ae5.nd (j7 azB) (bd (dK LM) 4 ae5.nd (eA bb (bh aZN bR aq))) (df (eM (ec bP (us aq)) bb (ec bP (d9 aw))))) c0 row (ai I.ls (fun le a8 a4 j3 LE=>a a r b2 X G rfl uq (f2 (by have:=jd;rw[jY])) (f5 iA) (fun ld b7 b5 B f7=>?_)))];obtain⟨c7,d7,c9⟩:=f7;rw[a7 ld d7 (aJ c7 (fo (GF (∃b1,M=[kJ,OQ,aa b8,Ax,b1]) bQ (aj ld c7) (dD (eR L) c7 HW) (dB eR L le (YY++a'r)))) (a qg (eN) d7 c9 (ax (LE.mono gx b5))) (mL (av z.3)))];{rintro i x M L S⟨⟨b1,rfl⟩,s,a3,d3,d0⟩;rw[aW d hd d3 S];have o4:=e9 d (bO hd);obtain⟨a7,F,N⟩:=d0;rw[aK (ako (i+1)) (ako i) d hd];have cR:t (YY++a'r)+t (II row d)<=dP+2*ff:=by{have b4:HW=ako (i+1)++r.drawn.drop (i+1):=aGk;rw[b4,g9,zL,zL]at t;simp only[cj,pa,a5Y,qK]at t⊢;lia};rw[c (dq F) x c0 d row J (I.mono dk s).ls (a (n9 _ o4.1) (n9 _ o4.2) (gP ⟨js (bbd).1 ay,js (bbd).2 ay⟩) (f7 j.1.2.1) (fun i1 d4 c8 e0 D=>?_)),b6 e1 V D];have O:=dn F;have d5:=V.length;have h2:=iP;rw[n le i1 O e1 (as bM),ae h8 d4 (U d4 le (a7++c5)) (GB O)];have g:=B (cP c8) h8;rw[j ei (fG (il c8) j3) (Y (J (by rw[gl q LE,b2 e B];cases B)) (dn a3)) (cc g d3) (aJ (a7++c5) ak)];rw[g9,zL,<-dv];simp only[pa,a5Y,qK];exact oB (cc g N) (cc h8 V)};rintro M d4⟨⟨b1,rfl⟩,c8,a3,d3,U⟩;rw[db d3.length U];have o:=gd c8;rw[cv c3 o.at_,b6 n W o.p,di d1 Z o.m,bH d2 b0 (I.mono dk c8),it fh];have g8:=fK;have i7:=b0.length;rw[a2 c3 (K gb fX c0 (cc d2) (fun e5 n1=>?_))];have d9:=wV (ac f n1);have i6:=ac f n1;rw[a g5 d4 e5 f e5 f,f d4 e5 f e4 d9 i6 g5,n b2 e5 (i6 _ _ n) g5 ⟨fR,fun e6 n2=>?_⟩];have f9:=mX (bs c5 f n2);have e2:=i6.trans (bs c5 f n2);rw[a i2 e4 e6 (c5++f) e6 (c5++f),f e4 e6 (c5++f) g6 f9 e2 i2,a2 (e2 _ _ c3) (d jA jq (ag) (fun c1 u=>?_))];have h1:=mW (ac [b8] u);have c6:=e2.trans (ac [b8] u);rw[a j1 g6 c1 ug c1 ug,i b3 g6 c1 ug e6 (c5++f) u i2];generalize U g6 c1 ug=h5 at h1 c6 j1 b3;rw[n G c1 (c6 _ _ d1) j1 ⟨jl g8.l pU,fun i0 y=>?_⟩];have R:=zK (ac Zq y);rw[cl (c6.trans (ac Zq y)),a j2 h5 i0 Zq i0 Zq,i b6 h5 i0 Zq e6 (c5++f) y b3];generalize aV h5 i0 d8 b8=h9 at R c j2 b6;rw[cb (cP c),b a b2 X G r e6 le i0 (a (de++row) (YY++aiF (II row)) (dQ++[m]) rfl (gd R) (cd b6 (oB (g9 b W) (g9 b b0))) (U.mono gx c).ls (cd j2 (eC (dE (lM b) Z) (tj R))) (a (d a'n _ a'n (aJ S)) bM (nE pU) Yu a'_))];{rw[hZ a5];{have:=azD q;exact⟨qI _ et,qI _ fj⟩};{rw[aJ d hd (aC5 q)];have o4:=e9 d hd;have:=aZQ q;constructor;rw[dV,dV]}};rw[as i3 (wC d6) R (GM.auj Y row m) ask]
theorem aZS:T.awu.Ok P w aj 5 (azF bJ):=by refine T.awu.go aT1 aL;generalize aG=e3,aA=A,aF=outer,aE=s,aD=H,aB=vs,aH=Q,aI=E;rw[aN,M aL,aX];generalize aG=a,aA=u,aF=r,aE=b2,aD=X,aB=G,aH=B,aI=p;rw[co c2 a9 ask,fV];have Y:=aFv;rw[g3 Ol,fD,b6 a3 a7 h.p];have d5:=akm;rw[ev (ai bbF (HY akp) (bo (e akp 4 pI (bk "a" 5 "b" 6) (bC (V 5 akp 6 akp)) kK (bC (as (bs bb cJ) (bs bb eu)))) (eM bb bR bP))) (b hd dR gb fX b2 rfl (cc a3) ?_)];rw[d5];rw[kj,l (ax (tr H) (Mb (GM.auG ah p)))];{rw[dQ C B aJ,a2 hd (K gb fX b2 (av a3) (fun e0 g9=>?_))];rw[yY c5 B];rw[gQ (ap e0 lU) g9,a b4 H e0 lU e0 lU,is (ap e0 lU),v (ag) (fun g0 e1=>?_)];have b5:=jk u e1;rw[a b9 a8 g0 [u] g0 [u],i M a8 g0 [u] e0 lU e1 b4,f a8 g0 [u] b7 b5 b9 M,dg B c5 d5.l AJ];have c8:=fg (ac ZU j5);rw[a e7 b7 d0 ZU d0 ZU,g1 d0 ZU,a2 (dn hd) (K gb fX b2 (av (dn a3)) (fun R b0=>?_)),bhj,l9 (ac lY b0),a g5 d4 R lY R lY,i D d4 R lY d0 ZU b0 e7,f d4 R lY e4 d9 g5 D,qV a_r AJ];rw[UQ ag];have f9:=mX (ac aaq F);rw[a i2 e4 y aaq y aaq,i e4 y aaq g6 f9 i2];have d:dD (dG g6) aaq X6:=by{have J:=cP f9;have z:=g9 J a7;rw[a_a];exact oB (eC (sy B z) (hH J c2)) (Cf (B+1) z)};rw[bJ (gd f9)];obtain⟨ls,q,I⟩:=m.l;rw[a2 QC (s kC ku X (k2 q) (fun le j3=>d eR iI gx m.l.ls (an (aa (te e.1,te e.2))) j3 bM))];{rw[dH e x a0];have ix:=eb e um;rw[bv g oe (aa (X6) (te j)) ag,cP g7 r1 (mx d (g e.1 bM)),bJ g8 r2 (mx d (g e.2 ix.2)),AK (m y _ (br i2) (dX g7) (m y _ (br i2) (dX g8) a'X)),bdd];exact GQ (v ak (hH W r1) (hH W r2))};intro h5 d7 h1 j1 i0;rw[eT i0,eS (mW h1)];have n:=gd f;rw[b (f _ _ hd) y X6 n (cd (iP i2) (fX h1 d)) (cd j1 i0) n.m.ls fR fR (nE iA) a'_];{rw[hW a5];have ix:=jd;rw[bv g oe (te j∈X6) ag];exact⟨g e.1 bM,g e.2 ix.2⟩};rw[as i3 (aFs d6) f (GM.aSn Y C p) ask]}
theorem aZT:T.awv.Ok P w aj 3 (azG bJ):=by refine T.awv.go au' aL;generalize aG=e3,aA=A,aF=outer,aE=s,aD=H,aB=vs,aH=Q,aI=E;rw[aN,M aL,aX];generalize aG=a,aA=b8,aF=r,aE=b2,aD=X,aB=G,aH=i,aI=m;rw[co c4 a9 ask,fV];have e8:=Ol;rw[fD,di g7 i1 h.m];have g8:=i1.length;rw[ev (b4 bbF (HY au'.nd) (aP bP bP bP bP (se bb))) (o9 g7 ?_)];rw[g8];rw[kj,l (ax (tr H) (Mb (GM.mark_none ah m)))];{have C:i<fL:=by{rw[fw (aDf c)]};have j:=GM.aSm aFv C m;rw[a2 hd (K jA jq G (av g7) (fun e0 g9=>?_))];rw[yY d8 i];rw[gQ (ap e0 (lN i)) g9,a b4 H e0 (lN i) e0 (lN i),is (ap e0 (lN i)),v (ah) (fun g0 e1=>?_)];have b5:=jk b8 e1;rw[a b9 a8 g0 ug g0 ug,i M a8 g0 ug e0 (lN i) e1 b4,f a8 g0 ug b7 b5 b9 M,dg i d8 g8.l pU];have c8:=fg (ac Zr j5);rw[a e7 b7 d0 Zr d0 Zr,g1 d0 Zr,a2 (dn hd) (K jA jq G (av (dn g7)) (fun R b0=>?_)),aa d8 (oD i) P_ d8 (i+1),l9 (ac P_ b0),a g5 d4 R P_ R P_,i D d4 R P_ d0 Zr b0 e7,f d4 R P_ e4 d9 g5 D,qV (RU (k:=i) g8.l) pU];rw[UQ ag];have f9:=mX (ac aoQ F);rw[a i2 e4 y aoQ y aoQ,i e4 y aoQ g6 f9 i2,a2 QC (ev H7 yW (b QC dR H6 GR a dx _ (j QC dR gb fX a _ (a dx _ _ rfl QC dR kC ku ?_))))];delta r_;refine agp (K:=K) (O:=L8) (Z:=Yf) (cd i2 (by have J:=cP f9;have z:=dE (lM J) i1;rw[a_a];exact oB (eC (sy i z) (lM J c4)) (Cf (i+1) z))) aIu fR (fun u o ns b3 c6 Y c0=>?_);rw[bgi,beG,eS (mW h1),mp W,P sm h5 (cx h5 W anZ) Pw,e t (upd h5 W Ec) x anZ x anZ];generalize cx h5 W anZ=h9 at sm t;rw[d x W r.w r.h b2 X u amJ];have d:=aFs sm;have n:=f.free nx;rw[gU (h9 x) t];have g:=gd d;have c3:=XC jo sm c0;rw[ab Z (BR (XD tv Yf):U4).marks (XD tv Yf)];have b:=GM.auI Z b3 a_p;rw[b2 (azC (GM.To a9 (x:=Z3) ask j) Z b3),oF (fG d n)];delta LR;rw[J j (a (BR ns) x b2 X u rfl (I W ak (g.p.put dk h8 (zR g.p)) (g.l.put iI h8 (zR g.l)) (c3.put jo h8 (m2 c3 ah))) l (c b.1 b.2 n ES ES (f9.free Y)))]}
universe z
inductive azH(C:Addr)(vs:af)(H:Hp)(Q:VK)(E:XK):Prop|mk:∀(a:Addr)(r:Gla.Plan)(b2 X G:Addr)(i j:Nat),e [bc,pD,vn j] Qm (wX r) (nI aJI) (azH C vs H Q E)
inductive azI(C:Addr)(vs:af)(H:Hp)(Q:VK)(E:XK):Prop|mk:gb r k (e [bc,vn k] Qm (wX r) (nI (.drop k)) (azI C vs H Q E))
theorem aZU{r:Gla.Plan}(Z:zV r){e d3:fz}(a0:iz)(V:d3∈bX)(h:xB=jH r d3):e=d3:=by rw[cy ye,cb (fZ d3 V),a4 jH];exact qE (lE h) (lE h).2
theorem aZV{X:Cx}{P:Program}{w:World}{i o:Expr}{l A:TE}(C:eA=P)(hw:X.w=w)(hu:uL)(hi:yh)(d0:Bh):F3 P:=aXO hu hi d0 C hw
theorem azJ(k a b:Nat):BD (vn k) (hz a b)=DW k rM:=by delta BD DW;simp only[MV,List.any_nil,aBt];have:∀x:Nat,yD (vn x) (vn k)=(x==k):=ab (by show(v x==v k)=_;rw[iN];simp;rw[Ff]);rw[this,this]
section z
theorem aZW:T.awt.Ok P w aj 7 (azH bJ):=by refine T.awt.go aT0 aL;generalize aG=e3,aA=A,aF=outer,aE=s,aD=H,aB=vs,aH=Q,aI=E;rw[aN,M ob,aX];generalize kQ=a,kR=r,kS=b2,kT=X,kU=G,kX=i,k_=j;rw[aV h a9 k,Br];have C:=aFq;have Y:=NJ;have Z:=Dx;rw[g3 Ol,fD,di g7 i1 h.m];have g8:=i1.length;rw[q5 (ai (fc (dZ gM aq aw) (dZ uY beu nK) cu) (bU 3 IJ af6) (ai (bd (Z aZI bS aq aw) 4 IJ (af5 wj bb bR mj rfl)) (ge (aYn bb gW) cu) (bX (e IJ 5 (oo (dK LM)) (cj "line" 4) (ci 4 IJ) (lf (Bv (aZV (P:=P) (w:=w) rfl rfl wj bR bb))) (bC bR)) (bU 6 IJ (ec bih bih)) (eM eu cJ (ec (hG bP aw) (ss (hn aw)))))))];rw[dN];rw[N c0 i j,Z (dH (x Av)) (DW (.inl c0))];{rw[ea bM];rw[q5 _,w (v j) xv (v j) xv (ae akZ) (ik i j)];rw[k1];rw[a2 hd (bt jA jq G g7)];rw[g8];by_cases g5:an7;{have k2:ao'=ab:=dH (x (aC g5));rw[i6 ao',J k2 (DW (.inr g5))]};have k2:ao'=ai:=ea ag;rw[i6 ao'];rw[k2];have hi:A dQ (dx dQ (fb (Wq i j) (G8 g5))):=pG;have b8:aa dQ (dQ[j]'(fb (HG i j) (G8 g5))):=pG;generalize dx dQ (fb (Wq i j) (G8 g5))=c6 at hi;generalize dQ[j]'(fb (HG i j) (G8 g5))=e0 at b8;have c4:=GM.erase_eq C c0 hi b8;simp only at c4;generalize l9:XA r (IG r aFo) (IG r aFn)=b3 at c4;refine fun d g4 nd k3=>?_;rw[x4 g4];generalize ad d g4=a8 at k3 a4;rw[b a r b2 X G i j c6 (a e0 rfl uq a9 hi b8 (fun i5 b7 b5 n5 k5=>?_))];rw[l9]at k5;obtain⟨bs,c5,m4⟩:=k5;have i9:=eN;have i4:=k3.mono b5;rw[ab m2 i5 d i4 c5];have gl:bd (iU b3) dP:=AO;rw[a7 i5 c5 ?_];have m3:Cs P w b7 d (an Aw 0):=av i4 (ch aQ);refine aJ bs (fun n M L=>GF (∃b1,M=[kJ,bE i,bE j,rx,b1,ae,ae]) bQ (aj i5 bs) (dD (eR L) bs Aw) (Cs P w L d (an Aw n))) (a qg i9 c5 m4 m3) (fun n M L _ z=>av z.3);{rintro n x M L S⟨⟨b1,rfl⟩,s,l7,m1,f,h3,W⟩;rw[jw m1 S,BW J];have d1:n<t Aw:=bx a5;rw[aO j7 n dP (RQ d1 gl)];rw[eS]at h3;rw[c d c (gO l) f _ rfl h3 (Ib (db (wy n (t (List.map (jH r) (a0U b3 bX)))) j7 iA)),gc k4 h3,gU (L d) k4,ae c3 L (upd L d o) (yT h8),j ei (gb s) (Y m2 l7) (cc c3 m1) (av (pc (min (n+1) (t Aw)) (min n (t Aw))) Yk)];rw[DO,a5];rw[T m l,aZ,bbT]};rintro M d4⟨⟨b1,rfl⟩,c8,l7,m1,f7⟩;rw[db m1.length f7,bH h3 W (id f7),Q d f _ ⟨h3,fun b U=>?_⟩,cl n8 ((xB∈Aw)↔b3 e=ab) (by rw[fJ];constructor;{rintro⟨d3,V,q⟩;rw[bJ (vL V)];rw[<-aZU Z m.1 a0 q];exact m.2};rw[dV])];cases b with|false=>{rw[bD (ax c8 (Mb ?_))];have al:=U.mp rfl;rw[cl m5 (b3 e=ai) bz];rw[c4,aK];rw[dW];rw[a3z];rw[aah];rw[m5 e a0];rfl}|true=>have k0:¬t (iU XT)=dP:=ai (by rw[ci (List.filter_eq_self.mp (List.Sublist.eq_of_length List.filter_sublist q))];have:∀B,f B=ae:=by{refine aHF;have j6:¬(ab=ai↔∀B,f B=ae)->cE:=J (z U);rw[cl a3 (b3 e=ai) ah];have D:(iU b3)=[]:=List.filter_eq_nil_iff.mpr (f2 ag);rw[D]at h3;obtain⟨F,d2,q2,q3,i6⟩:=h3;have:F=[]:=NS ah;refine f6 (fun B=>?_);rw[<-i6,this];rfl};exact cy (U.mpr this) ay);rw[bj k0]at c4;rw[cl e9 (e.1<aJ/\e.2<aJ) (by have:=jd;rw[fT]),c a r b2 X G (gd c8) e9 (iT iA (fun m6 e4 d9 n9 LE=>?_))];obtain⟨o1,l0,m7⟩:=LE;rw[a7 m6 l0 a_C];have m8:=aFd d9;refine d eR gx gx (cd l0 m7) (ch (jM (! cv am0) l)) j3 (t Xj (cf iA fw));{rintro n l x L h4 N a5 s rv b6 d1;rw[BW rv];obtain⟨I,k6,t⟩:=m8.mono s;rw[d rfl d c (gO l) I _ rfl (aJ k6 (m9 rv)),ae b4 (Z ab (! dk (I (gO l))) (dk (I (gO l)))) (! cv am0)];rw[b4];rw[gr (! cv am0) (ab l (x kO) eg rv) ag]};intro g6 d7 f9 i2 y;rw[LC]at y;have c9:r.drawn.filter (k4 (cv am0))=Pp:=by{delta aFp;rw[a4h];rw[dW];refine Wr nO;rw[cl O (∀x:ki,x=xB->(! cv (x∈Aw))=! b3 e)];exact O _ rfl};rw[c9]at y;have d0:=B Eh f9;have j0:bd (iU XT) dP:=AO;have k7:dB eR g6 le Pp:=v d7 i2 y;rw[a7 le i2 (fun a7 n1=>d dG gx dk k7.ls (ch (aa l.1)) n1 (jl j0 iA))];{rintro n l x L h4 N a5 s⟨c,e7,f5,rfl,b0,r1,r2⟩b6 d1;rw[im (as c b0 dh (fs eg r1))]};intro h5 i8 h1 j1 i0;rw[eT i0];have l1:=k7.mono gx h1;obtain⟨o2,m9,_⟩:=id l1;rw[a7 le m9 (fun d5 n2=>d dG gx dk l1.ls (ch (aa l.2)) n2 (jl j0 iA))];{rintro n l x L h4 N a5 s⟨c,e7,f5,rfl,b0,r1,r2⟩b6 d1;rw[im (as c b0 dr (fs eg r2))]};intro h9 d6 R j2 k8;rw[eT k8];have n0:=i0.length;have n3:=k8.length;rw[bA,bA]at n0 n3;rw[gO (R _ _ j1) j2 l_];have h2:=bs i8 d6 u;rw[a j9 h9 l3 (i8++d6) l3 (i8++d6),i h9 l3 (i8++d6) i3 h2 j9];have l2:=B (zK R) h2;have c7:=zW l2;have p1:=c7 _ _ hd;have l4:=c7 _ _ g7;rw[bD (iS p1 (K jA jq G (av l4) (fun e5 g9=>?_)))];rw[yY d8 j];rw[gr (ac (lN j) g9),a j8 i3 e5 (lN j) e5 (lN j),i i3 e5 (lN j) i7 b9 j8,a2 (b9 _ _ p1) (K jA jq G (av (b9 _ _ l4)) (fun e6 e1=>?_)),aa d8 (oD j) xV d8 (j+1)];have l5:=b9.trans (ac xV e1);rw[a e2 i7 e6 xV e6 xV,i l6 i7 e6 xV e5 (lN j) e1 j8,f i7 e6 xV h7 l5 e2 l6,c6 l6 e2 (RU (k:=j) g8.l) pU];have j4:=l5.trans (bs (lN j) xV j5);rw[a g0 h7 c1 (lN j++xV) c1 (lN j++xV),i h7 c1 (lN j++xV) o3 j4 g0];have k9:=c7.trans j4;have tB:=cP j4;rw[(aEn _ _)]at c4;have l8:=dE (lM tB) (dE (lM (cP c7)) i1);have o4:∀(g:ki->Pt),L Pp g=iE XT (g Eg):=fun g=>aQ;have n4:F9 (go (iU XT) (ch [pz,rl]))=F9 (gU Pp++cN Pp):=by{refine GM.aeD (fun p=>?_) (fd pQ) (fd pQ);simp only[V4,hy,fJ,hC,oR,Dl];constructor;{rintro⟨e,a0,q|q⟩;rw[dV,dV]};{rintro(⟨_,⟨e,a0,rfl⟩,q⟩|⟨_,⟨e,a0,rfl⟩,q⟩);rw[dV,dV]}};rw[n4]at c4;rw[b a b2 X G r l3 le c1 (a _ _ a7O rfl (gd k9) (cd (j4 _ _ j9) (g9 tB (oB (fX h2 (fX R i0)) (fX h2 k8)))) ((k7.mono gx l2).mono gx j4).ls (cd g0 (oB (sy j l8) (Cf (j+1) l8))) (a (d (x (RR j0 iA j0 iA)) de l_ uc) (eI j0 iA) (fs dQ j pU) Yu (fun v n6 n7 h6=>?_)))];{rw[hZ c2,Kx (a_q).1,Kx (a_q).2]};rw[dV,as n6 (k9.trans n7) k9 c4 fY]}
universe z
theorem agr{I d:Type}(p:AZ)(f:Fj):om (f e) (L (zx p) f)|[]=>rfl|a::J=>GZ (agr p f J)
theorem UR{r:Gla.Plan}{i k:Nat}(hi:gX)(ne:i≠k):eG∈Wl k++Xr (k+1):=by rw[wU hi];rw[al (aFw ne),l (vQ _ (si ag))];{refine qI _ (bO (i:=i-(k+1)) ?_);rw[Dt,m (k+1+(i-(k+1))) i i (k+1) q i (k+1),pJ]}
section z
theorem aZX:T.aww.Ok P w aj 5 (azI bJ):=by refine T.aww.go aT2 aL;generalize aG=e3,aA=A,aF=outer,aE=s,aD=H,aB=vs,aH=Q,aI=E;rw[aN,M P5,aX,n a r b2 X G B,aV h a9 k,Br];have Y:=aFv;have e8:=Ol;rw[fD,b6 a3 a7 h.p];obtain⟨ls,d9,e0⟩:=h.l;rw[it akm,qP (X akq bP (g2 3 a_s (ll yw (cS bR cJ) aq)) (a6 (D Sf (dN bb) bE cu) (g2 6 (aS1 (K:=K) rfl) (as (iX bR) (iX cJ))) (dD eu (as (iX (bs bb bE)) (iX (bs bb bE)))) (eM (ec (hG aw aq) (Ck K aw (oq rr) Sl)) eu bP))) ⟨k2 d9,fun i0 i8=>d oz iI sx h.l.ls (hm anq aLO) i8 (f5 iA)⟩];{rw[dH e x a0,aW b pH (bj rfl (ag) Zp),T b5 L aK8 h7,bfF,i6 bcr];rw[azJ];cases q:a'C with|true=>{refine asj ?_;have c4:=q;unfold Gla.endsAt at c4;simp at c4;refine ab aLO (x kO) b5 ?_;show cp (v e.1+v e.2-v B)=vn aLO;exact gz cp l_}|false=>rw[fw (d1 (by rw[aO (show¬anq=ab from hS)]) _ b5)]};rw[apV];rw[agr]at e9;have c3:=vm e9;rw[jW];have b4:b5 (a8 i0) (bh aar):=b4;rw[aW i0 (cc b4) gJ];rw[dN,bA];rw[N p (t aar) 2];{rw[(dH (x Av))];obtain⟨x,y,M⟩:∃x y,aar=Jl:=by{match aar,p with|[x,y],_=>exact bp x y};have b1:=GM.drop_eq M;have b9:∀z∈aar,z<aJ/\z≠B:=fun z c9=>by{delta a5Z at c9;rw[hW c9,a85];delta DW at e1;simp at e1;have:=eb e g9;omega};have C:=b9 x ag;have F:=b9 y ag;have k3:=uq;obtain⟨e2,m,f5⟩:=k3.l;rw[a2 (dj hd) (m kC ku X ⟨k2 m,fun le j3=>?_⟩)];have b3:∀{j:Nat},oe->z v (aa c5 v) (br v (bp j)):=fun{j}b8=>by{rw[cF v g (gG a7 b8)];exact v v g (t (wU b8) J)};refine d eR iI gx k3.l.ls (hm (! anq) (eE,eF)) j3 bM;{rw[dH e v a0];have ix:=eb e um;rw[cP g7 r1 (b3 (j:=e.1) (b7 ix.1 ix.2)),bJ g8 r2 (b3 ix.2),aW b pH (bj rfl (yi) Zp),T b5 L aK8 h7,bfF,i6 (! bcr)];rw[azJ];have o5:=B (eX s) b5;have b0:=o5 _ _ a3;generalize aK8=b7 at b5 o5 b0;cases q:! a'C with|true=>{rw[ai b2 (av b0) (dX g7) (m b2 _ (av b0) (dX g8) ⟨(ag),fun t' c0=>?_⟩)];have k1:=o5.trans a_h;exact ab _ (by rw[aK q]) (fg a_h) (m t' O o (v ak (bL k1 r1) (bL k1 r2)))}|false=>rw[fw (d1 (by rw[aO (show¬(! anq)=ab from ag)]) _ b5)]};intro d4 zs c8 e7 j0;rw[agr]at j0;have k1:=eX c8;rw[eM (dn b4)];rw[M]at I;have n:=k1 _ _ a3;obtain⟨d,W,R⟩:=b3 C.1;rw[bH u Z (b3 F.1)];have c2:=Ib;have fl:bd (iU (k4 (DW B l))) dP:=AO;rw[bA]at c2;rw[c (dq e7) i0 _ _ (vn x) rfl (av I) (i dh b2 _ d rfl (av n) (i (dX W) i0 _ (vn y) rfl (av I) (i dr b2 _ f rfl (av n) (v (dX u) (yi) Zp)))),l i6 d4 d4 t aoR h7,e g5 d4 t aoR t aoR];have D:=i6 _ _ e7;generalize upd d4 t aoR=e4 at i6 g5 D;rw[e le _ _ rfl rfl D (db c2.l fl iA) ?_,aj d0 aL2 (fG (aFm i6) (gV j3)),ae h8 e4 aL2 (GB D)];have LE:dB eR aL2 le ((iE (k4 (DW B l)) Eg)++[(bp x,bp y)]):=by{rw[eZ ak (eC (cc (B (cP i6) h8) j0) (m t d f (v (h8 _ _ g5) (bL d0 R) (bL d0 Z))))]};rw[i e4 le (zs++[nu]) g6 d0 LE];have d2:=d0 _ _ a3;rw[bA b2 d2 (fun e5 g9=>?_)];rw[yY c5 B];have c6:=ac lU g9;rw[a j1 g6 e5 lU e5 lU,i g6 e5 lU h5 c6 j1,bA b2 (c6 _ _ d2) (fun e6 e1=>?_),bhj,cl (c6.trans (ac lY e1)),a j2 h5 e6 lY e6 lY,i d3 h5 e6 lY e5 lU e1 j1,f h5 e6 lY h9 c j2 d3,c6 d3 j2 a_r AJ];have h2:=c.trans (bs lU lY j5);rw[a j9 h9 c1 (lU++lY) c1 (lU++lY),i h9 c1 (lU++lY) i3 h2 j9];have c7:=zW h2;rw[ds (fX h2 (fX d0 a7))];have d8:=gd c7;rw[(aEn _ _)]at b1;rw[b (h2 _ _ (d0 _ _ hd)) c1 (Wl B++Xr (B+1)) d8 (cd j9 (oB (sy B d6) (Cf (B+1) d6))) (LE.mono gx h2).ls d8.m.ls (fs de B AJ) (fs de B AJ) (eI fl iA) (fun v i7 i4 h6=>?_)];{rw[hZ a5];{rw[hW q,a85];delta DW at e1;simp at e1;have:=eb e g9;exact⟨UR bM e1.1,UR fj e1.2⟩};{rw[cR N8,e_];exact⟨UR C.1 C.2,UR F.1 F.2⟩}};rw[as i7 (c7.trans i4) c7 b1 fY]};rw[Z (ea bM) (p7 (Mb (GM.auH p)))]
theorem aZY:T.awq.Ok P w aj 8 (axI bJ):=by refine T.awq.go aTX aL;generalize aG=e3,aA=A,aF=outer,aE=s,aD=H,aB=vs,aH=Q,aI=E;rw[aN,M ob,aX];generalize kQ=a,kR=r,kS=b2,kT=X,kU=G,kX=a0,k_=x;rw[co c0 a9 ask,aj (lr IK aZR) (lr T.LJ aZW) (lr T.LK aZS) (lr XF aZT) (b4 aZX (di aq))];cases x with|lead row m=>{rw[qJ b U,cl (lt U),sw (bh dr b c (a rC a i7 b8 r b2 X G (a row m rfl h I c4 a9 ask aaO)))]}|erase i j=>{rw[om c0,cl (lt U),sw (u dh rfl b _ (u c dr b _ (a c rC a r b2 X G i (ax j h a9 aaO))))]}|move B p=>{rw[gG u c2 (b rfl c dr b _ _ rfl (a rfl c rC a u r b2 X (a G B p rfl h c2 a9 ask aaO)))]}|mark i m=>{rw[gG b8 c4 (H7 (b rfl rfl c dr b _ _ (a rfl rfl c rC a b8 r b2 (f X G i m h c4 a9 ⟨ask,aaO⟩))))]}|drop B=>rw[om c0,cl (lt U),sw (u dh rfl b _ (b c dh rfl b _ _ rfl (H7 (a rfl rfl c dr a r b2 X (M G B h a9 aaO)))))]
universe z
def zc(C:Addr)(N:bg):Rl U4:=fun H v D=>∃a b2 X G,iX Ag (N (a∉N) (b2∉N) (X∉N) (G∉N))
theorem zc.sb{C:Addr}{N:bg}{H L:Hp}{v:V}{D:Gla.Plan}(h:zc C N H v D)(s:uA)(n:oI N H):zc C N L v D:=by rw[Cr h,cv q d.at_];exact C3 (I dx (dR q c9) (d.p.sb dk s n g9) (d.l.sb iI s n e1) (d.m.sb jo s n j5))
theorem mA.sb{N:bg}{H L:Hp}{v:V}{x:Gla.Step}(h:mA N H v x)(s:uA)(n:oI N H):mA N L v x:=by have t:=s.ts n;cases x with|lead row m=>{rw[dn yg (l.sb dk s n a3) (lM t k) a3]}|erase i j=>{rw[ii h yg]}|move k p=>{rw[w pv e q J h];exact a a pv e yg (hH t J)}|mark i m=>{rw[w b8 e q J h];exact a a b8 e yg (lM t J)}|drop k=>rw[ii h yg]
theorem mA.nil{N:bg}{H:Hp}{v:V}{x:Gla.Step}(h:mA N H v x):mA [] H v x:=by cases x with|lead row m=>{rw[dn q l k jI]}|erase i j=>{exact h}|move k p=>{exact h}|mark i m=>{exact h}|drop k=>exact h
noncomputable def rcF(g ls:Addr)(d:Int):hU:=[fI "cartoons" g,fI "steps" ls,("done",YN)]
theorem Mc(g ls:Addr)(d:Int):kk "done" YN bfo=g2 d:=by show kk "done" YN (aK "steps" ls [("cartoons",.ref g)])=_;rw[rJ];show kk "done" YN [("cartoons",.ref g),("steps",.ref ls)]=_;rw[rJ,rJ];rfl
theorem ags(g ls:Addr)(d e:Int):kk "done" (.int e) (g2 d)=g2 e:=b0 rcF rJ rJ UK
section z
variable{g ls:Addr}{d:Int}
theorem agt:bN (g2 d) "cartoons" g:=by rw[<-Mc,di,pB,di,pB,di,cO]
theorem agu:bN (g2 d) "steps" ls:=by rw[<-Mc,di,pB,di,cO]
theorem zd:is (g2 d) "done"=aa YN:=by rw[<-Mc,di,cO]
theorem aZZ{m:Str}(a3:¬m="done")(a9:¬m="steps")(e2:¬m="cartoons"):fh (g2 d) m=ae:=by rw[<-Mc,di,bj a3,di,PU,di,bj e2];rfl
universe z
structure RecAt(u CR:Addr)(H:Hp)(J:Addr)(R:GM.bT)(g ls:Addr):Prop where
 at_:∃dx,bh J (aC CR (g2 R.d))
 c:z vs (am g vs) (GU pe)
 s:z vs (am ls vs) (dD (mA gh H) vs mU)
 ne:g≠ls
theorem RecAt.nt{u CR:Addr}{H:Hp}{J:Addr}{R:GM.bT}{g ls:Addr}(h:ni):oI gh H:=qL (by rw[JL,kn vs h.c,hZ b1 h.s,Bl,apM,az,az,cL])
theorem RecAt.mono{u CR:Addr}{H L:Hp}{J:Addr}{R:GM.bT}{g ls:Addr}(h:ni)(s:bQ):A_:=by have n:=Oo;have sb:Az:=cG s;rw[JL,Q_,J3];exact dw (bv q) (v vs (bv d2) (oX e9)) (v b1 (bv q2) (oX f6))
theorem RecAt.nrc{u CR:Addr}{H:Hp}{J:Addr}{R:GM.bT}{g ls:Addr}(h:ni):J≠g/\J≠ls:=by rw[JL,Q_,J3];exact⟨bJ q d2,qr q q2 ah⟩
theorem RecAt.azL{u CR:Addr}{H:Hp}{J:Addr}{R:GM.bT}{g ls dx:Addr}(h:ni)(e:Nat):dH a_L (ih e):=by have n:=Oo;rw[au sb gh a_L alL,Q_,J3];have G:=h.nrc;exact dw ak (v vs (Y G.1.symm d2) (oX e9)) (y3 G.2.symm)
inductive azM(vs:af)(H:Hp)(Q:VK)(E:XK):Prop|mk:∀(v:V)(e:Gla.Fault),A [v] (GD H v rB) (vC (L (IL e) cp)) (azM vs H Q E)
inductive azN(u CR:Addr)(vs:af)(H:Hp)(Q:VK)(E:XK):Prop|mk:dE xW (ad v (zc u gh H v f_) AH) (azN u CR vs H Q E)
inductive azO(u CR:Addr)(vs:af)(H:Hp)(Q:VK)(E:XK):Prop|mk:dE aIH (j9 ub) (azO u CR vs H Q E)
inductive azP(u CR:Addr)(vs:af)(H:Hp)(Q:VK)(E:XK):Prop|mk:dE (R.d=0->j9 0) (R.d≠0->Gc tV) (azP u CR vs H Q E)
inductive azQ(u CR:Addr)(vs:af)(H:Hp)(Q:VK)(E:XK):Prop|mk:dE aIH (ub=0->j9 0) ((ub≠0->Gc jJ)->azQ u CR vs H Q E)
inductive azR(u CR:Addr)(vs:af)(H:Hp)(Q:VK)(E:XK):Prop|mk:∀(J dx:Addr)(v:V)(D:Gla.Plan),e [xk,v] (bh J (aC CR [])) (zc u [] H v D) (∀L g ls,c (fJ [J]) (Y g) (Y ls) (dH L (kz D)) IU) (azR u CR vs H Q E)
section z
theorem azS:T.refusal.Ok P w aj 1 azM:=by refine T.refusal.go aT9 aL;generalize aG=e3,aA=A,aF=outer,aE=s,aD=H,aB=vs,aH=Q,aI=E;rw[aN,M fP,aX,bV O e];rintro rfl⟨a,rfl,b3⟩k;rw[d _ (cn (yA (yV (gi T.aVf) kH kH))) a _ _ _ rfl (u Jx dh a _ (d Jx dr (en 3) (fd (k l _ xD a5 ak))))]
theorem aZ0:T.awx.Ok mg P w aj 1 (azN bJ dJ):=by refine T.awx.go aT4 aL;generalize aG=e3,aA=A,aF=outer,aE=s,aD=H,aB=vs,aH=Q,aI=E;rw[aN,M oc,aX,RG,aV h Y k,fD,bE q p h.c,dn o2 rv (mx p DA.1),bT (cn (f1 bP)) J (b hd gH T.TR agt J dx _ (j hd gH DX zd g _ (f _ v rfl (v (av q) (dX o2) (k v rv)))))]
theorem aZ1:T.awy.Ok mg P w aj 1 (azO bJ dJ):=by refine T.awy.go aT5 aL;generalize aG=e3,aA=A,aF=outer,aE=s,aD=H,aB=vs,aH=Q,aI=E;rw[aN,M oc,aX,RG,aV h dl k,fD,bE q p h.s,bT (cn (ll yw nK bP)) J (b hd gH T.TU agu ls rfl (cc q) (GR (aJ DX zd)))];rw[wK];rw[k2 (ae ub) (v lD-v R.d),dZ vn,bs e];exact k
theorem azT:T.GQ.Ok mg P w aj 1 (azP bJ dJ):=by refine T.GQ.go aT7 aL;generalize aG=e3,aA=A,aF=outer,aE=s,aD=H,aB=vs,aH=Q,aI=E;rw[aN,M oc,aX,RG,aV h c0 f7,fD,bT (b4 (D gM bP bE bE) (ado bS bE aOR) bE) J (a hd gH DX zd gJ)];rw[dN];rw[kj,l (c0 ah)];{rw[ca k0 (R.d≠0),beI];rw[ags];have e:v R.d-1=ae tV:=bt (ahB (VW k0));rw[J e (oT k0 tV)]}
theorem aZ2:T.T9.Ok mg P w aj 2 (azQ bJ dJ):=by refine T.T9.go aT8 aL;generalize aG=e3,aA=A,aF=outer,aE=s,aD=H,aB=vs,aH=Q,aI=E;rw[aN,M oc,aX,RG,av h dl c0 f7,fD,c _ (b4 (D gM apJ bE bE) (ado bS bE ari) bE) J dx _ hd tQ (f J R g ls h dl rfl ?_)];rw[dN];rw[kj,l (c0 ah)];{rw[beI];rw[ags];rw[bbq];rw[e];exact oT ah jJ}
theorem aZ3:T.T7.Ok mg P w aj 1 (azR bJ dJ):=by refine T.T7.go aT3 aL;generalize aG=e3,aA=A,aF=outer,aE=s,aD=H,aB=vs,aH=Q,aI=E;rw[aN,M oc,aX,al J dx v D,aV q d3 k,w _ (fq (d9 aq) AW (fE (hq bE))) (en 1) (fun g nc=>?_)];have c:=fm q nc;rw[b J _ dx _ rfl (Y c q) gH T.TR (v (ay) cT (fun ls ns=>?_)),M d J ls (by rw[fq ak ns];cases ns),M r g ls (by rw[<-z,bW Xg,ak]at ns;cases ns),b J _ dx _ rfl (wt d) gH T.TU (a (vq ay) J _ dx _ rfl ak gH (aJ DX (np ay)))];rw[Mc];have e1:H ls=ae:=by{rw[aG0,bW r.symm]at ns;exact ns};rw[au sb [J] (E (U (upd (ap g [v]) J (aC dJ (aK "cartoons" g []))) ls []) J (aC dJ bfo) J (aC dJ (g2 0))) (fun b o e m=>by rw[ca f7 (b≠J)];rw[bW f7,bW f7,bW (em e1),bW f7,bW (em nc)];exact e)];obtain⟨a,b2,X,G,rfl,j,_⟩:=d3;have l:oI [J] H:=fun b m O e=>ah;refine k _ g ls sb nc e1 (I dx ak (v uh ?_ (hp (a a b2 X G gJ))) (pd ?_) r);{rw[bW Xg,bW Xg,bW r,bW Xg,ak]};{obtain⟨t,M⟩:=j.at_;rw[kn c5 j.p,hZ d8 j.l];obtain⟨b1,q3,_⟩:=j.m;have u:=qr M q (by rw[tL];injection z with _ _ z;rw[yV "width",am yW,nj]);have x:=bJ d2 q;rw[iR (bJ q2 q)];have y:=bJ q3 q;have k3:zc bJ [J] H bc D:=f a b2 X G j ah ah ⟨ah,ah⟩;obtain⟨B,e7,i,I,d0,p,_⟩:=k3.sb sb l;cases d0;have f:∀{b:Addr}{o:HO},Pc->b≠J->b∉gh:=fun{b o}e n=>by{simp only[hC,oR,Dl,aEi];exact v n (em nc) (em e1)};exact a (I t (sb _ _ M ag) (j.p.sb dk sb l ah) (j.l.sb iI sb l ah) (j.m.sb jo sb l ah)) (f M u) (f d2 x) (f q2 c1) (f q3 y)};{rw[aG0,aG0,ak]}
universe z
universe GA
namespace GA
open PySem PySem.Spec PyProof.Rows L2
variable{u CR:Addr}{H L:Hp}{J g ls:Addr}{R:GM.bT}
theorem RecAt.azU(h:ni){vs:af}{cs:bL U4}(p:GU cs):dH (ap g vs) (v cs mU R.d):=by have n:=Oo;rw[au sb gh (ap g vs) (hn (tr H) og),JL,J3];have G:=h.nrc;exact dw (Y G.1 q) baM (y3 h.ne.symm)
theorem RecAt.sets(h:ni){vs:af}{ss:bL CC}(p:dD (mA gh H) vs ss):dH (ap ls vs) (v pe ss R.d):=by have n:=Oo;rw[au sb gh (ap ls vs) (hn (tr H) Y_),JL,cG q2 f6 h.c];have G:=h.nrc;exact dw (Y G.2 q) (y3 ake) baM
theorem RecAt.live(h:ni){l:Addr}(m:l∈gh):H l≠ae:=an (by have⟨dx,q⟩:=mV;have⟨vs,d2,_⟩:=h.c;rw[ben,Bl,apM,az,dV,dV])
inductive azV(u CR:Addr)(vs:af)(H:Hp)(Q:VK)(E:XK):Prop|mk:dE xW (o L Az (dH L (v P2 tN R.d)) IU) (azV u CR vs H Q E)
def agw(u CR:Addr)(H L:Hp)(J:Addr)(R:GM.bT)(g ls:Addr)(x:Gla.Step)(b9:aT):Prop:=match XG f_ x with| .error none=>b9=[-2]/\A_| .error (some e)=>b9=IL e/\A_| .ok T=>mm (b9=[-3]/\A_) (b9=[0]/\dH L ZR)
inductive azW(u CR:Addr)(vs:af)(H:Hp)(Q:VK)(E:XK):Prop|mk:∀(J:Addr)(R:GM.bT)(g ls:Addr)(a0:V)(x:Gla.Step),e [xk,a0] ni xW (mA gh H a0 x) (Ic x->(KP (agw u CR H L J R g ls x b9))->azW u CR vs H Q E)
section z
theorem aZ4:T.T8.Ok mg P w aj 2 (azV bJ dJ):=by refine T.T8.go aT6 aL;generalize aG=e3,aA=A,aF=outer,aE=s,aD=H,aB=vs,aH=Q,aI=E;rw[aN,M oc,aX,RG,aV h Y k];have d8:=NN;rw[K (fE (F0 NV (dZ uX apJ bE) (c8 (B9 bP) (B9 bP)))) (qH (∃j,m=j-R.d/\R.d<=j/\j<=lD/\M=[ac J]/\Az/\ou (v (aFy (j+1)) (NO j) R.d))) (f _ lD wL (a1 a_ rfl (cG eg))) ?_,dq (DB (x d8.l)) H5 h];rintro m M L⟨j,rfl,a3,a9,rfl,s,h'⟩;rw[cv hd h'.at_,bE d2 e9 h'.c,cG q2 f6 h'.s,ae a7 (t (NO j)) j,ae d5 (t (aFy (j+1))) (j+1)];have O:=qY;rw[l5 _ (f g ls h' (as ag))];rw[a7];rw[kj];{have C:R.d<j:=by{grind};rw[ca aaU];have b:K vs (iO-1) (vs[iO-1]'(ag)):=pG;rw[y J dx hd gH (KH b)];have b4:vs.dropLast=akr j:=by{rw[a50,O,d5];rfl};rw[b4];have V:=h'.azU (Ev (sy j e9));rw[au b5 gh (U L g (akr j)) (s.put og),i L g (akr j) b7 V b5,ks d7 V.at_];obtain⟨vr,q3,j0⟩:=V.s;rw[R a aFx j Ib a7];have d:K vr (aFx-1) (vr[aFx-1]'(ahU (a▸fb cT C) ahV)):=pG;rw[y J W d7 gH (cR q3 vr q3 d)];have b9:vr.dropLast=vr.take (j-1):=by{rw[a50,a]};rw[b9];rw[b (j-1-R.d) (Nat.sub_lt_sub_right (VD C) (ahU (fb cT C) ahV)) (j-1) rfl (bn C (aS j 1)) (bU (qM j 1) a9) rfl (b5.put Y_) ?_];rw[m (j-1+1) j j 1 C j 1];exact(V.sets (Ev (sy (j-1) j0)))};rw[dV]
theorem azX:T.GP.Ok mg P w aj 11 (azW bJ dJ):=by refine T.GP.go ae6 aL;generalize aG=e3,aA=A,aF=outer,aE=s,aD=H,aB=vs,aH=Q,aI=E;rw[aN,M P5,aX,n J R g ls a0 x,co Y c0 sa,a'V];have FP:∀{b:Addr},gp->b∉gh:=fun{b}e m=>by{have⟨vs,d2,_⟩:=h.c;rw[ben,Bl,apM,az,dV,dV]};rw[c _ (X ae6.nd (bh aZY apK aq) (D yy aw cu (ij T.aVd)) (gt ae6.nd apK (ai (aj uY bP T.avA (ij T.aVe)) (yu (dJ T.T8.h aZ4 T.T8.b)) (a6 (dD bP aw) (dD bP aq) (ado bS bE ari) ana)))) J dx _ hd tQ (a J R g ls rfl h Y ?_)];rintro _⟨a,b2,X,G,rfl,j,c6,n1,n2,u⟩;rw[d a f_ b2 X G a0 x (a j c0.nil DA.2 sa (fun v a8 a4 b8=>?_))];have a3:=uq;unfold LR at b8;have c1:KP (match XG f_ x with| .error none=>b9=[-2]/\ou R| .error (some e)=>b9=IL e/\ou R| .ok b6=>mm (b9=[-3]/\ou R) (b9=[0]/\ou (WD x b6))):=k;delta XG at c1;cases D:ajA f_ x with|none=>{rw[D]at b8 c1;subst b8;refine ai (ay) (fd (c1 l _ [-2] (cG (eX xD)) (gV a5) ak (bd (akt xD))))}|some d=>rw[D]at b8 c1;simp only at c1;obtain⟨b6,B,e7,i,I,rfl,d',N,c9,g9,F,g4,h3,h6⟩:=b8;rw[bu];have⟨h4,Z⟩:=a3.at_;rw[c J h4 Z tQ J R (f g ls a3 (as Y))];rintro _⟨b,i2,h7,i7,rfl,M,_⟩;rw[d B b6 e7 i I _ (aa f_) (a d' (a b i2 h7 i7 (bd M)) N (sN (by cases z;exact DA.2)) aH6)];rw[c9]at p;rw[QR,fe (akt b5)];cases a7:zN d with|some e=>{rw[a7]at p c1;have⟨t,b0,d1⟩:=p;subst b0;rw[Q rfl _ e ⟨p,fun l d4 c8 d6 h2=>c1 l _ (IL e) (cG (IA c8)) (aFz d6) h2 (bd (XH c8))⟩]}|none=>rw[a7]at p c1;subst p;have c2:=g9 a7;subst c2;rw[bu];have⟨W,d7⟩:=a9.at_;rw[y J W d7 gH (v DX zd Ka)];{rw[kl (fd (c1 l _ [-3] (cG (IA xD)) (aFz a5) ak ?_))];simp only;rw[J (aK l_) ⟨fY,XH xD⟩]};{rw[c J W d7 tQ J R (M g ls a9 Y (fun d4 c8 e2=>?_))];have n:=B (cG i9) c8;have b4:zc bJ gh b7 (.ref B) b6:=f B e7 i I (d'.mono b5) (FP F) bz ⟨bz,FP h6⟩;have⟨c4,c3⟩:=e2.at_;have⟨vs,d2,e9⟩:=e2.c;have i5:iO<=65537:=by{rw[qY];rw[eS];have:=NN;have:=aks;grind};rw[fV,y J c4 c3 gH (KH (f5 i5))];have e5:=e2.azU (eC e9 (b4.sb c8 a9.nt));have k9:SB gh d4 (aV d4 g vs (.ref B)):=hn (tr d4) og;have r:=(c0.sb n Oo).sb k9 e2.nt;have U:=tp k9;rw[f d4 g (vs++[.ref B]) e4 e5 r U];have⟨c5,c7⟩:=e5.at_;have⟨b1,q2,f6⟩:=e5.s;have d0:ly<=65536:=by{rw[NZ];rw[eS];have:=aks;grind};rw[y J c5 c7 gH (cR q2 b1 q2 (f5 d0)),eS (e5.sets (eC f6 r)),au S gh (aV e4 ls b1 a0) (U.put Y_),i e4 ls (b1++[a0]) g6 f S];have⟨q,y⟩:=f.at_;rw[y J q y gH (n1 q y)];rw[ags];rw[bbq];show KP _ _ _ _;rw[e];have b3:=f.azL (dx:=q) jJ;rw[au C gh (upd g6 J (.ins dJ q (g2 (ae jJ)))) (S.put bK),kl (fd (c1 l _ [0] (C.trans (cG xD)) ?_ ak ?_))];{cases O:H l with|none=>{rfl}|some o=>by_cases m:l∈gh;rw[cF a5 (b3.live m)];{rw[C l o O m]at a5;cases a5}};{simp only;rw[aO bM];exact⟨fY,aE_ xD⟩}}
universe z
universe GA
namespace GA
open PySem PySem.Spec PyProof.Rows L2
noncomputable def US(b:Gla.Bytes)(p:Nat):Nat:=q9 (H8 b p 1) (H8 b (p+1) 1)
theorem azY{c:UInt8}{k:Nat}(c3:k<256)(e:eC=k):c=aiP k:=by apply aDb;rw[e,aDc];exact bt (er c3)
theorem azZ(b:Gla.Bytes)(p:Nat):aku b p=match b[p]? with|none=>aKg|some c=>E (4<eC) 5 p (cu eC (match b[p+1]? with|none=>aKg|some n=>E (QO=ai) 5 (p+1) (E (cw<p+AQ) 6 cw ae)) a9I):=by delta aku Gla.stepSize;cases b0:b[p]? with|none=>{rfl}|some c=>simp only;by_cases e5:4<eC;{rw[aK e5];rw[ff ah,ff ah,ff ah,ff ah,ff ah]};{rw[aO e5];have cs:aMM:=by{rw[el]};delta US;rw[(Oq b0)];rw[aMQ];{have z:c=0:=azY ay e;rw[aK z,aK e,e];cases d1:b[p+1]? with|none=>{rfl}|some n=>simp only;cases hw:QO with|false=>{rfl}|true=>rw[cO];simp only;rw[(Oq d1)];have b9:2+8*jz+12=14+8*jz:=by{simp+arith [*]};rw[b9];rfl};rw[ao4,ao4,ao4,ao4]}
inductive az0(K:Fg)(vs:af)(H:Hp)(Q:VK)(E:XK):Prop|mk:m4 (A [cC] tH (x7 J7) (az0 K vs H Q E))
inductive az1(K:Fg)(vs:af)(H:Hp)(Q:VK)(E:XK):Prop|mk:mH (GM.yS b) (az1 K vs H Q E)
inductive aZ5(b:Gla.Bytes)(p:Nat):Prop|mk:∀c:Mq,i aKe (eC<=4) (DY aLB) alR
inductive agx(K:Fg)(vs:af)(H:Hp)(Q:VK)(E:XK):Prop|mk:ov (j9 AQ) (agx K vs H Q E)
inductive az2(K:Fg)(vs:af)(H:Hp)(Q:VK)(E:XK):Prop|mk:lH (gc (aku b p)) (az2 K vs H Q E)
inductive az3(K:Fg)(vs:af)(H:Hp)(Q:VK)(E:XK):Prop|mk:∀(l:Addr)(b:Gla.Bytes)(p:Nat)(n:UInt8),e [cC,jN] tH aLB (p<2^30) ((∀a i7 b8 L,j bQ (L a=aa (.tup bb8)) (Y i7) (dB dG L i7 a'7) (sv L b8 (aDF b (p+2+8*jz))) Pe)->az3 K vs H Q E)
def StF(H L:Hp)(v:V)(x:Gla.Step):Prop:=∀N:bg,V b N (H b≠ae)->mA N L v x
inductive az5(K:Fg)(vs:af)(H:Hp)(Q:VK)(E:XK):Prop|mk:ov (p<2^30) (f4 (StF H L v alS)->az5 K vs H Q E)
section z
theorem az6:T.awD.Ok P w aj 2 (az0 K):=by refine T.awD.go aUb aL;generalize aG=e3,aA=A,aF=outer,aE=s,aD=H,aB=vs,aH=Q,aI=E;rw[aN,M fP,aX,Ft,dt a5,co (cn (cS me me)) 8 4 (a l b 12 4 rfl jT ay (y_ (k b7 eN)))]
theorem aZ6:T.awC.Ok P w aj 3 (az1 K):=by refine T.awC.go aUa aL;generalize aG=e3,aA=A,aF=outer,aE=s,aD=H,aB=vs,aH=Q,aI=E;rw[aN,M fP,aX,Ft,dt a5,aj (GD T.avC) (KM (GT T.avB)) (aj uX (dK az6) T.avA ua) (D uX (cS amn me) nB (dO nB)) cu,dZ GM.yS,dk pQ ?_];rw[dC];rw[kj,beF];{rw[ec l_,bg9,bg7];rw[g7]at a9⊢;intro o d0;rw[baw,Ij aIp];rw[GS];rw[g0 aIp zY zY];generalize a7U=b7 at b5;rw[b1 xi zY];{rw[dH (D.mpr e)];rw[ec hS,y l b (WK a5) (fun d4 m=>?_)];have c8:=fg m;rw[bD a_N,e4 bdt (ay) (hG (wV cm))];{rw[ec bdt,aR 4 4 (c8.seq a5) (fun e4 c9=>?_),l9 c9,n6 Jy];rw[dC];refine fF (fun i0=>?_) (fun i0=>?_);{rw[fW l_,dk (.inl Jy) aGE,J dC (ax (mX cm) lQ)]};{rw[ec l_];exact ax d9 rfl}}};{rw[ea (ai (e (D.mp q)))];rw[fW e,kl (hG (fg cm))]}}
theorem az7:T.step_size.Ok P w aj 1 (agx K):=by refine T.step_size.go ae8 aL;generalize aG=e3,aA=A,aF=outer,aE=s,aD=H,aB=vs,aH=Q,aI=E;rw[aN,M Aq,aX,RE];rintro rfl a5⟨c,b0,i0,d1⟩k;have nc:=Oq b0;rw[ca (X ae8.nd (avu K (GT T.aVg) Qr) (bm gM Qr (gi IK) (eS 2 ae8.nd (ll F2 (gi WO) (eC rr)))) (df aw))];intro o d0;have g:∃z:Nat,K ([cp 14,cp 5,cp 11,cp 15,cp 3]:af) eC (vn z)/\(eC=0->z=14)/\(eC≠0->z=AQ):=by{delta US;rw[nc];have cs:aMM:=by{lia};rw[aMQ]<;>rw[e];{simp};{simp};{simp};{simp};{simp}};obtain⟨z,d2,O,z1⟩:=g;rw[r l (vn eC) a5 aoA (D o z d0 (dX d2) (D l eC a5 aoA gJ))];rw[dN];rw[aoW];{rw[qI eC,bb3,r l (vn jz) a5 ?_ (o5 yp gJ),l (A5 j2)];{rw[dZ US];rw[nc,d3,Oq j2]at k;rw[iR (O d3)];subst c1;exact k}};rw[Z (z1 ah) k]
universe z
section z
theorem aZ7:T.awF.Ok P w aj 2 (az2 K):=by refine T.awF.go ava aL;generalize aG=e3,aA=A,aF=outer,aE=s,aD=H,aB=vs,aH=Q,aI=E;rw[aN,M Aq,aX,RE,dt a5,ca (X ava.nd (dO nB) (D uY aq nB aw) (a6 (aj uX Qr T.afq (dO aq)) (ai gM Qr (gi IK) (D uY rr nB aw) (bx T.avy (eC rr) T.avz (dO rr))) (D uX (cS aq (b4 az7 aq)) nB aw) cu)),bs azZ,dk pQ aGE];rw[dC];rw[aj a4 (ad t ao3) cm,e b4 H t ao3 t ao3,is (ad t ao3)];have a:GD a8 nu aKg:=aP t b4;rw[n6 jT];rw[dC];rw[kj];{rw[bs (zE (x (aDe c)))];exact p7 a};have lt:p<cw:=by{rw[fw (aDf c)]};have b0:=dd lt;generalize b[p]=C at b0;rw[bs b0,amd,bJ aoA,ai l jT m a_O,e4 l_ es (m0 bcS)];have d':¬4<aFA:=by{rw[fT]};rw[ec d'];have last:alR->gc a9I->∀M:H4,i (K M 0 tR) (K M 1 (bE p)) (K M 2 (ac t)) (R9 (uZ (BA a9x (BA (p9 (i+j)) (ho 1) (F3 (agx K) [] E0 (qu (ho 0) (hF (ho 1))))) (KR (KX K) (hF (ho 0))))) (R8 (ho 2)) ada {nx:=R8 (tC .bC) a68,rt:=Q} M a8):=fun c3 B M b1 a3 a9=>by{delta R9 uZ BA F3 KR qu r_;refine wR a3 (wR b1 (wR a3 (m l b p (v jT c3 (wR b1 (f l _ (.inl jT) ?_))))));rw[dC];rw[aoW];{have d3:cw<p+AQ:=by{rw[fT]};rw[aK d3]at B;delta R8;exact wR a9 (B _ _ a4 a)};{have d3:¬cw<p+AQ:=by{rw[fT]};rw[bj d3]at B;exact B _ _ a4 rfl}};rw[ai l jT m gJ];rw[dN];rw[aoW];{rw[qI aFA,fW d3,n6 jT];rw[dC];rw[a_V];{have I:cw<=p+1:=by{rw[fT]};rw[bs (zE I)];exact p7 a};have I:p+1<cw:=by{rw[fT]};have d1:=dd I;generalize b[p+1]=n at d1;rw[bs d1,amd,ad r (BC kF (v p+1)) (vn jz) (A5 d1),ai l jT r Ph];have o:QO=ai->E u (gz u) (Q (.ref u) (upd a8 u (g8 5 (v p+1)))):=fun z u hu=>by{rw[fW z];exact bcS};rw[aoX];{rw[i6 (! bi (v jz) 64)];refine fF (fun g8=>?_) (fun g8=>?_);{have z:QO=ai:=by{delta jC;simp at g g8⊢;lia};exact⟨es,bdA⟩};{have z:QO=ab:=by{delta jC;simp at g g8⊢;rw[t_]};rw[ec (axj z),P7];rw[Bx];refine Dn (d C b0 ag (au ⟨n,d1⟩)) k _ ?_ ?_ ?_<;>rfl}};{have z:QO=ai:=by{delta jC;simp at g⊢;grind};exact⟨es,bdA⟩}};{rw[zv aFA,ec d3,P7];rw[Bx];refine Dn (d C b0 (j0 d') (J (cy z d3))) k _ ?_ ?_ ?_<;>rfl}
theorem aZ8:T.awG.Ok P w aj 4 (az3 K):=by refine T.awG.go aUc aL;generalize aG=e3,aA=A,aF=outer,aE=s,aD=H,aB=vs,aH=Q,aI=E;rw[aN,M oc,aX,al l b p n,av a5 d1 c2 k];have v3:=n.toNat_lt;have f3:=qJ;rw[eZ (X akv rr (bU 3 akv (cV aw WO (eC rr))) (bo (e akv 4 (e7 aw bb (gi WO)) (cj "at" 5) (ci 5 akv) kK (bC (b4 Ui cJ))) (cr (gi IK) bR (b4 afA bb)))) (D l jz a5 (A5 d1) (b _ _ rfl rfl yp _ _ (as rfl (b2 (p+2) jz 8 aQ) (fun Z f=>axl (n:=jz) dk (dJ (aa (ai_ b (p+2+8*i)))) f (eI v3 fw) ?_ ?_)))),cb j2 (p+2+8*i) (zH a5) bhh];intro a8 c5 a4 b4 e9;rw[eT e9,nd (p+2+8*jz) (fun b8 b7 b5 r2=>?_)];{rfl};rw[v (yi) (fun a b3=>?_)];have g9:dB dG a8 Z a'7:=v c5 b4 e9;exact k a Z b8 _ (dL eN b3) ak f (g9.mono dk (fg (b_ b3))) a_o
theorem aZ9:T.step_at.Ok P w aj 5 (az5 K):=by refine T.step_at.go ae9 aL;generalize aG=e3,aA=A,aF=outer,aE=s,aD=H,aB=vs,aH=Q,aI=E;rw[aN,M Aq,aX,RE];rintro rfl a5⟨c,b0,i0,d1⟩c2 k;rw[d _ (X ae9.nd Qr (aj gM aw IK (b4 aZ8 aq)) (i 3 ae9.nd Qp (fn T.LJ T.LJ Qp) (bX (fn T.LK T.LK (b4 Ui rr)) (fn XF XF (b4 afA rr)) (as (gi T.afq) bb)))) l _ _ (vn eC) rfl (aJ a5 aoA),dZ a51,amd,bs (Oq b0),bu];rw[dN];rw[aoW];{rw[qI eC,bb3];rw[aK d3,Oq j2]at k;rw[b l b p n rfl a5 j2 c2 (fun a i7 b8 L s d0 c4 D c1=>k _ L s (mO (m a i7 b8 (d d0 D c1 (bo (hN i7 m c4))))))]};rw[ec ah,fZ (p+1) a5 aJT];{rfl};rw[bu];rw[dN];rw[a_V];{rw[fW bz,fZ (p+3) jT (fun b7 b5=>?_)];{rfl};exact zL (aP a ak)};rw[ec bz,bu];rw[dN];rw[aoX];{rw[fW bz,nd (p+3) a8v];{rfl};exact zL (f a v ak (hH (GC b3) r2))};rw[ec bz,bu];rw[dN];rw[aoX];{rw[fW bz,nd (p+3) a8v,dV];exact zL (f a v ak a_o)};rw[ec bz];exact mS (fun a b3=>ax (ls b3) (mO (aP a ak)))
universe z
inductive agy(C:Addr)(H L:Hp)(v:V)(r:Gla.Plan):Prop|mk:∀a b2 X G,b v bc (g3 L r) (Y a) (Y b2) (Y X->Y G->agy C H L v r)
inductive az8(K:Fg)(C:Addr)(vs:af)(H:Hp)(Q:VK)(E:XK):Prop|mk:m4 (e [cC] tH (Kr (akw b)) (∀r a y L,b (akw b) (.ok r) bQ (L a=aa (cP .bC y)) (agy C H L y r) Pe) (az8 K C vs H Q E))
theorem fW.sb{K:Fg}{N:bg}{H L:Hp}{l:Addr}{O:af}(h:h7 O)(s:uA)(m:l∉N):fW K L l O:=q4 (dR h m) (dR h m)
theorem az9{K:Fg}{H:Hp}{a:Addr}{ns:aT}(h:mx xK):cs bc aGV:= .lst h (afB ns)
theorem aZ_(ns d8:aT):jv aGV (.list (HQ aDG))=ar ns d8:=t jv (afC ns d8)
theorem az_(ns:aT):iD aGV:=Ik (aDH ns)
noncomputable def Md(b:Gla.Bytes)(r:Gla.Plan)(p:Nat):bZ Mo:=match a52 b J7 r p with| .error e=>rB| .ok (_,q)=>E (q<cw) 8 q ae
inductive az'(K:Fg)(u CR:Addr)(vs:af)(H:Hp)(Q:VK)(E:XK):Prop|mk:∀(J l:Addr)(b:Gla.Bytes)(p:Nat)(r:Gla.Plan)(g ls:Addr),e [.ref J,cC,jN] (dH H (kz r)) (wX r) tH (c (l∉gh) aHD (p<100000) (J7<=65536) ((∀e v L,i (Md b r p=aa e) Az (GD L v rB) (Q v L))->(∀R q L,c (GM.vj b J7 r p J7 R q) (¬q<cw) Az A_ IU)->az' K u CR vs H Q E))
section z
theorem aAa:T.awc.Ok P w aj 10 (az8 K bJ):=by refine T.awc.go TC aL;generalize aG=e3,aA=A,aF=outer,aE=s,aD=H,aB=vs,aH=Q,aI=E;rw[aN,M fP,aX,Ft,aV a5 c0 f7,ca (L TC.nd (dK aVY) aIv (i 2 TC.nd (dK aV0) (bU 1 TC.nd (bh azq aw cu)) (bo aIv (as cu aw))))];rw[GM.auR]at c0 f7;rw[y l b a5 aID];cases b4:NW b with|some e=>{rw[b4]at g4 c0;rw[n7 g4,xR,eX rfl (eX cm) g4]}|none=>rw[b4]at g4 c0 f7;simp only at c0 f7;subst g4;rw[Q rfl l b (v jT b4 (fun a b2 X G b7 b5 c7 b0 a0 d6 d1=>b a (DF b) b2 X G ae rfl (ax c7 (GM.auQ b) (sN (YF)) (fun v d4 c8 h6=>?_))))];have n:=B eN c8;cases e7:zN (DF b)with|some e=>{rw[e7]at h6 c0;have⟨u,d0,b3⟩:=h6;rw[xR,eX rfl (tp cm) h6]}|none=>rw[e7]at h6 f7;subst h6;refine ai es (fm (f7 _ t _ _ rfl (tp cm) ak (f a b2 X G (bN (c7.mono c8) cm) (gV b0) (gV a0) ⟨gV d6,gV d1⟩)))
theorem aZ':T.awE.Ok P w aj 12 (az' K bJ dJ):=by refine T.awE.go TJ aL;generalize aG=e3,aA=A,aF=outer,aE=s,aD=H,aB=vs,aH=Q,aI=E;rw[aN,M ob,aX];generalize kQ=J,kR=l,kS=b,kT=f,kU=r,kX=g,k_=ls;rintro rfl h C a5 d6 U j a7 c0 f7;rw[ca (b4 (mz (os (j7 az6)) (sF 3 TJ.nd) (i 4 TJ.nd (bh aZ7 aq aw) (dP bR bR) (c8 (D al2 (jk bS gH T.GP.h (ez azX) a6 T.GP.b .nil fp (dY (bh aZ9 aq aw))) ana (dO aw)) (eS 2 TJ.nd (bh az7 aq aw))))) (D lq aw (dN aq) (dO aw)) cu)];generalize hN:J7=N at*;rw[y l b a5 aJT];rw[hN];rw[aP (v N) rfl aQ (x (nw a7))];rw[iQ];rw[fw N (fo (GG (fun(p:Nat)(R:aDo)(j8 b1:bZ V)=>GF (M=[ac J,tR,bE p,j8,b1]) Az (ou R) (GM.vj b N r f i R p) (p<100000)))) (f f _ ae ae (cG a4) uq (GM.aSw C f) j)];{refine Aq;rw[cp i M L];rintro hi⟨p,R,j8,b1,rfl,s,hR,I,c2⟩;have h1:=zn s;rw[Q l b p ⟨h1,fun v b7 b5 h3=>?_⟩,ci (il (cG b5))];have X:=akx b5;cases c9:aku b p with|some e=>{rw[c9]at h3;rw[n7 h3,xR,v rfl (c0 e _ _ ?_ q h3)];delta Md;rw[hN,I.fail hi c9]}|none=>rw[c9]at h3;subst h3;rw[bu];have⟨c,b0,i0,k⟩:=GM.aeR c9;have kd:alR:=d c b0 i0 (J (let⟨n,d1,_⟩:=k z;⟨n,d1⟩));have⟨W,d7⟩:=X.at_;rw[c J W d7 tQ l b (c p rfl (WK h1) kd (x (fH c2 tx)) (fun a0 d4 c8 d2=>?_))];have sa:=GM.auO c9;rw[g J R g ls a0 alS (X.mono c8) (d Vb (d2 _ (fun x m=>X.live m)) sa (fun F e4 b9 d9 O Z D=>?_)),v (en 1) (fun j7 k0=>?_),T f9 e4 (U e4 j7 hb) k0];have B:=b_ (VS (cG c8)) d9 (cG f9);rw[a c1 e4 j7 hb j7 hb];have d:=hy Z;generalize U e4 j7 hb=g6 at f9 B c1 d;rw[K _ (az9 (av d)) (az9 (ns:=[0]) (av c1)) (aJ (az_ _) (az_ _))];rw[aZ_];have b8:=GM.Tr I.ok.cur.2 sa.ok;have f6:(bdn)->E t (g6 t=ae) (Q nu (upd g6 t (d_ 7 jN))):=fun c5 t c6=>by{refine oQ 7 (B.trans (cG cm));delta Md;rw[hN,I.no hi c9 c5]};unfold agw at D;cases g9:XG f_ alS with|error y=>{have c5:bdn:=fun b6 z=>ah;rw[ea (by cases y with|none=>{rw[g9]at D;rw[D.1];decide}|some e=>rw[g9]at D;rw[D.1];delta IL;rw[tL];cases z)];exact mS (fm (f6 c5 t c6))}|ok b6=>rw[g9]at D;simp only at D;rw[z BI (b1 R.d) I.d pN];rw[bj ag]at D;obtain⟨rfl,o⟩:=D;rw[dH rfl];have Y:=Mw a7 hi c9 (T:=b6) aIO;rw[b l b p rfl (zn B) kd _ _ (h6 ?_),bN a3 (GM.Ly b p) AQ (GM.aSv c9)];rw[a3]at Y;rw[b (p+AQ) _ (aa (cp (0+xv))) al4 rfl B (o.mono f9) Y ?_];{have:p+AQ<=cw:=by{have z:=c9;rw[azZ,b0]at z;simp only at z;rw[bj ag]at z;rw[d3 u eC];{rw[fT]};rw[az]};exact Ri}};{refine fP;rw[X1];rintro⟨p,R,j8,b1,rfl,s,hR,I,c2⟩;rw[n6 (zn s)];rw[dC];rw[kj];{rw[v es (fm (oQ 8 (il (cG cm))))];delta Md;rw[hN,I.done];simp only;rw[aK (x (Bs c))]};rw[l (f7 R p L I (fX (gv z (Bt c))) s hR)]}
universe z
theorem a0a{I:Type}{R:kh}{K:Fg}{l d:Addr}{j o:Nat}{b:L2.St}{G H:Hp}(A:∀L v a,cZ G L->R G v a->R L v a){D:Ends}{Y:ba}(f:I->aDP){B:Gla.Bytes}{e8:Sp}(a5:a'2)(nd:G d=ae)(s:cZ G H)(hd:am d (bV B))(c9:bcO)(b1:b=ajk j ae)(c:bdM)(e:a'4)(C:biO)(k:bgR):biF:=Li (A _ _ _ a4 J)
inductive aAb(vs:af)(H:Hp)(Q:VK)(E:XK):Prop|mk:∀(v:V)(x:Gla.Step),e [v] (mA [] H v x) (GM.aeO x) (l7 (aky x)) (aAb vs H Q E)
theorem bj4(c:UInt8)(b:Gla.Bytes):bV (c::b)=vn eC::kF:=rfl
section z
theorem a0b:T.awA.Ok P w aj 4 aAb:=by refine T.awA.go ae7 aL;generalize aG=e3,aA=A,aF=outer,aE=s,aD=H,aB=vs,aH=Q,aI=E;rw[aN,M fP,aX,bV v x,aV c0 W k,Br,bhi];have R:∀p,t (bV (qW p))=8:=bn bI;have D:∀m,t (bV (H9 m))=12:=bo bI;rw[ca (L ae7.nd (d9 kH) (rZ (dZ gM kH (gi IK)) (bX (dD aq (dN kH)) (bd kH 2 ae7.nd (eA aq (a7 Uj aw))) (j9 aq afE)) By) (ai (eA aq ane) (mV T.LJ Uh) (bX (mV T.LK Uj) (mV XF afE) aq)))];cases x with|lead row m=>{rw[qJ a b3,b6 a3 a7 I];obtain⟨⟨r2,c,d1⟩,h5⟩:=W;rw[aa0,aj a4 (ap d hb) xt,ar b4 H hb hb,is (ap d hb),CE (a (cx OD) dr i7 _ rfl (cc (dj a3)) d _ (f _ rfl b4 (as (bB))))];have f5:(anh++[gZ kx])=aax:=by{rw[akm];show [cp 0,gZ ff]=hz 0 (zh ff);have:zh ff=ff:=by{simp[*];exact cV c};rw[nY];rfl};rw[f5];rw[aj b5 (U a8 d aax) (gb a4),ar b9 a8 aax aax,i a8 d aax b7 b5 b9,pq (aFB qW) ff,ab N (bb5).length 2,da a (gH b3) (bj i7 (dB c5 (gH a3)) (Um (j:=2) (o:=1) dk qW (a53 (v c5 a3 a7)) nd b5 b9 l_ rfl gW gW (fun x p L h4 Z O J B=>M x p J.px (d1 p Z) B) (fun j8 d4 c8 e7=>as a (dn b3) rC (M b8 m (tj c8) h5 (vl (by rw[dC,cj,d2,N,D];rw[jY])))))),Rh,ce F (bb5++aFB qW++H9 m) (aky Rn)];rw[F]}|erase i j=>{rw[ak rfl b3 c0,aa0,s9 1,lC 1 1,sZ 1,u8 W.1,lw 1 (dC 1)];rw[f5];rw[u4 (dC 1),ar e7 b7 (dC 1) (dC 1),g1 d (dC 1),CI (f rC j W.2 (vl bz)),Rh];rfl}|move i p=>{rw[w u rfl b3 c2 c0,aa0,s9 2,lC 2 2,sZ 2,u8 W.1,lw 2 (dC 2)];rw[f5];rw[u4 (dC 2),ar e7 b7 (dC 2) (dC 2),g1 d (dC 2),AP (a X2 rC u p rfl (bL c8 c2).px W.2 (vl bz)),Rh];rfl}|mark i m=>{rw[w b8 rfl b3 c4 c0,aa0,s9 3,lC 3 3,sZ 3,u8 W.1,lw 3 (dC 3)];rw[f5];rw[u4 (dC 3),ar e7 b7 (dC 3) (dC 3),g1 d (dC 3),AP (b X2 dh rfl a _ _ rfl (a rfl X2 rC b8 m rfl (tj c8) W.2 (vl bz))),Rh];rfl}|drop i=>rw[ak rfl b3 c0,aa0,s9 4,lC 4 4,sZ 4,u8 W,lw 4 (dC 4)];rw[f5];rw[u4 (dC 4),ar e7 b7 (dC 4) (dC 4),g1 d (dC 4),AP (cg X2 dh (k d _ c8 nd e7))]
universe z
inductive aAc(u CR:Addr)(vs:af)(H:Hp)(Q:VK)(E:XK):Prop|mk:dE xW (a1 (t Qa)) (l7 Qa->aAc u CR vs H Q E)
section z
theorem a0c:T.awz.Ok P w aj 5 (aAc bJ dJ):=by refine T.awz.go aT_ aL;generalize aG=e3,aA=A,aF=outer,aE=s,aD=H,aB=vs,aH=Q,aI=E;rw[aN,M oc,aX,RG,av h Y c9 k,fV,fD,Q_,J3,de aC_];obtain⟨j,e5,y,b2,X,G,l,f,_⟩:=mx e9 e.1;subst l;have e8:=e.2.Gw;have q1:=GM.aeC tl;have dl:=wL;have few:=aks;rw[bT (L akz (a7 axq (f1 bE)) (bU 2 akz (us (GT T.avB))) (a6 (an (adi (cr (dN aq) bP apJ)) 3 akz (eA aw (a7 LN bb))) (eA aw aq) (an pI 4 akz (eA aw (a7 a0b bR))) aw)) J (b hd gH T.TR agt g _ Ap (a rfl rfl (av d2) (dX (j:=0) e5) y tl b2 X (ax G f e.2.fits (pj (D9 (fun d c=>?_))))))];have nd:=gV c;rw[ab m8 (q8 72:af) P6];rw[m8];rw[aj b5 (U a8 d P6) (ls c),ar b9 a8 P6 P6];have c5:=b_ (o:= .lst P6) c _ _ b4;rw[ck k2 d a7,f a8 d P6 b7 b5 b9 c5,fe (gd b5),ks d7 a9.at_,b a7 _ rfl (cc c5) J _ W _ (j d7 gH DX zd J W (j d7 tQ J R g ls (a rfl a9 dl (yi) Zp)))];rw[dC];let b:ao:=[t (NY tl),R.d,ub];rw[e c3 b7 t aGZ t aGZ,ci (fm b9 h7),bD t (aW (cx c3)) (cl (wO vn) (fo (GF (∃v,M=[ac J,ac a7,rx,v,ae]) bQ (L t=aa aGZ) (aj a7 (bV (NY tl))) (ou zY 4))) (a qg (fg (b_ h7)) c3 (co h7 c5) ?_) z.3)];{rw[bW q];simpa using b9};{rintro i x M L S⟨⟨v,rfl⟩,f9,i2,j1,j2⟩;obtain⟨n,rfl,b0,d1⟩:∃n:Nat,x=jf/\A b n/\bk n:=by{rw[gt S,a2 n b0 S,bD n b0 ?_];have:=bO b0;rw[hA b];lia};rw[y (dq j2) n d1 (fun i1 d4 m u e7=>?_),FZ b0,n d i1 (m _ _ j2) e7 (a ?_ ei (gb (mW m)) ?_ (as ?_))];{rw[dC,dC,cj,op 4 4,ph,eS];rw[bfD];have:Gla.SAVED.length=4:=rfl;lia};rw[gN zz (m _ _ i2),gN k2.symm (m _ _ j1)];{rw[ak,<-qD,dv,g9,zL,ajm]}};rintro M g6⟨⟨v,rfl⟩,f9,i2,j1,j2⟩;have j2:b5 (g6 d) (bV (zY++ak8)):=j2;rw[ce r (t (zY++ak8)) 16,c (dq j2) d a7 _ _ rfl j2 (aJ j1 (by rw[dC,dC,r,q1];lia))];rw[<-qD];rw[aj h1 (U g6 d ao2) (gb f9),ar j9 g6 ao2 ao2,i g6 d ao2 h5 h1 j9];have D:zY++ak8++NY tl++R.ss.flatMap aky=Qa:=by{delta a55;rw[R.all,Y.aeQ,Y.auK];simp[b,dv]};obtain⟨F,I⟩:=(gd h1).at_;rw[y J F I gH (s T.TU agu ls (dB b1 (iP q2)) (a0a (R:=mA gh) (j:=4) (o:=2) (G:=H) (fun L v a s z=>a54 (cG s) Oo) aky (v b1 (av q2) f6) nd h1 j9 aGS rfl gW gW (fun x p L h4 Z O C B=>M x p C.nil (aiM p Z) B) bhw))];rw[j8,D]
universe z
inductive aAd(u CR:Addr)(vs:af)(H:Hp)(Q:VK)(E:XK):Prop|mk:m4 (e [cC] (am l kF) aHD (Kr (akA b)) ((∀R a J g ls L,b (akA b) (.ok wM) xW bQ (L a=aa (cP .bC (.ref J))) (c A_ (Y J) (Y g) (Y ls) Pe))->aAd u CR vs H Q E))
section z
theorem a0d:T.awB.Ok P w aj 13 (aAd bJ dJ):=by refine T.awB.go aT' aL;generalize aG=e3,aA=A,aF=outer,aE=s,aD=H,aB=vs,aH=Q,aI=E;rw[aN,M fP,aX,Ft,av Z U c0 f7];have a5:tH:=av Z;rw[K (L Ot (dK aZ6) aIv (i 2 Ot (cS amn me) (bU 3 Ot (a7 aAa (ld amn aw))) (ai (dP xZ (as (dO (cS amn (di xZ))) cu)) (bU 4 Ot (Cg xZ)) (i 1 Ot (Z aZ' bR bS aw) (dP aq (as aq cu)) (bo (an (os me) 5 Ot (yu (Sj bR gH T.GQ.h (ez azT) a6 T.GQ.b .nil fp))) (as cu bR)))))) l b (ai a5 aID)];cases b4:GM.yS b with|some e=>{rw[b4]at g4;rw[n7 g4,xR,eX (GM.aSy b4) (eX cm) g4]}|none=>rw[b4]at g4;subst g4;rw[bu];have⟨⟨a7,a9⟩,C⟩:=GM.auP b4;rw[aR 4 4 jT (fun b7 r2=>?_),gT (eX r2),ce b8 aKO (ae (16+xA)),dk (WK a5) J1,aj c8 (U b7 d (jl kF (gG 16) (aa aKO))) (fg xt),y d (yx xA) (av (vE (by rw[b8];have:=afz b 16 (16+xA);rw[am (hq (16+xA-16) xA)];exact this))) ⟨fun e a x e4 m c9 d0 n=>?_,fun r a y e4 m c9 d0 J=>?_⟩];{rw[g8 n,rE,wy (bh dh u (cx hu) (v dr es (fun W k1=>⟨es,fun d8 c7=>c0 a9V d8 _ _ ag (dL (dL (wV c9) k1) c7) ak (aP W ?_)⟩)))];rw[bW (J (by rw[fq ak c7];cases c7)),ak];rfl};{rw[l9 c9,wy (as dr),mp dx,aM0,P sm e4 (cx e4 dx (aC dJ [])) Pw,cr dx r (j.mono sm) bh0];have S:=mX (FR fR);have c1:=sm.free b9;have c3:=sm.free e1;have d4:=fF Z;rw[b x l b (16+xA) r g ls ?_ (a b6 (GM.auS m) (av (S _ _ Z)) ?_ U aKo a7 (fun e v h5 p O f6=>?_) (fun R q h5 I d2 O hR=>?_)),az];{rw[jY]};{rw[bht,g8 f6,rE,eX ?_ (zK cm) f6];rw[C,m];unfold Md at p;simp only;cases c4:a52 b J7 r (16+xA)with|error d3=>{simp_all}|ok z=>have⟨z1,h6⟩:=z;rw[c4]at p;simp only at p⊢;split at p;rw[az,cY]};{rw[bht,c rfl l b 12 4 (h1.seq a5) ay (fun h9 b1=>?_)];have⟨N,Y⟩:=I.got b4 m d2;have Id:=I.d;rw[it I.l];have F:=ajj b 12 4;rw[show cd 256^4=4294967296 by decide]at F;rw[aP (ae akW) rfl aQ (w1 F)];rw[iQ];rw[fw akW (bi (∃i1,M=[tR,al4,aa (cp aKO),kJ,ac x,i1]) (SB [x,g,ls] h9 L) (aFC bJ dJ L x (ih (R.d-i)) g ls)) (v qg (cG eg) (akx b1))];{rintro i M i3 hi⟨⟨i1,rfl⟩,d6,k⟩;have⟨A5,p1⟩:=k.at_;rw[c x A5 p1 tQ x _ (M g ls k pA (fun _ i7 i4 D=>?_)),dV];{rw[ak ei (wZ i4)];have:R.d-i_=R.d-i-1:=bI;rw[J this D]}};{rw[bJ i3 i1 d6 k,ae a3 (R.d-akW) XS,bs a3,ga c5 i3 (d6 c o ((zK b1) c o z) fR),v es (fm (f7 (ih XS) t x g ls _ N Y (c5.trans cm) ak (k.mono cm) (WM nx) (WM c1) (WM c3)))]}}}
universe z
def BlV:Rl cb:=fun _ v b=>v=EU
theorem a0e:lu BlV:=aoS
theorem aAf{H:Hp}{vs:af}{bs:EN}(h:dD (BlV H) vs bs):vs=Vx CN:=a9B
theorem UT(ns:ao)(p q:Nat):ca je p q=bh (an (ns.drop p) (q-p)):=cy afy Dj Dk
theorem all_map(f:uv)(ns:ao):ez (wF f) id=ns.all f:=aQ
inductive aAg(K:Fg)(vs:af)(H:Hp)(Q:VK)(E:XK):Prop|mk:∀(l:Addr)(ns:ao),e [cC] (h7 je) (zm<hv) (ta (ns.all Za)) (aAg K vs H Q E)
inductive aAh(K:Fg)(vs:af)(H:Hp)(Q:VK)(E:XK):Prop|mk:q1 (ta (bag&&(ns g&&ns q))) (aAh K vs H Q E)
inductive aAi(K:Fg)(vs:af)(H:Hp)(Q:VK)(E:XK):Prop|mk:q1 (f4 (sv L v (v ⟨x,y⟩ g q))) (aAi K vs H Q E)
noncomputable def agz(row:eh):ao:=a_t
theorem agA(row:eh):t JA=2*ff:=by induction row with|nil=>{rfl}|cons a J d6=>unfold agz at d6⊢;rw[pa,cj,d6];simp;simp+arith [*]
theorem aAj:∀(row:eh)(i:Nat)(p:Pt),A row p->ap JA (2*i) p.x/\ap JA (2*i+1) p.y|[],i,p,h=>bB|a::J,0,p,h=>by{rw[cH];exact xG}|a::J,i+1,p,h=>x (aAj J i p bB)
theorem aAk{I:Type}(l:ba):∀k,i8 k (dJ l[i]?)=G9 k|0=>rfl|k+1=>by rw[ajx,aiT,aAk l k,DO];rw[dW]
inductive aAl(K:Fg)(vs:af)(H:Hp)(Q:VK)(E:XK):Prop|mk:∀(l:Addr)(row:eh),e [cC] (h7 (bh JA)) (ff<100000) (bA d (Y d) (dB dG L d row) ny) (aAl K vs H Q E)
inductive aAm(K:Fg)(vs:af)(H:Hp)(Q:VK)(E:XK):Prop|mk:m4 (e [cC] (am l kF) (cw<hv) (bA d (Y d) (aj d (L (kk (Ou b)::Ou b) cp)) ny) (aAm K vs H Q E))
inductive aAn(u CR:Addr)(vs:af)(H:Hp)(Q:VK)(E:XK):Prop|mk:∀(J:Addr)(R:GM.bT)(g ls:Addr)(n:Nat),e [xk,jf] ni xW (j9 bfx) (aAn u CR vs H Q E)
section z
theorem UU:T.awH.Ok P w aj 1 (aAg K):=by refine T.awH.go ae' aL;generalize aG=e3,aA=A,aF=outer,aE=s,aD=H,aB=vs,aH=Q,aI=E;rw[aN,M fP,aX,bV l ns,aV a5 c9 k,K (cn (a2 ae'.nd bS "length" ae'.nd T.aVv)) l rfl ⟨aW a5,fun Z f=>gH (av a5 (auX ns)) (mI n) c9⟩,Le x,apV,eT e9];have c3:=aAf e9;rw[jW,bA Z b4 ?_,J all_map (k a8 a4)]
theorem agB:T.awI.Ok P w aj 2 (aAh K):=by refine T.awI.go afa aL;generalize aG=e3,aA=A,aF=outer,aE=s,aD=H,aB=vs,aH=Q,aI=E;rw[aN,M iw,aX,F l x y g q,dt a5,cn (cn (Bw (a7 UU (rZ bS)) (R3 (a2 afa.nd (rZ bS) "number" afa.nd T.aVw)))) a5 J1,y d Jl (dK Py 0 2) ⟨aJY,fun b7 r2=>Ph⟩];have b5:=B (ac (ca (ii Py) 0 2) nd) r2;rw[aS f5 ((Jl).all Za) bag];rw[f5];rw[kj];{rw[qs c,a9r];have e7:N b7 c7 (lb Py 4) c7 (ii [g,q]):=vE (UT Py 2 4);rw[a7 c7 e7 (fun Z f=>gH (cd e7 (auX [g,q])) (ns n) aJY),Le z,bbO,eT e2];have c3:=aAf e2;rw[jW,bA Z g5 ?_];rw[all_map];rw[aS i2 ([g,q].all (eb (ns n))) (ns g&&ns q),J i2 (k e4 (B (fg (ac (lb Py 4) Y)) d9))]};rw[az]
theorem agC:T.awK.Ok P w aj 1 (aAi K):=by refine T.awK.go aUh aL;generalize aG=e3,aA=A,aF=outer,aE=s,aD=H,aB=vs,aH=Q,aI=E;rw[aN,M iw,aX,F l x y g q,dt a5,d _ (cn (KQ (vt (eC bE) (eC bE) (eC bE) (eC bE)))) l _ _ _ rfl (u a5 dr l _ (u a5 dh l _ (u a5 rC l _ (d a5 (ow 3) (en 4) (hG cm)))))]
theorem a0f:T.awL.Ok P w aj 1 (aAl K):=by refine T.awL.go afb aL;generalize aG=e3,aA=A,aF=outer,aE=s,aD=H,aB=vs,aH=Q,aI=E;rw[aN,M fP,aX,bV l row,aV a5 c9 k,fV,cn (cn (BE rfl afb.nd (e7 bE nB bE) (cj "at" 1) (ci 1 afb.nd) kK (bC (as (eC rr) Qr)))) pQ ?_];rw[bA,agA];rw[K _ _ _ (v ?_ (axn (lo:=0) (n:=ff) (c:=2) aQ (eI c9 c9)) (fun Z f=>?_))];{simp};refine ap ff dk row[i]? f c9;{intro i L h4 N hi s b6 j2;have c2:=pJ;have g:=aAj row i _ c2;rw[im (D l row[i].y (zH a5) ?_ (D l row[i].x (zH a5) ?_ a'X)),l (aFD (j:=2*i+1) OJ ag),l (aFD (j:=2*i) OJ ag),l (ab _ c2 cm lQ)]};rw[apV];refine k Z a8 a4 f (aJ d7 b4);have c4:i8 ff (dJ row[i]?)=row:=by{rw[aAk,H5]};rw[c4]at e9;exact e9
theorem aAo:T.awP.Ok P w aj 1 (aAm K):=by refine T.awP.go aUl aL;generalize aG=e3,aA=A,aF=outer,aE=s,aD=H,aB=vs,aH=Q,aI=E;rw[aN,M fP,aX,Ft,aV a5 c9 k,e _ (cn (ec (d9 nB) bS)) l _ rfl (cc a5) (EM) (fun t c6=>?_)];have a4:=ac [gZ (t kF)] c6;rw[n t l ak (dj a5) ⟨by rw[dC];show a1 (1+cw);exact cV c9,fun d nd=>k d _ (eX xt) (gV nd) ?_⟩];rw[ak,dC];have:t (Ou b)=cw:=cG Ou (bA _);rw[this,axi];rfl
theorem a0g:T.awO.Ok P w aj 2 (aAn bJ dJ):=by refine T.awO.go aUk aL;generalize aG=e3,aA=A,aF=outer,aE=s,aD=H,aB=vs,aH=Q,aI=E;rw[aN,M iw,aX,F J R g ls n,aV h Y k,fD,q5 (b4 (e3 T.aVq bP) (e3 T.aVr apJ) (dN (GN K apK)))];rw[dN];rw[kj];{rw[fW (show n=0 by simp at c;omega)];exact GR (v DX zd k)};rw[ec (show¬n=0 by simp at c;omega),bu];rw[dN];rw[aJ3];{rw[fW (show n=1 by simp at e6;lia)];exact a J dx _ rfl hd tQ J R (M g ls h wL k)};rw[ec (show¬n=1 by simp at e6;lia),y0 (as Y),bhm];obtain⟨b,d⟩:=j.at_;rw[di c4 b3 j.m,y a b d dR (bt jA jq G c4)];rw[b3.length];exact k
universe z
def aAp(c:GlaKeeps.Call)(p:Nat)(ns d:ao):Prop:=match c with| .open_ b=>a89| .bare w h m=>ds 2 aKv| .lead row m=>HW JA| .erase i j=>ds 4 [i,j]| .move k q=>a'b| .mark i m=>ds 6 aGQ| .drop k=>ds 7 [k]| .undo=>ku 8| .redo=>ku 9| .count n=>ds 10 [n]| .plan=>ku 11| .save=>ku 12| .read b=>a8_
theorem a0h(row:eh):(ez JA Za)=XI qV:=by induction row with|nil=>{rfl}|cons a J d6=>unfold agz at d6⊢;rw[pa,aEY,d6,MW];delta qV zG;simp
inductive aAq(K:Fg)(vs:af)(H:Hp)(Q:VK)(E:XK):Prop|mk:∀(c:GlaKeeps.Call)(p:Nat)(ns d:ao)(l c0:Addr),g1 (aFE c=ai) (ta (wN c)) (aAq K vs H Q E)
inductive aAr(K:Fg)(vs:af)(H:Hp)(Q:VK)(E:XK):Prop|mk:∀(c:GlaKeeps.Call)(x:Gla.Step)(p:Nat)(ns d:ao)(l c0:Addr),g1 (aFF c=aa x) (f4 (StF H L v x)) (aAr K vs H Q E)
section z
theorem a0i:T.awJ.Ok P w aj 3 (aAq K):=by refine T.awJ.go aUg aL;generalize aG=e3,aA=A,aF=outer,aE=s,aD=H,aB=vs,aH=Q,aI=E;rw[aN,M P5,aX,n c p ns W l c0];rintro rfl b0 U a5 I c9 k;rw[fV,aj (hv T.avD (Bw (j7 agB) (Bw (aq9 yx yx (gi T.avy) (ew aq1 (dN aw)) (gi T.avz)) (R3 (a7 UU aw))))) (hv T.avE (n5 UU)) (hv T.avF (n5 agB)) (hv T.avG (afl yx AA (gi T.aVs))) mj];cases c with|open_ b=>{contradiction}|bare w h m=>{contradiction}|read b=>{contradiction}|lead row m=>{rw[jc,bu,mc];have d0:wN Rn=(xX&&(Zm&&XI qV)):=by{show(Zm&&(XI qV&&xX))=_;cases Zm<;>cases XI qV<;>cases xX<;>rfl};rw[bs d0,e l _ _ _ _ rfl a5 (fun a8 a4=>Ph),i6 xX,kj];{rw[qs c,d c0 _ rfl (.inl (akn I)) _ _ rfl a_I];rw[bA,agA];rw[aS b9 (ae (2*ff)/2) (v ff),ca rfl];rw[b9];have hw:Zm=(bi (v 2) (v ff)&&bi (v ff) 64):=bt (within_int 2 64 ff);rw[bs hw,aoX];{refine dl (fF (fun g8=>?_) (fun g8=>?_));{rw[y c0 JA (akn I) ⟨f5 c9,fun d4 c8=>?_⟩];rw[a0h];rw[g,g8]at k;exact k d4 (eX c8)};rw[az]};rw[az]};rw[az]}|move i q=>{rw[jc,bu,fi,bu,mc,dk a5 (s2 (f d [q.x,q.y] (dK [i,q.x,q.y] 1 3) ⟨ag,fun b7 b5=>?_⟩))];have f5:([q.x,q.y].all Za)=wN (.move i q):=by{show _=qV q;simp[qV,zG]};rw[f5];exact bbh}|mark i m=>{rw[jc,bu,fi,bu,fi,bu,mc,dk a5 (s2 (KB (y_ bbh)))]}|count n=>{rw[jc,bu,fi,bu,fi,bu,fi,bu,mc,r l jf a5 dh ?_];have f5:bi cK 2=wN (.count n):=by{apply aDN;rw[t_]};show dB (bi cK 2);rw[J f5 XW]}|erase i j=>{rw[RK]}|drop i=>{rw[RK]}|undo=>{rw[RK]}|redo=>{rw[RK]}|plan=>{rw[RK]}|save=>rw[RK]
theorem a0j:T.awM.Ok P w aj 2 (aAr K):=by refine T.awM.go aUi aL;generalize aG=e3,aA=A,aF=outer,aE=s,aD=H,aB=vs,aH=Q,aI=E;rw[aN,M ob,aX];generalize kQ=c,kR=x,kS=p,kT=ns,kU=W,kX=l,k_=c0;rintro rfl b0 S a5 I c9 k;rw[aj (hv T.avD (cr (gi IK) (a7 a0f aw) (j7 agC))) (fo T.aVj T.LJ AA) (fo T.avE T.LK (as AA AA)) (fo T.avF XF (n5 agC)) (as (gi T.afq) AA)];cases c with|lead row m=>{rw[jc,pO,bu,mc,y c0 row I ⟨by rw[agA]at c9;exact cV c9,fun d a8 a4 nd a3=>a l _ _ _ _ rfl jT (pj aH3 (m t d v (d ak (akt dk (fg cm)) a_n (J (hN d z nd)))))⟩]}|erase i j=>{rw[jc,pO,bu,x_,bu,mc,th (D l j a5 dr (r4 a8W))]}|move i q=>{rw[jc,pO,bu,x_,bu,fi,bu,mc,th (D l q.y a5 rC (D l q.x a5 dr (mS (fm ⟨en 3,fun d8 a=>ax (dL cm a) (mO (f d8 _ ak (hH (GC a) lQ)))⟩))))]}|mark i m=>{rw[jc,pO,bu,x_,bu,fi,bu,x_,bu,mc,th (f l _ a5 (s2 (KB (pj (b_ xt b5 cm) (f t v ak a_n)))))]}|drop i=>{rw[jc,pO,bu,x_,bu,fi,bu,x_,bu,x_,th (mS a8W)]}|_=>rw[pO]
universe z
noncomputable def a0k:a3P->cb| .undo=>ab| .redo=>ab| .count n=>bi n 2| .plan=>ab| .save=>ab|_=>ai
theorem agD{N:bg}{H L:Hp}{l:Addr}(s:uA)(a:bH N (L b≠ae))(h:L l=ae):xf:=by cases q:H l with|none=>{rfl}|some o=>by_cases m:l∈N;rw[az,yN (s l o q m)]
inductive aAs(K:Fg)(u CR:Addr)(vs:af)(H:Hp)(Q:VK)(E:XK):Prop|mk:∀(J:Addr)(R:GM.bT)(g ls:Addr)(c:GlaKeeps.Call)(p:Nat)(ns d:ao)(l:Addr),e [.ref J,jN,cC] ni xW (a0k c=ab) (c aGu (h7 je) ((zZ lR c).2.length<=10000000) (∀F L h8 C,l Az (Y F) (aj F (akB cp)) (dH L C) (a56 C) (zZ lR c=(aa C.gr,0::h8)) JD) (aAs K u CR vs H Q E))
section z
theorem a0l:T.awN.Ok P w aj 6 (aAs K bJ dJ):=by refine T.awN.go aUj aL;generalize aG=e3,aA=A,aF=outer,aE=s,aD=H,aB=vs,aH=Q,aI=E;rw[aN,M Jz,aX];generalize E5=J,E7=R,E8=g,E9=ls,E_=c,Fb=p,Fe=ns,Fi=W,Fw=l;rintro rfl h Y i b0 a5 c9 k;rw[fV,fD,aj (e3 T.aVl (d9 (dJ T.GQ.h azT T.GQ.b))) (e3 T.aVm (d9 (dJ T.T9.h aZ2 T.T9.b))) (e3 T.avG (d9 (b4 a0g (iX bE)))) (e3 T.aVn (a7 aAo (a7 axq apK))) (a7 aAo (dK a0c))];cases c with|undo=>{rw[jc,bs (GM.aSH Y),bu,mc,l5 R (M g ls h pA bel),bii,KU (GM.auL Y z)]}|redo=>{rw[jc,bs (GM.aSI Y),bu,fi,bu,mc,y0 (v wL pA bel),bii,KU (GM.auM Y z)]}|count n=>{rw[jc,bs (GM.aSJ Y (CB i)),bu,fi,bu,fi,bu,mc,r l jf a5 dh (a J R g ls n rfl h Y (ag) (fm (k t _ [_] R (cG cm) c6 ak (gd cm) Y rfl)))]}|plan=>{rw[jc,bs (GM.aSK Y),bu,fi,bu,fi,bu,fi,bu,mc,y0 (as Y),bhm];have F:=DA.2.fits;rw[c a f_ b2 X G j F (pj (f a7 _ b4 ⟨by rw[(GM.aeC f_)];have:=F.p;have:=F.l;have:=F.m;lia,fun d b7 b5 nd b9=>biD⟩))]}|save=>{rw[jc];rw[GM.aSL Y]at k c9;have a0:t Qa<=10000000:=by{have:t (Ou Qa)=t Qa:=cG Ou (bA _);simp only[ia]at c9;exact cf CS c9};rw[bu,fi,bu,fi,bu,fi,bu,fi,b J R g ls rfl h Y (f5 a0) (pj (f a7 _ b4 (iT a0 (fun d b7 b5 nd b9=>biD))))]}|_=>cases i
universe z
noncomputable def sL(v:V):hU:=[("record",v)]
theorem aAt(v:V):kk "record" v []=sL v:=rfl
theorem a0m(v u:V):kk "record" u (sL v)=sL u:=UK
theorem Me{v:V}:is (sL v) "record"=aa v:=by rw[<-aAt,di,cO]
theorem a0n{v:V}{m:Str}(h:¬m="record"):fh (sL v) m=ae:=by rw[<-aAt,di,bj h];rfl
theorem RecAt.agE{u CR A:Addr}{H L:Hp}{J:Addr}{R:GM.bT}{g ls k dx:Addr}{v:V}(h:ni)(c3:lD v)(s:fJ [k]):A_:=by rw[dZ c4 mV,Q_,J3];have h7:oI [k] H:=qL ah;have d6:∀{l:Addr}{O:af},am l O->l∉[k]:=fun{l O}e=>Be;exact aV (dR q (ax (qr q c3 (by rw[tL];injection z with _ _ z;rw[yV "done",bX zd EG,nj])))) (d6 d2) (Tw (fun x D z=>by rw[Cr z,ba'];obtain⟨c5,h2,_⟩:=d.p;obtain⟨d8,e2,_⟩:=d.l;obtain⟨K,i8,_⟩:=d.m;exact da (dR M (mU (a≠k) (qr M c3 (by rw[tL];injection z with _ _ z;rw[yV "width",bX yW EG,nj])))) (d6 h2) (d6 e2) (d6 i8)) e9) (d6 q2) (Tw (fun x y z=>by have t:=s.ts h7;cases y with|lead row m=>{rw[KS B,b6 h2 e2 l];exact a a i7 b8 e yg (dB.sb dk (v c5 h2 e2) s h7 (d6 h2)) (lM t B) a3}|erase i j=>{rw[ii z yg]}|move B p=>{rw[w pv e q C z];exact a a pv e yg (hH t C)}|mark i m=>{rw[w b8 e q C z];exact a a b8 e yg (lM t C)}|drop B=>rw[ii z yg]) f6)
inductive aAu(A:Addr)(vs:af)(H:Hp)(Q:VK)(E:XK):Prop|mk:∀(k dx:Addr),A [Yg] (bh k (aC A [])) (Q .bC (ad k (aC A (sL .bC)))) (aAu A vs H Q E)
inductive aAv(A:Addr)(vs:af)(H:Hp)(Q:VK)(E:XK):Prop|mk:∀(k dx J:Addr)(v:V),A [Yg,xk] (lD v) (∀F L,c (fJ [k]) (Y F) (aj F hb) a'f JD) (aAv A vs H Q E)
def aAw(u CR A:Addr)(H:Hp)(k dx:Addr)(f:aJJ)(Q:VK):Prop:=(∀e F L,b f Ah bQ (Y F) (aj F (L (IL e) cp)) JD)/\(∀R F J g ls L,b f (.ok wM) xW (fJ [k]) (Y F) (l (aj F hb) a'f A_ (Y J) (Y g) (Y ls) JD))
inductive aAx(K:Fg)(u CR A:Addr)(vs:af)(H:Hp)(Q:VK)(E:XK):Prop|mk:dp tH (cw<=131072) (L (akw b) (fun r=>v r [] [])) (aAx K u CR A vs H Q E)
inductive aAy(u CR A:Addr)(vs:af)(H:Hp)(Q:VK)(E:XK):Prop|mk:dp (am l kF) aHD (akA b) (aAy u CR A vs H Q E)
section z
theorem a0o:T.T_.Ok mg P w aj 1 (aAu hI):=by refine T.T_.go aUd FO;rw[Q k dx c3 q h,g _ (fE (hq cu)) k _ dx _ c3 (d DY Ov (ay) q)]
theorem a0p:T.Ue.Ok mg P w aj 1 (aAv hI):=by refine T.Ue.go aUf FO;obtain⟨k,dx,J,v,rfl,c3,q⟩:=h;rw[g _ (bo (hq aq) ana) k _ dx _ c3 (a1 DY Ov (v2 1))];rw[a0m];rw[v (ay) (fun F a=>?_),au sb [k] (ad k aHU) alL,e c1 H k aHU k aHU];exact q F _ (aka (lJ a)) (agD sb (k6 ah) a) ak (co a c1)
theorem a0q:T.Ud.Ok mg P w aj 14 (aAy bJ dJ hI):=by refine T.Ud.go avc FO;obtain⟨k,dx,l,v,b,rfl,c3,a5,U,d2,q2⟩:=h;rw[cn (c5 T.aVy avc.nd a0d (Bz xF)) (cc a5) ?_];rw[dC];refine axe (fX (acX z (mh U))) (f l b a5 (v U bbZ (fun R a J g ls a8 m Y a4 d0 hR G nc ns=>?_)));{rw[g8 n,rE,qt m Z]};{rw[bn a d0 gJ,eM (dj c3),c k dx I EG a _ (a _ _ rfl rfl (cx d0) dr k dx (f J v I (fun F b7 b5 O Z c1=>q2 R F J g ls b7 m Y (B (cG a4) b5) (gV O) Z c1 (hR.agE I b5) G nc ns)))]}
theorem a0r:T.Ub.Ok mg P w aj 11 (aAx K bJ dJ hI):=by refine T.Ub.go avb FO;obtain⟨k,dx,l,v,b,rfl,c3,a5,U,d2,q2⟩:=h;rw[cn (c5 T.aVx avb.nd aAa (Bz (Cg xF))) pQ ?_];rw[dC];refine axe (fX (acX z (aC U))) (M l b a5 bbZ (fun r a y a8 m a4 d0 J=>?_));{rw[g8 n,rE,qt (dc m) Z]};{rw[bn a d0 gJ,eM (dj c3),c k dx I EG a _ (oM (aJ (cx d0) dr)),mp W,aM0,ok a8 a8,cr W r (j.mono sm) bh0];have f9:=FR Be;have d:=hy I;have S:=eX f9;rw[j k dx x v (ai d (fun F h5 h1 O Z c1=>q2 (kz r) F x g ls h5 (dc m) (GM.aeP (GM.auS m)) (B (cG S) h1) (S.free O) Z c1 (b6.agE d h1) (gV nx) (eV (eX sm) b9) (eV (eX sm) e1)))]}
universe z
inductive aAz(C:Addr)(vs:af)(H:Hp)(Q:VK)(E:XK):Prop|mk:∀(w h:Nat)(b8:V)(m:Gla.Mark),A [vn w,vn h,b8] aaa (f4 (agy C H L v ao8)) (aAz C vs H Q E)
theorem a0s{I:Type}{l:ba}{m:I}(h:Ws [m]):l=[m]:=List.perm_singleton.mp h
section z
theorem a0t:T.avP.Ok P w aj 8 (aAz bJ):=by refine T.avP.go aTm aL;generalize aG=e3,aA=A,aF=outer,aE=s,aD=H,aB=vs,aH=Q,aI=E;rw[aN,M oc,aX,al C c b8 m,dt c4,w _ (i 3 Ow ua (bU 4 Ow (dO bS)) (i 5 Ow (as aq bE) (bU 6 Ow (as aq bS)) (i 7 Ow (yA (vt bb bR cJ eu)) (bU 8 Ow (yA (vt (as bb bR) (as bb cJ) (as bR eu) (as cJ eu)))) (df (d9 azw (GL bS aq ke kf (d9 aw))))))) es (fun y c6=>?_)];have s0:=b_ (o:=yd) c6;rw[e f5 H y yd y yd];generalize ad y yd=i at s0 f5;rw[v es (fun e0 n1=>?_)];have a4:=b_ (o:=amT) n1;rw[e b4 i e0 amT e0 amT];have F:=dj f5;generalize upd i e0 amT=a8 at a4 b4 F;rw[v es (fun g0 n2=>?_),gT (b_ (o:=aoV) n2),e b9 a8 g0 aoV g0 aoV];have e5:=gH F;have g7:=IV;rw[bo (upd a8 g0 aoV) b9 e5 g7,v es (fun d0 u=>?_)];have c8:=b_ (o:=bx c C) u;rw[e e7 b7 d0 (bx c C) d0 (bx c C)];have o:=dn e5;have c2:=dn g7;have N:=dn b9;generalize upd b7 d0 (bx c C)=d4 at c8 e7 o c2 N;rw[v (en 4) (fun b2 a0=>?_)];have d9:=ac apY a0;rw[a g5 d4 b2 apY b2 apY,i d4 b2 apY e4 d9 g5,v es (fun n c9=>?_)];have f9:=b_ (o:=anv) c9;rw[e i2 e4 n anv n anv,m e4 n anv g6 f9 i2,v es (fun h2 g9=>?_)];have h1:=b_ (o:=anw) g9;rw[e j1 g6 h2 anw h2 anw,m g6 h2 anw h5 h1 j1,v es (fun e2 e1=>?_)];have R:=b_ (o:=anx) e1;rw[e j2 h5 e2 anx e2 anx,m h5 e2 anx h9 R j2,v es (fun i8 j5=>?_)];have d6:=b_ (o:=anz) j5;rw[e j9 h9 i8 anz i8 anz,m h9 i8 anz i3 d6 j9,v (en 4) (fun le ne=>?_)];have i4:=ac apZ ne;rw[a j8 i3 le apZ le apZ,i i3 le apZ i7 i4 j8,v (en 1) (fun G d1=>?_)];have c0:=ac [b8] d1;rw[a d i7 G ug G ug,i i7 G ug h7 c0 d,ci (i4.trans c0),cb (wZ q),de (wC b)];have J:=zK e;have I:=mW J;have j:=mX I;have r:=B (b_ (aE' a4) b5 c8) j;have f:dG h7 Ap jO:=lq y o;have e9:dG h7 (.ref e0) (jL C):=lq e0 c2;have f6:dG h7 (.ref g0) (hi c):=lq g0 N;have j0:dG h7 (.ref d0) ⟨C,c⟩:=lq d0 e7;rw[b C c b2 le G (akD C c) (GM.Tt C c) [m] (a rfl (cd (I _ _ g5) (ec f e9 (hY f6 j0))) (cd (c0 _ _ j8) (ec (bO n (J _ _ i2) f e9) (bO h2 (e _ _ j1) f f6) (hY (bO e2 (b _ _ j2) e9 j0) (bO i8 (q _ _ j9) f6 j0)))) (cd d (hp (tj r))) (d (gD (4<=100000)) (akD C c) (gD (4<9000)) (fun x h=>h)) (gD (4<9000)) aQ ?_ (fun v L c1 nv=>?_))];{intro l a5;simp[GM.Tt]at a5;rw[kC a5]<;>simp[akD]};{obtain⟨d8,a,g,O,p,rfl,D,b3,_,b0,t,z,B⟩:=nv;have:=a0s b3;rw[gm];exact ax (aj3 c1) (f a g O p D (akC b0) (akC t) ⟨akC z,akC B⟩)}
universe z
theorem a0u{w h:Nat}{m:Gla.Mark}(hw:bk w)(c7:bk h)(c4:uQ):DG ao8:=by refine GM.auz hw c7 (gD (4<65535)) (gD (b1 4)) aQ ?_ ?_;{intro p c2;simp[akD]at c2;rw[kC c2]<;>simp[hw,c7]};{rw[xI]}
noncomputable def agF(w h:Nat)(m:Gla.Mark):aJJ:=jq (zN ao8) (v ao8 [] [])
inductive aAA(K:Fg)(u CR A:Addr)(vs:af)(H:Hp)(Q:VK)(E:XK):Prop|mk:∀(k dx l:Addr)(v:V)(w h:Nat)(m:Gla.Mark),e [Yg,cC] (lD v) (h7 (ii aKv)) (wN apg=ai->f F L bQ (Y F) (aj F (mC (-1))) JD) ((wN apg=ab->C0 (agF w h m))->aAA K u CR A vs H Q E)
section z
theorem a0v:T.Uc.Ok mg P w aj 10 (aAA K bJ dJ hI):=by refine T.Uc.go ae_ aL;generalize aG=e3,aA=A,aF=outer,aE=s,aD=H,aB=vs,aH=Q,aI=E;rw[aN,M ob,aX];generalize kQ=k,kR=dx,kS=l,kT=v,kU=c5,kX=h',k_=m;rw[av c3 a5 N d2];have d0:wN (.bare c5 h' m)=(aKZ&&xX):=by{show(zG c5&&(zG h'&&xX))=_;delta zG;rw[Bool.and_assoc]};rw[d0]at N d2;rw[cn (ai (ge (gD (uV (n5 UU)) (uV (n5 agB))) (ij T.avH)) (bU 2 ae_.nd (Z a0t AA AA (n5 agC))) (gt ae_.nd cu (df (Bz (Cg aw))))) a5 J1,y d [c5,h'] (dK YB 0 2) ⟨aJY,fun b7 r2=>?_⟩];have b5:=B (ac (ca (ii YB) 0 2) nd) r2;rw[aS f5 ([c5,h'].all Za) aKZ];rw[f5];rw[kj];{rw[c,ahY]at N d2;rw[a9r,p8 c7 (fun e4 c9=>?_)];have d9:=B (fg (ac (lb YB 6) Y)) c9;rw[i6 (! xX)];cases D:xX with|false=>{rw[kl (fun F a=>N D F _ (mX (b_ a)) (WM a) ak)]}|true=>have⟨h2,e2⟩:=d2 D;have t:bk c5/\bk h':=by{rw[xn]};have c4:uQ:=by{rw[A1 D];simpa using D};rw[r l (vn c5) Jy dh (D l h' Jy dr (f l _ Jy (fun a9 L=>?_))),p8 a9 (fun b8 h5 q M=>?_),j c5 h' b8 m (ai M (fun r h9 b1 J=>?_)),aM0,d c2 aaE b2 X G _ ae (ax j (a0u t.1 t.2 c4) (sN (YF)) (fun p i3 i b=>?_)),ds (b_ (B (mX (ac (lb YB 6) L)) q) b1 i)];delta agF at h2 e2;cases a7:zN aaE with|some e=>{rw[a7]at b h2;rw[g8 b,rE,Q rfl _ e ⟨b,fun F i7 R O Z=>h2 e F i7 rfl (wZ R) (d6.free O) Z⟩]}|none=>rw[a7]at b e2;subst b;rw[bu];have u6:=n9 c3;rw[Q k dx _ (aJ u6 EG),mp W,ok i3 i3,cr W aaE (bN (j.mono i) sm) (fun i7 g ls S b9 e1 b6=>gJ)];have i4:=wn (S c o (sm c o e) fR);have y:=i4 _ _ u6;have B:=wZ i4;rw[j k dx x v (ai y (fun F h7 I O Z c1=>e2 (kz aaE) F x g ls h7 rfl (GM.aeP (GM.aSB t.1 t.2 c4 a7)) (B (cG B) I) (B.free O) Z c1 (b6.agE y I) (d6.free nx) (eV (wZ sm) b9) (eV (wZ sm) e1)))]};{rw[ae C aKZ ai,kl (fun F a=>N ag F _ (fg (b_ a)) (b5.free a) ak)]}
universe z
def G3(u CR A:Addr)(H:Hp)(k:Addr)(o:PH)(N:bg):Prop:=match o with|none=>N=[k]/\∃dx,lD .bC|some R=>∃J g ls dx,N=aL_/\lD xk/\ni/\xW
theorem G3.k{u CR A:Addr}{H:Hp}{k:Addr}{o:PH}{N:bg}(h:op H):k∈N/\∃dx v,lD v:=by cases o with|none=>{rw[aK7];exact d bK dx _ e}|some R=>obtain⟨J,g,ls,dx,rfl,e,_⟩:=h;exact d bK dx _ e
theorem G3.mono{u CR A:Addr}{H L:Hp}{k:Addr}{o:PH}{N:bg}(h:op H)(s:bQ):op L:=by cases o with|none=>{rw[aK7];exact ai dx (bv e)}|some R=>rw[nv dx e];exact mw (bv e) (akx s)
theorem SB.wide{N d5:bg}{H L:Hp}(s:uA)(h:fK N d5):fJ d5:=fun b o e n=>s b o e (bo (n (h b m)))
theorem aAB(b:Gla.Bytes):kF=bh (wO akE):=f7 bV jw
theorem a0w{c:GlaKeeps.Call}{x:Gla.Step}(h:aFF c=aa x)(a:wN c=ab):Ic x:=by cases c with|lead row m=>{rw[cH];have B:c_ Zm (XI qV&&xX):=a;simp only[hZ,Hs]at B;obtain⟨e0,g0,d0⟩:=B;delta jC at e0;rw[A1 d0,v (v ah ah uc) ah];have:=g0 p c2;unfold GlaKeeps.ptOk GlaKeeps.long at this;rw[gf]}|erase i j=>{rw[cH];trivial}|move i q=>{rw[cH];have B:qV q=ab:=a;delta qV zG at B;show bk q.x/\bk q.y;simpa using B}|mark i m=>{rw[cH];have B:xX=ab:=a;rw[A1 B];show uQ;simpa using B}|drop i=>{rw[cH];trivial}|_=>rw[cH]
inductive aAC(u CR A:Addr)(vs:af)(H:Hp)(Q:VK)(E:XK):Prop|mk:∀(k:Addr)(o:PH)(N:bg)(c:GlaKeeps.Call)(p:Nat)(ns d:ao)(l c0:Addr),e [Yg,jN,cC,O8] (op H) aGu (am l je) (c (am c0 (aB1 vn)) (oT<100000) ((zZ o c).2.length<=10000000) (∀F L g l8,l uA (Y F) (aj F (hD (zZ o c).2)) (G3 u CR A L k g l8) (q_ akF=(zZ o c).1) (V b l8 (b∈N\/gp)) JD) (aAC u CR A vs H Q E))
section z
theorem a0x:T.Ua.Ok mg P w aj 15 (aAC bJ dJ hI):=by refine T.Ua.go aUe aL;generalize aG=e3,aA=A,aF=outer,aE=s,aD=H,aB=vs,aH=Q,aI=E;rw[aN,M Jz,aX];generalize E5=k,E7=o,E8=N,E9=c,E_=p,Fb=ns,Fe=W,Fi=l,Fw=c0;rintro rfl h b0 a5 d7 c9 d1 B;obtain⟨f7,dx,v,c3⟩:=h.k;rw[ca (ai (e3 T.aVh (jk bS DY T.Ub.h (ez a0r) a6 T.Ub.b .nil fp (dY bb))) (e3 T.aVi (jk bS DY T.Uc.h (ez a0v) a6 T.Uc.b .nil fp (dY aw))) (ai (e3 T.aVo (jk bS DY T.Ud.h (ez a0q) a6 T.Ud.b .nil fp (dY bb))) (D yy bP cu (ij T.aVt)) (bX (ge (uV (Z a0i aq aw bb)) (ij T.avH)) (aj yx aq T.aVk (jk bP gH T.GP.h (ez azX) a6 T.GP.b .nil fp (dY (Z a0j aq aw bb)))) (ec ana (Z a0l bP aq aw)))))];have c2:∀f:aJJ,(zZ o c=match f with| .error e=>(tm akF,IL e)| .ok J=>p8 J)->aAw bJ dJ hI H k dx f Q:=fun f a3=>by{rw[v (fun e F L z s O Z=>?_) (fun R F J g ls L z Y s O Z c1 hR G nc I=>?_)];{rw[ru];rw[a3]at B;exact bic};{rw[ru];rw[a3]at B;refine B F L lR aL_ (s.wide (k6 ah)) O Z (mw c1 hR) rfl (fun b m=>?_);rw[Bl,kC m,Fl,co bG,co bG,co bG]}};rw[bC U (aFE c)];{cases c with|open_ b=>{rw[jc,dQ i5 cw 100000,bu,mc,qB (av (bj d7 aAB)) (f7 i5)];rw[GM.aSC o bM];rw[kr (akw b) r]}|bare c5 h' m=>{rw[jc,bu,fi,bu,mc,c k dx c3 EG k dx (a l v c5 h' m rfl c3 (av a5) (fun b3 F L s O Z=>?_) (fun b3=>c2 _ ?_))];{rw[GM.auW o gj b3]at B;exact bic};{rw[GM.aSF o b3];delta agF;rw[D7 (zN aaE)]}}|read b=>{rw[jc,dQ i5 cw 100000,bu,fi,bu,fi,bu,mc,qB (bj d7 aAB) i5];rw[GM.aSD o (f7 i5)];all_goals(rw[kr (akA b) r])}|_=>cases U};{rw[ae j6 (aFE c) ai];have pn:p≠1/\p≠2/\p≠13:=by{cases c<;>first|contradiction|(rw[aF6];decide)};rw[bu,x_,bu,x_,bu,x_];cases o with|none=>{rw[cz rfl u f5,lF f5 (f Ov Me (en 1) (fun F a=>?_))];rw[GM.aSE j6]at B;exact B F _ ae [k] (lJ a) a ak (ai u (co a f5)) rfl XZ}|some R=>rw[nv u f5,lF f5 (a Ov Me rfl c p ns W l (a c0 rfl b0 j6 (av a5) (av d7) c9 aJT))];have b4:=dj f5;rw[fe (akx a4)];have b8:fK gh aL_:=fun b m=>ck m;have j2:k∉gh:=bo (by obtain⟨c4,c7⟩:=hR.at_;rw[kn b1 hR.c,hZ ws hR.s,Bl];rcases m with z|z|z;{rw[b2 c7 f5,aJQ];injection f5 with _ _ f5;have:=gz (Mh ("record":Str)) f5;rw[bX Me tQ,nj]};rw[az,az]);cases b3:wN c with|false=>{rw[v (en 1) (fun F a=>?_)];rw[GM.auW lR ES b3]at B;exact B F _ lR _ (cG (ls a)) (gV a) ak (a J g ls u rfl (co a b4) (XH (b_ a)) Y) rfl XZ}|true=>rw[bD (fF (fun M=>?_) (fun M=>?_))];{obtain⟨x,S⟩:ax x (aFF c) x:=by{have b2:p<=7:=by{simp at M;lia};cases c<;>first|exact ei|trivial|(rw[aF6];trivial)};have sa:=a0w S b3;obtain⟨c4,c7⟩:=a9.at_;rw[lF b4 (a Ov Me J c4 _ rfl c7 tQ (a c x p ns W l c0 rfl (c b0 S (av (dj a5)) (av (dj d7)) c9 (fun a0 b7 b5 st=>?_)))),g J R g ls a0 x (XH b5) (d Y (st _ (k6 (a9.live m))) sa (fun F d4 b9 c8 O Z D=>?_)),QR];have f6:=B (cG i9) c8;have a7:=baU;rw[GM.aSG Y b3 S sa]at B;delta agw at D;cases g9:XG f_ x with|error y=>{rw[g9]at D B;cases y with|none=>{exact AT aGR}|some e=>exact AT ah}|ok b6=>rw[g9]at D B;simp only at D B;by_cases d0:65536<=R.d;{rw[aK d0]at D B;exact AT aGR};{rw[bj d0]at D B;exact f5 (aa (WD x b6)) aGR (a J g ls u rfl a7 D.2 (Y.add sa (bj (GM.Tr DA.2 sa.ok) g9) (x (aNl d0))))}};{have b2:¬p<=7:=by{simp at M;lia};rw[v (en 1) (fun t c6=>?_)];have b5:=jk (cp 0) c6;rw[a g9 a8 t anh t anh];have X:=XH (ac [cp 0] c6);rw[f a8 t anh b7 b5 g9 X,lF (gH f5) (a Ov Me J R g ls c p (a ns W l rfl X Y (by cases c with|count n=>{trivial}|undo=>{rfl}|redo=>{rfl}|plan=>{rfl}|save=>{rfl}|open_ b=>{trivial}|bare c5 h' m=>{trivial}|read b=>{trivial}|lead row m=>{rw[aaZ]}|erase i j=>{rw[aaZ]}|move i q=>{rw[aaZ]}|mark i m=>{rw[aaZ]}|drop i=>rw[aaZ]) b0 (av (gH a5)) d1 (fun F d4 h8 C c8 O Z d3 d5 a3=>?_)))];have f6:=B (cG b5) c8;rw[fV,n t F (c8 _ _ g9 (bo (a9.live m c6))) Z ⟨?_,fun d nd=>?_⟩];{simp_all;exact cV d1};{rw[a3]at B;exact B d _ (aa C) _ (B (a57 b8) (cG xt)) (agD f6 (k6 (d3.live m)) nd) (dc ak) (a J g ls u rfl (co nd baU) (d3.mono xt) d5) rfl XZ}}}
universe z
universe GA
namespace GM
open Gla GlaKeeps
noncomputable def agG(row:eh):ao:=a_t
def Mf(c:GlaKeeps.Call)(p:Int)(ns d:ao):Prop:=match c with| .open_ b=>a89| .bare w h m=>ds 2 aKv| .lead row m=>HW (agG row)| .erase i j=>ds 4 [i,j]| .move k q=>a'b| .mark i m=>ds 6 aGQ| .drop k=>ds 7 [k]| .undo=>ku 8| .redo=>ku 9| .count n=>ds 10 [n]| .plan=>ku 11| .save=>ku 12| .read b=>a8_
noncomputable def zs(ns:ao):aT:=wF a_2
theorem Cz{z:Int}(h:0<=z):w_ z=aa akG/\v akG=z:=by delta w_;rw[jY]
theorem G4{z:Int}{n:Nat}(h:w_ z=aa n):cK=z:=by rw[a4 w_,fT]
theorem agH{x y g p:Int}{m:Mark}(h:a58 x y g p=aa m):v ij=x/\v ih=y/\v jx=g/\v kB=p:=by revert h;revert x y g p m;refine@aE5 _ _ _ _ _ _ _ ?_;rw[F x y g p m,eD,a4 a58];cases S:w_ x with|none=>{simp_all}|some a=>cases b6:w_ y with|none=>{simp_all}|some b=>cases d8:w_ g with|none=>{simp_all}|some c=>cases c2:w_ p with|none=>{simp_all}|some d=>rw[S,b6,d8,c2]at h;rw[cH];exact d (G4 S) (G4 b6) (G4 d8) (G4 c2)
theorem aAD:∀{J:aT}{row:eh},a59 J=aa row->zs (agG row)=J|[],row,h=>aHo|[x],row,h=>bB|x::y::J,row,h=>by unfold KeepNeutral.points at h;cases a6:a59 J with|none=>{simp_all}|some l=>cases S:w_ x with|none=>{simp_all}|some a=>cases b6:w_ y with|none=>{simp_all}|some b=>rw[a6,S,b6]at h;rw[cH,ds (aAD a6)];unfold zs agG at d6⊢;rw[pa,fe,d6];simp[G4 S,G4 b6]
theorem aAE{J:aT}(h:J.all (J (KeepNeutral.natural z 8))=ab):z b (a5' J=aa b) (zs (wO akE)=J):=by have h':=sp (by have:=Wh h z c9;unfold KeepNeutral.natural at this;rw[gf]);rw[ak (J.map (J (aiP akG))) ?_];{delta a5';rw[aK];delta NeutralIO.bytes;rw[Hs];intro z c9;grind-abstractProof};{delta zs;rw[jw,jw];rw[ul J,jM aod];have:=h' z c9;simp only[Wu,id];rw[aDc,er (ae (Int.toNat_lt et) fj),a5_ et]}
inductive iK:cu fA|a J:iK [[1],J]|b w h x y g q:iK [[2,w,h,x,y,g,q]]|c x y g q J:iK [[3,x,y,g,q],J]|d i j:iK [[4,i,j]]|e k x y:iK [[5,k,x,y]]|f i x y g q:iK [[6,i,x,y,g,q]]|g k:iK [[7,k]]|h:iK [[8]]|i:iK [[9]]|j n:iK [[10,n]]|k:iK [[11]]|l:iK [[12]]|m J:iK [[13],J]
theorem ifC{c:Prop} [Hu c]{I:Type}{x y z:I}(h:(if c then x else y)=z):c/\x=z\/y=z:=by rw[eH,l (dq bG h),co h]
theorem a0z{I:Type}{n:Nat}{a:ba}(h:n+1=mL):∃x b,a=x::b/\n=cw:=by cases a with|nil=>{rw[cH]}|cons x b=>exact cg x b (aDp h)
theorem vG{I:Type}{a:ba}(h:0=mL):a=[]:=a3a agP
theorem aAF{a:aT}(h:1=mL):∃u,a=[u]:=bdz
theorem aAG{a:aT}(h:2=mL):∃u v,a=[u,v]:=by rw[Pz];obtain⟨v,d3⟩:=aAF k;exact v u v ZL
theorem aAH{a:aT}(h:3=mL):∃u v w,a=[u,v,w]:=by rw[Pz,dn w d3 (aAG k)];exact d u v w ZL
theorem aAI{a:aT}(h:4=mL):∃u v w x,a=[u,v,w,x]:=by rw[Pz];obtain⟨v,w,x,d3⟩:=aAH k;exact a u v w x ZL
theorem aAJ{a:aT}(h:5=mL):∃u v w x y,a=[u,v,w,x,y]:=by rw[Pz];obtain⟨v,w,x,y,d3⟩:=aAI k;exact c u v w x y ZL
theorem a0A{a:aT}(h:6=mL):∃u v w x y z,a=[u,v,w,x,y,z]:=by rw[Pz];obtain⟨v,w,x,y,z,d3⟩:=aAJ k;exact a u v w x y z ZL
theorem aAK{a:fA}(h:1=mL):∃u,a=[u]:=bdz
theorem callC{c:fA}(o:aFG DZ c):iK c:=by rw[Y p a O h o,a4 DZ,qo,bdB,qo];{rw[Ek,El];obtain⟨_,_,_,_,_,_,e⟩:=a0A h;rw[e];rw[vG k];constructor};rw[qo];{rw[Ek,El];obtain⟨_,_,_,_,e⟩:=aAI h;rw[e];rw[r8 (aAK k)];rw[e];constructor};rw[qo];{rw[Ek,El];obtain⟨_,_,e⟩:=aAG h;rw[e];rw[vG k];constructor};rw[qo];{rw[Ek,El];obtain⟨_,_,_,e⟩:=aAH h;rw[e];rw[vG k];constructor};rw[qo];{rw[Ek,El];obtain⟨_,_,_,_,_,e⟩:=aAJ h;rw[e];rw[vG k];constructor};rw[qo,a8F,qo,ap4,qo,ap4,qo,a8F,qo,ap4,qo,ap4,qo,bdB,cH]
set_option tactic.hygienic true in theorem call_of{c:fA}(o:iK c)(h:aFH c=ab):z x aHO ((∃p l,c=[p::l]/\z ns (Mf x p ns []) (zs ns=l))\/∃p l J,c=[p::l,J]/\∃ns d,Mf x p ns d/\zs ns=l/\zs d=J):=by cases o;{next J=>rw[bF b4 b9 (aAE h),cp (.open_ b) (.inr (b 1 [] J rfl [] tG rfl b9)),gB (do{some (GlaKeeps.Call.open_ (<-KeepNeutral.bytes J))})];rw[b4];rfl};{next w c7 x y g q=>rw[ZO];obtain⟨h,e2⟩:=h;rw[ky (D_ h),h8 (0<=w) a3];have a9:0<=c7:=CB a9;rw[ci m c4 e2];have e:=agH c4;rw[cp (.bare w.toNat c7.toNat m) (jS 2 (as tG))];{rw[gB (do{some (GlaKeeps.Call.bare (<-KeepNeutral.nat w) (<-KeepNeutral.nat c7) (<-KeepNeutral.mark x y g q))})];rw[QP,(Cz a9).1,c4];rfl};{simp[zs,(Cz a3).2,(Cz a9).2,e]}};{next x y g q J=>rw[ZO];obtain⟨a3,e2⟩:=h;rw[ci row a6 a3,ci m c4 e2,de (agH c4),cp Rn (.inr (b 3 _ J rfl _ tG ?_ (aAD a6)))];{rw[gB (do{some (GlaKeeps.Call.lead (<-KeepNeutral.points J) (<-KeepNeutral.mark x y g q))})];rw[a6,c4];rfl};{simp[zs,e]}};{next i j=>rw[ZO,h8 (0<=i) h.1];have a9:0<=j:=CB h.2;rw[eC (.erase Vt aBo) 4 (by simp[zs];rw[t_]),gB (do{some (GlaKeeps.Call.erase (<-KeepNeutral.nat i) (<-KeepNeutral.nat j))})];rw[QP,(Cz a9).1];rfl};{next k x y=>rw[ZO,h8 (0<=k) (D_ h.1).1];have a9:0<=x:=CB (D_ h.1).2;have e2:0<=y:=CB h.2;rw[eC (.move aBS ⟨Ia,y.toNat⟩) 5 (by simp[zs];grind),gB (do{some (GlaKeeps.Call.move (<-KeepNeutral.nat k) ⟨<-KeepNeutral.nat x,<-KeepNeutral.nat y⟩)})];rw[QP,(Cz a9).1,(Cz e2).1];rfl};{next i x y g q=>rw[ZO,h8 (0<=i) h.1,ci m c4 h.2,de (agH c4),cp (.mark Vt m) (jS 6 (as tG))];{rw[gB (do{some (GlaKeeps.Call.mark (<-KeepNeutral.nat i) (<-KeepNeutral.mark x y g q))})];rw[QP,c4];rfl};{simp[zs,e];lia}};{next k=>rw[h8 (0<=k) h,eC (.drop aBS) 7 (by simp[zs];lia),gB (do{some (GlaKeeps.Call.drop (<-KeepNeutral.nat k))})];rw[QP];rfl};rw[lp .undo 8,lp .redo 9];{next n=>rw[h8 (0<=n) h,eC (.count jz) 10 (by simp[zs];lia),gB (do{some (GlaKeeps.Call.count (<-KeepNeutral.nat n))})];rw[QP];rfl};rw[lp .plan 11,lp .save 12];{next J=>rw[bF b4 b9 (aAE h),cp (.read b) (.inr (b 13 [] J rfl [] tG rfl b9)),gB (do{some (GlaKeeps.Call.read (<-KeepNeutral.bytes J))})];rw[b4];rfl}
theorem aAL:∀{A B:ao},zs A=zs B->A=B|[],[],_=>rfl|[],b::B,h=>bB|a::A,[],h=>bB|a::A,b::B,h=>by rw[aaA];rw[aAL a9,aDB a3]
theorem a0B(A B:ao):zs (A++B)=zs A++zs B:=fe
theorem UW(A:ao):t (zs A)=ie:=bA _
theorem aAM{Z A:ao}{t:aT}(h:zs Z=zs A++t):z B (Z=A++B) (zs B=t):=by have a3:=gz (List.drop ie) h;have a9:=gz (List.take ie) h;rw[de (bt (UW A))];rw[e]at a3 a9;rw[ain]at a3;rw[aio,<-e]at a9;have V:Z.take ie=A:=aAL (by delta zs at a9⊢;rw[Dj];exact a9);exact v (Z.drop ie) (by rw[<-V,eS];conv=>{lhs;rw[<-Ds ie Z]};congr 2;grind-abstractProof) (by delta zs at a3⊢;rw[Dk,<-a3,bA])
theorem a0C{c:fA}(o:iK c):a6a c=c:=sB o
theorem a0D{l:aT}(h:aFI l=ab):∃cs,l=E4/\V c cs aKA/\XJ l=u0 a6c/\bd (XJ l) 10000000:=by rw[a4 aFI];cases q:a6b l with|none=>{simp_all}|some cs=>rw[aj q];have h:=h;have e:XJ l=u0 a6c:=by{delta XJ;rw[q]};delta a6b at q;cases c4:PyFlat.calls DZ d_ l with|none=>{simp_all}|some c7=>rw[cR c4,ci (c_ q)];obtain⟨e9,f6⟩:=PyFlat.put_calls _ _ _ c4;have:c7.map a6a=c7:=by{rw[ul c7];exact aiE (fun c m=>a0C (callC (f6 c m)))};rw[cR this,e_,nt hZ];obtain⟨⟨a3,a9⟩,e2⟩:=h;delta KeepNeutral.asked at a9;simp only[hZ,Hs]at a9;delta PyFlat.short at e2;exact a c7 e9 (fun c m=>⟨f6 c m,a9.2.1 c m⟩) e ah
theorem a0E{cs:bL fA}(h:∀c∈cs,aKA)(e:E4=[]):cs=[]:=by cases cs with|nil=>{rfl}|cons c cs=>obtain⟨⟨p,a,O,rfl,_⟩,_⟩:=h c (fu ..);rw[dS]
theorem a0F{c:fA}(o:iK c):∃(p:Int)(a:aT)(O:fA),c=(p::a)::O/\0<=p:=by cases o<;>exact oB ay
theorem a0G{c:fA}{cs:bL fA}{Z:ao}(ok:aFG DZ c)(b3:aFH c=ab)(e:zs Z=a6d (c::cs)):∃(x:GlaKeeps.Call)(p:Nat)(ns d:ao)(b:Bool)(n:ao),z aHO (Mf x p ns d) (DZ (v p)=aa (zm,Z b 1 0)) (b=ai->d=[]) (Z=(p::(ns++(Z b (oT::d) [])))++n/\zs n=E4):=by revert ok b3 e;revert c cs Z;refine ap9;rw[cp c cs Z];intro ok b3 e;rw[lm w (call_of (callC ok) b3)];obtain⟨f,_,_,f5,c6⟩:=a0F (callC ok);obtain⟨u,a,O,g7,c0⟩:=ok;have pn:∀{ns d:ao},Mf x u ns d->∃p:Nat,u=v p:=fun{ns d}z=>⟨f.toNat,by rw[g7]at f5;rw[aJQ,aJQ];rw[f5,a5_ c6]⟩;rcases w with⟨q,l,b4,ns,z,a7⟩|⟨q,l,J,b4,ns,W,z,a7,c4⟩;{rw[g7]at b4;rw[bcb,bcc];subst g5 i2 e7;rw[dm p (pn z)];subst g7;have E:zs Z=zs (p::ns)++E4:=by{rw[e];show(v p::a)++[]++E4=_;rw[qK,<-a7];rfl};rw[dO h g (aAM E),g6 [] ai gW,bc9,aZ]};{rw[g7]at b4;rw[bcb,bcc];subst g5 i2 e7;rw[dm p (pn z)];subst g7;have E:zs Z=zs (p::(ns++fh::W))++E4:=by{rw[e];show(v p::a)++((v vT::J)++[])++E4=_;rw[qK,<-a7,<-c4,UW];show _=zs ((p::ns)++fh::W)++_;rw[a0B];rfl};rw[dO h g (aAM E),g6 W ab (J (YF)),bc9,cY]}
universe GM
namespace GA
open PySem PySem.Spec PyProof.Rows L2
theorem aAN{I d:Type}{F G:ql}{l:ba}{m:nG}(h:l a b (b∈m) (F a b) (G a b))(q:fZ F):fZ G:=by induction q with|nil=>{rw[kL]}|cons J t i=>rw[cA (h _ _ Ab J) (i (fun a b m=>h a b (mt m)))]
theorem RecAt.told{u CR:Addr}{H L:Hp}{J:Addr}{R:GM.bT}{g ls t:Addr}{zs:aT}(h:ni)(Y:xW)(c6:a_T)(n1:t≠g)(n2:t≠ls)(s:fJ [t]):A_:=by rw[dZ c4 mV,Q_,J3];have h7:oI [t] H:=qL ah;have d6:∀{I:Type}{c:kh}(_:j v x (c H v x) (∃a,v=bc)){l:Addr}{O:ba},dB c H l O->O≠[]->l∉[t]:=fun{I c}hR{l O}⟨d7,e,C⟩ne=>mU (l≠t) (J (by rw[ru,a6 c6];injection e with e;injection e with e;rw[bY];cases O with|nil=>{exact ne rfl}|cons x O=>cases zs with|nil=>{rw[nU]}|cons z zs=>cases C with|cons a b=>obtain⟨B,d0⟩:=hR _ _ a;cases d0));rw[KI (mU (b≠t) (qr e c6 (n _)))];exact aV (sm q aQ) (ax n1.symm) (aAN (fun x D mem z=>by rw[Cr z,ba'];obtain⟨_,_,z1,h6,k7,_⟩:=(Y.Lx D mem).Gw;exact da (sm M aQ) (fv d.p z1 z1) (fv d.l h6 h6) (fv d.m k7 k7)) e9) (ax aFc) (aAN (fun x y mem z=>by have F:=aiM y mem;have c3:=s.ts h7;cases y with|lead row m=>{rw[KS k];exact a a i7 b8 e ZG (l.sb dk s h7 (nS l (by have:=F.1.1;rw[am z,uk]))) (lM c3 k) a3}|erase i j=>{rw[ii z ZG]}|move k p=>{rw[w pv e q J z];exact a a pv e ZG (hH c3 J)}|mark i m=>{rw[w b8 e q J z];exact a a b8 e ZG (lM c3 J)}|drop k=>rw[ii z ZG]) f6)
theorem G3.told{u CR A:Addr}{H L:Hp}{k t:Addr}{o:PH}{N:bg}{zs:aT}(h:op H)(c6:a_T)(n:t∉N)(s:fJ [t]):op L:=by rw[KI cq];cases o with|none=>{rw[aK7];exact ai dx (sm e cq)}|some R=>rw[nv dx e];exact mw (sm e aQ) (hR.told Y c6 aHi aHi s)
theorem a0H{x:GlaKeeps.Call}{p:Nat}{ns d:ao}(h:GM.Mf x p ns d):aAp x p ns d:=by cases x<;>rw[aa (Int.ofNat_inj.mp h.1) h.2.1 h.2.2]
theorem a0I{p a b:Nat}(h:DZ (v p)=aa rM):fa au4 (.inl (v p))=aa (vn a)/\BD jN aK_=ar b 1:=by have O:biI:=by{rw[a4 DZ];by_cases z:biI;rw[l z];{(repeat rw[iW (by(intro;lia))]);rw[cH]}};rcases O with rfl|rfl|rfl|rfl|rfl|rfl|rfl|rfl|rfl|rfl|rfl|rfl|rfl<;>(rw[sG xG])
inductive agI(K:Fg)(vs:af)(H:Hp)(Q:VK)(E:XK):Prop|mk:∀(l:Addr)(a3:ao),e [cC] (h7 aHa) (z_<=30000) (aFI (akH a3)=ab) ((j F L (aj F (L amq cp)) JD)->agI K vs H Q E)
section z
theorem aAO:a6f P w aj 16 (agI K):=by refine T.answers.go aUm aL;generalize aG=e3,aA=A,aF=outer,aE=s,aD=H,aB=vs,aH=Q,aI=E;rw[aN,M fP,aX,bV l a3,av a5 c9 b3 B,Br];obtain⟨cs,r,X,D,f6⟩:=GM.a0D b3;rw[ca (L tw (arn T.T_.h (bN a0o a_) (ahb ay) rfl T.aVE T.T_.b .nil fp) (bU 2 tw AW) (i 3 tw bE (F0 NV (dZ lq bb nB) (i 4 tw (eC bb) (bU 5 tw (cS (hn bb) (aTc T.aVz bR lO))) (i 6 tw (ld (hn bb) cJ) (bU 7 tw AW) (i 3 tw cJ (ai a_s bR (GT T.aVp) (bU 3 tw (cS (hn cJ) (eC cJ))) (bU 7 tw (ld (hn cJ) bb))) (i 8 tw (jk aq DY T.Ua.h (ez a0x) a6 T.Ua.b .nil fp (yV bR eu ke)) (dD aw (dN kf)) (fE (eA aw kf))))))) (df aw)))];intro k dx e1 k6 g4;rw[y k dx ak gJ,aj s0 (upd ZV k QY) (afF e1 k6 g4)];have f5:E ZV k (aC hI []) k QY=upd ZV k QY:=yt;rw[e l7 ZV k QY k QY];rw[f5];rw[m ZV k QY i s0 l7,v (by show a1 0;simp) (fun t h7=>?_)];have a4:=aE' (ac [] h7);have I:=b_ (o:=al') h7 _ _ l7;rw[a d5 i t [] t []];have g8:Y t:=s0.free h7;rw[ck g9 t k,f i t [] a8 a4 I d5,ak (qH (∃(f:Nat)(cs:bL fA)(o:PH)(N:bg)(h8:aT)(b1 i1 j5 j3 i9:jK),m=ai2/\M=[tR,ac k,ac t,bE f,b1,i1,j5,j3,i9]/\f<=z_/\akH (Aa f)=E4/\z (V c cs aKA) bQ (G3 bJ dJ hI L k o N) (V b N gp) (aj t (akB cp)/\t∉N/\amq=h8++u0 (tm akF)))) (a _ 0 cs ae [k] [] ae ae (f ae ae ae rfl cT r X (c a4 (ai dx I) (k6 (t (show b=k by simpa using m) e1)) d5 (ax g9) D)))];clear r X D I d5 a4 l7 s0 f5 cs;rintro m M L⟨f,cs,o,N,h8,b1,i1,j5,j3,i9,rfl,rfl,c2,r,X,J,a7,hN,c6,e6,D⟩;rw[n6 aHb,kj];{rw[eB C (f<z_) c,ca aaU];cases cs with|nil=>{exfalso;rw[ik r,bX GM.UW sO];have:z_-f=0:=this;exact yr this.l C (aS z_ f)}|cons cc cs=>obtain⟨h1,ask⟩:=X cc (fu ..);obtain⟨x,p,ns,W,b,n,S,a0,h2,U,v,h3⟩:=GM.a0G h1 ask r;obtain⟨f9,sw⟩:=a0I h2;rw[cz e5 f p v,r l jN aHb (dX (j:=f) (p5 e5)) ?_,y (.inl (v p)) (vn zm) f9 ?_];have dl:Aa f=p::(ns++aJh++n):=by{trivial};have c5:Aa (f+1)=ns++(aJh++n):=by{rw[<-HU,dl];exact dv _ _ _};have c7:Aa m_=aJh++n:=by{rw[<-HU,c5,ain]};have b4:v f+1+v zm=Qi:=by{rfl};have b9:v f+1=ae (f+1):=by{rfl};delta F1;dsimp only;rw[b4];rw[dk aHb J1];have h4:jl aHa (oD f) (aa Qi)=je:=by{rw[b9,UT,c5,a0 (m_-(f+1)) zm (a6e ..),aio]};rw[h4];rw[T a4 L (U L d je) nd,ar d2 L je je,i L d je b7 a4 d2,v (by show a1 0;exact cT) (fun c4 Y=>?_),P b5 L (U b7 c4 []) (ls Y),a q2 b7 c4 [] c4 [],i d6 b7 c4 [] d je Y d2,f b7 c4 [] d4 b5 q2 d6];intro j k4;refine f j _ (.inr k4) (ai rfl ?_);rw[i6 (BD jN aK_)];rw[sw];refine fF (fun d1=>?r1) (fun d1=>?r2);(case' r1=>have h5:b=ab:=by{cases b with|true=>{rfl}|false=>simp at d1};subst h5;have c7:Aa m_=fh::(W++n):=c7;rw[cz g7 m_ fh c7];have a9:Aa (m_+1)=W++n:=by{rw[<-HU,c7];rfl};have b8:Aa aav=n:=by{rw[<-HU,a9,ain]};rw[cA h6 fh a9 (cf CS (qM z_ (m_+1))),r l (vn fh) (ol (akI b5)) (dX (j:=m_) (p5 g7)) ?_];have e7:Qi+1+v fh=ae aav:=by{lia};have g5:Qi+1=ae (m_+1):=by{lia};rw[j6 3 (cp (Qi+1+v fh))];rw[e7];rw[dk (ol (akI b5)) aJU];have h9:jl aHa (aa (Qi+1)) (aa (ae aav))=P9:=by{rw[g5,UT,a9,a0 (aav-(m_+1)) fh (a6e ..),aio]};rw[h9];rw[P d9 L (U d4 c0 P9) (fg (b_ c1)),a i6 d4 c0 P9 c0 P9,i e2 d4 c0 P9 d je c1 d6,f d4 c0 P9 e4 d9 i6 e2,Gj aav];rw[<-Z]at b8;rw[<-Z];have d7:b6<=z_:=by rw[iS (bx g7),ik a9,bX sO cj];exact hn Z.l (aR lt) CS);(case' r2=>have d0:b=ai:=by{cases b with|false=>{rfl}|true=>simp at d1};rw[xR];have q:W=[]:=U rfl;rw[e_];have b8:Aa m_=n:=c7;have h6:([]:ao).length<=z_:=cT;rw[cA d7 m_ c5 (RQ (aR C) CS)];obtain⟨e4,d9,i6,e2,b0⟩:I z (cZ L z) (b5 (z c4) (ii ([]:ao))) (b5 (z d) je/\z=d4):=a d4 b5 q2 d6 rfl;rw[<-b0];obtain⟨c0,G⟩:∃z,z=c4:=ei;rw[<-G]at i6;rw[<-G];rw[Gj m_];rw[<-Z]at b8 d7;rw[<-Z]);all_goals obtain⟨f7,i0,i5,c3⟩:=(a7.mono d9).k;have d3:=a7.mono d9;have i2:aiS (tm akF) cc=zZ o x:=GM.aSM o S;have e8:amq=h8++((v aGX::O0)++u0 (zZ o x).1):=by{rw[D,<-i2];rfl};have d8:h8.length+(1+aGX)<=10000000:=by{rw[ik e8];rw[cj,cj,ia]at this;exact cf CS f6};rw[c k i0 c3 EG k o (a N x p ns _ d c0 rfl (a d3 (a0H a0) e2 i6 bM (f7 d8) (fun F g6 g l8 sb O a i3 y k8=>?_)))];have c8:=fF c6;have e0:=sb _ _ c8 e6;rw[r i4 t F O c8 c8];have e9:t∉l8:=bo (cd (k8 t m) e6 (J (by rw[c8]at z;cases z)));rw[c (dq e0) F (cc a) t _ _ (ax rfl e0 (t bA (cf d8 fw)) ?_),c (dq ak) t F _ _ rfl ak (aJ (Y i4.symm a) (by rw[cj,bA,bA];show h8.length+1+_<=_;exact cf d8 fw))];have R:SB [t] g6 (U (aV g6 t (akB cp) (gZ (t (hD O0)))) t (akB cp++[gZ (t (hD O0))]++hD O0)):=(hn eg aQ).put aQ;rw[b ai2 jR b6 cs g l8 (h8++(v aGX::O0)) _ (m _ _ d7 (t b8 h3) (a (fun c m=>X c (ck m)) ?_ (i3.told e0 e9 R) ?_ ?_ e9 ?_))];{intro b2 u e;have n1:b2∉N:=bo (CR (hN b2 m));have n2:b2∉[t]:=by{have:b2≠t:=J (by rw[b2 g8 e,dS]);rw[gf]};exact R _ _ (sb _ _ ((akI d9) _ _ e) n1) n2};{intro b2 m;rw[cZ (k8 b2 m),l (hN b2 z),l (eV (akI d9) z)]};rw[l2 ak];{rw[e8,y,dv]}};{have C:Aa f=[]:=by{simp at c;simpa using c};rw[C]at r;have:=GM.a0E X r.symm;rw[gm,R D amq h8 D (qK _)];rw[<-D]at c6;exact(B t L c6)}
universe z
universe GA
section z
set_option tactic.hygienic true
namespace GA
open PySem PySem.Spec PyProof.Rows L2
theorem aAP{K:Fg}{O:af}{H:Hp}{Q:VK}{E:XK}(h:LH K O H Q E):agI K O H Q E:=by rw[w r b S c2 h];cases S with|cons a3 a9=>cases a9;cases a3 with|lst c0 b3=>have e:=L2.avk a.1 _ b3;rw[bY];have q:c_ (PySem.W.Codec.inLen 0 30000 a.1&&a.1.all (PySem.W.Codec.inInt 0 8589934591)) ab:=r;rw[hZ,hZ]at q;have k0:akH aJn=a.1:=by{unfold GM.zs;rw[jw];rw[ul a.1,jM aod];have:=Wh q.1.2 z c9;have:=(PySem.W.Codec.inInt_iff.mp this).1;show ae akG=z;omega};have c:hD a.1=bh aJn:=by{conv=>{lhs;rw[<-k0]};unfold GM.zs;rw[jw];rfl};rw[c]at c0;rw[y _ aJn c0 (v (t bA (PySem.W.Codec.inNat_iff.mp q.1.1).2) (t k0 b) (fun F L z=>c2 _ _ ?_))];rw[k0]at z;exact .lst (L2.fW.of z) (L2.avj _)
theorem a0J(a:Zt):aMZ:=by apply qG;intro n;have z:= @a0Z Zt (hv (¬aMZ)) ⟨a,n⟩;have o:a6f P w aj 16 (LH K):=⟨fun vs H Q E h=>aAO.len vs H Q E (aAP h),fun A ez s H i b1 vs Q E a6 U J S h=>aAO.run A ez s H i b1 vs Q E a6 U J S (aAP h)⟩;exact z (yI o)
theorem fin{P:Program}{w:World}{K:Fg}{mg:dM}{t:Addr}(e:aaR)(G:Bq)(A:fL "answers" t):∃fd:FuncData,(nR (ly=(al5:cX).length) ((al5:cX).zip b1))/\∀base:iL,vM aj->alN->am 16 t fd al5 (LH K):=by rw[ci (A.symm.trans (aMv).m)];injection q with q;injection q with q;rw[e_];obtain⟨D,m,kV,p,b3,g,e3,ct,z,c9,_⟩:=(aMv).F.ex;rw[aa (aMv).fd (fun s b1 hu=>?_) (fun aj _ _=>a0J (a P w K mg aj e G))];rw[c9];revert b1;exact sA (au (.of_eq rfl))
universe GA
universe z
section z
set_option tactic.hygienic true
open PySem PySem.W PyProof.Rows
theorem HX.walk{q:Program}{j:cX}{m:aHK}{J:OpenSpec}{d:DefRec}{a:ms aFJ}{run:cS->aM->XY}{G:cu Frag}(h:E K (G K) (K0 uj)):K0 (∃K:Frag,uj/\G K):=fun w s0 a4 mg D g⟨K,i,e⟩=>h K e w s0 a4 mg D g i
theorem HX.bj5:PySem.Challenge.rw_glassrecord_s01_answers.Holds:=by refine holds_os (XP:=XL HX.q3 []) (YP:=fun _ h=>HX.YH h) HX.lft (sO (of_eq_true e)) (fun _ _ _⟨K,i,e⟩k=>v K (Frag.In.keeps i k) e) (fun s e=>xl_of s (D_ e).1) XL.keeps bI bI bI (fun s e=>recFacts_of (D_ e).2) os_shapes HX.ws HX.co HX.br HX.xa ?_;refine HX.walk (fun K e=>L2.aUV (k:=16) (T:=L2.sh) (c5:=al5) (e8:=GA.LH) (K:=au K) HX.ws rfl rfl (ai ay ay) (fun w h c=>c) (fun w mg t h c X G m=>GA.fin e (fun x v a=>match v with|some _=>mg_of X G a|none=>mg_none_of X G a) m) (fun K H O a _ i k x=>a a i k x (vA z)) (fun _ _ _ _ z=>z))
universe z
end
theorem PySem.Challenge.cw_glassrecord_s01_answers_holds : PySem.Challenge.rw_glassrecord_s01_answers.Holds := by
 exact HX.bj5
