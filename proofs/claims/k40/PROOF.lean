import PyProof.Rows.All
import Wide.All
import OpenK.AllK
import Wide.FinOn
import Lean
import PyProof.EqAt
import PyProof.EqKinds
import PyProof.TupleCall
import PyProof.StrOps
import PyProof.MeetsStr
import PyProof.StrLawsJoin
import PySem.Challenge.RW_leastdeeds_k40_rows_mended
set_option Elab.async false
set_option linter.all false
set_option maxRecDepth 100000
set_option tactic.hygienic false
set_option autoImplicit true
set_option relaxedAutoImplicit true
set_option genSizeOfSpec false
set_option genSizeOf false
set_option maxHeartbeats 0
set_option bootstrap.genMatcherCode false
set_option genSizeOf false
noncomputable section
local macro_rules(kind:=«term{_}»)|`({$a:term,*})=>`(⟨$a,*⟩)
local macro_rules(kind:=Lean.Parser.Term.quotedName)|x=>match x[0].isNameLit?.getD .anonymous|>.toString with|"a"=>`(by omega)|"d"=>`(by decide)|"s"=>`(by simp)|"o"=>`(by simp;omega)|"k"=>`(by decide +kernel)|"r"=>`(by rfl)|_=>Lean.Macro.throwUnsupported
local macro_rules|`(tactic|omega)=>`(tactic|first|(simp +arith;done)|lia|omega(config:={}))
abbrev tqa:=@PySem.wpAny_bind
abbrev tqb:=@PySem.wpAny_pure
abbrev tqf:=@PySem.wpAny_field
abbrev tqo:=@PySem.wpAny_holding
abbrev tqp:=@PySem.wpAny_truthy_bool
abbrev PH:=@List.getElem?_eq_some_iff
abbrev PJ:=@PySem.W.Frag
abbrev PK:=@List.length_map
abbrev PL:=@PySem.Value
abbrev PM:=@PySem.Heap.get?_push_of_some
abbrev PN:=@List.getElem?_set_ne
abbrev PQ:=@Option.some.inj
abbrev PU:=@List.getElem?_append_left
abbrev PV:=@Nat.le_refl
abbrev PX:=@PySem.Shared
abbrev PY:=@Bool.and_eq_true
abbrev PZ:=@List.mem_map
abbrev P4:=@List.getElem?_eq_getElem
abbrev P5:=@Nat.le_of_ble_eq_true
abbrev P6:=@List.getElem?_map
abbrev P7:=@List.size_toArray
abbrev Qa:=@List.mem_singleton
abbrev Qb:=@List.mem_of_getElem?
abbrev Qc:=@List.mem_cons_of_mem
abbrev Qd:=@List.map_append
abbrev Qe:=@List.length_append
abbrev Qf:=@Nat.le_trans
abbrev Qg:=@Nat.lt_of_lt_of_le
abbrev Qh:=@List.all_eq_true
abbrev Qi:=@Option.map_eq_some_iff
abbrev Qj:=@List.getElem?_set_self
abbrev Qk:=@PySem.Heap.lt_size
abbrev Qm:=@List.mem_cons_self
abbrev Qn:=@PySem.Heap.get?_push_size
abbrev Qo:=@List.getElem?_append_right
abbrev Qr:=@Bool.false_ne_true
abbrev Qs:=@List.mem_append
abbrev Qt:=@List.take_of_length_le
abbrev Qu:=@List.mem_cons
abbrev Qv:=@List.mem_map_of_mem
abbrev Qw:=@Nat.ne_of_lt
abbrev Qx:=@List.mem_append_right
abbrev Qy:=@List.append_nil
abbrev Qz:=@PySem.World
abbrev QE:=@Nat.add_sub_cancel_left
abbrev QF:=@PySem.Program
abbrev QH:=@List.append_assoc
abbrev QI:=@List.nodup_cons
abbrev QN:=@Option.bind_eq_some_iff
abbrev QO:=@List.map_map
abbrev QP:=@List.length_range
abbrev QR:=@Nat.ne_of_gt
abbrev QS:=@List.mem_of_mem_take
abbrev QT:=@List.mem_append_left
abbrev QU:=@List.lookup_cons
abbrev QV:=@PySem.OsState
abbrev QW:=@PySem.W.kia_one
abbrev QX:=@PySem.W.SharedT
abbrev QY:=@List.length_take
abbrev QZ:=@List.all_cons
abbrev Q0:=@Ne.symm
abbrev Q1:=@List.take_succ
abbrev Q4:=@Nat.lt_irrefl
abbrev Q5:=@Nat.not_lt_zero
abbrev Q6:=@List.map_cons
abbrev Q7:=@PyProof.Rows.callWith_type1
abbrev Q8:=@Iff.rfl
abbrev Q9:=@PyProof.Rows.slot_tuple_getitem
abbrev Ra:=@Bool.eq_iff_iff
abbrev Rb:=@beq_eq_false_iff_ne
abbrev Rf:=@List.replicate_succ
abbrev Rg:=@PySem.Env
abbrev Rh:=@Nat.zero_le
abbrev Ri:=@PySem.W.mg_of
abbrev Rj:=@Nat.lt_succ_of_lt
abbrev Rk:=@List.nodup_append
abbrev Rl:=@List.getD_eq_getElem?_getD
abbrev Rn:=@List.exists_of_findSome?_eq_some
abbrev Ro:=@Array.getElem?_eq_some_iff
abbrev Rp:=@List.map_congr_left
abbrev Rq:=@PySem.Heap.get?_update_other
abbrev Rr:=@PySem.Heap.SameBut.update
abbrev Rt:=@Nat.le_add_right
abbrev Ru:=@List.length_drop
abbrev Rv:=@List.any_eq_true
abbrev Rw:=@PySem.Heap.get?_update_self
abbrev Rx:=@Bool.and_eq_true_iff
abbrev Ry:=@PySem.Around
abbrev Rz:=@PySem.Heap.SameBut
abbrev RA:=@PySem.AutoSeq1.wpAny_loadPart'
abbrev RB:=@Bool.or_eq_true
abbrev RC:=@PySem.Heap.size_push
abbrev RD:=@Nat.lt_or_ge
abbrev RE:=@PySem.DictEntry
abbrev RF:=@PySem.Params
abbrev RG:=@List.length_cons
abbrev RH:=@Nat.lt_of_le_of_lt
abbrev RI:=@List.mem_range
abbrev RJ:=@Int.emod_lt_of_pos
abbrev RK:=@List.length_replicate
abbrev RL:=@Nat.min_eq_left
abbrev RM:=@List.length_set
abbrev RN:=@Int.emod_nonneg
abbrev RO:=@PySem.Paired
abbrev RP:=@PySem.Obj.data_mapFields
abbrev RQ:=@Option.isSome_map
abbrev RR:=@Nat.le_of_lt
abbrev RS:=@List.getElem?_of_mem
abbrev RT:=@List.flatten_cons
abbrev RU:=@Int.toNat_natCast
abbrev RV:=@Nat.add_assoc
abbrev RW:=@Array.length_toList
abbrev RX:=@List.length_eq_zero_iff
abbrev RY:=@List.getElem?_replicate
abbrev RZ:=@Int.eq_ofNat_of_zero_le
abbrev R0:=@PySem.Comprehension
abbrev R1:=@List.getElem_range
abbrev R3:=@List.mem_filter
abbrev R4:=@Function.comp_def
abbrev R5:=@Option.isNone_iff_eq_none
abbrev R6:=@PySem.mem_of_lookup
namespace HD
open PySem PySem.W
noncomputable def g8 (tb:String->Option Builtin)(p:QF)(w:Qz)(n0:Nat)(ann:Option PL):Nat->QX->Thread->Option QX
 |0,_,_=>none
 | n + 1, s, t => match through t with
   |true=>some s
   | false => match stepOk n0 ann t with
     |false=>none
     | true => match stepT (denote tb) p w s t with
       |some (s',t')=>g8 tb p w n0 ann n s' t'
       |none=>none
theorem qE {tb:String->Option Builtin}{p:QF}{w:Qz}{n0:Nat}{ann:Option PL}:∀{n:Nat}{s s':QX}{t:Thread},g8 tb p w n0 ann n s t=some s'->topRun tb p w n0 ann n s.abs t=some s'.abs
 |0,_,_,_,h=>by cases h
 | n + 1, s, s', t, h => by
   unfold g8 at h;unfold topRun;cases he:through t with
   |true=>rw[he] at h;cases h;rfl
   | false =>
     rw[he] at h;cases hk:stepOk n0 ann t with
     |false=>rw[hk] at h;cases h
     | true =>
       rw[hk] at h;cases hs:stepT (denote tb) p w s t with
       |none=>rw[hs] at h;cases h
       |some r=>obtain⟨s2,t2⟩:=r;rw[hs] at h;rw[stepT_spec hs];exact qE h
noncomputable def treeOf:List Obj->Nat->BT->BT
 |[],_,t=>t
 |o::r,n,t=>treeOf r (n+1) (t.ins n o)
def xJ (P:RF)(os:QV):QX:={treeOf (boot_heap P).objs.toList 0 .nil,(boot_heap P).objs.toList.length,(boot_heap P).life,#[],boot_drawn,boot_toks,os}
def boot_abs (P:RF)(os:QV):(xJ P os).abs={boot_heap P,#[],boot_drawn,boot_toks,os}:=by kernel_rfl
noncomputable def kQ (p q:QF)(loose:List Str)(Xt:PX->Bool)(g0:Bool)(h0:Heap){α:Type}(Yf:PX->α)(s:PX):=
 ((staticsOk (importedModules p.main.body) h0 s.heap&&namesBound p s.heap&&gensDone s&&laidKept h0 s.heap),openSeen q loose (importedModules p.main.body) Xt g0 s,Yf s)
noncomputable def vS (tb:String->Option Builtin)(p:QF)(w:Qz)(n0:Nat)(ann:Option PL):Nat->QX->Thread->Option (QX×Thread)
 |0,s,t=>some (s,t)
 | n + 1, s, t => match through t with
   |true=>none
   | false => match stepOk n0 ann t with
     |false=>none
     | true => match stepT (denote tb) p w s t with
       |some (s',t')=>vS tb p w n0 ann n s' t'
       |none=>none
noncomputable def kI (tb:String->Option Builtin)(p:QF)(w:Qz)(n0:Nat)(ann:Option PL):Nat->QX->Thread->Option (Flow×QX×Code×Pos)
 |0,_,_=>none
 | n + 1, s, t => match endAt 1 t with
   |some f=>some (f,s,t.code,t.pos)
   | none => match stepOk n0 ann t with
     |false=>none
     | true => match stepT (denote tb) p w s t with
       |some (s',t')=>kI tb p w n0 ann n s' t'
       |none=>none
section
variable{tb:String->Option Builtin}{p:QF}{w:Qz}{n0:Nat}{ann:Option PL}
theorem Ao:∀{n:Nat}{s s':QX}{t t':Thread},vS tb p w n0 ann n s t=some (s',t')->topGo tb p w n0 ann n s.abs t=some (s'.abs,t')
 |0,s,s',t,t',h=>by cases h;rfl
 | n + 1, s, s', t, t', h => by
   unfold vS at h;unfold topGo;cases he:through t with
   |true=>rw[he] at h;cases h
   | false =>
     rw[he] at h;cases hk:stepOk n0 ann t with
     |false=>rw[hk] at h;cases h
     | true =>
       rw[hk] at h;cases hs:stepT (denote tb) p w s t with
       |none=>rw[hs] at h;cases h
       |some q=>obtain⟨s2,t2⟩:=q;rw[hs] at h;rw[stepT_spec hs];exact Ao h
theorem pN:∀{n:Nat}{s s':QX}{t:Thread}{f:Flow}{c:Code}{q:Pos},kI tb p w n0 ann n s t=some (f,s',c,q)->segRun tb p w n0 ann 1 n s.abs t=some (f,s'.abs,c,q)
 |0,_,_,_,_,_,_,h=>by cases h
 | n + 1, s, s', t, f, c, q, h => by
   unfold kI at h;unfold segRun;cases he:endAt 1 t with
   |some g=>rw[he] at h;cases h;rfl
   | none =>
     rw[he] at h;cases hk:stepOk n0 ann t with
     |false=>rw[hk] at h;cases h
     | true =>
       rw[hk] at h;cases hs:stepT (denote tb) p w s t with
       |none=>rw[hs] at h;cases h
       |some x=>obtain⟨s2,t2⟩:=x;rw[hs] at h;rw[stepT_spec hs];exact pN h
def ug {n3 N:Nat}{s s2:QX}{env:Env}{c:Code}{p' p2 q:Pos}{b:List Stmt}{J:Nat}{α:Type}{f:PX->α}{a:α}
 (h3:kI tb p w n0 ann n3 s (piecesOf (b.take J) env c p' [topFrame q])=some (.next,s2,c,p2))
 (h4:(topRun tb p w n0 ann N s2.abs (restOf (b.drop J) env c p2 [topFrame q])).map f=some a):(topRun tb p w n0 ann (n3+N) s.abs (restOf b env c p' [topFrame q])).map f=some a:=by
 obtain⟨r,e3,e4⟩:=Qi.mp h4;have k4:=piece_app (pN h3) e3;rw[List.take_append_drop] at k4;rw[k4];exact congrArg some e4
def Ay {N:Nat}{s2:QX}{t:Thread}{p' q:QF}{loose:List Str}{Xt:PX->Bool}{g0:Bool}{h0:Heap}{α:Type}{Yf:PX->α}{a b c}
 (h1:(g8 tb p w n0 ann N s2 t).map (λs=>(kQ p' q loose Xt g0 h0 Yf s.abs).1)=some a) (h2:(g8 tb p w n0 ann N s2 t).map (λs=>(kQ p' q loose Xt g0 h0 Yf s.abs).2.1)=some b)
 (h3:(g8 tb p w n0 ann N s2 t).map (λs=>(kQ p' q loose Xt g0 h0 Yf s.abs).2.2)=some c):(topRun tb p w n0 ann N s2.abs t).map (kQ p' q loose Xt g0 h0 Yf)=some (a,b,c):=by
 obtain⟨r,e3,rfl⟩:=Qi.mp h1;rw[e3] at h2 h3;cases h2;cases h3;rw[qE e3];rfl
def Az {n1 n2 N:Nat}{s s':QX}{env:Env}{c:Code}{pos p' q:Pos}{t:Thread}{b:List Stmt}{J:Nat}{α:Type}{f:PX->α}{a:α}
 (h1:(vS tb p w n0 ann n1 s t).map (·.2)=some {denote tb (.body b env),c,pos,[topFrame q]}) (h0:endAt 1 (blockOf b env c pos [topFrame q])=some .next)
 (h2:((vS tb p w n0 ann n1 s t).bind λx=>kI tb p w n0 ann n2 x.1 (piecesOf (b.take J) env c pos [topFrame q]))=some (.next,s',c,p'))
 (h3:(topRun tb p w n0 ann N s'.abs (restOf (b.drop J) env c p' [topFrame q])).map f=some a):(topRun tb p w n0 ann (n1+(1+(n2+N))) s.abs t).map f=some a:=by
 obtain⟨⟨s1,t1⟩,e1,e2⟩:=Qi.mp h1;have e2:t1={denote tb (.body b env),c,pos,[topFrame q]}:=e2;subst e2;rw[e1] at h2;have h2:kI tb p w n0 ann n2 s1 (piecesOf (b.take J) env c pos [topFrame q])=some (.next,s',c,p'):=h2
 obtain⟨r,e3,e4⟩:=Qi.mp h3;have k3:=piece_app (pN h2) e3;rw[List.take_append_drop] at k3;have hb:segRun tb p w n0 ann 1 1 s1.abs (blockOf b env c pos [topFrame q])=some (.next,s1.abs,c,pos):=by
  show(match endAt 1 (blockOf b env c pos [topFrame q]) with|some f=>some (f,s1.abs,c,pos)|none=>_)=_
  rw[h0]
 have k2:=piece_block hb k3;rw[go_top (Ao e1) k2];exact congrArg some e4
end
def uU {p q:QF}{loose:List Str}{Xt:PX->Bool}{α:Type}{Yf:PX->α}{Ya:Qz->α}{N:Nat}{g0:Bool}{m0:Nat}{ann:Option PL}
 (open_:∀w:Qz,(fencedOpening treeTable p w N).map (λs=>(s.heap,s.gens,s.drawn,s.toks))=some (boot_heap w.params,Array.mk [],boot_drawn,boot_toks))
 (size:∀w:Qz,((boot_heap w.params).isNs mainGlobals&&(Array.mk ([]:List GenState)).size==0,(boot_heap w.params).objs.size,(boot_heap w.params).nsMap mainGlobals "__annotations__")=(true,m0,ann))
 (run:∀(w:Qz) (os:QV),(topRun treeTable p w m0 ann N (xJ w.params os).abs (topStub p)).map (kQ p q loose Xt g0 (boot_heap w.params) Yf)=some (true,openGood q loose,Ya w)):LeftO p q loose Xt Yf Ya N g0:=λw=>by
 obtain⟨⟨h,gs,d,k,os⟩,e,e'⟩:=Qi.mp (open_ w);obtain⟨rfl,rfl,rfl,rfl⟩:h=boot_heap w.params/\gs=Array.mk []/\d=boot_drawn/\k=boot_toks:=by simpa using e'
 obtain⟨z1,z2,z3⟩:_/\_/\_:=by simpa only[Prod.mk.injEq] using size w
 obtain⟨s1,r,l⟩:=Qi.mp (run w os);obtain⟨l1,l2,l3⟩:_/\_/\_:=by simpa only[kQ,Prod.mk.injEq] using l
 rw[boot_abs] at r;have t:topFrom treeTable p w N {boot_heap w.params,Array.mk [],boot_drawn,boot_toks,os}=some s1:=by
  unfold topFrom;dsimp only;rw[z1,z2,z3,r];show(match staticsOk (importedModules p.main.body) (boot_heap w.params) s1.heap&&namesBound p s1.heap&&gensDone s1&&laidKept (boot_heap w.params) s1.heap with|true=>_|false=>_)=_
  rw[l1]
 unfold openEnds;rw[e];show(topFrom treeTable p w N _).map _=_;rw[t];exact congrArg some (Prod.ext l2 l3)
end HD
namespace K40
open PySem
abbrev eN (P:RF)(x:Str)(n:Nat)(v:PL):RE:={PyData.keyHash P x,.str x n,v}
noncomputable def qb (j:Nat)(s:Stmt):Stmt:=match s with
 |.ClassDef _ _ _ b _ _ _ _ _ _ _=>b.getD j s
 |_=>s
noncomputable def eY (i:Nat):Stmt:=PySem.Challenge.pw_leastdeeds_k40_rows_mended.main.body.getD i (.Pass {0,0,0,0})
noncomputable def mY (s:Stmt):Arguments:=match s with
 |.FunctionDef _ a _ _ _ _ _ _ _ _=>a
 |_=>{[],[],none,[],[],none,[]}
noncomputable def mX (s:Stmt):List Stmt:=match s with
 |.FunctionDef _ _ b _ _ _ _ _ _ _=>b
 |_=>[]
noncomputable def kg (s:Stmt):Scope:=match s with
 |.FunctionDef _ _ _ _ _ _ sc _ _ _=>sc
 |_=>{kind:=.function,names:=[],isGenerator:=false,isCoroutine:=false}
noncomputable def o1:Obj:={cls:=.type "tuple" ,data:=.seq #[]}
noncomputable def o2 (a:String)(b:Nat)(c:Int)(d:Nat)(e:Int):Obj:={cls:=.type "code" ,data:=.fields #[.str (Str.ofString a) b ,.str (Str.ofString a) (b+1) ,.str ("/claim/cut.py") (b+2) ,.int c 0 ,.int 0 0 ,.int 0 0 ,.int 0 0 ,.int 0 0 ,.ref d ,.bool false ,.int 181 0 ,.ref (d+1) ,.none ,.none ,.none ,.none ,.int e 0 ,.int c 0 ,.str ("/claim/cut.py") (b+4)]}
noncomputable def o3 (a:Nat)(b:Nat)(c:String)(d:Nat):Obj:={cls:=.type "frame" ,slots:=#[some (.ref a) ,some (.ref 3) ,some (.ref b) ,none ,some (.str (Str.ofString c) d) ,none ,some (.ref 0)]}
def o4:Obj:={cls:=.type "builtin_function_or_method" ,data:=.fields #[.builtin "type.__prepare__" ,.type "type"]}
def o5 (P:RF)(a:Nat)(b:String)(c:Int)(d:Nat):Obj:={cls:=.type "dict" ,data:=.dict #[{hash:=PyData.keyHash P ("__module__") ,key:=.str ("__module__") a ,val:=.str ("leastdeeds.errors") 187} ,{hash:=PyData.keyHash P ("__qualname__") ,key:=.str ("__qualname__") (a+2) ,val:=.str (Str.ofString b) (a+1)} ,{hash:=PyData.keyHash P ("__firstlineno__") ,key:=.str ("__firstlineno__") (a+4) ,val:=.int c (a+3)} ,{hash:=PyData.keyHash P ("__static_attributes__") ,key:=.str ("__static_attributes__") (a+5) ,val:=.ref d}] 4}
def o6:Obj:={cls:=.none ,data:=.fields #[]}
def o7 (P:RF)(a:Nat)(b:Int)(c:String)(d:Nat)(e:Nat)(f:String)(g:Nat)(h:Nat):Obj:={cls:=.type "dict" ,data:=.dict #[{hash:=PyData.keyHash P ("__module__") ,key:=.str ("__module__") a ,val:=.str ("leastdeeds.errors") 187} ,{hash:=PyData.keyHash P ("__firstlineno__") ,key:=.str ("__firstlineno__") (a+4) ,val:=.int b (a+3)} ,{hash:=PyData.keyHash P (Str.ofString c) ,key:=.str (Str.ofString c) d ,val:=.ref e} ,{hash:=PyData.keyHash P (Str.ofString f) ,key:=.str (Str.ofString f) (d+2) ,val:=.ref g} ,{hash:=PyData.keyHash P ("__doc__") ,key:=.str ("__doc__") (d+3) ,val:=.none}] h}
def o8:Obj:={cls:=.type "type" ,data:=.cls {name:="DeedError" ,bases:=[.type "ValueError"] ,mro:=[.ref 24 ,.type "ValueError" ,.type "Exception" ,.type "BaseException" ,.type "object"] ,ns:=23 ,qualname:="DeedError" ,subclasses:=[.ref 44 ,.ref 56 ,.ref 68 ,.ref 80 ,.ref 92]} ,slots:=#[some (.ref 15) ,none ,some (.str ("DeedError") 189) ,some (.str ("DeedError") 197) ,some (.builtin "ValueError.__new__") ,some (.bool true)]}
def o9 (a:Nat):Obj:={cls:=.type "super" ,data:=.fields #[.ref a ,.ref a ,.ref a]}
def vm (a:Nat):Obj:={cls:=.type "builtin_function_or_method" ,data:=.fields #[.builtin "object.__init_subclass__" ,.ref a]}
def zF:Obj:={cls:=.type "tuple" ,data:=.seq #[.ref 24]}
def tD (a:String)(b:Nat)(c:String)(d:Int)(e:Int)(f:Nat)(g:Int)(h:Nat):Obj:={cls:=.type "code" ,data:=.fields #[.str (Str.ofString a) b ,.str (Str.ofString c) (b+1) ,.str ("/claim/cut.py") (b+2) ,.int d 0 ,.int e 0 ,.int 0 0 ,.int 0 0 ,.int 3 0 ,.ref f ,.bool true ,.int 181 0 ,.ref (f+1) ,.none ,.ref (f+2) ,.ref (f+3) ,.ref (f+4) ,.int g 0 ,.int d 0 ,.str ("/claim/cut.py") h]}
def zE (a:String)(b:Nat)(c:Nat)(d:Nat)(e:Nat):Obj:={cls:=.type "type" ,data:=.cls {name:=Str.ofString a ,bases:=[.ref 24] ,mro:=[.ref b ,.ref 24 ,.type "ValueError" ,.type "Exception" ,.type "BaseException" ,.type "object"] ,ns:=c ,qualname:=Str.ofString a} ,slots:=#[some (.ref d) ,none ,some (.str (Str.ofString a) e) ,some (.str (Str.ofString a) (e+8)) ,some (.builtin "ValueError.__new__") ,some (.bool true)]}
def DU (P:RF)(a:Nat)(b:Int)(c:Nat):Obj:={cls:=.type "dict" ,data:=.dict #[{hash:=PyData.keyHash P ("__module__") ,key:=.str ("__module__") a ,val:=.str ("leastdeeds.errors") 187} ,{hash:=PyData.keyHash P ("__firstlineno__") ,key:=.str ("__firstlineno__") (a+4) ,val:=.int b (a+3)} ,{hash:=PyData.keyHash P ("__static_attributes__") ,key:=.str ("__static_attributes__") (a+5) ,val:=.ref c} ,{hash:=PyData.keyHash P ("__doc__") ,key:=.str ("__doc__") (a+6) ,val:=.none}] 2}
def Nx (P:RF)(a:Nat)(b:Nat):Obj:={cls:=.type "dict" ,data:=.dict #[{hash:=PyData.keyHash P ("turn") ,key:=.str ("turn") a ,val:=.ref b} ,{hash:=PyData.keyHash P ("join") ,key:=.str ("join") (a+1) ,val:=.ref (b+7)} ,{hash:=PyData.keyHash P ("move") ,key:=.str ("move") (a+2) ,val:=.ref (b+14)} ,{hash:=PyData.keyHash P ("put") ,key:=.str ("put") (a+3) ,val:=.ref (b+21)}] 4}
def o16:Obj:={cls:=.type "tuple" ,data:=.seq #[.none]}
def o17:Obj:={cls:=.type "function" ,data:=.func {name:="reached" ,qualname:="reached" ,params:=mY (eY 46) ,body:=PySem.FuncBody.stmts (mX (eY 46)) ,scope:=kg (eY 46) ,globals:=3 ,closure:=[] ,defaults:=.ref 267 ,kwdefaults:=.none ,pyModule:=.str ("leastdeeds.least") 548 ,code:=.ref 273}}
def vk (a:String)(b:Nat)(c:Nat):Obj:={cls:=.type "function" ,data:=.func {name:=Str.ofString a ,qualname:=Str.ofString a ,params:=mY (eY b) ,body:=PySem.FuncBody.stmts (mX (eY b)) ,scope:=kg (eY b) ,globals:=3 ,closure:=[] ,defaults:=.none ,kwdefaults:=.none ,pyModule:=.str ("law_leastdeeds_k40_rows_mended") 657 ,code:=.ref c}}
def ki (i:Nat):Str×Nat×Nat×List Str×Bool:=match eY i with
 |.FunctionDef x a _ _ _ _ sc _ _ p=>(x,p.line,a.args.length,sc.names.filterMap (λq=>match q.2 with|.local=>some q.1|_=>none),sc.names.any (λq=>match q.2 with|.cell=>true|_=>false)||i==60)
 |_=>("",0,0,[],false)
def kN (i:Nat):Nat:=bif (ki i).2.2.2.2 then 0 else(ki i).2.2.2.1.length
def Ag (i:Nat):Nat:=bif (ki i).2.2.2.2 then 5 else 7
noncomputable def oW:Nat->Nat->Nat->Nat->List (Nat×Nat×Nat)
 |0,_,_,_=>[]
 |n+1,i,e,t=>(i,e,t)::oW n (i+1) (e+Ag i) (t+kN i+6)
def qQ:Nat×Nat×Nat->List PL:=λ(i,e,_)=>[.int (ki i).2.1 0,.int 0 0,.ref (e+Ag i-2)]
def qR (P:RF):Nat×Nat×Nat->RE:=λ(i,e,t)=>{PyData.keyHash P (ki i).1,.str (ki i).1 (t+kN i+5),.ref (e+Ag i-1)}
def Ew (c:PL)(i g:Nat)(m d:PL):Obj:={cls:=c,data:=.func {name:=(ki i).1,qualname:=(ki i).1,params:=mY (eY i),body:=.stmts (mX (eY i)),scope:=kg (eY i),globals:=g,closure:=[],defaults:=.none,kwdefaults:=.none,pyModule:=m,code:=d}}
def kO (m:Str)(k:Nat):Nat×Nat×Nat->List Obj:=λ(i,e,t)=>
 let x:=(ki i).1
 let l:PL:=.int (ki i).2.1 0
 let q:=t+kN i
 let c:=λ(a:PL) (b:PL) (d:Nat)=>({cls:=.type "code",data:=.fields #[.str x t,.str x (t+1),.str "/claim/cut.py" (t+2),l,.int (ki i).2.2.1 0,.int 0 0,.int 0 0,.int 3 0,.ref e,.bool true,.int 181 0,.ref (e+1),.none,a,b,.ref (e+d),.int (q+3:Nat) 0,l,.str "/claim/cut.py" (q+4)]}:Obj)
 [o1,{cls:=.none,data:=.fields #[]}]++bif (ki i).2.2.2.2 then [Ew .none i 0 .none .none,c .none .none 2,Ew (.type "function") i 3 (.str m k) (.ref (e+3))] else [{cls:=.type "tuple",data:=.seq (((ki i).2.2.2.1.zipIdx (t+3)).map λp=>.str p.1 p.2).toArray},o1,Ew .none i 0 .none .none,c (.ref (e+2)) (.ref (e+3)) 4,Ew (.type "function") i 3 (.str m k) (.ref (e+5))]
def qS:Nat×Nat×Nat->List Addr:=λ(i,e,_)=>[e+Ag i-2,e+Ag i-1]
def Ed:=oW 1 8 95 298
def Ec:=oW 10 16 102 321
def Eb:=oW 7 27 169 422
def Ea:=oW 4 35 214 480
def D9:=oW 1 40 243 538
def D8:=oW 3 43 250 552
def D7:=oW 4 50 275 599
def D6:=oW 21 55 303 659
def NF:List PL:=[.int 2 0,.int 0 0,.ref 20,.int 4 0,.int 0 0,.ref 33,.int 9 0,.int 0 0,.ref 52,.int 11 0,.int 0 0,.ref 64,.int 13 0,.int 0 0,.ref 76,.int 15 0,.int 0 0,.ref 88]++Ed.flatMap qQ
def ND:List PL:=NF++Ec.flatMap qQ++Eb.flatMap qQ++Ea.flatMap qQ++D9.flatMap qQ
def kt2:List PL:=ND++D8.flatMap qQ++[.int 142 0,.int 0 0,.ref 273]++D7.flatMap qQ++D6.flatMap qQ
def NI (P:RF):List RE:=[eN P "__doc__" 166 (.none),eN P "__package__" 167 (.none),eN P "__loader__" 168 (.builtin "__main__.__loader__#opaque"),eN P "__spec__" 169 (.none),eN P "__annotations__" 170 (.ref 6),eN P "__builtins__" 171 (.ref 4),eN P "__file__" 173 (.str "/claim/cut.py" 172),eN P "__cached__" 174 (.none),eN P "DeedError" 206 (.ref 24),eN P "NoRow" 231 (.ref 44),eN P "NoMachine" 247 (.ref 56),eN P "TooLong" 263 (.ref 68),eN P "NoBound" 279 (.ref 80),eN P "TooMany" 295 (.ref 92)]++Ed.map (qR P)
def NH (P:RF):List RE:=NI P++[eN P "LEAST_WORDS" 310 (.int 2 309),eN P "MOST_WORDS" 312 (.int 4 311),eN P "MOST_PLACES" 314 (.int 2 313),eN P "MOST_DEEDS" 316 (.int 6 315),eN P "MOST_COST" 318 (.int 3 317),eN P "LONGEST_ROW" 320 (.int 40 319)]++Ec.map (qR P)++[eN P "SORTS" 421 (.ref 168)]++Eb.map (qR P)++Ea.map (qR P)++[eN P "NEW_WORDS" 537 (.ref 242)]++D9.map (qR P)++[eN P "MOST_BEHAVIOURS" 551 (.int 255 550)]
def NG (P:RF):List RE:=NH P++D8.map (qR P)++[eN P "reached" 592 (.ref 274),eN P "LONGEST_MENDED" 596 (.int 12 595),eN P "WIDEST_WINDOW" 598 (.int 6 597)]++D7.map (qR P)++D6.map (qR P)
def kg3 (P:RF):List RE:=NG P++[eN P "_law_told" 848 (.ref 438),eN P "_law_step_on" 862 (.ref 445),eN P "_law_at_end" 875 (.ref 452),eN P "_law_right" 888 (.ref 459),eN P "_law_own" 894 (.ref 464),eN P "law" 911 (.ref 471)]
noncomputable def NN (P:RF):List Obj:=[o1,{cls:=.none,data:=.fields NF.toArray},o2 "<module>" 182 1 11 185,o3 13 3 "__main__" 164,{cls:=.type "tuple",data:=.seq #[.type "ValueError"]},o4,o5 P 196 "DeedError" 2 22,o1,o6,o2 "DeedError" 191 2 18 194,o3 20 17 "leastdeeds.errors" 187,o1,o7 P 196 2 "__static_attributes__" 201 22 "__weakref__" 25 3,o8,{cls:=.type "getset_descriptor",data:=.fields #[.str "__weakref__" 202,.ref 24,.builtin "ExceptionGroup.__weakref__",.none]},o9 24,vm 24,zF,o4,{cls:=.type "dict",data:=.dict #[eN P "__module__" 214 (.str "leastdeeds.errors" 187),eN P "__qualname__" 216 (.str "NoRow" 215),eN P "__firstlineno__" 218 (.int 4 217),eN P "__init__" 226 (.ref 41),eN P "__static_attributes__" 228 (.ref 42)] 5},o1,{cls:=.none,data:=.fields #[.int 6 0,.int 4 0,.ref 40]},o2 "NoRow" 209 4 31 212,o3 33 30 "leastdeeds.errors" 187,o1,o6,{cls:=.type "tuple",data:=.seq #[.str "self" 222,.str "place" 223]},o1,{cls:=.none,data:=.func {name:="__init__",qualname:="NoRow.__init__",params:=mY (qb 0 (eY 2)),body:=PySem.FuncBody.stmts (mX (qb 0 (eY 2))),scope:=kg (qb 0 (eY 2)),globals:=0,closure:=[],defaults:=.none,kwdefaults:=.none,pyModule:=.none,code:=.none}},tD "__init__" 219 "NoRow.__init__" 6 2 35 224 225,{cls:=.type "function",data:=.func {name:="__init__",qualname:="NoRow.__init__",params:=mY (qb 0 (eY 2)),body:=PySem.FuncBody.stmts (mX (qb 0 (eY 2))),scope:=kg (qb 0 (eY 2)),globals:=3,closure:=[],defaults:=.none,kwdefaults:=.none,pyModule:=.str "leastdeeds.errors" 187,code:=.ref 40}},{cls:=.type "tuple",data:=.seq #[.str "place" 227]},o7 P 214 4 "__init__" 226 41 "__static_attributes__" 42 2,zE "NoRow" 44 43 28 207,o9 44,vm 44,zF,o4,o5 P 239 "NoMachine" 9 54,o1,o6,o2 "NoMachine" 234 9 50 237,o3 52 49 "leastdeeds.errors" 187,o1,DU P 239 9 54,zE "NoMachine" 56 55 47 232,o9 56,vm 56,zF,o4,o5 P 255 "TooLong" 11 66,o1,o6,o2 "TooLong" 250 11 62 253,o3 64 61 "leastdeeds.errors" 187,o1,DU P 255 11 66,zE "TooLong" 68 67 59 248,o9 68,vm 68,zF,o4,o5 P 271 "NoBound" 13 78,o1,o6,o2 "NoBound" 266 13 74 269,o3 76 73 "leastdeeds.errors" 187,o1,DU P 271 13 78,zE "NoBound" 80 79 71 264,o9 80,vm 80,zF,o4,o5 P 287 "TooMany" 15 90,o1,o6,o2 "TooMany" 282 15 86 285,o3 88 85 "leastdeeds.errors" 187,o1,DU P 287 15 90,zE "TooMany" 92 91 83 280,o9 92,vm 92]++Ed.flatMap (kO "leastdeeds.wholes" 296)
def NM (P:RF):List Obj:=((NN P).set 1 ({cls:=.none,data:=.fields ND.toArray}))++Ec.flatMap (kO "leastdeeds.machines" 307)++[Nx P 413 146]++Eb.flatMap (kO "leastdeeds.machines" 307)++Ea.flatMap (kO "leastdeeds.runs" 478)++[Nx P 529 220]++D9.flatMap (kO "leastdeeds.runs" 478)
def NL (P:RF):List Obj:=((NM P).set 1 ({cls:=.none,data:=.fields kt2.toArray}))++D8.flatMap (kO "leastdeeds.least" 548)++[o16,o1,o6,{cls:=.type "tuple",data:=.seq #[.str "machine" 584,.str "bound" 585,.str "leads" 586,.str "empty_ends" 587,.str "found" 588,.str "levels" 589]},o1,{cls:=.none,data:=.func {name:="reached",qualname:="reached",params:=mY (eY 46),body:=PySem.FuncBody.stmts (mX (eY 46)),scope:=kg (eY 46),globals:=0,closure:=[],defaults:=.none,kwdefaults:=.none,pyModule:=.none,code:=.none}},tD "reached" 581 "reached" 142 2 268 590 591,o17]++D7.flatMap (kO "leastdeeds.mending" 593)++D6.flatMap (kO "law_leastdeeds_k40_rows_mended" 657)
def NJ:List Addr:=[23,24,43,44,55,56,67,68,79,80,91,92,168,242,267,273,274]++Ed.flatMap qS++Ec.flatMap qS++Eb.flatMap qS++Ea.flatMap qS++D9.flatMap qS++D8.flatMap qS++D7.flatMap qS++D6.flatMap qS
def kh:RF->PJ:=λP=>[(3,{cls:=.type "dict",data:=.dict (eN P "__name__" 165 (.str "law_leastdeeds_k40_rows_mended" 657)::kg3 P).toArray 84}),
 (437,tD "_law_told" 839 "_law_told" 348 3 432 846 847),
 (438,vk "_law_told" 76 437),
 (444,tD "_law_step_on" 849 "_law_step_on" 355 4 439 860 861),
 (445,vk "_law_step_on" 77 444),
 (451,tD "_law_at_end" 863 "_law_at_end" 367 4 446 873 874),
 (452,vk "_law_at_end" 78 451),
 (458,tD "_law_right" 876 "_law_right" 374 5 453 886 887),
 (459,vk "_law_right" 79 458),
 (463,{cls:=.type "code",data:=.fields #[.str "_law_own" 889,.str "_law_own" 890,.str "/claim/cut.py" 891,.int 385 0,.int 1 0,.int 0 0,.int 0 0,.int 3 0,.ref 460,.bool true,.int 181 0,.ref 461,.none,.none,.none,.ref 462,.int 892 0,.int 385 0,.str "/claim/cut.py" 893]}),
 (464,vk "_law_own" 80 463),
 (470,tD "law" 895 "law" 395 1 465 909 910),
 (471,vk "law" 81 470)]++List.map (λa=>(a,(NL P).getD (a-11) o1)) NJ
def JT:List Addr:=[3,437,438,444,445,451,452,458,459,463,464,470,471]++NJ
def OD:∀P,JT=(kh P).map (·.1):=λ_=>by kernel_rfl
noncomputable def kq:QF:=PySem.W.view PySem.Challenge.pw_leastdeeds_k40_rows_mended [1,2,3,4,5,6,8,10,11,12,13,14,15,16,17,18,19,20,21,22,23,24,25,26,27,28,29,30,31,32,33,35,36,37,38,39,40,42,43,44,45,48,49,50,51,52,53,55,56,57,58,59,60,61,62,63,64,65,66,67,68,69,70,71,72,73,74,75,76,77,78,79,80,81]
abbrev kH:PySem.W.Hook:=PySem.W.kHook kh JT OD
def oV:List Str:=["SORTS","NEW_WORDS","reached"]
abbrev xo:=PySem.Challenge.rw_leastdeeds_k40_rows_mended.row
abbrev kX:PX->Bool:=λs=>PySem.W.xlAt kq [] s&&PySem.W.recOk (PySem.W.RowW.records xo.toRowW) s
def Er (P:RF)(os:QV):QX:={HD.treeOf ((((PySem.W.boot_heap P).objs.toList.set 3 ({cls:=.type "dict",data:=.dict (eN P "__name__" 165 (.str "leastdeeds.wholes" 296)::NI P).toArray 16})))++NN P) 0 .nil,102,{},#[],{},307,os}
def Ep (P:RF)(os:QV):QX:={HD.treeOf ((((PySem.W.boot_heap P).objs.toList.set 3 ({cls:=.type "dict",data:=.dict (eN P "__name__" 165 (.str "leastdeeds.least" 548)::NH P).toArray 47})))++NM P) 0 .nil,250,{},#[],{},552,os}
def Eo (P:RF)(os:QV):QX:={HD.treeOf ((((PySem.W.boot_heap P).objs.toList.set 3 ({cls:=.type "dict",data:=.dict (eN P "__name__" 165 (.str "law_leastdeeds_k40_rows_mended" 657)::NG P).toArray 78})))++NL P) 0 .nil,432,{},#[],{},839,os}
def kE:Env:={scope:=PySem.Challenge.pw_leastdeeds_k40_rows_mended.main.scope,locals:=mainNs,globals:=mainNs,cells:=[],code:=.ref 13,frame:=some 14}
def kP (w:Qz)(os:QV):=HD.vS treeTable PySem.Challenge.pw_leastdeeds_k40_rows_mended w 11 (some (.ref 6)) 12 (HD.xJ w.params os) (PySem.W.topStub PySem.Challenge.pw_leastdeeds_k40_rows_mended)
def Ej (w:Qz)(os:QV):=(kP w os).bind λx=>HD.kI treeTable PySem.Challenge.pw_leastdeeds_k40_rows_mended w 11 (some (.ref 6)) 1333 x.1 (PySem.W.piecesOf ((PySem.W.behindTheImports PySem.Challenge.pw_leastdeeds_k40_rows_mended).take 9) kE (.body (PySem.W.behindTheImports PySem.Challenge.pw_leastdeeds_k40_rows_mended) kE) {0,0,0,0} [PySem.W.topFrame {0,0,0,0}])
def Eg (w:Qz)(os:QV):Option (Flow×QX×Code×Pos):=some (.next,Er w.params os,(.body (PySem.W.behindTheImports PySem.Challenge.pw_leastdeeds_k40_rows_mended) kE),{18,0,21,31})
def Ei (w:Qz)(os:QV):=HD.kI treeTable PySem.Challenge.pw_leastdeeds_k40_rows_mended w 11 (some (.ref 6)) 922 (Er w.params os) (PySem.W.piecesOf (((PySem.W.behindTheImports PySem.Challenge.pw_leastdeeds_k40_rows_mended).drop 9).take 34) kE (.body (PySem.W.behindTheImports PySem.Challenge.pw_leastdeeds_k40_rows_mended) kE) {18,0,21,31} [PySem.W.topFrame {0,0,0,0}])
def Ef (w:Qz)(os:QV):Option (Flow×QX×Code×Pos):=some (.next,Ep w.params os,(.body (PySem.W.behindTheImports PySem.Challenge.pw_leastdeeds_k40_rows_mended) kE),{123,0,123,15})
def Eh (w:Qz)(os:QV):=HD.kI treeTable PySem.Challenge.pw_leastdeeds_k40_rows_mended w 11 (some (.ref 6)) 933 (Ep w.params os) (PySem.W.piecesOf ((((PySem.W.behindTheImports PySem.Challenge.pw_leastdeeds_k40_rows_mended).drop 9).drop 34).take 33) kE (.body (PySem.W.behindTheImports PySem.Challenge.pw_leastdeeds_k40_rows_mended) kE) {123,0,123,15} [PySem.W.topFrame {0,0,0,0}])
def Ee (w:Qz)(os:QV):Option (Flow×QX×Code×Pos):=some (.next,Eo w.params os,(.body (PySem.W.behindTheImports PySem.Challenge.pw_leastdeeds_k40_rows_mended) kE),{340,0,347,56})
def kR (w:Qz)(os:QV):=HD.g8 treeTable PySem.Challenge.pw_leastdeeds_k40_rows_mended w 11 (some (.ref 6)) 3701 (Eo w.params os) (PySem.W.restOf ((((PySem.W.behindTheImports PySem.Challenge.pw_leastdeeds_k40_rows_mended).drop 9).drop 34).drop 33) kE (.body (PySem.W.behindTheImports PySem.Challenge.pw_leastdeeds_k40_rows_mended) kE) {340,0,347,56} [PySem.W.topFrame {0,0,0,0}])
abbrev JO (P:RF)(s:QX):=HD.kQ PySem.Challenge.pw_leastdeeds_k40_rows_mended kq oV kX true (PySem.W.boot_heap P) (λs=>JT.map s.heap.get?) s.abs
def Em (w:Qz)(os:QV):=(kR w os).map λs=>(JO w.params s).1
def El (w:Qz)(os:QV):=(kR w os).map λs=>(JO w.params s).2.1
def Ek (w:Qz)(os:QV):=(kR w os).map λs=>(JO w.params s).2.2
def Eu (w:Qz):=some true
def Et (w:Qz):=some (PySem.W.openGood kq oV)
def Es (w:Qz):=some ((kh w.params).map λp=>some p.2)
def _root_.PySem.W.Fast.tw14920812283632124533:QF:=PySem.Challenge.pw_leastdeeds_k40_rows_mended
def _root_.PySem.W.Fast.te14920812283632124533:PySem.Challenge.pw_leastdeeds_k40_rows_mended=PySem.W.Fast.tw14920812283632124533:=rfl
def _root_.PySem.W.Fast.tw14388980242812859275:RF->PJ:=K40.kh
def _root_.PySem.W.Fast.te14388980242812859275:K40.kh=PySem.W.Fast.tw14388980242812859275:=rfl
def _root_.PySem.W.Fast.tw7735030398203142075:RF->QV->QX:=K40.Er
def _root_.PySem.W.Fast.te7735030398203142075:K40.Er=PySem.W.Fast.tw7735030398203142075:=rfl
def _root_.PySem.W.Fast.tw297285410471084133:RF->QV->QX:=K40.Ep
def _root_.PySem.W.Fast.te297285410471084133:K40.Ep=PySem.W.Fast.tw297285410471084133:=rfl
def _root_.PySem.W.Fast.tw3816022615505342939:RF->QV->QX:=K40.Eo
def _root_.PySem.W.Fast.te3816022615505342939:K40.Eo=PySem.W.Fast.tw3816022615505342939:=rfl
noncomputable def OM:Em=Em:=rfl
name_quick kq1_40 for Em by OM
noncomputable def OL:El=El:=rfl
name_quick kq2_40 for El by OL
noncomputable def OO:Et=Et:=rfl
name_quick kg2_40 for Et by OO
noncomputable def OK:Ek=Ek:=rfl
name_quick kq3_40 for Ek by OK
noncomputable def ON:Es=Es:=rfl
name_quick kg3_40 for Es by ON
noncomputable def OJ:Ej=Ej:=rfl
name_quick kua40 for Ej by OJ
noncomputable def OG:Eg=Eg:=rfl
name_quick kva40 for Eg by OG
noncomputable def OI:Ei=Ei:=rfl
name_quick kub40 for Ei by OI
noncomputable def OF:Ef=Ef:=rfl
name_quick kvb40 for Ef by OF
noncomputable def OH:Eh=Eh:=rfl
name_quick kuc40 for Eh by OH
noncomputable def OE:Ee=Ee:=rfl
name_quick kvc40 for Ee by OE
def Af:∀(w:Qz) (os:QV),PySem.W.Fast.kua40 (w.withFollow "special-get-raises" false) os=PySem.W.Fast.kva40 (w.withFollow "special-get-raises" false) os:=λw os=>by kernel_rfl
def Cr:∀(w:Qz) (os:QV),PySem.W.Fast.kua40 (w.withFollow "special-get-raises" true) os=PySem.W.Fast.kva40 (w.withFollow "special-get-raises" true) os:=λw os=>by kernel_rfl
def ka0:∀(w:Qz) (os:QV),Ej w os=Eg w os:=λw os=>by
 rw[PySem.W.Fast.kua40_eq,PySem.W.Fast.kva40_eq];exact PySem.W.byRow2 "special-get-raises" (P:=λw=>PySem.W.Fast.kua40 w os=PySem.W.Fast.kva40 w os) (λw=>Af w os) (λw=>Cr w os) w
def Ae:∀(w:Qz) (os:QV),PySem.W.Fast.kub40 (w.withFollow "special-get-raises" false) os=PySem.W.Fast.kvb40 (w.withFollow "special-get-raises" false) os:=λw os=>by kernel_rfl
def Cq:∀(w:Qz) (os:QV),PySem.W.Fast.kub40 (w.withFollow "special-get-raises" true) os=PySem.W.Fast.kvb40 (w.withFollow "special-get-raises" true) os:=λw os=>by kernel_rfl
def ka1:∀(w:Qz) (os:QV),Ei w os=Ef w os:=λw os=>by
 rw[PySem.W.Fast.kub40_eq,PySem.W.Fast.kvb40_eq];exact PySem.W.byRow2 "special-get-raises" (P:=λw=>PySem.W.Fast.kub40 w os=PySem.W.Fast.kvb40 w os) (λw=>Ae w os) (λw=>Cq w os) w
def Ad:∀(w:Qz) (os:QV),PySem.W.Fast.kuc40 (w.withFollow "special-get-raises" false) os=PySem.W.Fast.kvc40 (w.withFollow "special-get-raises" false) os:=λw os=>by kernel_rfl
def Cp:∀(w:Qz) (os:QV),PySem.W.Fast.kuc40 (w.withFollow "special-get-raises" true) os=PySem.W.Fast.kvc40 (w.withFollow "special-get-raises" true) os:=λw os=>by kernel_rfl
def ka2:∀(w:Qz) (os:QV),Eh w os=Ee w os:=λw os=>by
 rw[PySem.W.Fast.kuc40_eq,PySem.W.Fast.kvc40_eq];exact PySem.W.byRow2 "special-get-raises" (P:=λw=>PySem.W.Fast.kuc40 w os=PySem.W.Fast.kvc40 w os) (λw=>Ad w os) (λw=>Cp w os) w
def Aa:∀(w:Qz) (os:QV),PySem.W.Fast.kq1_40 (w.withFollow "special-get-raises" false) os=Eu (w.withFollow "special-get-raises" false):=λw os=>by kernel_rfl
def Cn:∀(w:Qz) (os:QV),PySem.W.Fast.kq1_40 (w.withFollow "special-get-raises" true) os=Eu (w.withFollow "special-get-raises" true):=λw os=>by kernel_rfl
def kl1:∀(w:Qz) (os:QV),Em w os=Eu w:=λw os=>by
 rw[PySem.W.Fast.kq1_40_eq];exact PySem.W.byRow2 "special-get-raises" (P:=λw=>PySem.W.Fast.kq1_40 w os=Eu w) (λw=>Aa w os) (λw=>Cn w os) w
def zZ:∀(w:Qz) (os:QV),PySem.W.Fast.kq2_40 (w.withFollow "special-get-raises" false) os=PySem.W.Fast.kg2_40 (w.withFollow "special-get-raises" false):=λw os=>by kernel_rfl
def Cm:∀(w:Qz) (os:QV),PySem.W.Fast.kq2_40 (w.withFollow "special-get-raises" true) os=PySem.W.Fast.kg2_40 (w.withFollow "special-get-raises" true):=λw os=>by kernel_rfl
def kl2:∀(w:Qz) (os:QV),El w os=Et w:=λw os=>by
 rw[PySem.W.Fast.kq2_40_eq,PySem.W.Fast.kg2_40_eq];exact PySem.W.byRow2 "special-get-raises" (P:=λw=>PySem.W.Fast.kq2_40 w os=PySem.W.Fast.kg2_40 w) (λw=>zZ w os) (λw=>Cm w os) w
def zY:∀(w:Qz) (os:QV),PySem.W.Fast.kq3_40 (w.withFollow "special-get-raises" false) os=PySem.W.Fast.kg3_40 (w.withFollow "special-get-raises" false):=λw os=>by kernel_rfl
def Ck:∀(w:Qz) (os:QV),PySem.W.Fast.kq3_40 (w.withFollow "special-get-raises" true) os=PySem.W.Fast.kg3_40 (w.withFollow "special-get-raises" true):=λw os=>by kernel_rfl
def kl3:∀(w:Qz) (os:QV),Ek w os=Es w:=λw os=>by
 rw[PySem.W.Fast.kq3_40_eq,PySem.W.Fast.kg3_40_eq];exact PySem.W.byRow2 "special-get-raises" (P:=λw=>PySem.W.Fast.kq3_40 w os=PySem.W.Fast.kg3_40 w) (λw=>zY w os) (λw=>Ck w os) w
def kp:∀(w:Qz) (os:QV),(kP w os).map (·.2)=some {denote treeTable (.body (PySem.W.behindTheImports PySem.Challenge.pw_leastdeeds_k40_rows_mended) kE),(.body (PySem.W.behindTheImports PySem.Challenge.pw_leastdeeds_k40_rows_mended) kE),{0,0,0,0},[PySem.W.topFrame {0,0,0,0}]}:=λw os=>by kernel_rfl
def Me:PySem.W.LeftO xo.prog kq oV kX kH.obs kH.val 6902:=HD.uU (m0:=11) (ann:=some (.ref 6)) (PySem.W.boot_open `r `d (λ_=>rfl)) (λw=>by kernel_rfl) λw os=>HD.Az (J:=9) (kp w os) (by kernel_rfl) (ka0 w os) (HD.ug (J:=34) (ka1 w os) (HD.ug (J:=33) (ka2 w os) (HD.Ay (kl1 w os) (kl2 w os) (kl3 w os))))
end K40
namespace L2
open PySem PySem.Spec PyProof.Rows
abbrev Key:=Sum Int Str
noncomputable def rV:Key->PL->Bool
 |.inl k,v=>Value.isInt k v
 |.inr x,v=>Value.isStrOf x v
noncomputable def OC (w:Qz):Key->Int
 |.inl k=>hashInt k
 |.inr x=>hashStr w x
def c9:∀{k:Key}{v:PL},rV k v=true->(∃i t,k=Sum.inl i/\v=Value.int i t)\/(∃x t,k=Sum.inr x/\v=Value.str x t)
 | .inl i, v, h => by
   obtain⟨t,e⟩:=Value.isInt_shape h;exact .inl ⟨i,t,rfl,e⟩
 | .inr x, v, h => by
   obtain⟨t,e⟩:=Value.isStrOf_shape h;exact .inr ⟨x,t,rfl,e⟩
def jC (x:Str)(t:Tok):rV (.inr x) (.str x t)=true:=by simp[rV,Value.isStrOf]
def JS (a b:Int):decide ((Sum.inl a:Key)=Sum.inl b)=(a==b):=by
 by_cases e:a=b
 ·subst e;simp
 ·have h:¬ (Sum.inl a:Key)=Sum.inl b:=λq=>e (Sum.inl.inj q);rw[decide_eq_false h];exact(Rb.mpr e).symm
def JP (a b:Str):decide ((Sum.inr a:Key)=Sum.inr b)=decide (a=b):=by
 by_cases e:a=b
 ·subst e;simp
 ·have h:¬ (Sum.inr a:Key)=Sum.inr b:=λq=>e (Sum.inr.inj q);rw[decide_eq_false h,decide_eq_false e]
def JR (a:Int)(b:Str):decide ((Sum.inl a:Key)=Sum.inr b)=false:=decide_eq_false (λq=>nomatch q)
def JQ (a:Str)(b:Int):decide ((Sum.inr a:Key)=Sum.inl b)=false:=decide_eq_false (λq=>nomatch q)
def ke (prog:QF)(w:Qz):PySem.KeyKind prog w Key where
 is:=rV
 hash:=OC w
 inj:=λv a b F B=>by
  rcases c9 F with⟨i,t,rfl,rfl⟩|⟨x,t,rfl,rfl⟩
  ·rcases c9 B with⟨j,u,rfl,e⟩|⟨y,u,rfl,e⟩
   ·injection e with e1 _;rw[e1]
   ·exact nomatch e
  ·rcases c9 B with⟨j,u,rfl,e⟩|⟨y,u,rfl,e⟩
   ·exact nomatch e
   ·injection e with e1 _;rw[e1]
 byValue:=λk v h=>by
  rcases c9 h with⟨i,t,rfl,rfl⟩|⟨x,t,rfl,rfl⟩<;>rfl
 pyHash:=λz h=>by
  rcases c9 z with⟨i,t,rfl,rfl⟩|⟨x,t,rfl,rfl⟩
  ·exact wpAny_pyHash_int h
  ·exact wpAny_pyHash_str h
 eqBool:=λI z h=>by
  rcases c9 I with⟨i,t,rfl,rfl⟩|⟨x,t,rfl,rfl⟩
  ·rcases c9 z with⟨j,u,rfl,rfl⟩|⟨y,u,rfl,rfl⟩
   ·rw[JS] at h;exact wpAny_eqBool_int h
   ·rw[JR] at h;exact SeqAt.EqAt.int_str i t y u _ _ _ _ h
  ·rcases c9 z with⟨j,u,rfl,rfl⟩|⟨y,u,rfl,rfl⟩
   ·rw[JQ] at h;exact SeqAt.EqAt.str_int x t j u _ _ _ _ h
   ·rw[JP] at h;exact wpAny_eqBool_str h
 «strs»:=λk x t v h=>by
  rcases c9 h with⟨i,u,rfl,e⟩|⟨y,u,rfl,e⟩
  ·exact nomatch e
  ·injection e with e1 _
   subst e1;cases v<;>rfl
inductive V where
 |non|bl (b:Bool)|int (i:Int)|str (x:Str)|byt (b:Array UInt8)|flt (b:UInt64)|ref (a:Addr)|ty (n:String)
 deriving DecidableEq
def RelV:V->PL->Prop
 |.non,u=>u=Value.none
 |.bl b,u=>u=Value.bool b
 |.int i,u=>∃t,u=Value.int i t
 |.str x,u=>∃t,u=Value.str x t
 |.byt b,u=>∃t,u=Value.bytes b t
 |.flt b,u=>∃t,u=Value.float b t
 |.ref a,u=>u=Value.ref a
 |.ty n,u=>u=Value.type n
abbrev Vals:List V->List PL->Prop:=RO RelV
def Vals.length (r:Vals xs us):xs.length=us.length:=Paired.length r
theorem Vals.get:∀{xs:List V}{us:List PL}{i:Nat}{x:V},Vals xs us->xs[i]?=some x->∃u,us[i]?=some u/\RelV x u
 |_,_,_,_,.nil,e=>by simp at e
 |_,_,0,_,.cons r _,e=>by simp at e;subst e;exact{_,rfl,r}
 | _, _, i + 1, x, .cons _ t, e => by
   obtain⟨u,h1,h2⟩:=Vals.get t (by simpa using e)
   exact{u,by simpa using h1,h2}
noncomputable def Vals.set (r:RelV x u):∀{xs:List V}{us:List PL} (i:Nat),Vals xs us->Vals (xs.set i x) (us.set i u)
 |_,_,_,.nil=>.nil
 |_,_,0,.cons _ t=>.cons r t
 |_,_,i+1,.cons q t=>.cons q (Vals.set r i t)
noncomputable def Vals.append:∀{xs ys:List V}{us ws:List PL},Vals xs us->Vals ys ws->Vals (xs++ys) (us++ws)
 |_,_,_,_,.nil,s=>s
 |_,_,_,_,.cons r t,s=>.cons r (Vals.append t s)
noncomputable def Vals.take:∀{xs:List V}{us:List PL} (n:Nat),Vals xs us->Vals (xs.take n) (us.take n)
 |_,_,0,_=>.nil
 |_,_,_+1,.nil=>.nil
 |_,_,n+1,.cons r t=>.cons r (Vals.take n t)
noncomputable def Vals.drop:∀{xs:List V}{us:List PL} (n:Nat),Vals xs us->Vals (xs.drop n) (us.drop n)
 |_,_,0,r=>r
 |_,_,_+1,.nil=>.nil
 |_,_,n+1,.cons _ t=>Vals.drop n t
def C1:Option V->Option PL->Prop
 |some v,some u=>RelV v u
 |none,none=>True
 |_,_=>False
def KV {j:Type}:List (j×V)->List (j×PL)->Prop:=RO λ(p:j×V) (q:j×PL)=>p.1=q.1/\RelV p.2 q.2
noncomputable def kV:Key->V
 |.inl i=>.int i
 |.inr x=>.str x
inductive HO where
 |lst (xs:List V)
 |tup (xs:List V)
 |dK (kvs:List (Key×V))|dT (kvs:List (List Key×V))
 |set (S:Int->Bool) (n:Nat)
 |ins (C dx:Addr) (fs:List (Str×V))
 |own (x:Addr)
 |xd (fs:List (Str×V))
 |met (f x:Addr)
 |rng (lo hi:Int)
 |frz (o:Obj) (u:HO)
 |tbl (ps:Array PL)
 |ext (φ:Heap->Prop)
 |dn (es:List RE)
abbrev Hp:=Addr->Option HO
noncomputable def upd (H:Hp)(a:Addr)(o:HO):Hp:=λb=>if b=a then some o else H b
def cw:upd H a o a=some o:=by unfold upd;rw[if_pos rfl]
def aF (h:b≠a):upd H a o b=H b:=by unfold upd;rw[if_neg h]
def aV {H:Hp}(h:H a=some o)(h':H b=none):a≠b:=by
 intro e;subst e;rw[h] at h';cases h'
section
variable(P:QF)(w:Qz)
noncomputable def ff (H:Hp)(h:Heap)(a:Addr):HO->Prop
 |.lst xs=>xs.length≤sizeLine/\∃(j:List PL) (n:Nat),Vals xs j/\h.get? a=some {cls:=.type "list",data:=.seq j.toArray n}
 |.tup xs=>xs.length≤sizeLine/\∃j:List PL,Vals xs j/\IsTup h a j.toArray
 |.dK y=>y.length≤sizeLine/\(a==sysModules)=false/\∃B,KV y B/\h.DictOf (ke P w) a B
 |.dT y=>y.length≤sizeLine/\(a==sysModules)=false/\∃xs:List (List Key×Addr×PL),
  RO (λ(p:List Key×V) (q:List Key×Addr×PL)=>p.1=q.1/\H q.2.1=some (.tup (p.1.map kV))/\RelV p.2 q.2.2) y xs/\
  ∃o es F,h.get? a=some o/\o.ExactDict/\o.data=.dict es F/\es.toList=xs.map (entryOfKey (tupleKind (ke P w)))/\(xs.map (·.1)).Nodup
 |.set S n=>h.SetOf (intKind P w) a S n
 |.ins C dx fs=>H dx=some (.own a)/\fs.length≤1000/\dx≠a/\h.get? a=some (PySem.W.instObj C dx)/\
  ∃mA,h.Ns1 dx mA/\(∀f,C1 (fs.lookup f) (mA f))/\PySem.Within mA (fs.map (·.1))
 |.own _=>∃o,h.get? a=some o
 |.xd fs=>∃mA,h.Ns1 a mA/\∀f,C1 (fs.lookup f) (mA f)
 |.rng lo hi=>∃t u v,h.get? a=some {cls:=.type "range",data:=.fields #[.int lo t,.int hi u,.int 1 v]}
 |.frz o u=>h.get? a=some o/\ff H h a u
 |.tbl ps=>h.get? a=some {cls:=.none,data:=.fields ps}
 |.met f x=>h.get? a=some (PySem.W.methodObj (.ref f) (.ref x))
 |.ext z=>z h/\(∃o,h.get? a=some o)/\∀h1 h2:Heap,z h1->(∀o,h1.get? a=some o->h2.get? a=some o)->z h2
 |.dn es=>es.length≤sizeLine/\(a==sysModules)=false/\∃o,h.get? a=some o/\o.ExactDict/\o.data=.dict es.toArray es.length
def eK (H:Hp)(h:Heap):Prop:=∀a o,H a=some o->ff P w H h a o
end
section
variable{P:QF}{w:Qz}{H H':Hp}{h h':Heap}{a:Addr}{o:HO}
def ff.lt (x:ff P w H h a o):a<h.objs.size:=by
 cases o with
 |lst xs=>obtain⟨_,_,_,_,e⟩:=x;exact Qk e
 |tup xs=>obtain⟨_,_,_,p⟩:=x;exact p.lt
 |dK j=>obtain⟨_,_,_,_,o,_,_,e,_⟩:=x;exact Qk e
 |dT j=>obtain⟨_,_,_,_,o,_,_,e,_⟩:=x;exact Qk e
 |set S n=>obtain⟨o,_,_,_,e,_⟩:=x;exact Qk e
 |ins C dx fs=>obtain⟨_,_,_,e,_⟩:=x;exact Qk e
 |own y=>obtain⟨_,e⟩:=x;exact Qk e
 |xd fs=>obtain⟨_,⟨_,_,_,e,_⟩,_⟩:=x;exact Qk e
 |rng lo hi=>obtain⟨_,_,_,e⟩:=x;exact Qk e
 |frz ob u=>obtain⟨e,_⟩:=x;exact Qk e
 |tbl ps=>exact Qk (x)
 |met f y=>exact Qk (x)
 |ext z=>obtain⟨_,⟨_,e⟩,_⟩:=x;exact Qk e
 |dn es=>obtain⟨_,_,_,e,_⟩:=x;exact Qk e
noncomputable def RO.mapP {j y:Type}{F G:j->y->Prop}:∀{l₁:List j}{l₂:List y},RO F l₁ l₂->(∀a b,F a b->G a b)->RO G l₁ l₂
 |_,_,.nil,_=>.nil
 |_,_,.cons r t,f=>.cons (f _ _ r) (RO.mapP t f)
def ff.stay (x:ff P w H h a o)(k:∀b u,(b=a\/H b=some (.own a))->h.get? b=some u->h'.get? b=some u)
 (ho:∀b,H b=some (.own a)->H' b=some (.own a)) (I:∀b xs,H b=some (.tup xs)->H' b=some (.tup xs)):ff P w H' h' a o:=by
 induction o with
 |lst xs=>obtain⟨z,B,n,r,e⟩:=x;exact{z,B,n,r,k _ _ (.inl rfl) e}
 |tup xs=>obtain⟨z,B,r,ob,e,c⟩:=x;exact{z,B,r,ob,k _ _ (.inl rfl) e,c}
 |dK F=>obtain⟨z,y,L,r,ob,es,j,e,c⟩:=x;exact{z,y,L,r,ob,es,j,k _ _ (.inl rfl) e,c}
 | dT F =>
   obtain⟨z,y,xs,r,ob,es,j,e,c⟩:=x;exact{z,y,xs,RO.mapP r λp q z=>{z.1,I _ _ z.2.1,z.2.2},ob,es,j,k _ _ (.inl rfl) e,c}
 |set S n=>obtain⟨ob,es,j,t,e,c⟩:=x;exact{ob,es,j,t,k _ _ (.inl rfl) e,c}
 | ins C dx fs =>
   obtain⟨d,z,ne,e,mA,⟨od,es,j,e2,c⟩,r⟩:=x;exact{ho _ d,z,ne,k _ _ (.inl rfl) e,mA,{od,es,j,k _ _ (.inr d) e2,c},r}
 |own y=>obtain⟨ob,e⟩:=x;exact{ob,k _ _ (.inl rfl) e}
 |xd fs=>obtain⟨mA,⟨od,es,j,e,c⟩,r⟩:=x;exact{mA,{od,es,j,k _ _ (.inl rfl) e,c},r}
 |rng lo hi=>obtain⟨t,u,v,e⟩:=x;exact{t,u,v,k _ _ (.inl rfl) e}
 |frz ob u J=>obtain⟨e,q⟩:=x;exact{k _ _ (.inl rfl) e,J q}
 | tbl ps =>
   have e:=x;exact k a _ (.inl rfl) e
 | met f y =>
   have e:=x;exact k a _ (.inl rfl) e
 |ext M=>obtain⟨p,⟨o,e⟩,st⟩:=x;exact{st _ _ p λo q=>k _ _ (.inl rfl) q,{o,k _ _ (.inl rfl) e},st}
 |dn es=>obtain⟨z,y,o,e,c⟩:=x;exact{z,y,o,k _ _ (.inl rfl) e,c}
def eK.lt (x:eK P w H h)(e:H a=some o):a<h.objs.size:=(x a o e).lt
def eK.fresh (x:eK P w H h)(e:h.objs.size≤a):H a=none:=by
 cases q:H a with
 |none=>rfl
 |some u=>exact absurd (Qg (x.lt q) e) (Q4 _)
def eK.kept (x:eK P w H h)(k:∀b u,h.get? b=some u->h'.get? b=some u):eK P w H h':=λa o e=>
 (x a o e).stay (λb u _ q=>k b u q) (λ_ q=>q) λ_ _ q=>q
def eK.laid (x:eK P w H h)(k:∀b u,h.get? b=some u->h'.get? b=some u)(y:h.objs.size≤a)(new:ff P w (upd H a o) h' a o):eK P w (upd H a o) h':=λb u e=>by
 have hn:=x.fresh y;by_cases j:b=a
 ·subst j;rw[cw] at e;cases e;exact new
 ·rw[aF j] at e;exact(x b u e).stay (λc v _ q=>k c v q) (λc q=>by rw[aF (aV q hn)];exact q) λc xs q=>by rw[aF (aV q hn)];exact q
end
def Rd (H:Hp)(a:Addr)(u:HO):Prop:=H a=some u\/∃o,H a=some (.frz o u)
def Rd.ok (r:Rd H a u)(x:eK P w H h):ff P w H h a u:=by
 rcases r with r|⟨o,r⟩
 ·exact x a u r
 ·obtain⟨_,q⟩:=x a _ r;exact q
def EO:Option HO->Prop
 |some (.lst _)=>True
 |some (.dK _)=>True
 |some (.dT _)=>True
 |some (.set _ _)=>True
 |some (.ins _ _ _)=>True
 |some (.ext _)=>True
 |some (.dn _)=>True
 |_=>False
section
variable{P:QF}{w:Qz}{H:Hp}{h h':Heap}{x e:Addr}{o':HO}
def eK.write (ok:eK P w H h)(mu:EO (H x))(he:e=x\/H e=some (.own x))(k:∀b u,b≠e->h.get? b=some u->h'.get? b=some u)(L:∃u,h'.get? e=some u)
 (new:ff P w (upd H x o') h' x o'):eK P w (upd H x o') h':=λb u q=>by
 have B:∀c y,H c=some (.own y)->c≠x:=λc y r z=>by subst z;rw[r] at mu;exact mu
 have F:∀c xs,H c=some (.tup xs)->c≠x:=λc xs r z=>by subst z;rw[r] at mu;exact mu
 by_cases I:b=x
 ·subst I;rw[cw] at q;cases q;exact new
 ·rw[aF I] at q;by_cases j:b=e
  ·have M:H b=some (.own x):=by
    rcases he with z|z
    ·exact absurd (j.trans z) I
    ·rw[j];exact z
   rw[q] at M;cases M;obtain⟨v,O⟩:=L;exact{v,by rw[j];exact O}
  ·refine(ok b u q).stay (λc v J r=>k c v ?_ r) (λc r=>by rw[aF (B c b r)];exact r) λc xs r=>by rw[aF (F c xs r)];exact r
   rcases J with rfl|J
   ·exact j
   ·rintro rfl;rcases he with z|z
    ·exact B c b J z
    ·rw[J] at z;cases z;exact I rfl
end
structure Un (fs ex:List Addr) (H H':Hp) (h h':Heap):Prop where
 keep:∀b o,h.get? b=some o->H b=none->b∉fs->b∉ex->h'.get? b=some o
 slot:∀b o,h.get? b=some o->H b=none->b∈fs->b∉ex->∃sl,h'.get? b=some {o with slots:=sl}
 free:∀b o,h.get? b=some o->H b=none->b∉ex->H' b=none
 there:∀b o,h.get? b=some o->b∉ex->∃o',h'.get? b=some o'
 tups:∀b xs,H b=some (.tup xs)->H' b=some (.tup xs)
 frzs:∀b o u,H b=some (.frz o u)->H' b=some (.frz o u)
 tbls:∀b ps,H b=some (.tbl ps)->∃more,H' b=some (.tbl (ps++more))
section
variable{fs fs' ex ex':List Addr}{H H1 H2:Hp}{h h1 h2 h':Heap}{a x e:Addr}{o:HO}
def Un.any (u:Un fs ex H H1 h h1)(q:h.get? b=some ob)(n:H b=none)(y:b∉ex):∃sl,h1.get? b=some {ob with slots:=sl}:=by
 by_cases j:b∈fs
 ·exact u.slot b ob q n j y
 ·exact{ob.slots,u.keep b ob q n j y}
def Un.kept (k:∀b u,h.get? b=some u->h'.get? b=some u):Un fs ex H H h h':=
 {λb ob q _ _ _=>k b ob q,λb ob q _ _ _=>{ob.slots,k b ob q},λ_ _ _ n _=>n,λb ob q _=>{ob,k b ob q},λ_ _ q=>q,λ_ _ _ q=>q,λ_ ps q=>{#[],by rw[q];simp}}
def Un.refl:Un fs ex H H h h:=Un.kept λ_ _ q=>q
def Un.laid (k:∀b u,h.get? b=some u->h'.get? b=some u)(j:h.objs.size≤a)(hn:H a=none):Un fs ex H (upd H a o) h h' where
 keep:=λb u q _ _ _=>k b u q
 slot:=λb u q _ _ _=>{u.slots,k b u q}
 free:=λb u q n _=>by rw[aF (Qw (Qg (Qk q) j))];exact n
 there:=λb u q _=>{u,k b u q}
 tups:=λb xs q=>by rw[aF (aV q hn)];exact q
 frzs:=λb u xs q=>by rw[aF (aV q hn)];exact q
 tbls:=λb ps q=>{#[],by rw[aF (aV q hn),q];simp}
def Un.write (mu:EO (H x))(he:e=x\/H e=some (.own x))(k:∀b u,b≠e->h.get? b=some u->h'.get? b=some u)(y:∃u,h'.get? e=some u):Un fs ex H (upd H x o) h h':=by
 have F:∀b,H b=none->b≠x:=λb n z=>by subst z;rw[n] at mu;exact mu
 have B:∀b,H b=none->b≠e:=λb n z=>by
  subst z;rcases he with r|r
  ·exact F b n r
  ·rw[n] at r;cases r
 have hm:∀b u,H b=some u->¬ EO (some u)->b≠x:=λb u q nm z=>by subst z;rw[q] at mu;exact nm mu
 refine{λb u q n _ _=>k b u (B b n) q,λb u q n _ _=>{u.slots,k b u (B b n) q},λb u q n _=>by rw[aF (F b n)];exact n,λb u q _=>?_,
  λb xs q=>by rw[aF (hm b _ q λz=>z)];exact q,λb u xs q=>by rw[aF (hm b _ q λz=>z)];exact q,λb ps q=>{#[],by rw[aF (hm b _ q λz=>z),q];simp}}
 by_cases j:b=e
 ·subst j;exact y
 ·exact{u,k b u j q}
end
noncomputable def Dw (h:Heap)(H:Hp):List Addr:=(List.range h.objs.size).filter λa=>(H a).isSome
def mf (h:Heap)(H:Hp):Heap:=PySem.W.hideAll h (Dw h H)
def Am (h:Heap)(H:Hp):(mf h H).objs.size=h.objs.size:=PySem.W.hideAll_size _ _
def Cz (e:h.get? b=some o)(n:H b=none):(mf h H).get? b=some o:=
 PySem.W.hideAll_get _ e λhm=>by
  have q:(H b).isSome=true:=(R3.mp hm).2;rw[n] at q;simp at q
def Gh (e:(mf h H).get? b=some o):h.get? b=some o/\H b=none:=by
 have j:=PySem.W.of_hideAll (Dw h H) e;refine{j,?_};cases q:H b with
 |none=>rfl
 | some x =>
   have hm:b∈Dw h H:=R3.mpr {RI.mpr (Qk j),by simp[q]}
   have z:(mf h H).get? b=none:=PySem.W.hideAll_none (Dw h H) hm;rw[z] at e;cases e
structure Mod (K:PJ) (mg:Str->Option PL) (base:Heap):Prop where
 kin:K.In base
 glob:base.Ns mainGlobals mg
 blt:∃mb,base.Ns builtinsNs mb/\∀x:Str,x≠"__name__"->mb x=bootBuiltins x
 nolimit:base.NoLimit
structure Cx where
 prog:QF
 w:Qz
 K:PJ
 mg:Str->Option PL
 base:Heap
 A:Ry
 N:List Str
 s₀:PX
 H₀:Hp
 env:Env
 outer:List Env
 stack:List Env
 ex:List Addr
 fn:Str->Bool
 calm:Bool
 pn:List (Addr×Obj)
 xe:PL->PX->Prop
noncomputable def fU (l:List Env):List Addr:=l.filterMap (·.frame)
abbrev Cx.fs (X:Cx):List Addr:=fU X.outer
def wu (sc:Scope)(x:Str):Prop:=sc.names.lookup x=some .local\/sc.names.lookup x=some .cell\/sc.names.lookup x=some .free
def Loc (sc:Scope)(x:Str):Prop:=sc.names.lookup x=some .local\/sc.names.lookup x=some .cell
def Look (env:Env)(h:Heap)(m:Str->Option PL)(x:Str)(u:PL):Prop:=
 (env.kindOf x=some .local/\m x=some u)\/((env.kindOf x=some .cell\/env.kindOf x=some .free)/\∃c,env.cells.lookup x=some c/\h.IsCell c (some u))
structure Cx.Ok (X:Cx):Prop where
 mod:Mod X.K X.mg X.base
 kind:X.env.scope.kind=.function
 glob:X.env.globals=mainGlobals
 blt:X.env.builtins=builtinsNs
 above:X.s₀.heap.objs.size≤X.env.locals
 inj:∀x y c,X.env.cells.lookup x=some c->X.env.cells.lookup y=some c->x=y
 has:∀x,(X.env.kindOf x=some .cell\/X.env.kindOf x=some .free)->∃c,X.env.cells.lookup x=some c
 cab:∀x c,X.fn x=true->X.env.cells.lookup x=some c->X.s₀.heap.objs.size≤c
 hd:X.calm=true->X.A.handled=none
 frames:X.A.frames=some X.stack
 stk:X.stack=X.outer\/(X.stack=X.env::X.outer/\X.env.frame=some X.env.locals)
 exf:∀b∈X.ex,b≠X.env.locals/\∀x c,X.env.cells.lookup x=some c->c≠b
 bs:∀b o,X.base.get? b=some o->X.s₀.heap.get? b=some o/\X.H₀ b=none
 bsz:X.base.objs.size≤X.s₀.heap.objs.size
 noex:∀b o,X.base.get? b=some o->b∉X.ex
 exfs:∀b∈X.ex,b∉X.fs
 funs:X.s₀.heap.FunFrames X.base X.outer
 frf:∀b∈X.fs,X.H₀ b=none
structure Inv (X:Cx) (pins:List (Addr×Obj)) (σ:List (Option V)) (H:Hp) (s:PX):Prop where
 ok:X.Ok
 os:s.os=X.s₀.os
 bare:AllBare s.gens
 base:Un X.fs X.ex X.H₀ H X.s₀.heap s.heap
 loc:∃m,s.heap.Ns X.env.locals m/\∀(i:Nat) (x:Str) (v:V),X.N[i]?=some x->σ[i]?=some (some v)->wu X.env.scope x->∃u,RelV v u/\Look X.env s.heap m x u
 cell:∀x c,X.env.cells.lookup x=some c->∃v,s.heap.IsCell c v
 free:H X.env.locals=none
 freeC:∀x c,X.env.cells.lookup x=some c->H c=none
 pin:∀p∈X.pn++pins,s.heap.get? p.1=some p.2/\H p.1=none/\p.1≠X.env.locals/\p.1∉X.fs/\∀v,p.2.data≠.cell v
 hok:eK X.prog X.w H s.heap
 len:σ.length=X.N.length
section
variable{X:Cx}{pins:List (Addr×Obj)}{σ:List (Option V)}{H H':Hp}{s:PX}{h':Heap}
def Cx.Ok.nofr (ok:X.Ok)(e:X.base.get? b=some o):b∉X.fs:=λj=>by
 have:=(ok.funs.mem j).1;rw[e] at this;cases this
def Inv.bs (I:Inv X pins σ H s):∀b o,X.base.get? b=some o->s.heap.get? b=some o/\H b=none:=λb o e=>
 {I.base.keep b o (I.ok.bs b o e).1 (I.ok.bs b o e).2 (I.ok.nofr e) (I.ok.noex b o e),I.base.free b o (I.ok.bs b o e).1 (I.ok.bs b o e).2 (I.ok.noex b o e)}
def Inv.bk (I:Inv X pins σ H s):∀b o,X.base.get? b=some o->s.heap.get? b=some o:=λb o e=>(I.bs b o e).1
def Inv.mod (I:Inv X pins σ H s):Mod X.K X.mg X.base:=I.ok.mod
def Inv.kIn (I:Inv X pins σ H s):X.K.In s.heap:=I.ok.mod.kin.keeps I.bk
def Inv.lt (I:Inv X pins σ H s):X.env.locals<s.heap.objs.size:=let{_,hn,_}:=I.loc;hn.lt
def Inv.sz (I:Inv X pins σ H s):X.s₀.heap.objs.size≤s.heap.objs.size:=Qf I.ok.above (RR I.lt)
def Inv.nofs (I:Inv X pins σ H s)(h:s.heap.objs.size≤a):a∉X.fs:=λj=>by
 obtain⟨_,o,ho,_⟩:=I.ok.funs.mem j;exact absurd (Qg (Qk ho) (Qf I.sz h)) (Q4 _)
def Inv.cne (I:Inv X pins σ H s):∀x c,X.env.cells.lookup x=some c->c≠X.env.locals:=λx c e z=>by
 obtain⟨v,o,ho,hd⟩:=I.cell x c e;obtain⟨m,⟨o',es,B,y,j,_⟩,_⟩:=I.loc;rw[z,y] at ho;cases ho;rw[j] at hd;cases hd
def Inv.funs (I:Inv X pins σ H s):s.heap.FunFrames X.base X.outer:=by
 have all:∀(l:List Env),(∀b∈fU l,b∈X.fs)->X.s₀.heap.FunFrames X.base l->s.heap.FunFrames X.base l:=by
  intro l;induction l with
  |nil=>intro _ _;trivial
  | cons env r B =>
    intro hs hl;obtain⟨hk,⟨L,o,hf,hn,ho,hd⟩,hr⟩:=hl;have j:=hs L (by unfold fU;rw[List.filterMap_cons,hf];exact Qm)
    obtain⟨sl,e⟩:=I.base.slot L o ho (I.ok.frf L j) j λz=>I.ok.exfs L z j;exact{hk,{L,_,hf,hn,e,hd},B (λb y=>hs b (by unfold fU;rw[List.filterMap_cons,hf];exact Qc _ y)) hr}
 exact all X.outer (λ_ y=>y) I.ok.funs
def Inv.stack (I:Inv X pins σ H s):s.heap.FunFrames X.base X.stack:=by
 rcases I.ok.stk with e|⟨e,hf⟩
 ·rw[e];exact I.funs
 ·rw[e];obtain⟨m,hn,_⟩:=I.loc;refine .cons (by rw[I.ok.kind];decide) hf hn ?_ I.funs
  exact Heap.get?_none_of_le (Qf I.ok.bsz I.ok.above)
def Inv.stkSub (I:Inv X pins σ H s):∀b∈fU X.stack,b∈X.env.locals::X.fs:=λb j=>by
 rcases I.ok.stk with e|⟨e,hf⟩
 ·rw[e] at j;exact Qc _ j
 ·rw[e] at j;unfold fU at j;rw[List.filterMap_cons,hf] at j;exact j
def Inv.stkFree (I:Inv X pins σ H s):∀b∈fU X.stack,H b=none:=λb j=>by
 rcases Qu.mp (I.stkSub b j) with e|j
 ·rw[e];exact I.free
 ·obtain⟨_,o,ho,_⟩:=I.ok.funs.mem j;exact I.base.free b o ho (I.ok.frf b j) λz=>I.ok.exfs b z j
def Inv.step {ch:List Addr}(I:Inv X pins σ H s)
 (B:∀b∈ch,(b∈X.ex\/X.s₀.heap.objs.size≤b)/\b≠X.env.locals/\(∀x c,X.env.cells.lookup x=some c->c≠b)/\∀p∈X.pn++pins,p.1≠b)
 (keep:∀b o,b≠X.env.locals->b∉X.fs->b∉ch->s.heap.get? b=some o->H b=none->h'.get? b=some o)
 (slot:∀b o,b≠X.env.locals->b∈X.fs->b∉ch->s.heap.get? b=some o->H b=none->∃sl,h'.get? b=some {o with slots:=sl}) (free:∀b o,b∉ch->s.heap.get? b=some o->H b=none->H' b=none)
 (there:∀b o,b∉ch->s.heap.get? b=some o->∃o',h'.get? b=some o')
 (tups:∀b xs,H b=some (.tup xs)->H' b=some (.tup xs)) (frzs:∀b o u,H b=some (.frz o u)->H' b=some (.frz o u)) (tbls:∀b ps,H b=some (.tbl ps)->∃more,H' b=some (.tbl (ps++more)))
 (ns:∀m,s.heap.Ns X.env.locals m->h'.Ns X.env.locals m) (hok:eK X.prog X.w H' h') (Y:AllBare g') :
 Inv X pins σ H' {s with heap:=h',gens:=g',drawn:=d',toks:=t'}:=by
 have M:∀b o,X.s₀.heap.get? b=some o->b≠X.env.locals:=λb o e=>Qw (Qg (Qk e) I.ok.above);have J:∀b o,X.s₀.heap.get? b=some o->b∉X.ex->b∉ch:=λb o e j L=>by
  rcases(B b L).1 with z|z
  ·exact j z
  ·exact absurd (Qg (Qk e) z) (Q4 _)
 have y:∀x c,X.env.cells.lookup x=some c->∀v,s.heap.IsCell c v->h'.IsCell c v:=λx c e v ⟨o,ho,hd⟩=>by
  have F:=λz=>(B c z).2.2.1 x c e rfl;by_cases R:c∈X.fs
  ·obtain⟨sl,q⟩:=slot c o (I.cne x c e) R F ho (I.freeC x c e);exact{_,q,hd}
  ·exact{o,keep c o (I.cne x c e) R F ho (I.freeC x c e),hd}
 refine{I.ok,I.os,Y,{λb o e n L j=>?_,λb o e n L j=>?_,λb o e n j=>?_,λb o e j=>?_,λb xs e=>tups b xs (I.base.tups b xs e),λb o xs e=>frzs b o xs (I.base.frzs b o xs e),λb ps e=>?_},?_,λx c e=>?_,?_,λx c e=>?_,λp S=>?_,hok,I.len}
 ·exact keep b o (M b o e) L (J b o e j) (I.base.keep b o e n L j) (I.base.free b o e n j)
 ·obtain⟨sl,e1⟩:=I.base.slot b o e n L j;obtain⟨O,e2⟩:=slot b _ (M b o e) L (J b o e j) e1 (I.base.free b o e n j);exact⟨O,e2⟩
 ·obtain⟨o',e1⟩:=I.base.there b o e j;exact free b o' (J b o e j) e1 (I.base.free b o e n j)
 ·obtain⟨o',e1⟩:=I.base.there b o e j;exact there b o' (J b o e j) e1
 ·obtain⟨m1,e1⟩:=I.base.tbls b ps e;obtain⟨m2,e2⟩:=tbls b _ e1;exact{m1++m2,by rw[e2,Array.append_assoc]}
 ·obtain⟨m,hn,hl⟩:=I.loc;refine{m,ns m hn,λi x v e1 e2 W=>?_};obtain⟨u,r,l⟩:=hl i x v e1 e2 W;refine{u,r,?_};rcases l with l|⟨k,c,e,z⟩
  ·exact .inl l
  ·exact .inr {k,c,e,y x c e _ z}
 ·obtain⟨v,z⟩:=I.cell x c e;exact{v,y x c e v z}
 ·obtain⟨m,⟨o,_,_,ho,_⟩,_⟩:=I.loc;exact free _ o (λz=>(B _ z).2.1 rfl) ho I.free
 ·obtain⟨v,o,ho,hd⟩:=I.cell x c e;exact free c o (λz=>(B c z).2.2.1 x c e rfl) ho (I.freeC x c e)
 ·obtain⟨e,n,ne,U,d⟩:=I.pin p S;have F:=λz=>(B p.1 z).2.2.2 p S rfl;exact{keep p.1 p.2 ne U F e n,free p.1 p.2 F e n,ne,U,d}
def Inv.un {t':Nat}(I:Inv X pins σ H s)(u:Un X.fs [] H H' s.heap h')(hok:eK X.prog X.w H' h'):Inv X pins σ H' {s with heap:=h',toks:=t'}:=by
 obtain⟨m,⟨o,es,M,ho,r⟩,_⟩:=id I.loc;obtain⟨sl,J⟩:=u.any ho I.free `s
 exact I.step (ch:=[]) (λ_ z=>nomatch z) (λb o _ F _ e n=>u.keep b o e n F `s) (λb o _ F _ e n=>u.slot b o e n F `s) (λb o _ e n=>u.free b o e n `s) (λb o _ e=>u.there b o e `s) u.tups u.frzs u.tbls (λO hm=>by
  obtain⟨o',B,y,j,L⟩:=hm;rw[ho] at j;cases j;exact{_,B,y,J,L}) hok I.bare
def Inv.call {M:Drawn}{ch:List Addr}(I:Inv X pins σ H s)(u:Un (fU X.stack) ch H H' s.heap h')(hok:eK X.prog X.w H' h')(R:AllBare g')
 (y:∀b∈ch,(b∈X.ex\/X.s₀.heap.objs.size≤b)/\b≠X.env.locals/\(∀x c,X.env.cells.lookup x=some c->c≠b)/\∀p∈X.pn++pins,p.1≠b) :
 Inv X pins σ H' {s with heap:=h',gens:=g',drawn:=M,toks:=t'}:=by
 obtain⟨m,⟨o,es,U,ho,r⟩,_⟩:=id I.loc;obtain⟨sl,L⟩:=u.any ho I.free λz=>(y _ z).2.1 rfl;exact I.step y (λb o L O j e n=>u.keep b o e n (λz=>(Qu.mp (I.stkSub b z)).elim L O) j) (λb o _ _ j e n=>u.any e n j) (λb o j e n=>u.free b o e n j) (λb o j e=>u.there b o e j) u.tups u.frzs u.tbls (λW hm=>by
  obtain⟨o',J,F,B,S⟩:=hm;rw[ho] at B;cases B;exact{_,J,F,L,S}) hok R
def Inv.turned {j:Addr}(I:Inv X pins σ H s)(k:∀b o,b≠j->s.heap.get? b=some o->h'.get? b=some o)(hn:H j=none)(F:j≠X.env.locals)
 (h1:j∈X.ex\/X.s₀.heap.objs.size≤j) (h2:∀x c,X.env.cells.lookup x=some c->c≠j) (h3:∀p∈X.pn++pins,p.1≠j):Inv X pins σ H {s with heap:=h',toks:=t'}:=by
 have B:∀b u,H b=some u->b≠j:=λb u e z=>by rw[z,hn] at e;cases e
 refine I.step (ch:=[j]) (λb L=>?_) (λb o _ _ y e _=>k b o (λz=>y (by simp[z])) e) (λb o _ _ y e _=>{o.slots,k b o (λz=>y (by simp[z])) e}) (λ_ _ _ _ n=>n)
  (λb o y e=>{o,k b o (λz=>y (by simp[z])) e}) (λ_ _ e=>e) (λ_ _ _ e=>e) (λb ps e=>{#[],by rw[e];simp}) (λm hm=>?_) (λb u e=>?_) I.bare
 ·have e:b=j:=by simpa using L
  subst e;exact⟨h1,F,h2,h3⟩
 ·obtain⟨o,es,J,ho,r⟩:=hm;exact{o,es,J,k _ o (Q0 F) ho,r}
 ·refine(I.hok b u e).stay (λc v y q=>k c v ?_ q) (λ_ q=>q) λ_ _ q=>q;rcases y with z|z
  ·rw[z];exact B b u e
  ·exact B c _ z
def Inv.tok (I:Inv X pins σ H s)(t:Nat):Inv X pins σ H {s with toks:=t}:=I.un Un.refl I.hok
def Inv.kept (I:Inv X pins σ H s)(k:∀b u,s.heap.get? b=some u->h'.get? b=some u):Inv X pins σ H {s with heap:=h',toks:=t'}:=I.un (Un.kept k) (I.hok.kept k)
def Inv.laid (I:Inv X pins σ H s)(k:∀b u,s.heap.get? b=some u->h'.get? b=some u)(j:s.heap.objs.size≤a)(new:ff X.prog X.w (upd H a o) h' a o) :
 Inv X pins σ (upd H a o) {s with heap:=h',toks:=t'}:=I.un (Un.laid k j (I.hok.fresh j)) (I.hok.laid k j new)
def Inv.write (I:Inv X pins σ H s)(mu:EO (H x))(he:e=x\/H e=some (.own x))(k:∀b u,b≠e->s.heap.get? b=some u->h'.get? b=some u)(j:∃u,h'.get? e=some u)
 (new:ff X.prog X.w (upd H x o) h' x o):Inv X pins σ (upd H x o) {s with heap:=h',toks:=t'}:=I.un (Un.write mu he k j) (I.hok.write mu he k j new)
def Inv.pins_of (I:Inv X pins σ H s)(h:∀p∈j,s.heap.get? p.1=some p.2/\H p.1=none/\p.1≠X.env.locals/\p.1∉X.fs/\∀v,p.2.data≠.cell v):Inv X j σ H s:=
 {I.ok,I.os,I.bare,I.base,I.loc,I.cell,I.free,I.freeC,λp y=>(Qs.mp y).elim (λz=>I.pin p (QT _ z)) (h p),I.hok,I.len}
def tH {N:List Str}(y:N.Nodup){i j:Nat}(a:N[i]?=some x)(b:N[j]?=some x):i=j:=by
 obtain⟨h1,e1⟩:=PH.mp a;obtain⟨h2,e2⟩:=PH.mp b;exact(List.getElem_inj y).mp (e1.trans e2.symm)
def qG {M:Model}(I:Inv X pins σ H s)(hN:X.N.Nodup)(hi:X.N[i]?=some x)(J:Loc X.env.scope x)(r:RelV v u)
 (h:∀s',Inv X pins (σ.set i (some v)) H s'->(∃a,Rz a s.heap s'.heap/\(a=X.env.locals\/X.env.cells.lookup x=some a))->Q () s') (hf:X.fn x=true\/X.env.scope.names.lookup x=some .local:=by first|exact .inl rfl|exact .inr rfl|assumption):wpAny M A (storeName X.env x u) Q E s:=by
 obtain⟨m,hn,hl⟩:=id I.loc;have hcls:(X.env.scope.kind==.class||(X.env.scope.kind==.module&&X.env.locals != X.env.globals))=false:=by rw[I.ok.kind];rfl
 have O:i<σ.length:=by rw[I.len];exact(PH.mp hi).1
 have cne:=I.cne;have B:∀{a:Addr}{h':Heap},(∃o,s.heap.get? a=some o/\H a=none)->Rz a s.heap h'->eK X.prog X.w H h':=λ{a h'} ha hs b ob e=>by
  obtain⟨_,_,L⟩:=ha;refine(I.hok b ob e).stay (λc w' F q=>(hs.2 c ?_).trans q) (λ_ q=>q) λ_ _ q=>q;rintro rfl;rcases F with rfl|F
  ·rw[L] at e;cases e
  ·rw[L] at F;cases F
 rcases J with hk|hk
 ·refine wpAny_storeName_local hk hn (λh' hn' hs=>?_) hcls;obtain⟨oL,_,_,hoL,_⟩:=id hn;refine h _ {I.ok,I.os,I.bare,{λb o e n R J=>?_,λb o e n R J=>?_,I.base.free,λb o e J=>?_,I.base.tups,I.base.frzs,I.base.tbls},{_,hn',λj y v' e1 e2 e3=>?_},λy c e=>?_,I.free,I.freeC,λp hp=>?_,B ⟨oL,hoL,I.free⟩ hs,by simpa using I.len} {_,hs,.inl rfl}
  ·exact(hs.2 b (Qw (Qg (Qk e) I.ok.above))).trans (I.base.keep b o e n R J)
  ·obtain⟨sl,e1⟩:=I.base.slot b o e n R J;exact{sl,(hs.2 b (Qw (Qg (Qk e) I.ok.above))).trans e1}
  ·obtain⟨o',e1⟩:=I.base.there b o e J;exact{o',(hs.2 b (Qw (Qg (Qk e) I.ok.above))).trans e1}
  ·by_cases U:j=i
   ·subst U;rw[hi] at e1;cases e1;rw[Qj O] at e2;cases e2;exact{u,r,.inl {hk,`s}}
   ·rw[PN (Q0 U)] at e2;obtain⟨u',r',q⟩:=hl j y v' e1 e2 e3;refine{u',r',?_};rcases q with⟨k,e⟩|⟨k,c,e,z⟩
    ·refine .inl {k,?_};have:y≠x:=λe=>U (tH hN e1 (e ▸ hi));simp[this,e]
    ·exact .inr {k,c,e,z.sameBut hs (cne y c e)}
  ·obtain⟨w',z⟩:=I.cell y c e;exact{w',z.sameBut hs (cne y c e)}
  ·obtain⟨e,n,ne,nf,d⟩:=I.pin p hp;exact{(hs.2 p.1 ne).trans e,n,ne,nf,d}
 ·have S:X.fn x=true:=by
   rcases hf with z|z
   ·exact z
   ·rw[z] at hk;cases hk
  obtain⟨c,F⟩:=I.ok.has x (.inl hk);obtain⟨w',z⟩:=I.cell x c F;refine wpAny_storeName_cell I.ok.kind hk F z (λh' W hs=>?_);obtain⟨oc,hoc,hocd⟩:=id z;refine h {s with heap:=h'} {I.ok,I.os,I.bare,{λb o e n R J=>?_,λb o e n R J=>?_,I.base.free,λb o e J=>?_,I.base.tups,I.base.frzs,I.base.tbls},{m,hn.sameBut hs (Q0 (cne x c F)),λj y v' e1 e2 e3=>?_},λy c' e=>?_,I.free,I.freeC,λp hp=>?_,B {oc,hoc,I.freeC x c F} hs,by simpa using I.len} {c,hs,.inr F}
  ·exact(hs.2 b (Qw (Qg (Qk e) (I.ok.cab x c S F)))).trans (I.base.keep b o e n R J)
  ·obtain⟨sl,e1⟩:=I.base.slot b o e n R J;exact{sl,(hs.2 b (Qw (Qg (Qk e) (I.ok.cab x c S F)))).trans e1}
  ·obtain⟨o',e1⟩:=I.base.there b o e J;exact{o',(hs.2 b (Qw (Qg (Qk e) (I.ok.cab x c S F)))).trans e1}
  ·by_cases U:j=i
   ·subst U;rw[hi] at e1;cases e1;rw[Qj O] at e2;cases e2;exact{u,r,.inr {.inl hk,c,F,W}}
   ·rw[PN (Q0 U)] at e2;obtain⟨u',r',q⟩:=hl j y v' e1 e2 e3;refine{u',r',?_};rcases q with q|⟨k,c',e,z'⟩
    ·exact .inl q
    ·refine .inr {k,c',e,z'.sameBut hs ?_};rintro rfl;exact U (tH hN e1 (I.ok.inj _ _ _ e F ▸ hi))
  ·by_cases Y:c'=c
   ·subst Y;exact{_,W}
   ·obtain⟨w2,z2⟩:=I.cell y c' e;exact{w2,z2.sameBut hs Y}
  ·obtain⟨e,n,ne,nf,d⟩:=I.pin p hp;refine{(hs.2 p.1 ?_).trans e,n,ne,nf,d};intro q;rw[q,hoc] at e;have q':=PQ e;exact d w' (by rw[<- q'];exact hocd)
def sE (I:Inv X pins σ H s)(y:X.N.Nodup)(hi:X.N[i]?=some x)(z:Loc X.env.scope x)(r:RelV v u)
 (h:∀s',Inv X pins (σ.set i (some v)) H s'->Q () s') (hf:X.fn x=true\/X.env.scope.names.lookup x=some .local:=by first|exact .inl rfl|exact .inr rfl|assumption):wpAny M A (storeName X.env x u) Q E s:=
 qG I y hi z r (λs' j _=>h s' j) hf
def Inv.call' (I:Inv X pins σ H s)(ho:s'.os=s.os)(u:Un (fU X.stack) ch H H' s.heap s'.heap)(hok:eK X.prog X.w H' s'.heap)(y:AllBare s'.gens)
 (j:∀b∈ch,(b∈X.ex\/X.s₀.heap.objs.size≤b)/\b≠X.env.locals/\(∀x c,X.env.cells.lookup x=some c->c≠b)/\∀p∈X.pn++pins,p.1≠b):Inv X pins σ H' s':=by
 obtain⟨h',B,z,F,o'⟩:=s';have e:=ho;subst e;exact I.call u hok y j
end
abbrev XK:=PL->Option Addr->Hp->Prop
abbrev St:=List (Option V)
abbrev VK:=V->Hp->Prop
abbrev TE:=St->Hp->VK->Prop
abbrev TT:=St->Hp->(Bool->Hp->Prop)->Prop
abbrev TA:=St->Hp->(List V->Hp->Prop)->Prop
structure Ends where
 nx:St->Hp->Prop
 rt:VK
 bk:St->Hp->Prop:=λ_ _=>False
 ct:St->Hp->Prop:=λ_ _=>False
abbrev TS:=Ends->St->Hp->Prop
def EP (X:Cx)(pins:List (Addr×Obj))(σ:St)(Q:VK)(u:PL)(s':PX):Prop:=∃v H',Inv X pins σ H' s'/\RelV v u/\Q v H'
def TP (X:Cx)(pins:List (Addr×Obj))(σ:St)(Q:Bool->Hp->Prop)(b:Bool)(s':PX):Prop:=∃H',Inv X pins σ H' s'/\Q b H'
def AP (X:Cx)(pins:List (Addr×Obj))(σ:St)(Q:List V->Hp->Prop)(us:List PL)(s':PX):Prop:=∃j H',Inv X pins σ H' s'/\Vals j us/\Q j H'
def SP (X:Cx)(pins:List (Addr×Obj))(D:Ends)(f:Flow)(s':PX):Prop:=
 match f with
 |.next=>∃j H',Inv X pins j H' s'/\D.nx j H'
 |.brk=>∃j H',Inv X pins j H' s'/\D.bk j H'
 |.cont=>∃j H',Inv X pins j H' s'/\D.ct j H'
 |.ret u=>∃v j H',Inv X pins j H' s'/\RelV v u/\D.rt v H'
def PE (X:Cx)(e:Expr)(t:TE):Prop:=
 ∀(pins:List (Addr×Obj)) (s:PX) (σ:St) (H:Hp) (Q:VK),Inv X pins σ H s->t σ H Q->wpAny (model X.prog X.w) X.A (eval e X.env) (EP X pins σ Q) X.xe s
def PT (X:Cx)(e:Expr)(t:TT):Prop:=
 ∀(pins:List (Addr×Obj)) (s:PX) (σ:St) (H:Hp) (Q:Bool->Hp->Prop),Inv X pins σ H s->t σ H Q->wpAny (model X.prog X.w) X.A (isTrue e X.env (eval e X.env)) (TP X pins σ Q) X.xe s
def PW (X:Cx)(e:Expr)(t:TT):Prop:=
 ∀(whole:Sem PL) (pins:List (Addr×Obj)) (s:PX) (σ:St) (H:Hp) (Q:Bool->Hp->Prop),Inv X pins σ H s->t σ H Q->wpAny (model X.prog X.w) X.A (isTrue e X.env whole) (TP X pins σ Q) X.xe s
def PW.pt (h:PW X e t):PT X e t:=h _
def PA (X:Cx)(es:List Expr)(t:TA):Prop:=
 ∀(pos:Pos) (pins:List (Addr×Obj)) (s:PX) (σ:St) (H:Hp) (Q:List V->Hp->Prop),Inv X pins σ H s->t σ H Q->wpAny (model X.prog X.w) X.A (spliced (backTo pos (starEach es X.env))) (AP X pins σ Q) X.xe s
def PS (X:Cx)(st:Stmt)(t:TS):Prop:=
 ∀(pins:List (Addr×Obj)) (s:PX) (σ:St) (H:Hp) (D:Ends),Inv X pins σ H s->t D σ H->wpAny (model X.prog X.w) X.A (exec st X.env) (SP X pins D) X.xe s
def kr (X:Cx)(st:List Stmt)(t:TS):Prop:=
 ∀(pins:List (Addr×Obj)) (s:PX) (σ:St) (H:Hp) (D:Ends),Inv X pins σ H s->t D σ H->wpAny (model X.prog X.w) X.A (execs st X.env) (SP X pins D) X.xe s
def aP {j:Type}{t:Sem j}{Q Q':j->PX->Prop}{M:Model}{A:Ry}{E:PL->PX->Prop}{s:PX}(h:wpAny M A t Q E s)(y:∀a s,Q a s->Q' a s):wpAny M A t Q' E s:=wpAny_mono h y λ_ _ x=>x
section
variable{X:Cx}
def N3 (i:Nat):TE:=λσ H Q=>∃v,σ[i]?=some (some v)/\Q v H
def tC (v:V):TE:=λ_ H Q=>Q v H
def zx (F:X.N[i]?=some x)(J:wu X.env.scope x)(hd:(x==("__debug__":Str))=false:=by decide)(z:(x==("__classdict__":Str))=false:=by decide):PE X (.Name x pos) (N3 i):=by
 intro pins s σ H Q I h;obtain⟨v,e,h⟩:=h;obtain⟨m,hn,hl⟩:=I.loc;obtain⟨u,r,l⟩:=hl i x v F e J;have y:EP X pins σ Q u s:=⟨v,H,I,r,h⟩;rcases l with⟨hk,hm⟩|⟨hk,c,B,j⟩
 ·exact wpAny_Name (wpAny_loadName_local I.ok.kind hk hn hm y) hd
 ·rcases hk with hk|hk
  ·exact wpAny_Name (wpAny_loadName_cell I.ok.kind hk B j y) hd
  ·exact wpAny_Name (wpAny_loadName_free I.ok.kind hk B j y z) hd
def zy {i j pos}:PE X (.Constant (.int i) j pos) (tC (.int i)):=λ_ _ _ H _ I h=>wpAny_Constant_int {.int i,H,I.tok _,{_,rfl},h}
def LZ {b j pos}:PE X (.Constant (.bool b) j pos) (tC (.bl b)):=λ_ _ _ H _ I h=>Constant_bool {.bl b,H,I,rfl,h}
def Jd {j pos}:PE X (.Constant .none j pos) (tC .non):=λ_ _ _ H _ I h=>Constant_none {.non,H,I,rfl,h}
def Ja {x j pos}:PE X (.Constant (.str x) j pos) (tC (.str x)):=λ_ _ _ H _ I h=>Calls.Constant_str {.str x,H,I.tok _,{_,rfl},h}
def Gl (X:Cx)(x:Str):Prop:=X.env.kindOf x=some .globalImplicit
def iV (I:Inv X pins σ H s)(j:Gl X x)(hm:X.mg x=some u)(h:Q u s)
 (hd:(x==("__debug__":Str))=false:=by decide):wpAny (model X.prog X.w) X.A (eval (.Name x pos) X.env) Q E s:=
 Calls.Name_function_global I.ok.kind j (Calls.loadGlobal_global (by rw[I.ok.glob];exact I.mod.glob.keeps I.bk) hm h) hd
def fT (I:Inv X pins σ H s)(j:Gl X x)(hm:X.mg x=none)(y:bootBuiltins x=some u)(h:Q u s)
 (hn:x≠"__name__":=by decide) (hd:(x==("__debug__":Str))=false:=by decide):wpAny (model X.prog X.w) X.A (eval (.Name x pos) X.env) Q E s:=by
 obtain⟨z,h1,h2⟩:=I.mod.blt;exact Calls.Name_function_global I.ok.kind j (Calls.loadGlobal_builtin (by rw[I.ok.glob];exact I.mod.glob.keeps I.bk) hm (by rw[I.ok.blt];exact h1.keeps I.bk) ((h2 x hn).trans y) h) hd
def j6 (j:Gl X x)(hm:X.mg x=some u)(r:RelV v u)(hd:(x==("__debug__":Str))=false:=by decide):PE X (.Name x pos) (tC v):=
 λ_ _ _ H _ I h=>iV I j hm ⟨v,H,I,r,h⟩ hd
def Gb (j:Gl X x)(hm:X.mg x=none)(y:bootBuiltins x=some u)(r:RelV v u)(hn:x≠"__name__":=by decide)(hd:(x==("__debug__":Str))=false:=by decide):PE X (.Name x pos) (tC v):=
 λ_ _ _ H _ I h=>fT I j hm y ⟨v,H,I,r,h⟩ hn hd
variable{a b:Expr}{ta tb:TE}{pos:Pos}
variable{tA tB':TT}{rest:List Expr}
def dI (t u:TT):TT:=λσ H Q=>t σ H λc H1=>if c=true then u σ H1 Q else Q false H1
def d7 (t u:TT):TT:=λσ H Q=>t σ H λc H1=>if c=true then Q true H1 else u σ H1 Q
def bQ (t:TT):TT:=λσ H Q=>t σ H λc H1=>Q (!c) H1
def FZ (j:PT X a tA):PW X (.BoolOp .And [a] pos) tA:=by
 intro y pins s σ H Q I h;refine isTrue_and (aP (j pins s σ H Q I h) λc s1 e=>?_);cases c with
 |true=>exact isTrue_and_nil e
 |false=>exact e
def IQ (j:PT X a tA):PW X (.BoolOp .Or [a] pos) tA:=by
 intro y pins s σ H Q I h;refine isTrue_or (aP (j pins s σ H Q I h) λc s1 e=>?_);cases c with
 |false=>exact isTrue_or_nil e
 |true=>exact e
def IS (z:PT X a tA)(B:PW X (.BoolOp .And (b::rest) pos) tB'):PW X (.BoolOp .And (a::b::rest) pos) (dI tA tB'):=by
 intro F pins s σ H Q I h;refine isTrue_and (aP (z pins s σ H _ I h) λc s1 ⟨H1,j,y⟩=>?_);cases c with
 |true=>exact B F pins s1 σ H1 Q j y
 |false=>exact⟨H1,j,y⟩
def LS (z:PT X a tA)(B:PW X (.BoolOp .Or (b::rest) pos) tB'):PW X (.BoolOp .Or (a::b::rest) pos) (d7 tA tB'):=by
 intro F pins s σ H Q I h;refine isTrue_or (aP (z pins s σ H _ I h) λc s1 ⟨H1,j,y⟩=>?_);cases c with
 |true=>exact⟨H1,j,y⟩
 |false=>exact B F pins s1 σ H1 Q j y
def IV (j:PT X a tA):PT X (.UnaryOp .Not a pos) (bQ tA):=by
 intro pins s σ H Q I h;exact isTrue_not (j pins s σ H (λc H1=>Q (!c) H1) I h)
def LM (ta tb:TE):TE:=λσ H Q=>ta σ H λx H1=>∃c,x=.bl c/\if c=true then tb σ H1 Q else Q (.bl false) H1
def N7 (ta tb:TE):TE:=λσ H Q=>ta σ H λx H1=>∃c,x=.bl c/\if c=true then Q (.bl true) H1 else tb σ H1 Q
def LJ (ta:TE):TE:=λσ H Q=>ta σ H λx H1=>∃c,x=.bl c/\Q (.bl (!c)) H1
def Jb {op}(h:PE X a t):PE X (.BoolOp op [a] pos) t:=λpins s σ H Q I j=>BoolOp_one (h pins s σ H Q I j)
def Jg (z:PE X a ta)(B:PE X (.BoolOp .And (b::rest) pos) tb):PE X (.BoolOp .And (a::b::rest) pos) (LM ta tb):=by
 intro pins s σ H Q I h;refine BoolOp_and (aP (z pins s σ H _ I h) λv s1 ⟨x,H1,y,r1,j⟩=>?_);obtain⟨c,rfl,j⟩:=j;cases r1;refine tqp ?_;cases c with
 |true=>exact B pins s1 σ H1 Q y j
 |false=>exact{.bl false,H1,y,rfl,j}
def LW (z:PE X a ta)(B:PE X (.BoolOp .Or (b::rest) pos) tb):PE X (.BoolOp .Or (a::b::rest) pos) (N7 ta tb):=by
 intro pins s σ H Q I h;refine BoolOp_or (aP (z pins s σ H _ I h) λv s1 ⟨x,H1,y,r1,j⟩=>?_);obtain⟨c,rfl,j⟩:=j;cases r1;refine tqp ?_;cases c with
 |false=>exact B pins s1 σ H1 Q y j
 |true=>exact{.bl true,H1,y,rfl,j}
def Jc (z:PE X a ta):PE X (.UnaryOp .Not a pos) (LJ ta):=by
 intro pins s σ H Q I h;refine UnaryOp_ (aP (z pins s σ H _ I h) λv s1 ⟨x,H1,y,r1,j⟩=>?_);obtain⟨c,rfl,j⟩:=j;cases r1;exact not_of (tqp {.bl (!c),H1,y,rfl,j})
def tIf (t:TT)(ta tb:TE):TE:=λσ H Q=>t σ H λc H1=>if c=true then ta σ H1 Q else tb σ H1 Q
def tj (F:PT X c tA)(z:PE X a ta)(B:PE X b tb):PE X (.IfExp c a b pos) (tIf tA ta tb):=by
 intro pins s σ H Q I h;refine wpAny_IfExp (aP (F pins s σ H _ I h) λd s1 ⟨H1,j,y⟩=>?_);cases d with
 |true=>exact z pins s1 σ H1 Q j y
 |false=>exact B pins s1 σ H1 Q j y
end
def dh (K:PJ)(H:Hp)(a:Addr)(xs:List V):Prop:=
 Rd H a (.lst xs)\/
  ∃(o:Obj) (j:Array PL) (n:Nat),K.lookup a=some o/\o.cls=.type "list"/\o.dict=none/\o.data=.seq j n/\j.size≤sizeLine/\Vals xs j.toList
def dS (K:PJ)(H:Hp)(a:Addr)(xs:List V):Prop:=
 Rd H a (.tup xs)\/
  ∃(o:Obj) (j:Array PL) (n:Nat),K.lookup a=some o/\o.cls=.type "tuple"/\o.data=.seq j n/\j.size≤sizeLine/\Vals xs j.toList
noncomputable def Pa:PL->Option V
 |.none=>some .non
 |.bool b=>some (.bl b)
 |.int i _=>some (.int i)
 |.str x _=>some (.str x)
 |.bytes b _=>some (.byt b)
 |.float b _=>some (.flt b)
 |.ref a=>some (.ref a)
 |.type n=>some (.ty n)
 |_=>none
def RelV.abs (r:RelV x u):Pa u=some x:=by
 cases x with
 |non=>cases r;rfl
 |bl _=>cases r;rfl
 |int _=>obtain⟨t,rfl⟩:=r;rfl
 |str _=>obtain⟨t,rfl⟩:=r;rfl
 |byt _=>obtain⟨t,rfl⟩:=r;rfl
 |flt _=>obtain⟨t,rfl⟩:=r;rfl
 |ref _=>cases r;rfl
 |ty _=>cases r;rfl
def RelV.inj (r:RelV x u)(q:RelV y u):x=y:=PQ (r.abs.symm.trans q.abs)
noncomputable def Vals.inj:∀{xs ys:List V}{us:List PL},Vals xs us->Vals ys us->xs=ys
 |_,_,_,.nil,.nil=>rfl
 |_,_,_,.cons r t,.cons j y=>by rw[r.inj j,Vals.inj t y]
section
variable{X:Cx}{pins:List (Addr×Obj)}{σ:St}{H:Hp}{s:PX}{a:Addr}{xs ys:List V}
def dh.of {K:PJ}(h:H a=some (.lst xs)):dh K H a xs:=.inl (.inl h)
def dS.of {K:PJ}(h:H a=some (.tup xs)):dS K H a xs:=.inl (.inl h)
def Inv.list (I:Inv X pins σ H s)(h:dh X.K H a xs):∃j:List PL,Vals xs j/\PlainL s.heap a j.toArray/\xs.length≤sizeLine:=by
 rcases h with h|⟨o,j,n,hk,y,hd,hs,B,r⟩
 ·obtain⟨z,j,n,r,e⟩:=h.ok I.hok;exact{j,r,{_,n,e,rfl,rfl,rfl},z}
 ·refine{j.toList,r,{o,n,I.kIn a o hk,y,hd,by simpa using hs},?_}
  have e:=r.length;simp only[RW] at e;omega
def Inv.tuple (I:Inv X pins σ H s)(h:dS X.K H a xs):∃j:List PL,Vals xs j/\IsTup s.heap a j.toArray/\xs.length≤sizeLine:=by
 rcases h with h|⟨o,j,n,hk,y,hs,B,r⟩
 ·obtain⟨z,j,r,p⟩:=h.ok I.hok;exact⟨j,r,p,z⟩
 ·refine{j.toList,r,{o,I.kIn a o hk,y,n,by simpa using hs},?_}
  have e:=r.length;simp only[RW] at e;omega
def Inv.list_inj (I:Inv X pins σ H s)(h:dh X.K H a xs)(h':dh X.K H a ys):xs=ys:=by
 obtain⟨y,r,⟨o,n,e,_,_,d⟩,_⟩:=I.list h;obtain⟨j,F,⟨o',J,B,_,_,z⟩,_⟩:=I.list h';rw[e] at B;cases B;rw[d] at z;injection z with d1 _
 have:y=j:=by simpa using congrArg Array.toList d1
 subst this;exact r.inj F
def Inv.tuple_inj (I:Inv X pins σ H s)(h:dS X.K H a xs)(h':dS X.K H a ys):xs=ys:=by
 obtain⟨y,r,⟨o,e,_,n,d⟩,_⟩:=I.tuple h;obtain⟨j,F,⟨o',B,_,J,z⟩,_⟩:=I.tuple h';rw[e] at B;cases B;rw[d] at z;injection z with d1 _
 have:y=j:=by simpa using congrArg Array.toList d1
 subst this;exact r.inj F
end
section
variable{X:Cx}{st:Stmt}{rest:List Stmt}{t u:TS}{e:Expr}{te:TE}{pos:Pos}
def DC:TS:=λD σ H=>D.nx σ H
def N5 (t u:TS):TS:=λD σ H=>t {D with nx:=u D} σ H
def F1:kr X [] DC:=λ_ _ σ H _ I h=>wpAny_execs_nil ⟨σ,H,I,h⟩
def BW (h1:PS X st t)(h2:kr X rest u):kr X (st::rest) (N5 t u):=by
 intro pins s σ H D I h;refine wpAny_execs_cons (aP (h1 pins s σ H {D with nx:=u D} I h) λf s1 q=>?_)
 cases f with
 | next =>
   obtain⟨j,H',y,q⟩:=q;exact h2 pins s1 j H' D y q
 |ret v=>exact q
 |brk=>exact q
 |cont=>exact q
def F4:PS X (.Pass pos) DC:=λ_ _ σ H _ I h=>wpAny_Pass ⟨σ,H,I,h⟩
def Inv.quiet (I:Inv X pins σ H s):interactive X.env=false:=by simp[interactive,I.ok.kind]
def LK (te:TE):TS:=λD σ H=>te σ H λ_ H1=>D.nx σ H1
def mQ (he:PE X e te)(hs:swapsWith e none pos.line X.env=pure false:=by rfl):PS X (.Expr e pos) (LK te):=by
 intro pins s σ H D I h;exact wpAny_Expr_any (aP (he pins s σ H _ I h) λv s1 ⟨x,H1,j,r1,y⟩=>⟨σ,H1,j,y⟩) I.quiet hs
def N6 (te:TE):TS:=λD σ H=>te σ H D.rt
def zo (he:PE X e te):PS X (.Return (some e) pos) (N6 te):=by
 intro pins s σ H D I h;exact wpAny_Return_some (aP (he pins s σ H _ I h) λv s1 ⟨x,H1,j,r1,y⟩=>⟨x,σ,H1,j,r1,y⟩)
def LH:TS:=λD _ H=>D.rt .non H
def F2:PS X (.Return none pos) LH:=λ_ _ σ H _ I h=>wpAny_Return_none {.non,σ,H,I,rfl,h}
def Oa (c:TT)(t u:TS):TS:=λD σ H=>c σ H λb H1=>if b=true then t D σ H1 else u D σ H1
def LU (F:PT X c tc)(z:kr X a t)(B:kr X b u):PS X (.If c a b pos) (Oa tc t u):=by
 intro pins s σ H D I h;refine wpAny_If (aP (F pins s σ H _ I h) λd s1 ⟨H1,j,y⟩=>?_);cases d with
 |true=>exact z pins s1 σ H1 D j y
 |false=>exact B pins s1 σ H1 D j y
end
abbrev TG:=V->St->Hp->(St->Hp->Prop)->Prop
abbrev wy:=List V->St->Hp->(St->Hp->Prop)->Prop
def PG (X:Cx)(j:Expr)(t:TG):Prop:=
 ∀(pins:List (Addr×Obj)) (s:PX) (σ:St) (H:Hp) (v:V) (u:PL) (Q:St->Hp->Prop),Inv X pins σ H s->RelV v u->t v σ H Q->
  wpAny (model X.prog X.w) X.A (assign j X.env u) (λ_ s'=>∃y H',Inv X pins y H' s'/\Q y H') X.xe s
def uO (X:Cx)(ts:List Expr)(t:wy):Prop:=
 ∀(pins:List (Addr×Obj)) (s:PX) (σ:St) (H:Hp) (z:List V) (y:List PL) (Q:St->Hp->Prop),Inv X pins σ H s->Vals z y->t z σ H Q->
  wpAny (model X.prog X.w) X.A (assignInOrder ((assignEach ts X.env).map (·.2)) y) (λ_ s'=>∃j H',Inv X pins j H' s'/\Q j H') X.xe s
abbrev CZ:=V->V->V->Hp->(Hp->Prop)->Prop
def C3 (X:Cx)(t:CZ):Prop:=
 ∀(pins:List (Addr×Obj)) (s:PX) (σ:St) (H:Hp) (o i v:V) (y j u:PL) (Q:Hp->Prop),Inv X pins σ H s->RelV o y->RelV i j->RelV v u->t o i v H Q->
  wpAny (model X.prog X.w) X.A (setItem y j u) (λ_ s'=>∃H',Inv X pins σ H' s'/\Q H') X.xe s
abbrev Lk:=V->V->Hp->VK->Prop
def NS (X:Cx)(op:Operator)(t:Lk):Prop:=
 ∀(pins:List (Addr×Obj)) (s:PX) (σ:St) (H:Hp) (x y:V) (v u:PL) (Q:VK),Inv X pins σ H s->RelV x v->RelV y u->t x y H Q->
  wpAny (model X.prog X.w) X.A (inplaceOp op v u) (EP X pins σ Q) X.xe s
section
variable{X:Cx}{pos:Pos}
def Mn (i:Nat):TG:=λv σ H Q=>Q (σ.set i (some v)) H
def pU (y:X.N.Nodup)(hi:X.N[i]?=some x)(z:Loc X.env.scope x)(hf:X.fn x=true\/X.env.scope.names.lookup x=some .local:=by first|exact .inl rfl|exact .inr rfl|assumption):PG X (.Name x pos) (Mn i):=by
 intro pins s σ H v u Q I r h;exact wpAny_assign_Name (sE I y hi z r (λs' j=>{_,H,j,h}) hf)
noncomputable def bT:wy:=λj σ H Q=>j=[]/\Q σ H
def cm (t:TG)(u:wy):wy:=λy σ H Q=>∃v r,y=v::r/\t v σ H λj H'=>u r j H' Q
def vg:uO X [] bT:=by
 intro pins s σ H y j Q I r h;obtain⟨e,h⟩:=h;subst e;cases r;exact assignInOrder_nil ⟨σ,H,I,h⟩
def nV (h1:PG X e t)(h2:uO X es u)
 (hs:(assignEach (e::es) X.env).map (·.2)=assign e X.env::(assignEach es X.env).map (·.2):=by rfl):uO X (e::es) (cm t u):=by
 intro pins s σ H J F Q I r h;obtain⟨v,vr,e1,h⟩:=h;subst e1;cases r with
 | cons r B =>
   rw[hs];refine assignInOrder_cons (aP (h1 pins s σ H _ _ _ I r h) λ_ s1 ⟨j,H1,y,z⟩=>?_);exact h2 pins s1 j H1 _ _ Q y B z
def ba (K:PJ)(n:Nat)(t:wy):TG:=λv σ H Q=>∃a xs,v=.ref a/\dS K H a xs/\xs.length=n/\t xs σ H Q
def s9 (F:X.calm=true)(h:uO X es t)
 (hn:(assignEach es X.env).length=n:=by rfl) (j:(assignEach es X.env).findIdx? (·.1)=none:=by rfl):PG X (.Tuple es k pos) (ba X.K n t):=by
 intro pins s σ H v u Q I r y;obtain⟨a,xs,e1,J,hl,y⟩:=y;subst e1;cases r;obtain⟨O,z,L,R⟩:=I.tuple J;refine assign_Tuple_tuple (I.ok.hd F) L (by simp[hn,<- hl,z.length]) j λh' M=>?_
 have B:=I.kept (t':=s.toks) λb o e=>M b o (Qw (Qk e)) e;exact h pins _ σ H xs _ Q B (by simpa using z) y
def OS (to y:TE)(t:CZ):TG:=λv σ H Q=>to σ H λo H1=>y σ H1 λi H2=>t o i v H2 λj=>Q σ j
def zw (ho:PE X o to)(hi:PE X i ti)(hs:C3 X t)
 (M:∀v,assign (.Subscript o i pos) X.env v=(do
  let j <- holding [v] (eval o X.env)
  let z <- holding [v,j] (eval i X.env)
  standAt pos
  holding [v,j,z] (setItem j z v)
  release [v,j,z] []):=by intro _;rfl):PG X (.Subscript o i pos) (OS to ti t):=by
 intro pins s σ H v u Q I r h;rw[M];refine tqa (tqo (aP (ho pins s σ H _ I h) λj s1 ⟨x,H1,F,r1,O⟩=>?_));refine tqa (tqo (aP (hi pins s1 σ H1 _ F O) λz s2 ⟨y,H2,J,r2,R⟩=>?_));refine tqa (wpAny_standAt (tqa (tqo (aP (hs pins s2 σ H2 x y v j z u _ J r1 r2 r R) λ_ U ⟨B,L,S⟩=>?_))));exact wpAny_release ⟨σ,B,L,S⟩
def Oe (te:TE)(g:TG):TS:=λD σ H=>te σ H λx H1=>g x σ H1 D.nx
def lV (he:PE X e te)(y:PG X tg g)(hs:swapsWithSole [tg] e pos.line X.env=pure false:=by rfl)(z:swappedStores [tg] e X.env=pure none:=by rfl)
 (h1:(assignEach [tg] X.env).map (·.2)=[assign tg X.env]:=by rfl):PS X (.Assign [tg] e pos) (Oe te g):=by
 intro pins s σ H D I h;refine wpAny_Assign_stores (aP (he pins s σ H _ I h) λv s1 ⟨x,H1,j,r1,B⟩=>?_) hs z;rw[h1];exact aP (y pins s1 σ H1 x v _ j r1 B) λ_ s2 q=>q
def Od (i:Nat)(te:TE)(j:Lk):TS:=λD σ H=>∃x,σ[i]?=some (some x)/\te σ H λy H1=>j x y H1 λz H2=>D.nx (σ.set i (some z)) H2
def IX (S:X.N.Nodup)(hi:X.N[i]?=some x)(J:Loc X.env.scope x)(he:PE X e te)(ho:NS X op ti)(hf:X.fn x=true\/X.env.scope.names.lookup x=some .local:=by first|exact .inl rfl|exact .inr rfl|assumption) :
 PS X (.AugAssign (.Name x pos') op e pos) (Od i te ti):=by
 intro pins s σ H D I h;obtain⟨v,e1,h⟩:=h;obtain⟨m,hn,hl⟩:=I.loc;have L:wu X.env.scope x:=by rcases J with k|k;exact .inl k;exact .inr (.inl k)
 obtain⟨u,r,l⟩:=hl i x v hi e1 L;refine wpAny_AugAssign_Name ?_;have go:wpAny (model X.prog X.w) X.A (eval e X.env) (λw B=>wpAny (model X.prog X.w) X.A (inplaceOp op u w) (λr F=>wpAny (model X.prog X.w) X.A (storeName X.env x r) (λ_=>SP X pins D .next) X.xe F) X.xe B) X.xe s:=by
  refine aP (he pins s σ H _ I h) λw s1 ⟨y,H1,M,r1,W⟩=>?_;refine aP (ho pins s1 σ H1 v y u w _ M r r1 W) λz s2 ⟨zv,H2,O,r2,Y⟩=>?_;exact sE O S hi J r2 (λs3 R=>{_,H2,R,Y}) hf
 rcases l with⟨hk,hm⟩|⟨hk,c,U,j⟩
 ·exact wpAny_loadName_local I.ok.kind hk hn hm go
 ·rcases hk with hk|hk
  ·exact wpAny_loadName_cell I.ok.kind hk U j go
  ·rcases J with k|k
   ·have:X.env.scope.names.lookup x=some .free:=hk;rw[k] at this;cases this
   ·have:X.env.scope.names.lookup x=some .free:=hk;rw[k] at this;cases this
def ipI (f:Int->Int->Int):Lk:=λx y H Q=>∃i j,x=.int i/\y=.int j/\Q (.int (f i j)) H
def J0:NS X .Add (ipI λi j=>i+j):=by
 intro pins s σ H x y v u Q I r1 r2 h;obtain⟨i,j,e1,e2,q⟩:=h;subst e1;subst e2;obtain⟨t,rfl⟩:=r1;obtain⟨z,rfl⟩:=r2;exact iadd_int {.int _,H,I.tok _,{_,rfl},q}
end
section
variable{X:Cx}{pos:Pos}
def H8 (c:TT)(tb:TS):TS:=λD σ H=>∃W:Nat->St->Hp->Prop,(∃m,W m σ H)/\∀m σ H,W m σ H->
 c σ H λb H1=>if b=true then ∃N:St->Hp->Prop,(∀j H',N j H'->∃y,y<m/\W y j H')/\tb {D with nx:=N,ct:=N,bk:=D.nx} σ H1 else D.nx σ H1
def BX (Y:PassesOwn (model X.prog X.w) X.A X.env X.xe)(hc:PT X c tc)(hb:kr X body tb):PS X (.While c body [] pos) (H8 tc tb):=by
 intro pins s σ H D I h;obtain⟨W,⟨m0,w0⟩,turn⟩:=h;refine wpAny_While (codeAny_whileLoop (λn s'=>∃B H',Inv X pins B H' s'/\W n B H') ?_ m0 ⟨σ,H,I,w0⟩);rintro n s1 ⟨y,H1,I1,w1⟩;refine wpAny_passesOwn Y (aP (hc pins s1 y H1 _ I1 (turn n y H1 w1)) λb s2 ⟨H2,S,F⟩=>?_);cases b with
 | true =>
   obtain⟨N,U,F⟩:=F;rw[if_pos rfl];refine wpAny_passesOwn Y (aP (hb pins s2 y H2 _ S F) λf s3 J=>?_);cases f with
   | next =>
     obtain⟨j,z,L,O⟩:=J;obtain⟨M,hm,R⟩:=U j z O;exact⟨M,hm,j,z,L,R⟩
   | cont =>
     obtain⟨j,z,L,O⟩:=J;obtain⟨M,hm,R⟩:=U j z O;exact⟨M,hm,j,z,L,R⟩
   |brk=>exact J
   |ret v=>exact J
 | false =>
   rw[if_neg Qr];exact wpAny_execs_nil ⟨y,H2,S,F⟩
end
structure It where
 go:Nat->Hp->Prop
 yld:Nat->Hp->V->Hp->Prop
 stop:Nat->Hp->Prop
def fC (X:Cx)(pins:List (Addr×Obj))(H:Hp)(b:Addr):Prop:=
 H b=none/\b≠X.env.locals/\b∉X.fs/\(b∈X.ex\/X.s₀.heap.objs.size≤b)/\(∀x c,X.env.cells.lookup x=some c->c≠b)/\∀p∈X.pn++pins,p.1≠b
def Inv.fpOk (I:Inv X pins σ H s)(j:s.heap.objs.size≤b)(hn:H' b=none):fC X pins H' b:=by
 refine{hn,QR (Qg I.lt j),I.nofs j,.inr (Qf I.sz j),λx c e z=>?_,λp y z=>?_}
 ·obtain⟨v,q⟩:=I.cell x c e;exact absurd (Qg q.lt (by rw[z];exact j)) (Q4 _)
 ·exact absurd (Qg (Qk (I.pin p y).1) (by rw[z];exact j)) (Q4 _)
structure Turn (P:QF) (w:Qz) (K:PJ) (tg:Expr) (J:It) (fp:List Addr) (it:Addr) (tn:Nat->Heap->Prop):Prop where
 mem:it∈fp
 obj:∀i h,tn i h->∀b∈fp,∃o,h.get? b=some o/\∀v,o.data≠.cell v
 keep:∀i h h',tn i h->(∀b∈fp,∀o,h.get? b=some o->h'.get? b=some o)->tn i h'
 item:∀(X:Cx),X.prog=P->X.w=w->X.K=K->X.calm=true->∀(i:Nat) (pins:List (Addr×Obj)) (s:PX) (σ:St) (H:Hp) (E:PL->PX->Prop),Inv X pins σ H s->(∀b∈fp,fC X pins H b)->tn i s.heap->J.go i H->
  wpAny (model P w) X.A (pyNext (.ref it)) (λr s1=>∃u,r=some u/\
   wpAny (model P w) X.A (letOwnedTupleGo tg (.ref it) u) (λ_ s2=>∃x H',Inv X pins σ H' s2/\RelV x u/\J.yld i H x H'/\tn (i+1) s2.heap/\∀b∈fp,H' b=none) E s1) E s
 done:∀(X:Cx),X.prog=P->X.w=w->X.K=K->X.calm=true->∀(i:Nat) (pins:List (Addr×Obj)) (s:PX) (σ:St) (H:Hp) (E:PL->PX->Prop),Inv X pins σ H s->(∀b∈fp,fC X pins H b)->tn i s.heap->J.stop i H->
  wpAny (model P w) X.A (pyNext (.ref it)) (λr s1=>r=none/\Inv X pins σ H s1) E s
 self:∀(A:Ry) (i:Nat) (s:PX) (Q:PL->PX->Prop) (E:PL->PX->Prop),tn i s.heap->Q (.ref it) s->wpAny (model P w) A (pyIter (.ref it)) Q E s
abbrev TI:=St->Hp->(It->Hp->Prop)->Prop
def Lm (X:Cx)(pins:List (Addr×Obj))(σ:St)(tg:Expr)(R:It->Hp->Prop)(j:PL)(s2:PX):Prop:=
 ∃(z:Addr) (y:List Addr) (B:Nat->Heap->Prop) (J:It) (H':Hp),j=.ref z/\Inv X pins σ H' s2/\Turn X.prog X.w X.K tg J y z B/\B 0 s2.heap/\(∀b∈y,fC X pins H' b)/\R J H'
def PI (X:Cx)(tg j:Expr)(y:TI):Prop:=
 ∀(pins:List (Addr×Obj)) (s:PX) (σ:St) (H:Hp) (R:It->Hp->Prop),Inv X pins σ H s->y σ H R->
  wpAny (model X.prog X.w) X.A (eval j X.env) (λv s1=>wpAny (model X.prog X.w) X.A (pyIter v) (Lm X pins σ tg R) X.xe s1) X.xe s
def xt (ho:s.heap.get? it=some o)(y:o.cls=.type n)(hd:o.data=.fields vs)
 (hn:["enumerate","zip","dict_itemiterator","dict_reverseitemiterator","odict_iterator","itertools.zip_longest","itertools.pairwise"].contains n=false) (j:Q () s):wpAny M A (letOwnedTupleGo tg (.ref it) u) Q E s:=by
 cases tg<;>first
  |exact tqb j
  |(cases u<;>first
   |exact tqb j
   | (refine tqa (wpAny_load ho ?_)
      rw[y,hd];show wpAny M A (if (["enumerate","zip","dict_itemiterator","dict_reverseitemiterator","odict_iterator","itertools.zip_longest","itertools.pairwise"].contains n&&vs[0]?==some (rawInt _))=true then _ else _) Q E s;rw[if_neg (by intro h;rw[hn,Bool.false_and] at h;cases h)]
      exact tqb j))
def Lr (K:PJ)(a:Addr):It:=
 {λi H=>∃xs x,dh K H a xs/\xs[i]?=some x,λi H x H'=>H'=H/\∀xs,dh K H a xs->xs[i]?=some x,λi H=>∃xs,dh K H a xs/\xs.length≤i}
def Lq (K:PJ)(a:Addr):It:=
 {λi H=>∃xs x,dS K H a xs/\xs[i]?=some x,λi H x H'=>H'=H/\∀xs,dS K H a xs->xs[i]?=some x,λi H=>∃xs,dS K H a xs/\xs.length≤i}
def AX (lo:Int)(n:Nat):It:={λi _=>i<n,λi H x H'=>H'=H/\x=.int (lo+i),λi _=>n≤i}
def yC {K:PJ}(a y:Addr):Turn P w K tg (Lr K a) [y] y (λi h=>h.IsListIter y a i) where
 mem:=`s
 obj:=λi h st b j=>by
  have e:b=y:=by simpa using j
  subst e;obtain⟨o,e,c,d⟩:=st;exact{o,e,λv z=>by rw[d] at z;cases z}
 keep:=λi h h' st k=>st.at λo e=>k y `s o e
 item:=by
  intro X S Y R hc i pins s σ H E I hf st U;subst S Y R;obtain⟨xs,x,F,hx⟩:=U;obtain⟨its,rv,p,hz⟩:=I.list F;obtain⟨u,hu,ru⟩:=rv.get hx;obtain⟨J,f1,f2,L,M,O⟩:=hf y `s
  refine wpAny_pyNext_list_item st p.isList (by simpa using hu) λh' B sb=>?_
  have I1:=I.turned (t':=s.toks) (λb o j e=>(sb.2 b j).trans e) J f1 L M O;obtain⟨o,e,c,d⟩:=id B;exact{u,rfl,xt e c d `d {x,H,I1,ru,{rfl,λys hy=>by rw[I.list_inj hy F];exact hx},B,λb j=>(hf b j).1}}
 done:=by
  intro X S Y R hc i pins s σ H E I hf st U;subst S Y R;obtain⟨xs,F,hx⟩:=U;obtain⟨its,rv,p,hz⟩:=I.list F;obtain⟨J,f1,f2,L,M,O⟩:=hf y `s
  have hl:=rv.length;exact wpAny_pyNext_list_end (I.ok.hd hc) st p.isList `o λh' eb=>{rfl,I.turned (λb o j e=>eb b o j e) J f1 L M O}
 self:=λ_ _ _ _ _ st h=>wpAny_pyIter_listiter st h
def wH {K:PJ}(a y:Addr):Turn P w K tg (Lq K a) [y] y (λi h=>h.IsTupleIter y a i) where
 mem:=`s
 obj:=λi h st b j=>by
  have e:b=y:=by simpa using j
  subst e;obtain⟨o,e,c,d⟩:=st;exact{o,e,λv z=>by rw[d] at z;cases z}
 keep:=λi h h' st k=>st.at λo e=>k y `s o e
 item:=by
  intro X S Y R hc i pins s σ H E I hf st U;subst S Y R;obtain⟨xs,x,F,hx⟩:=U;obtain⟨its,rv,p,hz⟩:=I.tuple F;obtain⟨u,hu,ru⟩:=rv.get hx;obtain⟨J,f1,f2,L,M,O⟩:=hf y `s
  refine wpAny_pyNext_tuple_item st (p) (by simpa using hu) λh' B sb=>?_
  have I1:=I.turned (t':=s.toks) (λb o j e=>(sb.2 b j).trans e) J f1 L M O;obtain⟨o,e,c,d⟩:=id B;exact{u,rfl,xt e c d `d {x,H,I1,ru,{rfl,λys hy=>by rw[I.tuple_inj hy F];exact hx},B,λb j=>(hf b j).1}}
 done:=by
  intro X S Y R hc i pins s σ H E I hf st U;subst S Y R;obtain⟨xs,F,hx⟩:=U;obtain⟨its,rv,p,hz⟩:=I.tuple F;obtain⟨J,f1,f2,L,M,O⟩:=hf y `s
  have hl:=rv.length;exact wpAny_pyNext_tuple_end (I.ok.hd hc) st (p) `o λh' eb=>{rfl,I.turned (λb o j e=>eb b o j e) J f1 L M O}
 self:=λ_ _ _ _ _ st h=>wpAny_pyIter_tupleiter st h
def wI {K:PJ}(j:Addr)(lo:Int)(n:Nat):Turn P w K tg (AX lo n) [j] j (λi h=>IsRangeIter h j (lo+(i:Nat)*1) ((n:Int)-(i:Nat)) 1) where
 mem:=`s
 obj:=λi h st b y=>by
  have e:b=j:=by simpa using y
  subst e;exact{_,st,λv z=>by
   have z':=z;cases z'}
 keep:=λi h h' st k=>k j `s _ st
 item:=by
  intro X R Y O S i pins s σ H E I hf st U;subst R Y O;obtain⟨F,f1,f2,J,L,M⟩:=hf j `s
  have W:=Walks.range (prog:=X.prog) (w:=X.w) (I.ok.hd S) j lo 1 n;refine W.item i s _ _ U st λv h' tk hv B kk=>?_;obtain⟨t,rfl⟩:=hv;have I1:Inv X pins σ H {s with heap:=h',toks:=tk}:=I.turned (λb o y e=>kk b o (by simpa using y) e) F f1 J L M
  refine{_,rfl,xt B rfl rfl `d {.int (lo+i),H,I1,{t,?_},⟨rfl,rfl⟩,B,λb y=>(hf b y).1}}
  rw[Int.mul_one]
 done:=by
  intro X R Y O S i pins s σ H E I hf st U;subst R Y O;obtain⟨F,f1,f2,J,L,M⟩:=hf j `s
  exact wpAny_pyNext_range_end (I.ok.hd S) st (by have:n≤i:=U;omega) λh' eb=>{rfl,I.turned (λb o y e=>eb b o y e) F f1 J L M}
 self:=λ_ _ _ _ _ st h=>wpAny_pyIter_rangeiter st h
section
variable{X:Cx}{tg:Expr}
def Ml (K:PJ)(tl:TE):TI:=λσ H R=>tl σ H λx H1=>∃a,x=.ref a/\(∃xs,dh K H1 a xs)/\R (Lr K a) H1
def OR (K:PJ)(tl:TE):TI:=λσ H R=>tl σ H λx H1=>∃a,x=.ref a/\(∃xs,dS K H1 a xs)/\R (Lq K a) H1
def F9 (hl:PE X l tl):PI X tg l (Ml X.K tl):=by
 intro pins s σ H R I h;refine aP (hl pins s σ H _ I h) λv s1 ⟨x,H1,j,r1,F⟩=>?_;obtain⟨a,e,⟨xs,z⟩,q⟩:=F;subst e;cases r1;obtain⟨B,L,p,J⟩:=j.list z;refine wpAny_pyIter_list p.isList ?_;refine{s1.heap.objs.size,[s1.heap.objs.size],_,_,H1,rfl,j.kept λb o e=>PM _ e,yC a _,{_,Qn _ rfl,rfl,rfl},λb y=>?_,q};have e:b=s1.heap.objs.size:=by simpa using y
 subst e;exact j.fpOk (PV _) (j.hok.fresh (PV _))
def IZ (hl:PE X l tl):PI X tg l (OR X.K tl):=by
 intro pins s σ H R I h;refine aP (hl pins s σ H _ I h) λv s1 ⟨x,H1,j,r1,F⟩=>?_;obtain⟨a,e,⟨xs,z⟩,q⟩:=F;subst e;cases r1;obtain⟨B,L,p,J⟩:=j.tuple z;refine wpAny_pyIter_tuple (p) ?_;refine{s1.heap.objs.size,[s1.heap.objs.size],_,_,H1,rfl,j.kept λb o e=>PM _ e,wH a _,{_,Qn _ rfl,rfl,rfl},λb y=>?_,q};have e:b=s1.heap.objs.size:=by simpa using y
 subst e;exact j.fpOk (PV _) (j.hok.fresh (PV _))
def sX {lo hi:Int}(I:Inv X pins σ H s)(h1:-(2^62)≤lo)(h2:lo<2^62)(h3:-(2^62)≤hi)(h4:hi<2^62)
 (q:R (AX lo (hi-lo).toNat) H):wpAny (model X.prog X.w) X.A (pyIter (.ref s.heap.objs.size)) (Lm X pins σ tg R) E {s with heap:=s.heap.push {cls:=.type "range",data:=.fields #[.int lo t,.int hi u,.int 1 v]},toks:=tk}:=by
 refine wpAny_pyIter_range (IsRange.new ..) (small_one h1 h2 h3 h4) ?_;have j:Inv X pins σ H {s with heap:=s.heap.push {cls:=.type "range",data:=.fields #[.int lo t,.int hi u,.int 1 v]},toks:=tk}:=I.kept λb o e=>PM _ e
 refine{(s.heap.push {cls:=.type "range",data:=.fields #[.int lo t,.int hi u,.int 1 v]}).objs.size,[(s.heap.push {cls:=.type "range",data:=.fields #[.int lo t,.int hi u,.int 1 v]}).objs.size],_,_,H,rfl,
  j.kept λb o e=>PM _ e,wI _ lo (hi-lo).toNat,?_,λb y=>?_,q}
 ·have e1:lo+((0:Nat):Int)*1=lo:=`s
  have e2:(((hi-lo).toNat:Nat):Int)-((0:Nat):Int)=Builtin.Range.rangeSize lo hi 1:=by rw[rangeSize_one];split<;>omega
  rw[e1,e2];exact Qn _ rfl
 ·have e:b=(s.heap.push {cls:=.type "range",data:=.fields #[.int lo t,.int hi u,.int 1 v]}).objs.size:=by simpa using y
  subst e;exact j.fpOk (PV _) (j.hok.fresh (PV _))
def Mj (ta:TA):TI:=λσ H R=>ta σ H λy H1=>∃j:Int,y=[.int j]/\-(2^62)≤j/\j<2^62/\R (AX 0 j.toNat) H1
def Mi (ta:TA):TI:=λσ H R=>ta σ H λy H1=>∃i j:Int,y=[.int i,.int j]/\(-(2^62)≤i/\i<2^62/\-(2^62)≤j/\j<2^62)/\R (AX i (j-i).toNat) H1
def zu {ta:TA}{p pos:Pos}(F:Gl X "range")(hm:X.mg "range"=none)(B:PA X [a] ta)(hs:starEach [a] X.env=[(false,eval a X.env)]:=by rfl):PI X tg (.Call (.Name "range" p) [a] [] pos) (Mj ta):=by
 intro pins s σ H R I h;refine Call_ (fT I F hm boot_range (Q7 (aP (B pos pins s σ H _ I h) λM s1 ⟨O,H1,z,r1,y⟩=>?_) hs rfl));obtain⟨j,e,y,J,q⟩:=y;subst e;cases r1 with
 | cons r L =>
   cases L;obtain⟨t,rfl⟩:=r;exact call_range_1 (sX z `a `a y J (by simpa using q))
def zt (L:Gl X "range")(hm:X.mg "range"=none)(J:PA X [a,b] ta)(hs:starEach [a,b] X.env=[(false,eval a X.env),(false,eval b X.env)]:=by rfl)(y:starEach [b] X.env=[(false,eval b X.env)]:=by rfl) :
 PI X tg (.Call (.Name "range" p) [a,b] [] pos) (Mi ta):=by
 intro pins s σ H R I h;refine Call_ (fT I L hm boot_range (Q7 (aP (J pos pins s σ H _ I h) λY s1 ⟨vs,H1,F,r1,z⟩=>?_) (by rw[hs,y]) (by rw[y];rfl)))
 obtain⟨i,j,e,⟨z,M,O,S⟩,q⟩:=z;subst e;cases r1 with
 | cons r B =>
   cases B with
   | cons U B =>
     cases B;obtain⟨t,rfl⟩:=r;obtain⟨W,rfl⟩:=U;exact call_range_2 (sX F z M O S q)
def Ob (wi:TI)(g:TG)(tb:TS):TS:=λD σ H=>wi σ H λJ H1=>∃W:Nat->Nat->St->Hp->Prop,(∃m,W 0 m σ H1)/\∀i m σ H,W i m σ H->
 (J.stop i H/\D.nx σ H)\/(J.go i H/\∃N:St->Hp->Prop,(∀σ' H',N σ' H'->∃m',m'<m/\W (i+1) m' σ' H')/\∀x H',J.yld i H x H'->g x σ H' λσ2 H2=>tb {D with nx:=N,ct:=N,bk:=D.nx} σ2 H2)
noncomputable def oM (j:List Addr)(h:Heap):List (Addr×Obj):=j.filterMap λb=>(h.get? b).map λo=>(b,o)
def iI (j:b∈fp)(e:h.get? b=some o):(b,o)∈oM fp h:=List.mem_filterMap.mpr {b,j,by rw[e];rfl}
def zC (z:p∈oM fp h):p.1∈fp/\h.get? p.1=some p.2:=by
 obtain⟨b,y,e⟩:=List.mem_filterMap.mp z;cases q:h.get? b with
 |none=>rw[q] at e;cases e
 | some o =>
   rw[q] at e;have j:=PQ e;subst j;exact⟨y,q⟩
def Inv.pinned (I:Inv X pins σ H s)(hf:∀b∈y,fC X pins H b)(ho:∀b∈y,∃o,s.heap.get? b=some o/\∀v,o.data≠.cell v):Inv X (pins++oM y s.heap) σ H s:=
 I.pins_of λp L=>(Qs.mp L).elim (λz=>I.pin p (Qx _ z)) λz=>by
  obtain⟨B,e⟩:=zC z;obtain⟨F,f1,J,_⟩:=hf p.1 B;obtain⟨o,j,d⟩:=ho p.1 B;rw[e] at j;cases j;exact⟨e,F,f1,J,d⟩
def Inv.unpinned (I:Inv X (pins++pl) σ H s):Inv X pins σ H s:=I.pins_of λp j=>I.pin p (Qx _ (QT _ j))
def IW (hp:PassesOwn (model X.prog X.w) X.A X.env X.xe)(hc:X.calm=true)(hi:PI X tg iter wi)(hg:PG X tg g)(F:kr X body tb)
 (hs:∀x,foldedSetIterable iter X.env x=pure x:=by intro _;rfl):PS X (.For tg iter body [] pos) (Ob wi g tb):=by
 intro pins s σ H D I h;refine wpAny_For (aP (hi pins s σ H _ I h) λv s1 h1=>aP h1 λitv s2 h2=>?_) hs;obtain⟨it,U,tn,J,H2,e,I2,T,st2,f2,W,⟨m0,w0⟩,turn⟩:=h2;subst e;have L:∀{H':Hp},(∀b∈U,H' b=none)->∀b∈U,fC X pins H' b:=λhn b F=>{hn b F,(f2 b F).2};refine codeAny_forLoop_any (λn s'=>∃i M H',Inv X pins M H' s'/\tn i s'.heap/\(∀b∈U,H' b=none)/\W i n M H') ?_ m0 {0,σ,H2,I2,st2,λb F=>(f2 b F).1,w0};rintro n s3 ⟨i,O,H3,I3,st3,Y,w3⟩;rcases turn i n O H3 w3 with⟨stop,qn⟩|⟨go,N,hN,step⟩
 ·refine wpAny_passesOwn hp (aP (T.done X rfl rfl rfl hc i pins s3 O H3 X.xe I3 (L Y) st3 stop) λr s4 ⟨hr,I4⟩=>?_);subst hr;exact wpAny_execs_nil ⟨O,H3,I4,qn⟩
 ·refine wpAny_passesOwn hp (aP (T.item X rfl rfl rfl hc i pins s3 O H3 X.xe I3 (L Y) st3 go) λr s4 ⟨u,hr,h4⟩=>?_);subst hr;refine wpAny_passesOwn hp (aP h4 λ_ s5 ⟨x,H5,I5,r5,y5,S,fr5⟩=>?_);have I5':=I5.pinned (L fr5) (T.obj _ _ S);refine wpAny_passesOwn hp (aP (hg _ s5 O H5 x u _ I5' r5 (step x H5 y5)) λ_ s6 ⟨σ6,H6,I6,q6⟩=>?_);refine wpAny_passesOwn hp (aP (F _ s6 σ6 H6 _ I6 q6) λf s7 R=>?_);have B:∀{j:St}{y:Hp},Inv X (pins++oM U s5.heap) j y s7->N j y->∃m,m<n/\∃i M H',Inv X pins M H' s7/\tn i s7.heap/\(∀b∈U,H' b=none)/\W i m M H':=λ{j y} z n7=>by
   obtain⟨m',hm,w7⟩:=hN j y n7;refine{m',hm,i+1,j,y,z.unpinned,T.keep _ _ _ S λb F o e=>(z.pin (b,o) (Qx _ (Qx _ (iI F e)))).1,λb F=>?_,w7};obtain⟨o,e,d⟩:=T.obj _ _ S b F;exact(z.pin (b,o) (Qx _ (Qx _ (iI F e)))).2.1
  cases f with
  |next=>obtain⟨j,y,z,n7⟩:=R;exact B z n7
  |cont=>obtain⟨j,y,z,n7⟩:=R;exact B z n7
  |brk=>obtain⟨j,y,z,R⟩:=R;exact⟨j,y,z.unpinned,R⟩
  |ret v=>obtain⟨x7,j,y,z,r7,R⟩:=R;exact⟨x7,j,y,z.unpinned,r7,R⟩
end
abbrev R2:=V->V->Hp->VK->Prop
def bN (X:Cx)(f:PL->PL->Sem PL)(r:R2):Prop:=
 ∀(pins:List (Addr×Obj)) (s:PX) (σ:St) (H:Hp) (x y:V) (v u:PL) (Q:VK),Inv X pins σ H s->RelV x v->RelV y u->r x y H Q->
  wpAny (model X.prog X.w) X.A (f v u) (EP X pins σ Q) X.xe s
def Lj (X:Cx)(f:PL->Sem PL)(r:V->Hp->VK->Prop):Prop:=
 ∀(pins:List (Addr×Obj)) (s:PX) (σ:St) (H:Hp) (x:V) (v:PL) (Q:VK),Inv X pins σ H s->RelV x v->r x H Q->
  wpAny (model X.prog X.w) X.A (f v) (EP X pins σ Q) X.xe s
def cu (X:Cx)(f:PL)(r:List V->Hp->VK->Prop):Prop:=
 ∀(pins:List (Addr×Obj)) (s:PX) (σ:St) (H:Hp) (xs:List V) (j:List PL) (Q:VK),Inv X pins σ H s->Vals xs j->r xs H Q->
  wpAny (model X.prog X.w) X.A (call f j) (EP X pins σ Q) X.xe s
def Pc (X:Cx)(r:V->Hp->(Bool->Hp->Prop)->Prop):Prop:=
 ∀(pins:List (Addr×Obj)) (s:PX) (σ:St) (H:Hp) (x:V) (v:PL) (Q:Bool->Hp->Prop),Inv X pins σ H s->RelV x v->r x H Q->
  wpAny (model X.prog X.w) X.A (truthy v) (TP X pins σ Q) X.xe s
def yH (r:R2)(ta tb:TE):TE:=λσ H Q=>ta σ H λx H1=>tb σ H1 λy H2=>r x y H2 Q
def tUn (r:V->Hp->VK->Prop)(ta:TE):TE:=λσ H Q=>ta σ H λx H1=>r x H1 Q
def rI (C:Int->Int->Prop)(g:Int->Int->V):R2:=λx y H Q=>∃i j,x=.int i/\y=.int j/\C i j/\Q (g i j) H
def qL (g:Int->Int->V):R2:=λx y H Q=>∃i j,x=.int i/\y=.int j/\Q (g i j) H
def rU (g:Int->V):V->Hp->VK->Prop:=λx H Q=>∃i,x=.int i/\Q (g i) H
section
variable{X:Cx}{a b c:Expr}{ta tb tc:TE}{pos:Pos}
def CS (J:PE X a ta)(L:PE X b tb){R:V->V->Hp->Prop}(I:Inv X pins σ H s)
 (h:ta σ H λx H1=>tb σ H1 λy H2=>R x y H2) {f:PL->PL->Sem PL}
 (hf:∀v u s2 x y H2,Inv X pins σ H2 s2->RelV x v->RelV y u->R x y H2->wpAny (model X.prog X.w) X.A (f v u) Q X.xe s2) :
 wpAny (model X.prog X.w) X.A (eval a X.env) (λv j=>wpAny (model X.prog X.w) X.A (eval b X.env) (λu z=>wpAny (model X.prog X.w) X.A (f v u) Q X.xe z) X.xe j) X.xe s:=by
 refine aP (J pins s σ H _ I h) λv s1 ⟨x,H1,B,r1,M⟩=>?_;refine aP (L pins s1 σ H1 _ B M) λu s2 ⟨y,H2,F,r2,O⟩=>?_;exact hf v u s2 x y H2 F r1 r2 O
def LX {r:R2}(ho:bN X (binaryOp op) r)(z:PE X a ta)(B:PE X b tb):PE X (.BinOp a op b pos) (yH r ta tb):=by
 intro pins s σ H Q I h;exact wpAny_BinOp (CS z B I h λv u s2 x y H2 j F J q=>ho pins s2 σ H2 x y v u Q j F J q)
def LV (ho:Lj X (unaryOp op) r)(y:PE X a ta):PE X (.UnaryOp op a pos) (tUn r ta):=by
 intro pins s σ H Q I h;exact UnaryOp_ (aP (y pins s σ H _ I h) λv s1 ⟨x,H1,j,r1,z⟩=>ho pins s1 σ H1 x v Q j r1 z)
def DR {g:Int->Int->Int}
 (rule:∀(i j:Int) (t u:Tok) (s:PX) (Q:PL->PX->Prop) (E:PL->PX->Prop),C i j->Q (.int (g i j) s.toks) {s with toks:=s.toks+1}->wpAny (model X.prog X.w) X.A (f (.int i t) (.int j u)) Q E s) :
 bN X f (rI C λi j=>.int (g i j)):=by
 intro pins s σ H x y v u Q I B F h;obtain⟨i,j,rfl,rfl,z,q⟩:=h;obtain⟨t,rfl⟩:=B;obtain⟨J,rfl⟩:=F;exact rule i j t J s _ _ z {.int (g i j),H,I.tok _,{_,rfl},q}
def Jp {g:Int->Int->Int}
 (rule:∀(i j:Int) (t u:Tok) (s:PX) (Q:PL->PX->Prop) (E:PL->PX->Prop),Q (.int (g i j) s.toks) {s with toks:=s.toks+1}->wpAny (model X.prog X.w) X.A (f (.int i t) (.int j u)) Q E s) :
 bN X f (qL λi j=>.int (g i j)):=by
 intro pins s σ H x y v u Q I z B h;obtain⟨i,j,rfl,rfl,q⟩:=h;obtain⟨t,rfl⟩:=z;obtain⟨F,rfl⟩:=B;exact rule i j t F s _ _ {.int (g i j),H,I.tok _,{_,rfl},q}
def w8 {g:Int->Int->Bool}
 (rule:∀(i j:Int) (t u:Tok) (s:PX) (Q:PL->PX->Prop) (E:PL->PX->Prop),Q (.bool (g i j)) s->wpAny (model X.prog X.w) X.A (f (.int i t) (.int j u)) Q E s) :
 bN X f (qL λi j=>.bl (g i j)):=by
 intro pins s σ H x y v u Q I z B h;obtain⟨i,j,rfl,rfl,q⟩:=h;obtain⟨t,rfl⟩:=z;obtain⟨F,rfl⟩:=B;exact rule i j t F s _ _ {.bl (g i j),H,I,rfl,q}
def Lw (i j:Int):Prop:=0<j/\j<1073741824
def Lv (i j:Int):Prop:=0≤j/\j≤1000000/\i.natAbs<2^64
def C6 (i j:Int):Prop:=(-(2^64)<i/\i<2^64)\/(-(2^64)<j/\j<2^64)
def C6.ok {i j:Int}(h:C6 i j):IntMulOk i j:=by
 rcases h with⟨h1,h2⟩|⟨h1,h2⟩
 ·exact .of_left (intBits_le_64 h1 h2)
 ·exact .of_right (intBits_le_64 h1 h2)
def Jo:bN X (binaryOp .Add) (qL λi j=>.int (i+j)):=Jp λ_ _ _ _ _ _ _ q=>add_int q
def Jh:bN X (binaryOp .Sub) (qL λi j=>.int (i-j)):=Jp λ_ _ _ _ _ _ _ q=>sub_int q
def Jk:bN X (binaryOp .Mult) (rI C6 λi j=>.int (i*j)):=DR λ_ _ _ _ _ _ _ y q=>mul_int q y.ok
def Gf:bN X (binaryOp .FloorDiv) (rI Lw λi j=>.int (i / j)):=DR λi j _ _ _ _ _ y q=>by
 have h1:=y.1;have h2:=y.2;exact floordiv_int `a (by rw[Int.fdiv_eq_ediv_of_nonneg i `a];exact q) (.inl (PyProof.noPylong_small `a))
def Jl:bN X (binaryOp .Mod) (rI (λ_ j=>0<j) λi j=>.int (i % j)):=DR λi j _ _ _ _ _ y q=>by
 have h1:=y;exact mod_int' `a (by rw[Int.fmod_eq_emod_of_nonneg i `a];exact q)
def Jj:bN X (binaryOp .Pow) (rI Lv λi j=>.int (i^j.toNat)):=DR λ_ _ _ _ _ _ _ y q=>pow_int_small y.1 y.2.1 y.2.2 q
def unI {g:Int->Int}
 (rule:∀(i:Int) (t:Tok) (s:PX) (Q:PL->PX->Prop) (E:PL->PX->Prop),Q (.int (g i) s.toks) {s with toks:=s.toks+1}->wpAny (model X.prog X.w) X.A (f (.int i t)) Q E s) :
 Lj X f (rU λi=>.int (g i)):=by
 intro pins s σ H x v Q I j h;obtain⟨i,rfl,q⟩:=h;obtain⟨t,rfl⟩:=j;exact rule i t s _ _ {.int (g i),H,I.tok _,{_,rfl},q}
def HE:Lj X (unaryOp .USub) (rU λi=>.int (-i)):=unI λ_ _ _ _ _ q=>neg_int q
end
noncomputable def Il:V->V->Bool
 |.non,.non=>true|.non,.int _=>true|.int _,.non=>true|.non,.bl _=>true|.bl _,.non=>true|.non,.str _=>true|.str _,.non=>true
 |.int _,.int _=>true|.bl _,.bl _=>true|.str _,.str _=>true|.byt _,.byt _=>true
 |.int _,.str _=>true|.str _,.int _=>true|.bl _,.str _=>true|.str _,.bl _=>true
 |_,_=>false
def rEq:R2:=λx y H Q=>Il x y=true/\Q (.bl (decide (x=y))) H
def rNe:R2:=λx y H Q=>Il x y=true/\Q (.bl (!decide (x=y))) H
def wd {i j:Int}:decide (V.int i=V.int j)=(i==j):=by
 rw[Ra];simp
def Aw:decide (V.bl i=V.bl j)=(i==j):=by
 rw[Ra];simp
def nh:decide (V.str i=V.str j)=(i==j):=by
 rw[Ra];simp
def we:decide (V.byt i=V.byt j)=(i.toList==j.toList):=by
 rw[Ra];cases i;cases j;simp
section
variable{X:Cx}{a b c:Expr}{ta tb tc:TE}{pos:Pos}
def bA (I:Inv X pins σ H s)(q:Q (.bl k) H)(e:k=k'):EP X pins σ Q (.bool k') s:=by
 subst e;exact{.bl k,H,I,rfl,q}
def L9:bN X (compareOp .Eq) rEq:=by
 intro pins s σ H x y v u Q I F z h;obtain⟨hs,q⟩:=h;cases x with
 | non =>
   cases F;cases y with
   |non=>cases z;exact PySem.EqNone.eq_none_none (bA I q `s)
   |bl j=>cases z;exact PySem.EqNone.eq_none_bool (bA I q `s)
   |int j=>obtain⟨B,rfl⟩:=z;exact PySem.EqNone.eq_none_int (bA I q `s)
   |str j=>obtain⟨B,rfl⟩:=z;exact PySem.EqNone.eq_none_str (bA I q `s)
   |_=>exact absurd (hs) Qr
 | bl i =>
   cases F;cases y with
   |non=>cases z;exact PySem.EqNone.eq_bool_none (bA I q `s)
   |bl j=>cases z;exact eq_bool (bA I q Aw)
   |str j=>obtain⟨B,rfl⟩:=z;exact PySem.EqMixed.eq_bool_str (bA I q `s)
   |_=>exact absurd (hs) Qr
 | int i =>
   obtain⟨t,rfl⟩:=F;cases y with
   |non=>cases z;exact PySem.EqNone.eq_int_none (bA I q `s)
   |int j=>obtain⟨B,rfl⟩:=z;exact eq_int (bA I q wd)
   |str j=>obtain⟨B,rfl⟩:=z;exact PySem.EqMixed.eq_int_str (bA I q `s)
   |_=>exact absurd (hs) Qr
 | str i =>
   obtain⟨t,rfl⟩:=F;cases y with
   |non=>cases z;exact PySem.EqNone.eq_str_none (bA I q `s)
   |bl j=>cases z;exact PySem.EqMixed.eq_str_bool (bA I q `s)
   |int j=>obtain⟨B,rfl⟩:=z;exact PySem.EqMixed.eq_str_int (bA I q `s)
   |str j=>obtain⟨B,rfl⟩:=z;exact eq_str (bA I q nh)
   |_=>exact absurd (hs) Qr
 | byt i =>
   obtain⟨t,rfl⟩:=F;cases y with
   |byt j=>obtain⟨B,rfl⟩:=z;exact PySem.W.eq_bytes (bA I q we)
   |_=>exact absurd (hs) Qr
 |_=>cases y<;>exact absurd (hs) Qr
def L4:bN X (compareOp .NotEq) rNe:=by
 intro pins s σ H x y v u Q I F z h;obtain⟨hs,q⟩:=h;cases x with
 | non =>
   cases F;cases y with
   |non=>cases z;exact PySem.EqNone.ne_none_none (bA I q `s)
   |bl j=>cases z;exact PySem.EqNone.ne_none_bool (bA I q `s)
   |int j=>obtain⟨B,rfl⟩:=z;exact PySem.EqNone.ne_none_int (bA I q `s)
   |str j=>obtain⟨B,rfl⟩:=z;exact PySem.EqNone.ne_none_str (bA I q `s)
   |_=>exact absurd (hs) Qr
 | bl i =>
   cases F;cases y with
   |non=>cases z;exact PySem.EqNone.ne_bool_none (bA I q `s)
   |bl j=>cases z;exact ne_bool (bA I q (congrArg not Aw))
   |str j=>obtain⟨B,rfl⟩:=z;exact PySem.EqMixed.ne_bool_str (bA I q `s)
   |_=>exact absurd (hs) Qr
 | int i =>
   obtain⟨t,rfl⟩:=F;cases y with
   |non=>cases z;exact PySem.EqNone.ne_int_none (bA I q `s)
   |int j=>obtain⟨B,rfl⟩:=z;exact ne_int (bA I q (congrArg not wd))
   |str j=>obtain⟨B,rfl⟩:=z;exact PySem.EqMixed.ne_int_str (bA I q `s)
   |_=>exact absurd (hs) Qr
 | str i =>
   obtain⟨t,rfl⟩:=F;cases y with
   |non=>cases z;exact PySem.EqNone.ne_str_none (bA I q `s)
   |bl j=>cases z;exact PySem.EqMixed.ne_str_bool (bA I q `s)
   |int j=>obtain⟨B,rfl⟩:=z;exact PySem.EqMixed.ne_str_int (bA I q `s)
   |str j=>obtain⟨B,rfl⟩:=z;exact ne_str (bA I q (congrArg not nh))
   |_=>exact absurd (hs) Qr
 | byt i =>
   obtain⟨t,rfl⟩:=F;cases y with
   |byt j=>obtain⟨B,rfl⟩:=z;exact PySem.W.ne_bytes (bA I q (congrArg not we))
   |_=>exact absurd (hs) Qr
 |_=>cases y<;>exact absurd (hs) Qr
def L5:bN X (compareOp .Lt) (qL λi j=>.bl (decide (i<j))):=w8 λ_ _ _ _ _ _ _ q=>lt_int q
def L6:bN X (compareOp .LtE) (qL λi j=>.bl (decide (i≤j))):=w8 λ_ _ _ _ _ _ _ q=>le_int q
def L7:bN X (compareOp .Gt) (qL λi j=>.bl (decide (j<i))):=w8 λ_ _ _ _ _ _ _ q=>gt_int q
def L8:bN X (compareOp .GtE) (qL λi j=>.bl (decide (j≤i))):=w8 λ_ _ _ _ _ _ _ q=>ge_int q
def zB:bN X (compareOp .In) (λx y H Q=>∃i j,x=.str i/\y=.str j/\Q (.bl (!(Builtin.Str.occurrences j i 0 j.length 1).isEmpty)) H):=by
 intro pins s σ H x y v u Q I z B h;obtain⟨i,j,rfl,rfl,q⟩:=h;obtain⟨t,rfl⟩:=z;obtain⟨F,rfl⟩:=B;exact in_str (bA I q rfl)
def Jm:bN X (compareOp .Is) (λx y H Q=>y=.non/\Q (.bl (decide (x=.non))) H):=by
 intro pins s σ H x y v u Q I j z h;obtain⟨rfl,q⟩:=h;cases z;refine is_none_gen (bA I q ?_);cases x<;>first
  |(cases j;rfl)
  |(obtain⟨t,rfl⟩:=j;rfl)
def Ge:bN X (compareOp .IsNot) (λx y H Q=>y=.non/\Q (.bl (!decide (x=.non))) H):=by
 intro pins s σ H x y v u Q I j z h;obtain⟨rfl,q⟩:=h;cases z;refine isnot_none_gen (bA I q ?_);cases x<;>first
  |(cases j;rfl)
  |(obtain⟨t,rfl⟩:=j;rfl)
def tm:bN X (compareOp .NotIn) (λx y H Q=>∃i j,x=.str i/\y=.str j/\Q (.bl (!(!(Builtin.Str.occurrences j i 0 j.length 1).isEmpty))) H):=by
 intro pins s σ H x y v u Q I z B h;obtain⟨i,j,rfl,rfl,q⟩:=h;obtain⟨t,rfl⟩:=z;obtain⟨F,rfl⟩:=B;exact notIn_str (bA I q rfl)
def pV {r:R2}(ho:bN X (compareOp op) r)(z:PE X a ta)(B:PE X b tb)(hm:behindInMarks op b=false):PE X (.Compare a [op] [b] pos) (yH r ta tb):=by
 intro pins s σ H Q I h;exact wpAny_Compare1 (CS z B I h λv u s2 x y H2 j F J q=>ho pins s2 σ H2 x y v u Q j F J q) hm
def Dz (t:TE):TT:=λσ H Q=>t σ H λx H'=>∃k,x=.bl k/\Q k H'
def pT (ho:bN X (compareOp op) r)(L:PE X a ta)(M:PE X b tb)(hm:behindInMarks op b=false):PT X (.Compare a [op] [b] pos) (Dz (yH r ta tb)):=by
 intro pins s σ H Q I h;refine wpAny_isTrue_Compare1 (aP (L pins s σ H _ I h) λv s1 ⟨x,H1,B,r1,O⟩=>aP (M pins s1 σ H1 _ B O) λu s2 ⟨y,H2,F,r2,R⟩=>
  aP (ho pins s2 σ H2 x y v u _ F r1 r2 R) λc W ⟨z,j,J,U,k,e,S⟩=>?_) hm
 subst e;cases U;exact tqp ⟨j,J,S⟩
def sv (r r':R2)(ta tb tc:TE):TE:=λσ H Q=>ta σ H λx H1=>tb σ H1 λy H2=>r x y H2 λz j=>∃k,z=.bl k/\
 (if k=true then tc σ j λF B=>r' y F B Q else Q (.bl false) j)
def B1 (ho:bN X (compareOp op) r)(j:bN X (compareOp op') r')(S:PE X a ta)(U:PE X b tb)(W:PE X c tc)
 (hm:lastMarks [op,op'] [b,c]=false:=by with_unfolding_all rfl):PE X (.Compare a [op,op'] [b,c] pos) (sv r r' ta tb tc):=by
 intro pins s σ H Q I h;refine Compare_chain (aP (S pins s σ H _ I h) λv s1 ⟨x,H1,M,r1,Y⟩=>chain_link (aP (U pins s1 σ H1 _ M Y) λu s2 ⟨y,H2,O,r2,q2⟩=>
  aP (ho pins s2 σ H2 x y v u _ O r1 r2 q2) λd s3 ⟨z,B,F,r3,k,e,J⟩=>?_)) hm
 subst e;cases r3;refine tqp ?_;cases k with
 |false=>exact ite_ff {.bl false,B,F,rfl,J}
 |true=>exact ite_tt (chain_last (aP (W pins s3 σ B _ F J) λw' s4 ⟨z',L,R,r4,q4⟩=>j pins s4 σ L y z' u w' Q R r2 r4 q4))
def BV (ho:bN X (compareOp op) r)(j:bN X (compareOp op') r')(Y:PE X a ta)(hb:PE X b tb)(hc:PE X c tc)
 (hm:lastMarks [op,op'] [b,c]=false:=by with_unfolding_all rfl):PT X (.Compare a [op,op'] [b,c] pos) (Dz (sv r r' ta tb tc)):=by
 intro pins s σ H Q I h;refine isTrue_chain (aP (Y pins s σ H _ I h) λv s1 ⟨x,H1,O,r1,q1⟩=>test_link (aP (hb pins s1 σ H1 _ O q1) λu s2 ⟨y,H2,R,r2,q2⟩=>
  aP (ho pins s2 σ H2 x y v u _ R r1 r2 q2) λd s3 ⟨z,B,F,r3,k,e,J⟩=>?_)) hm
 subst e;cases r3;refine tqp ?_;cases k with
 | false =>
   obtain⟨k',W,q'⟩:=J;cases W;exact ite_ff ⟨B,F,q'⟩
 | true =>
   refine ite_tt (test_last (aP (hc pins s3 σ B _ F J) λw' s4 ⟨z',L,S,r4,q4⟩=>aP (j pins s4 σ L y z' u w' _ S r2 r4 q4) λd' s5 ⟨z2,M,U,r5,k2,e2,q5⟩=>?_));subst e2;cases r5;exact tqp ⟨M,U,q5⟩
def CY (K:PJ)(x:V)(H:Hp)(k:Bool):Prop:=
 match x with
 |.non=>k=false
 |.bl b=>k=b
 |.int i=>k=(i != 0)
 |.str y=>y.length≤sizeLine/\k=((y.length:Int) != 0)
 |.byt y=>y.size≤sizeLine/\k=((y.size:Int) != 0)
 |.ref p=>(∃xs,dh K H p xs/\k=!xs.isEmpty)\/(∃xs,dS K H p xs/\k=!xs.isEmpty)\/∃kvs,H p=some (.dK kvs)/\k=!kvs.isEmpty
 |_=>False
def xr {κ:Type}{kvs:List (κ×V)}{vs:List (κ×PL)}(r:KV kvs vs):(!vs.isEmpty)=!kvs.isEmpty:=by
 cases r<;>rfl
def kW {xs:List V}{its:List PL}(r:Vals xs its):(!its.toArray.isEmpty)=!xs.isEmpty:=by
 cases r<;>simp
def i9:(sizeLine:Nat)<2^63:=by rw[sizeLine_eq];decide
def HW:Pc X (λx H Q=>∃k,CY X.K x H k/\Q k H):=by
 intro pins s σ H x v Q I rx h;obtain⟨k,e,q⟩:=h;have hl:=i9;have hs:=sizeLine_eq;cases x with
 | non =>
   cases rx;have e':=e;subst e';exact truthy_none ⟨H,I,q⟩
 | bl b =>
   cases rx;have e':=e;subst e';exact tqp ⟨H,I,q⟩
 | int i =>
   obtain⟨t,rfl⟩:=rx;have e':=e;subst e';exact PySem.P.truthy_int ⟨H,I,q⟩
 | str y =>
   obtain⟨t,rfl⟩:=rx;obtain⟨hy,e'⟩:y.length≤sizeLine/\k=((y.length:Int) != 0):=e;subst e';exact PySem.P.truthy_str `a {H,I.tok _,q}
 | byt y =>
   obtain⟨t,rfl⟩:=rx;obtain⟨hy,e'⟩:y.size≤sizeLine/\k=((y.size:Int) != 0):=e;subst e';exact PySem.W.truthy_bytes `a {H,I.tok _,q}
 | ref p =>
   cases rx;have e':=e;rcases e' with⟨xs,hx,e'⟩|⟨xs,hx,e'⟩|⟨kvs,hx,e'⟩
   ·subst e';obtain⟨its,r,pl,hz⟩:=I.list hx;have hlen:=r.length;exact wpAny_truthy_list pl.isList (by simp only[P7];omega) {H,I.tok _,by rw[kW r];exact q}
   ·subst e';obtain⟨its,r,pl,hz⟩:=I.tuple hx;have hlen:=r.length;exact truthy_tuple pl (by simp only[P7];omega) {H,I.tok _,by rw[kW r];exact q}
   ·subst e';obtain⟨hz,hS,vs,r,m⟩:kvs.length≤sizeLine/\(p==sysModules)=false/\∃vs,KV kvs vs/\s.heap.DictOf (ke X.prog X.w) p vs:=I.hok p _ hx;have hlen:=Paired.length r;exact wpAny_truthy_dict hS m `a {H,I.tok _,by rw[xr r];exact q}
 |_=>exact(e).elim
def BU (y:PE X a ta)(he:∀whole,isTrue a X.env whole=(do let v <- whole;standAt a.pos;holding [v] (truthy v))) :
 PT X a (λσ H Q=>ta σ H λx H'=>∃k,CY X.K x H' k/\Q k H'):=by
 intro pins s σ H Q I h;exact isTrue_plain (aP (y pins s σ H _ I h) λv s1 ⟨x,H1,j,r1,z⟩=>HW pins s1 σ H1 x v Q j r1 z) (he _)
def w6:bN X (binaryOp .Add) (λx y H Q=>∃i j,x=.str i/\y=.str j/\i.length+j.length≤sizeLine/\Q (.str (i++j)) H):=by
 intro pins s σ H x y v u Q I B F h;obtain⟨i,j,rfl,rfl,z,q⟩:=h;obtain⟨t,rfl⟩:=B;obtain⟨J,rfl⟩:=F;exact add_str (λJ tk=>{.str (i++j),H,I.tok _,{_,rfl},q}) z
def vals1 (r:Vals [x] us):∃u,us=[u]/\RelV x u:=by
 cases r with
 |cons r1 r2=>cases r2;exact{_,rfl,r1}
def vals2 (r:Vals [x,y] us):∃u j,us=[u,j]/\RelV x u/\RelV y j:=by
 cases r with
 | cons r1 r2 =>
   cases r2 with
   |cons z B=>cases B;exact{_,_,rfl,r1,z}
end
structure C4 (h:Heap) (x dx C:Addr) (mA:Str->Option PL):Prop where
 obj:h.get? x=some (PySem.W.instObj C dx)
 ns:h.Ns1 dx mA
 ne:dx≠x
set_option tactic.hygienic true in
def zS {h:Heap}(n:h.Ns1 dx mA):∃od,h.get? dx=some od/\∀name,PySem.W.lookIn name od=some (mA name):=by
 obtain⟨o,es,I,ho,hd,hk,_,hm⟩:=n;refine{o,ho,λname=>?_};have e:=hm name;unfold nsFind findBy at e;rw[<- Array.find?_toList] at e;unfold PySem.W.lookIn;rw[hd];dsimp only;split
 ·rename_i y q;rw[q] at e;exact congrArg some e
 ·rename_i q;rw[q] at e;have a:es.toList.any (·.refKey)=false:=by
   rw[List.any_eq_false];intro y F;obtain⟨z,t,j⟩:=hk y (Array.mem_toList_iff.mp F);simp[DictEntry.refKey,j]
  have B:¬ es.toList.any (·.refKey)=true:=by rw[a];exact Qr
  rw[if_neg B];exact congrArg some e
def C4.look (I:C4 h x dx C mA):∃od,PySem.W.InstAt h x (PySem.W.instObj C dx) C (some od)/\∀name,PySem.W.lookIn name od=some (mA name):=
 let⟨od,ho,hl⟩:=zS I.ns
 {od,⟨I.obj,rfl,rfl,ho⟩,hl}
section
variable{P:QF}{w:Qz}{H H':Hp}{h h':Heap}{a C dx:Addr}{fs fs':List (Str×V)}
def GC (hok:eK P w H h)(e:H a=some (.ins C dx fs)):∃mA,C4 h a dx C mA/\(∀f,C1 (fs.lookup f) (mA f))/\PySem.Within mA (fs.map (·.1))/\fs.length≤1000/\H dx=some (.own a):=by
 obtain⟨d,z,ne,ob,mA,n,r,q⟩:=(hok a _ e);exact{mA,⟨ob,n,ne⟩,r,q,z,d}
end
structure wC (K:PJ) (C:Addr):Prop where
 pg:PySem.W.plainGet K C Str.empty=true
 hd:PySem.W.hasDictIn K C=true
 po:PySem.W.plainOver K C=true
 sa:PySem.W.findIn K (.ref C) "__setattr__"=some (some (.builtin "object.__setattr__"))
def wC.get {K:PJ}(c:wC K C)(f:Str):PySem.W.plainGet K C f=true:=c.pg
def Lo (K:PJ)(C:Addr)(f:Str):Prop:=PySem.W.findIn K (.ref C) f=some none
structure Meth (K:PJ) (C:Addr) (m:Str) (f:Addr):Prop where
 at_:PySem.W.findIn K (.ref C) m=some (some (.ref f))
 fn:PySem.W.isFn K (.ref f)=true
 kp:PySem.W.keepIn K (.ref f)=true
section
variable{X:Cx}{pins:List (Addr×Obj)}{σ:St}{H:Hp}{s:PX}{A:Ry}{E:PL->PX->Prop}{Q:PL->PX->Prop}{c:PL}{b:Bool}
inductive iD (K:PJ) (H:Hp):V->PL->Prop where
 |non:iD K H .non (.type "NoneType")
 |bl (x:Bool):iD K H (.bl x) (.type "bool")
 |int (i:Int):iD K H (.int i) (.type "int")
 |str (x:Str):iD K H (.str x) (.type "str")
 |flt (x:UInt64):iD K H (.flt x) (.type "float")
 |lst {a:Addr}{xs:List V} (e:H a=some (.lst xs)):iD K H (.ref a) (.type "list")
 |frz {a:Addr}{o:Obj}{xs:List V} (e:H a=some (.frz o (.lst xs))):iD K H (.ref a) (.type "list")
 |tup {a:Addr}{xs:List V} (e:H a=some (.tup xs)):iD K H (.ref a) (.type "tuple")
 |dK {a:Addr}{kvs:List (Key×V)} (e:H a=some (.dK kvs)):iD K H (.ref a) (.type "dict")
 |dT {a:Addr}{kvs:List (List Key×V)} (e:H a=some (.dT kvs)):iD K H (.ref a) (.type "dict")
 |ins {a C dx:Addr}{fs:List (Str×V)} (e:H a=some (.ins C dx fs)) (cl:wC K C) (ha:PySem.W.findIn K (.ref C) "__class__"=some (some (.builtin "object.__class__")))
  (hn:PySem.W.specialIn K (.builtin "object.__class__") "__get__"=some (some (.builtin "getset_descriptor.__get__"))) (htk:PySem.W.takesIn K (.builtin "object.__class__")=some true)
  (hm:PySem.W.mroIn K C (.type "object")=some true):iD K H (.ref a) (.ref C)
def jD (I:Inv X pins σ H s)(B:RelV x u)(ty:iD X.K H x t)(e:PySem.W.kitOne X.K t c=some b)(h:∀tk,Q (.bool b) {s with toks:=tk}) :
 wpAny (model X.prog X.w) A (call (.builtin "isinstance") [u,c]) Q E s:=by
 cases ty with
 |non=>cases (B);exact QW PySem.W.kitx_none I.kIn True.intro e (λz=>nomatch z) h
 |bl y=>cases (B);exact QW PySem.W.kitx_bool I.kIn True.intro e (λz=>nomatch z) h
 |int i=>obtain⟨t,q⟩:=(B);cases q;exact QW PySem.W.kitx_int I.kIn True.intro e (λz=>nomatch z) h
 |str y=>obtain⟨t,q⟩:=(B);cases q;exact QW PySem.W.kitx_str I.kIn True.intro e (λz=>nomatch z) h
 |flt y=>obtain⟨t,q⟩:=(B);cases q;exact QW PySem.W.kitx_float I.kIn True.intro e (λz=>nomatch z) h
 | @lst a xs j =>
   cases (B);obtain⟨_,_,n,_,h1⟩:=(I.hok a _ j);exact QW PySem.W.kitx_list I.kIn {_,h1,rfl} e (λz=>nomatch z) h
 | @frz a ob xs j =>
   cases (B);obtain⟨_,_,_,n,_,h1⟩:=(I.hok a _ j);exact QW PySem.W.kitx_list I.kIn {_,h1,rfl} e (λz=>nomatch z) h
 | @tup a xs j =>
   cases (B);obtain⟨_,_,_,p⟩:=(I.hok a _ j);obtain⟨o,h1,h2,_⟩:=p;exact QW PySem.W.kitx_tuple I.kIn ⟨o,h1,h2⟩ e (λz=>nomatch z) h
 | @dK a L j =>
   cases (B);obtain⟨_,_,S,_,p⟩:=(I.hok a _ j);obtain⟨o,es,M,h1,h2,_⟩:=p;exact QW PySem.W.kitx_dict I.kIn ⟨o,h1,h2.1⟩ e (λz=>nomatch z) h
 | @dT a L j =>
   cases (B);obtain⟨_,_,xs,_,o,es,M,h1,h2,_⟩:=(I.hok a _ j);exact QW PySem.W.kitx_dict I.kIn ⟨o,h1,h2.1⟩ e (λz=>nomatch z) h
 | @ins a C dx fs j cl R hn F hm =>
   cases (B);obtain⟨mA,O,_⟩:=GC I.hok j;obtain⟨od,J,_⟩:=O.look;exact QW (PySem.W.kitx_own (cl.get _) cl.hd R hn F hm) I.kIn J e (λz=>nomatch z) h
end
structure di (k:Nat) (A:Ry):Prop where
 hd:A.handled=none
 dp:A.depth+3*k+5<recursionLimit
 un:A.units+16*k+200<cLine
 gd:A.guards=some []
def di.mono (r:di k A)(h:j≤k):di j A:={r.hd,by have:=r.dp;omega,by have:=r.un;omega,r.gd}
def di.deeper (r:di (k+1) A)(env:Env):di k (A.deeper env):=
 {r.hd,by have:=r.dp;show A.depth+1+3*k+5<_;omega,by have:=r.un;show A.units+3+16*k+200<_;omega,r.gd}
def di.depth (r:di k A):A.depth<recursionLimit:=by have:=r.dp;omega
def di.units (r:di k A):A.units+64<cLine:=by have:=r.un;omega
def N8:TA:=λ_ H Q=>Q [] H
def LL (ta:TE)(j:TA):TA:=λσ H Q=>ta σ H λx H1=>j σ H1 λxs H2=>Q (x::xs) H2
section
variable{X:Cx}{e:Expr}{es:List Expr}{te:TE}{t:TA}{pos:Pos}
def eR:PA X [] N8:=λ_ _ _ _ H Q I h=>Calls.spliced_nil {[],H,I,.nil,h}
def cM (z:PE X e te)(hr:PA X es t)(hs:starEach (e::es) X.env=(false,eval e X.env)::starEach es X.env:=by rfl):PA X (e::es) (LL te t):=by
 intro pos pins s σ H Q I h;rw[hs];refine Calls.spliced_cons (aP (z pins s σ H _ I h) λu s1 ⟨x,H1,j,r1,B⟩=>?_);exact aP (hr pos pins s1 σ H1 _ j B) λJ s2 ⟨xs,H2,y,r2,F⟩=>{x::xs,H2,y,.cons r1 r2,F}
def N4 (t:TA):TE:=λσ H Q=>t σ H λxs H1=>xs.length≤sizeLine/\∀p,H1 p=none->Q (.ref p) (upd H1 p (.tup xs))
def N9 (t:TA):TE:=λσ H Q=>t σ H λxs H1=>xs.length≤sizeLine/\∀p,H1 p=none->Q (.ref p) (upd H1 p (.lst xs))
def I9 {x1}(h:PA X es t):PE X (.Tuple es x1 pos) (N4 t):=by
 intro pins s σ H Q I y;refine wpAny_Tuple_spliced (aP (h pos pins s σ H _ I y) λB s1 ⟨xs,H1,j,r,z,q⟩=>{by rw[<- r.length];exact z,?_})
 have hf:=j.hok.fresh (PV _);refine{.ref s1.heap.objs.size,upd H1 s1.heap.objs.size (.tup xs),j.laid (λb u e=>PM _ e) (PV _) ?_,rfl,q _ hf};exact{z,B,r,{_,Qn _ rfl,rfl,_,rfl}}
def Je (h:PA X es t):PE X (.List es pos) (N9 t):=by
 intro pins s σ H Q I y;refine wpAny_List_spliced (aP (h pos pins s σ H _ I y) λB s1 ⟨xs,H1,j,r,z,q⟩=>{by rw[<- r.length];exact z,?_})
 have hf:=j.hok.fresh (PV _);refine{.ref s1.heap.objs.size,upd H1 s1.heap.objs.size (.lst xs),j.laid (λb u e=>PM _ e) (PV _) ?_,rfl,q _ hf};exact{z,B,0,r,Qn _ rfl}
end
abbrev Sp:=List V->Hp->VK->XK->Prop
abbrev uQ:=List Env->Hp->PX->XK->PL->PX->Prop
structure yb (P:QF) (w:Qz) (K:PJ) (mg:Str->Option PL) (base:Heap) (A:Ry) (outer:List Env) (s:PX) (H:Hp):Prop where
 frames:A.frames=some outer
 mod:Mod K mg base
 bs:∀b o,base.get? b=some o->s.heap.get? b=some o/\H b=none
 bsz:base.objs.size≤s.heap.objs.size
 funs:s.heap.FunFrames base outer
 frf:∀b∈fU outer,H b=none
 hok:eK P w H s.heap
 bare:AllBare s.gens
def CE (outer:List Env)(P:QF)(w:Qz)(H:Hp)(s:PX)(Q:VK)(u:PL)(s':PX):Prop:=
 ∃v H',s'.os=s.os/\AllBare s'.gens/\Un (fU outer) [] H H' s.heap s'.heap/\eK P w H' s'.heap/\RelV v u/\Q v H'
def CR (CX:uQ)(outer:List Env)(P:QF)(w:Qz)(H:Hp)(s:PX)(Q:VK)(E:XK)(r:Result)(s':PX):Prop:=
 match r with
 |.ok (.ret u)=>CE outer P w H s Q u s'
 |.ok _=>False
 |.error e=>CX outer H s E e s'
structure lH (P:QF) (w:Qz) (K:PJ) (mg:Str->Option PL) (base:Heap) (CX:uQ) (k:Nat) (f:Addr) (fd:FuncData) (ps:List Str) (sp:Sp):Prop where
 len:∀vs H Q E,sp vs H Q E->vs.length=ps.length
 run:∀(A:Ry) (outer:List Env) (s:PX) (H:Hp) (args:Args) (us:List PL) (vs:List V) (Q:VK) (E:XK),di k A->yb P w K mg base A outer s H->BindsTo s fd args (ps.zip us)->Vals vs us->sp vs H Q E->
  codeAny (model P w) A (.call (.ref f) args) (CR CX outer P w H s Q E) s
section
variable{X:Cx}{pins:List (Addr×Obj)}{σ:St}{H:Hp}{s s':PX}
def Inv.env0 (I:Inv X pins σ H s):yb X.prog X.w X.K X.mg X.base X.A X.stack s H:=
 {I.ok.frames,I.ok.mod,I.bs,Qf I.ok.bsz I.sz,I.stack,I.stkFree,I.hok,I.bare}
def Inv.after (I:Inv X pins σ H s)(h:CE X.stack X.prog X.w H s Q u s'):EP X pins σ Q u s':=by
 obtain⟨v,H',os,bare,un,hok,r,q⟩:=h;obtain⟨y,g,d,t,j⟩:=s';obtain rfl:j=s.os:=os;exact{v,H',I.call un hok bare (λb z=>absurd z `s),r,q}
end
def DD (sp:Sp)(dvs:List V)(E:XK)(t:TA):TE:=λσ H Q=>t σ H λvs H1=>sp (vs++dvs) H1 Q E
def Binds (K:PJ)(fd:FuncData)(ps:List Str)(ds:List PL):Prop:=
 ∀(s:PX) (j:List PL),K.In s.heap->(j++ds).length=ps.length->BindsTo s fd {j,[]} (ps.zip (j++ds))
def Binds.all {K:PJ}(h:∀us:List PL,us.length=ps.length->bindArgs fd {us,[]}=pure (ps.zip us)):Binds K fd ps []:=λs us _ hl=>by
 rw[Qy] at hl ⊢;exact .of_eq (h us hl)
def Passes (CX:uQ)(X:Cx)(E:XK):Prop:=∀(pins:List (Addr×Obj)) (σ:St) (H:Hp) (s:PX) (e:PL) (s':PX),Inv X pins σ H s->CX X.stack H s E e s'->X.xe e s'
section
variable{X:Cx}{CX:uQ}{k:Nat}{f C:Addr}{fd:FuncData}{ps:List Str}{sp:Sp}{dvs:List V}{ds:List PL}{E:XK}{x m:Str}{p pos apos:Pos}{e o:Expr}{es:List Expr}{ta:TE}{t:TA}
def zi (F:lH X.prog X.w X.K X.mg X.base CX k f fd ps sp)(hr:di k X.A)(y:Binds X.K fd ps ds)(hd:Vals dvs ds)(z:Passes CX X E)
 (I:Inv X pins σ H s) (r:Vals vs us) (h:sp (vs++dvs) H Q E):wpAny (model X.prog X.w) X.A (call (.ref f) us) (EP X pins σ Q) X.xe s:=by
 have r2:=r.append hd;have hl:(us++ds).length=ps.length:=by rw[<- r2.length];exact F.len _ _ _ _ h
 refine wpAny_call (codeAny_mono (F.run X.A X.stack s H {us,[]} (us++ds) (vs++dvs) Q E hr I.env0 (y s us I.kIn hl) r2 h) λr s' j=>?_);cases r with
 |error e=>exact z pins σ H s e s' I j
 | ok fl =>
   cases fl with
   |ret u=>exact I.after j
   |next=>exact False.elim j
   |brk=>exact False.elim j
   |cont=>exact False.elim j
def Ga (F:lH X.prog X.w X.K X.mg X.base CX k f fd ps sp)(hr:di k X.A)(L:Gl X x)(hm:X.mg x=some (.ref f))(hk:PySem.W.keepIn X.K (.ref f)=true)(J:Binds X.K fd ps ds)(hd:Vals dvs ds)(M:Passes CX X E)
 (B:PA X (e::es) t) (j:(x==("__debug__":Str))=false:=by decide) (he:starEach (e::es) X.env=(false,eval e X.env)::starEach es X.env:=by rfl) (y:(backTo pos (starEach es X.env)).any (·.1)=false:=by rfl) :
 PE X (.Call (.Name x p) (e::es) [] pos) (DD sp dvs E t):=by
 intro pins s σ H Q I h;refine wpAny_Call_Name_kw (iV I L hm ?_ j);refine PySem.W.callWith_K I.ok.mod.kin hk (aP (B pos pins s σ H _ I h) λO s1 ⟨R,H1,z,r,q⟩=>{z.kIn,?_}) he y;exact zi F hr J hd M z r q
structure Mk (K:PJ) (C f:Addr):Prop where
 makes:PySem.W.makesIn K C=true
 init:PySem.W.findIn K (.ref C) "__init__"=some (some (.ref f))
 fn:PySem.W.isFn K (.ref f)=true
 kp:PySem.W.keepIn K (.ref C)=true
end
structure i1 (N P:List Str) (sc:Scope):Prop where
 kind:sc.kind=.function
 co:sc.isCoroutine=false
 gen:sc.isGenerator=false
 nd:N.Nodup
 pre:N.take P.length=P
 par:∀x∈P,sc.names.lookup x=some .local\/sc.names.lookup x=some .cell
 nofree:∀y∈sc.names,y.2≠.free
theorem rg {j:Str->Option NameKind}:∀{binds:List (Str×PL)}{m:Str->Option PL},(∀v,(x,v)∉binds)->bindL j binds m x=m x
 |[],_,_=>rfl
 | (n, v) :: r, m, h => by
   unfold bindL;rw[rg λw y=>h w (Qc _ y)];split
   ·have:x≠n:=by rintro rfl;exact h v Qm
    simp[this]
   ·rfl
theorem rj {j:Str->Option NameKind}:∀{binds:List (Str×PL)}{m:Str->Option PL},(∀v,(x,v)∉binds)->bindC j binds m x=m x
 |[],_,_=>rfl
 | (n, v) :: r, m, h => by
   unfold bindC;rw[rj λw y=>h w (Qc _ y)];split
   ·rfl
   ·have:x≠n:=by rintro rfl;exact h v Qm
    simp[this]
theorem ri {j:Str->Option NameKind}:∀{P:List Str}{vs:List PL}{i:Nat}{m:Str->Option PL},P.Nodup->P[i]?=some x->vs[i]?=some v->j x=some .local->
 bindL j (P.zip vs) m x=some v
 |[],_,_,_,_,h,_,_=>by simp at h
 |_::_,[],_,_,_,_,h,_=>by simp at h
 | p :: P, w :: vs, 0, m, nd, h1, h2, hk => by
   simp at h1 h2;subst h1;subst h2;show bindL j ((p,w)::P.zip vs) m p=_;unfold bindL;rw[rg λv y=>(QI.mp nd).1 (List.of_mem_zip y).1,if_pos hk];simp
 | p :: P, w :: vs, i + 1, m, nd, h1, h2, hk => by
   unfold bindL;exact ri (QI.mp nd).2 (by simpa using h1) (by simpa using h2) hk
theorem rn {j:Str->Option NameKind}:∀{P:List Str}{vs:List PL}{i:Nat}{m:Str->Option PL},P.Nodup->P[i]?=some x->vs[i]?=some v->j x≠some .local->
 bindC j (P.zip vs) m x=some v
 |[],_,_,_,_,h,_,_=>by simp at h
 |_::_,[],_,_,_,_,h,_=>by simp at h
 | p :: P, w :: vs, 0, m, nd, h1, h2, hk => by
   simp at h1 h2;subst h1;subst h2;show bindC j ((p,w)::P.zip vs) m p=_;unfold bindC;rw[rj λv y=>(QI.mp nd).1 (List.of_mem_zip y).1,if_neg hk];simp
 | p :: P, w :: vs, i + 1, m, nd, h1, h2, hk => by
   unfold bindC;exact rn (QI.mp nd).2 (by simpa using h1) (by simpa using h2) hk
noncomputable def start (N:List Str)(vs:List V):St:=vs.map some++List.replicate (N.length-vs.length) none
noncomputable def gp (CX:uQ)(P:QF)(w:Qz)(K:PJ)(mg:Str->Option PL)(base:Heap)(N:List Str)(qual:Str)(j:Scope)(f:Addr)(cd:PL)(A:Ry)(outer:List Env)(s:PX)(H:Hp)(E:XK):Cx where
 prog:=P
 w:=w
 K:=K
 mg:=mg
 base:=base
 A:=A.deeper (envOfC qual j s.heap.objs.size f cd)
 N:=N
 s₀:=s
 H₀:=H
 env:=envOfC qual j s.heap.objs.size f cd
 outer:=outer
 stack:=envOfC qual j s.heap.objs.size f cd::outer
 ex:=[]
 calm:=true
 fn:=λ_=>true
 pn:=[]
 xe:=λe s'=>wpAny (model P w) (A.deeper (envOfC qual j s.heap.objs.size f cd)) (leaving (envOfC qual j s.heap.objs.size f cd) e) (λ_ y=>CX outer H s E e y) (λz y=>CX outer H s E z y) s'
def uo {sc:Scope}(h:sc.names.lookup x=some .cell):∃c,(cellsFrom n sc.names []).lookup x=some c:=by
 have q:=PySem.W.cellsFrom_some sc.names n [] (.inl h);exact Option.isSome_iff_exists.mp q
def Ai {K:PJ}
 (S:i1 N ps scope) (hd:A.handled=none) (j:yb P w K mg base A outer s H) (hl:vs.length=ps.length) (r:Vals vs us)
 (x:InCallC s s.heap.objs.size (bindL (envOfC qual scope s.heap.objs.size f cd).kindOf (ps.zip us) λ_=>none) (cellsFrom (s.heap.objs.size+1) scope.names []) (bindC (envOfC qual scope s.heap.objs.size f cd).kindOf (ps.zip us) λ_=>none) s1) :
 Inv (gp CX P w K mg base N qual scope f cd A outer s H E) [] (start N vs) H s1:=by
 have O:ps.length≤N.length:=by have:=congrArg List.length S.pre;rw[QY] at this;omega
 obtain⟨h1,tk,rfl,hk⟩:=x.done;have F:∀b:Addr,b∉(gp CX P w K mg base N qual scope f cd A outer s H E).ex:=λb z=>absurd (show b∈([]:List Addr) from z) `s
 refine{{j.mod,S.kind,rfl,rfl,PV _,λy z c h1 h2=>?_,λy B=>?_,λy c _ h=>?_,λ_=>hd,Around.frames_deeper j.frames,.inr ⟨rfl,rfl⟩,λb z=>absurd z (F b),j.bs,j.bsz,λb _ _=>F b,λb z=>absurd z (F b),j.funs,j.frf},
  rfl,j.bare,Un.kept hk,{_,x.toInCall.ns,λi y v h1 h2 h3=>?_},λy c h=>{_,x.cell y c h},j.hok.fresh (PV _),λy c h=>?_,λp I=>absurd (show p∈([]:List (Addr×Obj)) from I) `s,j.hok.kept hk,?_}
 ·exact name_of_addr x.apart (R6 h1) (R6 h2)
 ·have B:=B;rcases B with B|B
  ·exact uo B
  ·exact absurd rfl (S.nofree _ (R6 B))
 ·exact RR (x.above y c (R6 h))
 ·have hi:i<vs.length:=by
   unfold start at h2;by_cases hi:i<vs.length
   ·exact hi
   ·rw[Qo (by simpa using hi)] at h2
    rw[RY] at h2;split at h2<;>cases h2
  have M:vs[i]?=some v:=by
   unfold start at h2;rw[PU (by simpa using hi),P6] at h2
   cases e:vs[i]? with
   |none=>rw[e] at h2;cases h2
   |some a=>rw[e] at h2;cases h2;rfl
  obtain⟨u,L,R⟩:=r.get M;have I:ps[i]?=some y:=by
   rw[<- S.pre,List.getElem?_take_of_lt `a];exact h1
  have J:ps.Nodup:=by rw[<- S.pre];exact S.nd.sublist (List.take_sublist _ _)
  refine{u,R,?_};rcases S.par y (Qb I) with k|k
  ·exact .inl {k,ri J I L k}
  ·obtain⟨c,e⟩:=uo k;refine .inr {.inl k,c,e,?_};have q:=x.cell y c e;rw[rn J I L (by show scope.names.lookup y≠_;rw[k];decide)] at q
   exact q
 ·exact j.hok.fresh (RR (x.above y c (R6 h)))
 ·unfold start;show _=N.length;rw[Qe,PK,RK];omega
def Mo {K:PJ}{dV kV L pm j ct oc:PL}
 (lk:K.lookup f=some {oc,od,.func (PySem.W.fnOf name qual params body scope dV kV L pm an j ct),osl}) (U:PySem.W.codeIn K j qual=true) (S:i1 N ps scope)
 (len:∀vs H Q E,sp vs H Q E->vs.length=ps.length)
 (B:∀(A:Ry) (outer:List Env) (s:PX) (H:Hp) (vs:List V) (Q:VK) (E:XK),di k (A.deeper (envOfC qual scope s.heap.objs.size f j))->sp vs H Q E->
  ∃t,kr (gp CX P w K mg base N qual scope f j A outer s H E) body t/\t {nx:=λ_ H'=>Q .non H',rt:=Q} (start N vs) H) :
 lH P w K mg base CX (k+1) f (PySem.W.fnOf name qual params body scope dV kV L pm an j ct) ps sp:=by
 refine{len,λA outer s H args us vs Q E hr M hb r R=>?_};have hl:=len _ _ _ _ R;have KX:=M.mod.kin.keeps λb o e=>(M.bs b o e).1;have Y:=M.mod.nolimit.keeps λb o e=>(M.bs b o e).1;have F:∀y∈ps.zip us,scope.names.lookup y.1=some .local\/(scope.names.lookup y.1=some .cell/\((cellsFrom (s.heap.objs.size+1) scope.names []).lookup y.1).isSome=true):=λ⟨n,v⟩ hy=>by
  rcases S.par n (List.of_mem_zip hy).1 with q|q
  ·exact .inl q
  ·exact .inr {q,PySem.W.cellsFrom_some _ _ _ (.inl q)}
 refine codeAny_call_function hr.depth (KX _ _ lk) rfl S.co S.gen rfl (PySem.W.codeRec_of KX U) (hb _ _ _ _ ?_);refine wpAny_newFunctionEnv_cells S.kind F λenv he s1 x=>?_;subst he;refine{Y.keeps x.toInCall.keep,codeAny_func ?_};obtain⟨t,ht,hq⟩:=B A outer s H vs Q E (hr.deeper _) R;have I:Inv (gp CX P w K mg base N qual scope f j A outer s H E) [] (start N vs) H s1:=Ai S hr.hd M hl r x;refine wpAny_mono (ht [] s1 (start N vs) H _ I hq) (λfl s' hs=>?_) λe s' hs=>hs;have O:∀{z:St}{H':Hp}{v:V}{u:PL},Inv (gp CX P w K mg base N qual scope f j A outer s H E) [] z H' s'->RelV v u->Q v H'->CE outer P w H s Q u s':=
  λ{z H' v u} J rv q=>⟨v,H',J.os,J.bare,J.base,J.hok,rv,q⟩
 cases fl with
 | ret u =>
   obtain⟨v,z,H',J,rv,q⟩:=hs;exact O J rv q
 | next =>
   obtain⟨z,H',J,q⟩:=hs;exact O (v:=V.non) J rfl q
 | brk =>
   obtain⟨_,_,_,q⟩:=hs;exact False.elim q
 | cont =>
   obtain⟨_,_,_,q⟩:=hs;exact False.elim q
section
variable{X:Cx}{x:Str}{p pos:Pos}{e:Expr}{es:List Expr}{t:TA}{id T:String}{r:List V->Hp->VK->Prop}
def Nt (r:List V->Hp->VK->Prop)(t:TA):TE:=λσ H Q=>t σ H λj H1=>r j H1 Q
def i8 (F:cu X (.builtin id) r)(J:Gl X x)(hm:X.mg x=none)(L:bootBuiltins x=some (.builtin id))(B:PA X (e::es) t)(hn:x≠"__name__":=by decide)(j:(x==("__debug__":Str))=false:=by decide)
 (he:starEach (e::es) X.env=(false,eval e X.env)::starEach es X.env:=by rfl) (y:(backTo pos (starEach es X.env)).any (·.1)=false:=by rfl):PE X (.Call (.Name x p) (e::es) [] pos) (Nt r t):=by
 intro pins s σ H Q I h;refine wpAny_Call_Name_kw (fT I J hm L ?_ hn j);exact PyProof.Rows.callWith_builtin1 (aP (B pos pins s σ H _ I h) λO s1 ⟨R,H1,z,r1,M⟩=>F pins s1 σ H1 R O Q z r1 M) he y
def zz (F:cu X (.type T) r)(J:Gl X x)(hm:X.mg x=none)(L:bootBuiltins x=some (.type T))(B:PA X (e::es) t)(hn:x≠"__name__":=by decide)(j:(x==("__debug__":Str))=false:=by decide)
 (he:starEach (e::es) X.env=(false,eval e X.env)::starEach es X.env:=by rfl) (y:(backTo pos (starEach es X.env)).any (·.1)=false:=by rfl):PE X (.Call (.Name x p) (e::es) [] pos) (Nt r t):=by
 intro pins s σ H Q I h;refine wpAny_Call_Name_kw (fT I J hm L ?_ hn j);exact Q7 (aP (B pos pins s σ H _ I h) λO s1 ⟨R,H1,z,r1,M⟩=>F pins s1 σ H1 R O Q z r1 M) he y
end
end L2
namespace HT
open PySem PyProof.Rows
section
variable{prog:QF}{w:Qz}{A:Ry}{E:PL->PX->Prop}{s:PX}
def Hc (W:IsTup s.heap t vs.toArray)(S:IsTup s.heap b ws.toArray)(R:vs≠[])
 (h1:ws=[]->Q (.ref t) s) (h2:ws≠[]->Q (.ref s.heap.objs.size) {s with heap:=s.heap.push {cls:=.type "tuple",data:=.seq (vs++ws).toArray}})
 (hsz:vs.length+ws.length≤sizeLine):wpAny (model prog w) A (binaryOp .Add (.ref t) (.ref b)) Q E s:=by
 obtain⟨⟨cls,O,data,sl⟩,ho,U,n,hd⟩:=id W;obtain⟨⟨M,y,I,z⟩,j,J,n2,L⟩:=id S;subst U hd J L;have e:vs.toArray++ws.toArray=(vs++ws).toArray:=`s
 by_cases B:ws=[]
 ·exact concat_meets {_,ho,rfl} {_,j,rfl} noFill_tuple_add seq_tuple_add PySem.F.slot_tuple_add PySem.F.entry_tuple_add (PySem.F.args_tuple_add_2 _ _)
   (tuple_addW1 t b vs.toArray ws.toArray n n2 O y sl z (by simpa using R) (by simp[B])) {ho,j,h1 B}
 ·refine concat_meets {_,ho,rfl} {_,j,rfl} noFill_tuple_add seq_tuple_add PySem.F.slot_tuple_add PySem.F.entry_tuple_add (PySem.F.args_tuple_add_2 _ _)
   (tuple_addW2 t b vs.toArray ws.toArray n n2 O y sl z (by simpa using R) (by simpa using B) (by rw[P7,P7];exact hsz)) {ho,j,?_}
  rw[e];exact h2 B
noncomputable def aQ (n d:Nat):Option Int->Nat
 |none=>d
 |some v=>if v<0 then(v+(n:Int)).toNat else min v.toNat n
def wj (v:Int)(n d:Nat):(if v<0 then max (v+(n:Int)) 0 else min v (n:Int))=((aQ n d (some v):Nat):Int):=by
 show(if v<0 then max (v+(n:Int)) 0 else min v (n:Int))=(((if v<0 then(v+(n:Int)).toNat else min v.toNat n):Nat):Int);by_cases j:v<0
 ·simp only[if_pos j];omega
 ·simp only[if_neg j];omega
def xR (lo hi:Option Int)(n:Nat):Builtin.Slice.sliceAdjust lo hi 1 (n:Int)=(((aQ n 0 lo:Nat):Int),((aQ n n hi:Nat):Int)):=by
 refine Prod.ext ?_ ?_
 ·cases lo with
  |none=>rfl
  |some v=>exact wj v n 0
 ·cases hi with
  |none=>rfl
  |some v=>exact wj v n n
def wX (i j:Nat):Builtin.Slice.slicePlaces (i:Int) (j:Int) 1=j-i:=by
 unfold Builtin.Slice.slicePlaces;split<;>omega
def oH (p:IsPart v o)(h:Q o s):wpAny (model prog w) A (Builtin.Slice.slicePartIndex v) Q E s:=by
 cases p with
 |none=>exact slicePart_none h
 |int i t=>exact slicePart_int h
def i6 {lo hi:Option Int}{Q:Int×Int×Nat->PX->Prop}(hs:s.heap.IsSliceOf sl vl vu .none)(pl:IsPart vl lo)(B:IsPart vu hi)
 (h:Q (((aQ n 0 lo:Nat):Int),1,aQ n n hi-aQ n 0 lo) s):wpAny (model prog w) A (Builtin.Slice.sliceApplied (.ref sl) (pure (n:Int))) Q E s:=by
 obtain⟨os,y,z,j⟩:=id hs;refine tqa (tqa (tqf y j rfl (tqa (tqf y j rfl (tqa (tqf y j rfl (tqb ?_)))))));refine tqa (slicePart_none ?_);rw[if_neg `d]
 refine tqa (oH pl (tqa (oH B (tqa (tqb ?_)))));show wpAny _ _ (match Builtin.Slice.sliceAdjust lo hi 1 (n:Int) with|(lo,hi)=>pure (lo,(1:Int),Builtin.Slice.slicePlaces lo hi 1)) _ _ s
 rw[xR lo hi n];show wpAny _ _ (pure (((aQ n 0 lo:Nat):Int),(1:Int),Builtin.Slice.slicePlaces ((aQ n 0 lo:Nat):Int) ((aQ n n hi:Nat):Int) 1)) _ _ s;rw[wX];exact tqb h
def BY (xs:Array PL)(i k:Nat):((List.range k).filterMap λ(m:Nat)=>xs[((i:Int)+(m:Int)*1).toNat]?).toArray=((xs.toList.drop i).take k).toArray:=by
 have e:(λ(m:Nat)=>xs[((i:Int)+(m:Int)*1).toNat]?)=λm=>xs[i+m]?:=by
  funext m
  have:((i:Int)+(m:Int)*1).toNat=i+m:=`a
  rw[this]
 rw[e];have:=pick_run xs i k;rw[List.filterMap_map] at this;have e2:((λx=>xs[x]?)∘λx=>i+x)=λm=>xs[i+m]?:=rfl;rw[e2] at this;rw[this]
def nz {lo hi:Option Int}(y:IsTup s.heap t items)(hs:s.heap.IsSliceOf sl vl vu .none)(pl:IsPart vl lo)(M:IsPart vu hi)
 (L:¬ (aQ items.size 0 lo=0/\aQ items.size items.size hi=items.size))
 (h:Q (.ref s.heap.objs.size) {s with heap:=s.heap.push {cls:=.type "tuple",data:=.seq ((items.toList.drop (aQ items.size 0 lo)).take (aQ items.size items.size hi-aQ items.size 0 lo)).toArray}})
 (hsz:items.size≤sizeLine):wpAny (model prog w) A (getItem (.ref t) (.ref sl)) Q E s:=by
 have j:sizeOk (.seq ((items.toList.drop (aQ items.size 0 lo)).take (aQ items.size items.size hi-aQ items.size 0 lo)).toArray):=by
  show((items.toList.drop (aQ items.size 0 lo)).take (aQ items.size items.size hi-aQ items.size 0 lo)).toArray.size≤sizeLine;rw[P7,QY,Ru,RW];omega
 obtain⟨os,I,B,J⟩:=id hs;have z:s.TypeIs (.ref sl) "slice":=⟨os,I,B⟩;unfold getItem;try with_reducible refine tqo ?_
 first|refine tqa (tqb ?_)|skip
 refine tqa (wpAny_sequenceKey y.typeIs `d ?_)
 refine tqa (wpAny_callSpecial?_slot y.typeIs Q9
  (wpAny_call_entry Q9 y.typeIs entry_tuple_getitem ?_ (args_tuple_getitem _ _)))
 show wpAny _ _ (Builtin.Tuple.tupleItemsOf (.ref t) >>= _) _ _ s;refine tqa (tupleItemsOf_ y ?_);refine tqa (wpAny_typeOf z ?_);rw[if_pos `d]
 refine tqa (i6 hs pl M ?_);have F:¬ ((((aQ items.size 0 lo:Nat):Int)==0&&(1:Int)==1&&(aQ items.size items.size hi-aQ items.size 0 lo)==items.size)=true):=by
  intro q;rw[PY,PY] at q;have O:=eq_of_beq q.1.1;have R:=eq_of_beq q.2;exact L {`a,`a}
 show wpAny _ _ (if (((aQ items.size 0 lo:Nat):Int)==0&&(1:Int)==1&&(aQ items.size items.size hi-aQ items.size 0 lo)==items.size)=true then _ else _) _ _ s;rw[if_neg F,BY];first
  |exact tqa (wpAny_newObj_type (tqb {_,rfl,tqb h}) j)
  |exact tqa (wpAny_newObj_type (tqa (tqb (tqb {_,rfl,tqb h}))) j)
  |exact tqa (tqa (wpAny_newObj_type (tqb (tqb {_,rfl,tqb h})) j))
  |exact tqa (tqa (wpAny_newObj_type (tqb {_,rfl,tqb h}) j))
end
end HT
namespace L2
open PySem PySem.Spec PyProof.Rows
abbrev TO:=St->Hp->(Option Int->Hp->Prop)->Prop
def PO (X:Cx)(e:Option Expr)(t:TO):Prop:=
 ∀(pins:List (Addr×Obj)) (s:PX) (σ:St) (H:Hp) (Q:Option Int->Hp->Prop),Inv X pins σ H s->t σ H Q->
  wpAny (model X.prog X.w) X.A (evalPart e X.env) (λu s'=>∃o H',Inv X pins σ H' s'/\IsPart u o/\Q o H') X.xe s
def Fp:TO:=λ_ H Q=>Q none H
def LI (t:TE):TO:=λσ H Q=>t σ H λx H1=>∃i,x=.int i/\Q (some i) H1
section
variable{X:Cx}{e:Expr}{te:TE}{lo hi:Option Expr}{tl th:TO}{pos p2:Pos}
def F8:PO X none Fp:=by
 intro pins s σ H Q I h;rw[evalPart_none];exact tqb {none,H,I,.none,h}
def F7 (h:PE X e te):PO X (some e) (LI te):=by
 intro pins s σ H Q I y;rw[evalPart_some];refine aP (h pins s σ H _ I y) λu s1 ⟨x,H1,j,r1,z⟩=>?_;obtain⟨i,rfl,q⟩:=z;obtain⟨t,rfl⟩:=r1;exact{some i,H1,j,.int i t,q}
def mH (X:Cx)(r:V->Option Int->Option Int->Hp->VK->Prop):Prop:=
 ∀(pins:List (Addr×Obj)) (s:PX) (σ:St) (H:Hp) (x:V) (v j y:PL) (lo hi:Option Int) (sl:Addr) (Q:VK),Inv X pins σ H s->RelV x v->s.heap.IsSliceOf sl j y .none->IsPart j lo->IsPart y hi->r x lo hi H Q->
  ∃T id,typeLookup (.type T) "__getitem__"=pure (some (.builtin id))/\s.TypeIs v T/\wpAny (model X.prog X.w) X.A (getItem v (.ref sl)) (EP X pins σ Q) X.xe s
def mH.or (h:mH X r)(h':mH X r'):mH X (λx lo hi H Q=>r x lo hi H Q\/r' x lo hi H Q):=by
 intro pins s σ H x v z B lo hi sl Q I y hs pl j q;rcases q with q|q
 ·exact h pins s σ H x v z B lo hi sl Q I y hs pl j q
 ·exact h' pins s σ H x v z B lo hi sl Q I y hs pl j q
def tSl (r:V->Option Int->Option Int->Hp->VK->Prop)(te:TE)(tl th:TO):TE:=λσ H Q=>te σ H λx H1=>tl σ H1 λl H2=>th σ H2 λu j=>r x l u j Q
def BZ (hr:mH X r)(he:PE X e te)(hl:PO X lo tl)(U:PO X hi th):PE X (.Subscript e (.Slice lo hi none p2) pos) (tSl r te tl th):=by
 intro pins s σ H Q I h;refine Subscript_ (aP (he pins s σ H _ I h) λv s1 ⟨x,H1,F,r1,Y⟩=>?_);refine wpAny_Slice (aP (hl pins s1 σ H1 _ F Y) λy s2 ⟨l,H2,J,pl,q2⟩=>aP (U pins s2 σ H2 _ J q2) λz j ⟨u,B,L,W,q3⟩=>?_);rw[evalPart_none];refine tqb ?_;have M:Inv X pins σ B {j with heap:=j.heap.push {cls:=.type "slice",data:=.fields #[y,z,.none]}}:=L.kept λb ob q=>PM _ q
 obtain⟨T,id,O,S,R⟩:=hr pins {j with heap:=j.heap.push {cls:=.type "slice",data:=.fields #[y,z,.none]}} σ B x v y z l u j.heap.objs.size Q M r1 (Heap.IsSliceOf.new ..) pl W q3
 exact tail_any S O R (by with_unfolding_all rfl)
def qm (xs:List V)(lo hi:Option Int):List V:=(xs.drop (HT.aQ xs.length 0 lo)).take (HT.aQ xs.length xs.length hi-HT.aQ xs.length 0 lo)
def nF (xs:List V)(lo hi:Option Int):(qm xs lo hi).length≤xs.length:=by
 unfold qm;rw[QY,Ru];omega
def IG (K:PJ):V->Option Int->Option Int->Hp->VK->Prop:=λx lo hi H Q=>∃a xs,x=.ref a/\dS K H a xs/\
 ¬ (HT.aQ xs.length 0 lo=0/\HT.aQ xs.length xs.length hi=xs.length)/\∀p,H p=none->Q (.ref p) (upd H p (.tup (qm xs lo hi)))
def Ih:mH X (IG X.K):=by
 intro pins s σ H x v O R lo hi sl Q I M hs pl L h;obtain⟨a,xs,rfl,J,F,q⟩:=h;cases M;obtain⟨y,r,z,B⟩:=I.tuple J;have j:y.toArray.size=xs.length:=by rw[P7];exact r.length.symm
 refine{"tuple",_,Q9.lookup,z.typeIs,?_};refine HT.nz z hs pl L (by rw[j];exact F) ?_ (by rw[j];exact B)
 rw[j];refine{.ref s.heap.objs.size,_,I.laid (λb ob q=>PM _ q) (PV _) ?_,rfl,q _ (I.hok.fresh (PV _))};exact{Qf (nF xs lo hi) B,_,(r.drop (HT.aQ xs.length 0 lo)).take (HT.aQ xs.length xs.length hi-HT.aQ xs.length 0 lo),IsTup.new _ _}
def LR (K:PJ):R2:=λx y H Q=>∃a b xs ys,x=.ref a/\y=.ref b/\dS K H a xs/\dS K H b ys/\xs≠[]/\xs.length+ys.length≤sizeLine/\
 (ys=[]->Q (.ref a) H)/\(ys≠[]->∀p,H p=none->Q (.ref p) (upd H p (.tup (xs++ys))))
def Vals.nil_iff (r:Vals xs us):us=[]↔xs=[]:=by
 cases r with
 |nil=>simp
 |cons _ _=>simp
def Gg:bN X (binaryOp .Add) (LR X.K):=by
 intro pins s σ H x y v u Q I S U h;obtain⟨a,b,xs,ys,rfl,rfl,F,J,L,j,O,R⟩:=h;cases S;cases U;obtain⟨M,r1,p1,_⟩:=I.tuple F;obtain⟨B,r2,p2,_⟩:=I.tuple J;refine HT.Hc p1 p2 (λz=>L (r1.nil_iff.mp z)) (λz=>{.ref a,H,I,rfl,O (r2.nil_iff.mp z)}) (λz=>?_) (by rw[<- r1.length,<- r2.length];exact j)
 refine{.ref s.heap.objs.size,_,I.laid (λb ob q=>PM _ q) (PV _) ?_,rfl,R (λw=>z (r2.nil_iff.mpr w)) _ (I.hok.fresh (PV _))};exact{by rw[Qe];exact j,_,r1.append r2,IsTup.new _ _}
end
def cg (n:Nat)(i:Int):Option Nat:=if 0≤i then(if i<n then some i.toNat else none) else if -(n:Int)≤i then some (i+n).toNat else none
def rB {y:Type}(xs:List y)(i:Int):Option y:=(cg xs.length i).bind λj=>xs[j]?
def vN {n:Nat}{i:Int}{j:Nat}(h:cg n i=some j):seqIndex? i n=some j/\j<n/\-(n:Int)≤i/\i<n:=by
 unfold cg at h;by_cases y:0≤i
 ·rw[if_pos y] at h;by_cases h1:i<n
  ·rw[if_pos h1] at h;have e:=PQ h;exact{by rw[seqIndex_of y h1,e],`a,`a,h1}
  ·rw[if_neg h1] at h;cases h
 ·rw[if_neg y] at h;by_cases h1:-(n:Int)≤i
  ·rw[if_pos h1] at h;have e:=PQ h;exact{by rw[seqIndex_neg `a h1,e],`a,h1,`a}
  ·rw[if_neg h1] at h;cases h
def qv {y:Type}{xs:List y}{i:Int}{v:y}(h:rB xs i=some v):∃j,seqIndex? i xs.length=some j/\xs[j]?=some v/\j<xs.length/\-(xs.length:Int)≤i/\i<xs.length:=by
 unfold rB at h;cases e:cg xs.length i with
 |none=>rw[e] at h;cases h
 | some j =>
   rw[e] at h;obtain⟨h1,h2,h3,h4⟩:=vN e;exact⟨j,h1,h,h2,h3,h4⟩
def i0 (b:Expr):Prop:=∀o i,subscripted b false o i=operate [o,i] (getItem o i)
def jN (X:Cx)(r:R2):Prop:=
 ∀(value j:Expr) (pins:List (Addr×Obj)) (s:PX) (σ:St) (H:Hp) (x y:V) (v u:PL) (Q:VK),Inv X pins σ H s->RelV x v->RelV y u->r x y H Q->
  subscripted j false v u=operate [v,u] (getItem v u)->wpAny (model X.prog X.w) X.A (subscriptTail value j v u) (EP X pins σ Q) X.xe s
def NT (X:Cx)(id:String)(r:V->List V->Hp->VK->Prop):Prop:=
 ∀(pins:List (Addr×Obj)) (s:PX) (σ:St) (H:Hp) (x:V) (xs:List V) (v:PL) (j:List PL) (Q:VK),Inv X pins σ H s->RelV x v->Vals xs j->r x xs H Q->
  wpAny (model X.prog X.w) X.A (call (.builtin id) (v::j)) (EP X pins σ Q) X.xe s
section
variable{X:Cx}{a b:Expr}{ta tb:TE}{pos:Pos}
def jN.or (h:jN X r)(h':jN X r'):jN X (λx y H Q=>r x y H Q\/r' x y H Q):=by
 intro value j pins s σ H x y v u Q I z B q hs;rcases q with q|q
 ·exact h value j pins s σ H x y v u Q I z B q hs
 ·exact h' value j pins s σ H x y v u Q I z B q hs
def wY (hr:jN X r)(z:PE X a ta)(B:PE X b tb)(hs:i0 b):PE X (.Subscript a b pos) (yH r ta tb):=by
 intro pins s σ H Q I h;exact Subscript_ (CS z B I h λv u s2 x y H2 j F J q=>hr a b pins s2 σ H2 x y v u Q j F J q (hs _ _))
def IK (K:PJ):R2:=λx y H Q=>∃p xs i v,x=.ref p/\y=.int i/\dh K H p xs/\rB xs i=some v/\Q v H
def II (K:PJ):R2:=λx y H Q=>∃p xs i v,x=.ref p/\y=.int i/\dS K H p xs/\rB xs i=some v/\Q v H
def IJ:R2:=λx y H Q=>∃z i c,x=.str z/\y=.int i/\z.length≤sizeLine/\rB z.cps.toList i=some c/\Q (.str {#[c]}) H
def Gx:jN X (IK X.K):=by
 intro value M pins s σ H x y v u Q I W Y h hs;obtain⟨p,xs,i,z,rfl,rfl,U,he,q⟩:=h;cases W;obtain⟨t,rfl⟩:=Y;obtain⟨J,r,pl,hz⟩:=I.list U;obtain⟨j,h1,h2,h3,h4,S⟩:=qv he;obtain⟨w,O,L⟩:=r.get h2;have hl:=r.length;have hn:=i9;have B:EP X pins σ Q w s:=⟨z,H,I,L,q⟩;by_cases R:0≤i
 ·have F:i.toNat=j:=by
   rw[seqIndex_of R S] at h1;exact PQ h1
  exact item_listR pl.isList R `a (by rw[F];simpa using O) B hs
 ·have F:(i+(J.toArray.size:Int)).toNat=j:=by
   rw[seqIndex_neg `a h4] at h1
   rw[P7,<- hl];exact PQ h1
  exact subscriptTail_builtinR pl.isList.typeIs slot_list_getitem.lookup
   (wpAny_getItem_list_neg pl.isList `a (by rw[P7]<;>omega) `a (by rw[F];simpa using O) ⟨rfl,B⟩) hs
def JU:jN X (II X.K):=by
 intro value J pins s σ H x y v u Q I R S h hs;obtain⟨p,xs,i,z,rfl,rfl,M,he,q⟩:=h;cases R;obtain⟨t,rfl⟩:=S;obtain⟨O,r,pl,W⟩:=I.tuple M;obtain⟨j,h1,h2,h3,h4,U⟩:=qv he;obtain⟨w,L,F⟩:=r.get h2;have hl:=r.length;have hn:=i9;have B:EP X pins σ Q w s:=⟨z,H,I,F,q⟩;exact subscriptTail_builtinR pl.typeIs slot_tuple_getitem.lookup
  (getItem_tuple pl `a `a (by rw[P7,<- hl];exact h1) (by simpa using L) ⟨rfl,B⟩) hs
def JV:jN X IJ:=by
 intro value B pins s σ H x y v u Q I J L h hs;obtain⟨z,i,c,rfl,rfl,M,he,q⟩:=h;obtain⟨t,rfl⟩:=J;obtain⟨O,rfl⟩:=L;obtain⟨j,h1,h2,h3,h4,F⟩:=qv he;have hl:z.cps.toList.length=z.length:=by simp[Str.length]
 rw[hl] at h1 h4 F;have hn:=i9;exact tail_any (typeIs_str s z t) slot_str_getitem.lookup (getItem_str (by
  have e1:decide (i < -(2^63:Int))=false:=decide_eq_false `a
  have e2:decide (i≥2^63)=false:=decide_eq_false `a
  rw[e1,e2,Bool.or_false]) (by rw[h1];simpa using h2) {.str {#[c]},H,I.tok _,{_,rfl},q}) hs
def IL (K:PJ):R2:=λx y H Q=>IK K x y H Q\/II K x y H Q\/IJ x y H Q
def JW:jN X (IL X.K):=Gx.or (JU.or JV)
def xh (its:List PL)(n j:Nat)(u:PL):Obj.mapSeq (·.setIfInBounds j u) {cls:=.type "list",data:=.seq its.toArray n}={cls:=.type "list",data:=.seq (its.set j u).toArray n}:=by
 simp[Obj.mapSeq]
def Inv.lst (I:Inv X pins σ H s)(h:H p=some (.lst xs)) :
 ∃(j:List PL) (n:Nat),Vals xs j/\s.heap.get? p=some {cls:=.type "list",data:=.seq j.toArray n}/\xs.length≤sizeLine:=by
 obtain⟨z,j,n,r,e⟩:=I.hok p _ h;exact⟨j,n,r,e,z⟩
def Inv.lstUpd {pins:List (Addr×Obj)}{σ:St}{H:Hp}{s:PX}{p:Addr}{xs ys:List V}{j its':List PL}{n n':Nat}{f:Obj->Obj}(I:Inv X pins σ H s)(h:H p=some (.lst xs))
 (ho:s.heap.get? p=some {cls:=.type "list",data:=.seq j.toArray n}) (hf:f {cls:=.type "list",data:=.seq j.toArray n}={cls:=.type "list",data:=.seq its'.toArray n'}) (r:Vals ys its') (hz:ys.length≤sizeLine) (t:Nat) :
 Inv X pins σ (upd H p (.lst ys)) {s with heap:=s.heap.update p f,toks:=t}:=by
 have e:(s.heap.update p f).get? p=some {cls:=.type "list",data:=.seq its'.toArray n'}:=by
  rw[Rw f ho (by rw[hf]<;>rfl),hf]
 refine I.write (by rw[h];trivial) (.inl rfl) (λb u y q=>(Rq _ _ (Q0 y)).trans q) {_,e} ?_
 exact⟨hz,its',n',r,e⟩
def DM:V->V->V->Hp->(Hp->Prop)->Prop:=λo i v H Q=>∃p xs k j,o=.ref p/\i=.int k/\H p=some (.lst xs)/\cg xs.length k=some j/\Q (upd H p (.lst (xs.set j v)))
def set_list:C3 X DM:=by
 intro pins s σ H o i v S R u Q I ro M O h;obtain⟨p,xs,k,j,rfl,rfl,F,J,q⟩:=h;cases ro;obtain⟨t,rfl⟩:=M;obtain⟨y,n,r,ho,L⟩:=I.lst F;obtain⟨h1,h2,h3,h4⟩:=vN J;have hl:=r.length;have hn:=i9;have z:Inv X pins σ (upd H p (.lst (xs.set j v))) {s with heap:=s.heap.update p (Obj.mapSeq (·.setIfInBounds j u))}:=
  I.lstUpd F ho (xh y n j u) (r.set O j) (by rw[RM];exact L) s.toks
 by_cases B:0≤k
 ·have hk:k.toNat=j:=by
   rw[seqIndex_of B h4] at h1;exact PQ h1
  exact PySem.W.ki_setAt ho B `a (by rw[P7,<- hl];exact h4) (by rw[hk];exact{_,z,q})
 ·have hk:(k+(y.toArray.size:Int)).toNat=j:=by
   rw[seqIndex_neg `a h3] at h1
   rw[P7,<- hl];exact PQ h1
  exact PySem.W.ki_setBack ho `a (by rw[P7,<- hl];exact h3) `a (by rw[hk];exact{_,z,q})
def sJ (lo hi:Option Int)(n:Nat):(sliceBounds lo hi none n).1=((HT.aQ n 0 lo:Nat):Int)/\(sliceBounds lo hi none n).2.1=((HT.aQ n n hi:Nat):Int)/\(sliceBounds lo hi none n).2.2=1:=by
 refine{?_,?_,rfl}
 ·cases lo with
  |none=>simp[sliceBounds,HT.aQ]
  | some i =>
    simp only[sliceBounds,HT.aQ,Option.getD_none,show(1:Int) > 0 by decide,if_true]
    by_cases h:i<0
    ·simp only[h,if_true]<;>omega
    ·simp only[h,if_false]<;>omega
 ·cases hi with
  |none=>simp[sliceBounds,HT.aQ]
  | some i =>
    simp only[sliceBounds,HT.aQ,Option.getD_none,show(1:Int) > 0 by decide,if_true]
    by_cases h:i<0
    ·simp only[h,if_true]<;>omega
    ·simp only[h,if_false]<;>omega
def rE (j:List PL)(lo hi:Option Int):slicePick j.toArray lo hi none=((j.drop (HT.aQ j.length 0 lo)).take (HT.aQ j.length j.length hi-HT.aQ j.length 0 lo)).toArray:=by
 obtain⟨h1,h2,h3⟩:=sJ lo hi j.toArray.size;unfold slicePick;rw[h1,h2,h3];simp only[sliceRange_one,pick_run,P7]<;>rfl
def IH (K:PJ):V->Option Int->Option Int->Hp->VK->Prop:=λx lo hi H Q=>∃a xs,x=.ref a/\dh K H a xs/\∀p,H p=none->Q (.ref p) (upd H p (.lst (qm xs lo hi)))
def FK:mH X (IH X.K):=by
 intro pins s σ H x v M O lo hi sl Q I L hs pl J h;obtain⟨a,xs,rfl,z,q⟩:=h;cases L;obtain⟨F,r,y,B⟩:=I.list z;have j:=r.length;refine{"list",_,slot_list_getitem.lookup,y.isList.typeIs,?_};refine wpAny_getItem_list_slice y.isList hs pl J .none `s ?_ (by rw[P7]<;>omega)
 rw[rE,<- j];refine{.ref s.heap.objs.size,_,I.laid (λb ob q=>PM _ q) (PV _) ?_,rfl,q _ (I.hok.fresh (PV _))};exact{Qf (nF xs lo hi) B,_,0,(r.drop (HT.aQ xs.length 0 lo)).take (HT.aQ xs.length xs.length hi-HT.aQ xs.length 0 lo),Qn _ rfl}
def uw:cu X (.builtin "len") (λxs H Q=>∃p ys,xs=[.ref p]/\(dh X.K H p ys\/dS X.K H p ys)/\Q (.int ys.length) H):=by
 intro pins s σ H xs L Q I r h;obtain⟨p,ys,rfl,y,q⟩:=h;obtain⟨u,rfl,J⟩:=vals1 r;cases J;have hn:=i9;rcases y with y|y
 ·obtain⟨z,B,pl,F⟩:=I.list y;have j:=B.length;exact Calls.call_len_list pl.isList (by simp only[P7]<;>omega) {.int ys.length,H,I.tok _,{s.toks+1,by rw[P7,j]},q}
 ·obtain⟨z,B,pl,F⟩:=I.tuple y;have j:=B.length;exact len_tuple pl (by simp only[P7]<;>omega) {.int ys.length,H,I.tok _,{s.toks+1,by rw[P7,j]},q}
def uu:cu X (.builtin "len") (λxs H Q=>∃z,xs=[.str z]/\z.length≤sizeLine/\Q (.int z.length) H):=by
 intro pins s σ H xs y Q I r h;obtain⟨z,rfl,j,q⟩:=h;obtain⟨u,rfl,t,rfl⟩:=vals1 r;have hn:=i9;exact len_str `a {.int z.length,H,I.tok _,{_,rfl},q}
def cu.or (h:cu X f r)(h':cu X f r'):cu X f (λxs H Q=>r xs H Q\/r' xs H Q):=by
 intro pins s σ H xs j Q I rs q;rcases q with q|q
 ·exact h pins s σ H xs j Q I rs q
 ·exact h' pins s σ H xs j Q I rs q
def ur:cu X (.type "list") (λxs H Q=>∃p ys,xs=[.ref p]/\(dh X.K H p ys\/dS X.K H p ys)/\∀l,H l=none->Q (.ref l) (upd H l (.lst ys))):=by
 intro pins s σ H xs R Q I r h;obtain⟨p,ys,rfl,J,q⟩:=h;obtain⟨u,rfl,O⟩:=vals1 r;cases O;have B:∀(j:List PL),Vals ys j->ys.length≤sizeLine->∀(h':Heap) (y:Nat),(∀b o',s.heap.get? b=some o'->h'.get? b=some o')->
  h'.get? s.heap.objs.size=some {cls:=.type "list",dict:=none,data:=.seq j.toArray y,slots:=#[]}->EP X pins σ Q (.ref s.heap.objs.size) {s with heap:=h'}:=λj z L h' y kp e=>
  {.ref s.heap.objs.size,_,I.laid kp (PV _) (show ff X.prog X.w _ h' _ (.lst ys) from⟨L,j,y,z,e⟩),rfl,q _ (I.hok.fresh (PV _))}
 rcases J with J|J
 ·obtain⟨j,z,pl,L⟩:=I.list J;have F:=z.length;obtain⟨o,ho,M,n,hd⟩:=pl.isList;exact call_list_seq p (.inl rfl) ho M hd (λh' y kp e=>B j z L h' y kp e) (by simp only[P7]<;>omega)
 ·obtain⟨j,z,pl,L⟩:=I.tuple J;have F:=z.length;obtain⟨o,ho,M,n,hd⟩:=pl;exact call_list_seq p (.inr rfl) ho M hd (λh' y kp e=>B j z L h' y kp e) (by simp only[P7]<;>omega)
def rJ:cu X (.type "tuple") (λxs H Q=>∃p ys,xs=[.ref p]/\((dh X.K H p ys/\∀l,H l=none->Q (.ref l) (upd H l (.tup ys)))\/(dS X.K H p ys/\Q (.ref p) H))):=by
 intro pins s σ H xs O Q I r h;obtain⟨p,ys,rfl,h⟩:=h;obtain⟨u,rfl,M⟩:=vals1 r;cases M;rcases h with⟨y,q⟩|⟨y,q⟩
 ·obtain⟨j,z,pl,J⟩:=I.list y;have F:=z.length;refine call_tuple_list pl.isList (λh' kp=>?_) (by simp only[P7]<;>omega)
  have B:=I.kept (t':=s.toks) kp;have L:Inv X pins σ (upd H h'.objs.size (.tup ys)) {s with heap:=h'.push {cls:=.type "tuple",data:=.seq j.toArray}}:=
   B.laid (λb o e=>PM _ e) (PV _) ({J,j,z,IsTup.new _ _})
  exact{.ref h'.objs.size,_,L,rfl,q _ (B.hok.fresh (PV _))}
 ·obtain⟨j,z,pl,J⟩:=I.tuple y;exact call_tuple_same pl {.ref p,H,I,rfl,q}
def HS (K:PJ)(T:String)(x:V)(H:Hp):Prop:=match x with
 |.str _=>T="str"
 |.int _=>T="int"
 |.ref p=>(T="list"/\∃xs,dh K H p xs)\/(T="tuple"/\∃o,K.lookup p=some o/\o.cls=.type "tuple"/\o.dict=none)\/
  (T="dict"/\((∃kvs,H p=some (.dK kvs))\/(∃kvs,H p=some (.dT kvs))\/∃es,H p=some (.dn es)))\/(T="set"/\∃S n,H p=some (.set S n))
 |_=>False
def yA (I:Inv X pins σ H s)(r:RelV x v)(ty:HS X.K T x H) :
 s.TypeIs v T/\∀a,v=.ref a->∃ob,s.heap.get? a=some ob/\ob.dict=none:=by
 cases x with
 | str z =>
   obtain⟨t,rfl⟩:=r;cases (ty);exact{typeIs_str s z t,λ_ e=>nomatch e}
 | int i =>
   obtain⟨t,rfl⟩:=r;cases (ty);exact{typeIs_int s i t,λ_ e=>nomatch e}
 | ref p =>
   cases r;rcases ty with⟨rfl,xs,B⟩|⟨rfl,o,hk,y,hd⟩|⟨rfl,hk⟩|⟨rfl,S,n,hk⟩
   ·obtain⟨F,_,pl,_⟩:=I.list B;refine{pl.isList.typeIs,λa e=>?_};cases e;obtain⟨o,n,e,c,hd,_⟩:=pl;exact⟨o,e,hd⟩
   ·refine{{o,I.kIn p o hk,y},λa e=>?_};cases e;exact{o,I.kIn _ o hk,hd}
   ·have z:∃o,s.heap.get? p=some o/\o.ExactDict:=by
     rcases hk with⟨j,hk⟩|⟨j,hk⟩|⟨es,hk⟩
     rotate_left 2
     ·obtain⟨_,_,o,e,ex,_⟩:=I.hok p _ hk;exact⟨o,e,ex⟩
     ·obtain⟨_,_,_,_,o,_,_,e,ex,_⟩:=I.hok p _ hk;exact⟨o,e,ex⟩
     ·obtain⟨_,_,_,_,o,_,_,e,ex,_⟩:=I.hok p _ hk;exact⟨o,e,ex⟩
    obtain⟨o,e,ex⟩:=z;refine{⟨o,e,ex.1⟩,λa e2=>?_};cases e2;exact⟨o,e,ex.2.1⟩
   ·obtain⟨o,_,_,_,e,ex,_⟩:=I.hok p _ hk;refine{⟨o,e,ex.1⟩,λa e2=>?_};cases e2;exact⟨o,e,ex.2.1⟩
 |_=>exact False.elim ty
def Oc (K:PJ)(T:String)(r:V->List V->Hp->VK->Prop)(to:TE):TE:=λσ H Q=>to σ H λx H1=>HS K T x H1/\r x [] H1 Q
def tBM (K:PJ)(T:String)(r:V->List V->Hp->VK->Prop)(to:TE)(t:TA):TE:=λσ H Q=>to σ H λx H1=>HS K T x H1/\t σ H1 λxs H2=>r x xs H2 Q
variable{o e:Expr}{es:List Expr}{to:TE}{t:TA}{name:Str}{apos cpos:Pos}{T id:String}{r:V->List V->Hp->VK->Prop}
def Jf (F:PlainAttrs T)(slot:Slot T name id)(z:typeOf (.builtin id)=pure (.type "method_descriptor"))(hm:NT X id r)(ho:PE X o to)
 (j:attributeBase o name X.env (eval o X.env)=eval o X.env:=by rfl) (y:(apos.endLine==cpos.line)=true:=by rfl):PE X (.Call (.Attribute o name apos) [] [] cpos) (Oc X.K T r to):=by
 intro pins s σ H Q I h;refine wpAny_Call_method0_late j y (aP (ho pins s σ H _ I h) λv s1 ⟨x,H1,B,r1,ty,J⟩=>?_);obtain⟨h1,h2⟩:=yA B r1 ty;exact{T,id,F,slot,z,h1,h2,Calls.callWith_builtin rfl (PySem.evalArgs_none (hm pins s1 σ H1 x [] v [] Q B r1 .nil J))}
def DN (R:PlainAttrs T)(slot:Slot T name id)(F:typeOf (.builtin id)=pure (.type "method_descriptor"))(hm:NT X id r)(ho:PE X o to)(O:PA X (e::es) t)
 (y:attributeBase o name X.env (eval o X.env)=eval o X.env:=by rfl)
 (B:((backTo cpos (starEach (e::es) X.env)).all (λx=>!x.1)&&(backToKw cpos (keywordEach [] X.env)).all (λx=>x.1.isSome)
  && decide ((e::es).length+([]:List Keyword).length+(if ([]:List Keyword).isEmpty then 0 else 1)<30))=true:=by rfl)
 (z:(apos.endLine==cpos.line)=true:=by rfl) (hs:starEach (e::es) X.env=(false,eval e X.env)::starEach es X.env:=by rfl) (j:(backTo cpos (starEach es X.env)).any (·.1)=false:=by rfl) :
 PE X (.Call (.Attribute o name apos) (e::es) [] cpos) (tBM X.K T r to t):=by
 intro pins s σ H Q I h;refine wpAny_Call_method_late y B z rfl (aP (ho pins s σ H _ I h) λv s1 ⟨x,H1,J,r1,ty,S⟩=>?_);obtain⟨h1,h2⟩:=yA J r1 ty;refine{T,id,R,slot,F,h1,h2,?_};have L:=O cpos pins s1 σ H1 _ J S;rw[hs] at L ⊢;refine Calls.callWith_builtin (by show(false||(backTo cpos (starEach es X.env)).any (·.1))=false;rw[j]<;>rfl) (Calls.evalArgs_plain ?_)
 exact aP L λW s2 ⟨Y,H2,M,r2,U⟩=>hm pins s2 σ H2 x Y v W Q M r1 r2 U
end
def NU (X:Cx)(id:String)(r:V->List V->Hp->VK->Prop):Prop:=
 ∀(pins:List (Addr×Obj)) (s:PX) (σ:St) (H:Hp) (x:V) (xs:List V) (v:PL) (j:List PL) (Q:VK),Inv X pins σ H s->RelV x v->Vals xs j->r x xs H Q->
  wpAny (model X.prog X.w) X.A (call (.builtin id) (v::j)) (EP X pins σ Q) X.xe s
def Vals.one:∀{x:V}{us:List PL},Vals [x] us->∃u,us=[u]/\RelV x u
 |_,_,.cons r .nil=>{_,rfl,r}
def Vals.zero:∀{us:List PL},Vals [] us->us=[]
 |_,.nil=>rfl
noncomputable def Vals.rep (h:Vals xs us):∀k:Nat,Vals (List.replicate k xs).flatten (List.replicate k us).flatten
 |0=>.nil
 | k + 1 => by
   rw[Rf,Rf,RT,RT];exact Vals.append h (Vals.rep h k)
theorem foldl_rep (j:List PL):∀(k:Nat) (acc:List PL),
 List.foldl (λx1 x2=>x1++x2) acc.toArray (List.replicate k j.toArray)=(acc++(List.replicate k j).flatten).toArray
 |0,acc=>`s
 | k + 1, acc => by
   have e:acc.toArray++j.toArray=(acc++j).toArray:=`s
   have e2:(acc++j)++(List.replicate k j).flatten=acc++(List.replicate (k+1) j).flatten:=by
    rw[Rf,RT,QH]
   rw[<- e2,<- foldl_rep j k (acc++j),<- e,Rf,List.foldl_cons]
section
variable{X:Cx}{pins:List (Addr×Obj)}{σ:St}{H:Hp}{s:PX}{l b:Addr}{xs ys zs:List V}
def Inv.lset {j its':List PL}(I:Inv X pins σ H s)(y:H l=some (.lst xs))
 (e:s.heap.get? l=some {cls:=.type "list",data:=.seq j.toArray n}) (hf:f j.toArray=its'.toArray) (F:Vals ys its') (hz:ys.length≤sizeLine) :
 Inv X pins σ (upd H l (.lst ys)) {s with heap:=s.heap.update l (Obj.mapSeq f),toks:=t'}:=by
 have q:=PySem.IsL.update e f;rw[hf] at q;refine I.write (by rw[y];exact trivial) (.inl rfl) (λJ u z B=>(Rq s.heap (Obj.mapSeq f) (Q0 z)).trans B) {_,q} ?_
 exact{hz,its',_,F,q}
def Inv.lnew (I:Inv X pins σ H s)(j:Vals ys its)(hz:ys.length≤sizeLine) :
 Inv X pins σ (upd H s.heap.objs.size (.lst ys)) {s with heap:=s.heap.push {cls:=.type "list",data:=.seq its.toArray},toks:=t'}:=
 I.laid (λ_ _ q=>PM _ q) (PV _) {hz,its,0,j,Qn _ rfl}
def Inv.fresh (I:Inv X pins σ H s):H s.heap.objs.size=none:=I.hok.fresh (PV _)
def Inv.lstM (I:Inv X pins σ H s)(y:H l=some (.lst xs)):xs.length≤sizeLine/\∃(j:List PL) (n:Nat),Vals xs j/\xs.length=j.length/\s.heap.get? l=some {cls:=.type "list",data:=.seq j.toArray n}:=by
 obtain⟨z,j,n,r,e⟩:=I.hok l _ y;exact⟨z,j,n,r,r.length,e⟩
def nW (h:n≤sizeLine):Builtin.List.listTooLong n=false:=by
 exact decide_eq_false `a
end
section
variable{X:Cx}
def FX:V->List V->Hp->VK->Prop:=λx j H Q=>∃l xs y,x=.ref l/\j=[y]/\H l=some (.lst xs)/\xs.length<sizeLine/\Q .non (upd H l (.lst (xs++[y])))
def lX:NU X "list.append" FX:=by
 intro pins s σ H x S v R Q I M L h;obtain⟨l,xs,y,rfl,rfl,B,O,q⟩:=h;cases M;obtain⟨u,rfl,J⟩:=L.one;obtain⟨z,j,n,r,hl,e⟩:=I.lstM B;refine call_meets F.slot_list_append {_,e,rfl} F.entry_list_append (F.args_list_append_2 _ _) (PySem.list_append l j.toArray n u (by rw[P7];omega)) {e,?_}
 refine{.non,_,I.lset B e `s (r.append (.cons J .nil)) ?_,rfl,q}
 rw[Qe,List.length_singleton];omega
def IM:V->List V->Hp->VK->Prop:=λx j H Q=>∃l xs,x=.ref l/\j=[]/\H l=some (.lst xs)/\Q .non (upd H l (.lst []))
def Cb:NU X "list.clear" IM:=by
 intro pins s σ H x O v M Q I L J h;obtain⟨l,xs,rfl,rfl,B,q⟩:=h;cases L;have j:=J.zero;subst j;obtain⟨z,y,n,r,hl,e⟩:=I.lstM B;refine call_meets F.slot_list_clear {_,e,rfl} F.entry_list_clear (F.args_list_clear_1 _) (AutoSeq1.list_clear_list_0 l y.toArray n (by rw[P7];omega)) {e,?_}
 exact{.non,_,I.lset B e rfl .nil (Rh _),rfl,q}
def Oj:R2:=λx y H Q=>∃l b xs zs,x=.ref l/\y=.ref b/\H l=some (.lst xs)/\H b=some (.lst zs)/\xs.length+zs.length≤sizeLine/\∀p,H p=none->Q (.ref p) (upd H p (.lst (xs++zs)))
def Jn:bN X (binaryOp .Add) Oj:=by
 intro pins s σ H x y v u Q I O R h;obtain⟨l,b,xs,zs,rfl,rfl,L,J,S,q⟩:=h;cases O;cases R;obtain⟨z,B,n,r,hl,e⟩:=I.lstM L;obtain⟨U,j,n2,r2,M,e2⟩:=I.lstM J;refine PySem.P.add_list e e2 ?_ (by rw[P7,P7];omega)
 have F:B.toArray++j.toArray=(B++j).toArray:=`s
 rw[F];exact{.ref _,_,I.lnew (r.append r2) (by rw[Qe];omega),rfl,q _ I.fresh}
def Oi:R2:=λx y H Q=>∃l k xs,x=.ref l/\y=.int k/\H l=some (.lst xs)/\-(2^63)≤k/\k<2^63/\xs.length*k.toNat≤sizeLine/\
 ∀p,H p=none->Q (.ref p) (upd H p (.lst (List.replicate k.toNat xs).flatten))
def len_rep {y:Type}(xs:List y)(k:Nat):(List.replicate k xs).flatten.length=k*xs.length:=by
 induction k with
 |zero=>simp
 |succ k j=>rw[Rf,RT,Qe,j,Nat.succ_mul,Nat.add_comm]
def Ji:bN X (binaryOp .Mult) Oi:=by
 intro pins s σ H x y v u Q I W Y h;obtain⟨l,k,xs,rfl,rfl,U,h1,h2,R,q⟩:=h;cases W;obtain⟨t,rfl⟩:=Y;obtain⟨z,j,n,r,hl,e⟩:=I.lstM U;have M:j.toArray.size*k.toNat≤sizeLine:=by rw[P7,<- hl];exact R
 have J:¬ j.toArray.size*k.toNat > (2^63-1) / 8:=by
  have:(sizeLine:Nat)≤(2^63-1) / 8:=`d
  omega
 have L:¬ (!Builtin.List.listFitsIndex k)=true:=by
  rw[fitsIndex_both h1 h2];exact Qr
 have B:¬ Builtin.List.listTooLong (j.toArray.size*k.toNat)=true:=by
  rw[nW M];exact Qr
 have O:List.foldl (λx1 x2=>x1++x2) #[] (List.replicate (if j.toArray.isEmpty=true then 0 else k.toNat) j.toArray)=(List.replicate k.toNat j).flatten.toArray:=by
  have S:=λm=>by
   have:=foldl_rep j m [];rw[List.nil_append] at this;exact this
  rw[S];cases j with
  |nil=>simp
  |cons a r'=>rw[if_neg `s]
 refine wpAny_binaryOp_repeat_ref `d {_,e,rfl} (λs'=>typeIs_int s' k t) noFill_list_mul F.fills_int_mul F.slot_int_rmul repeat_list F.slot_int_index.lookup
  (call_meets F.slot_int_rmul (typeIs_int s k t) F.entry_int_rmul (F.args_int_rmul_2 _ _) (int___rmul___int_list k t l j.toArray n)
   {e,rfl,{_,e,rfl},call_meets F.slot_list_mul {_,e,rfl} F.entry_list_mul (F.args_list_mul_2 _ _) (AutoListH.list___mul___list_int_3 l j.toArray n k t L J B) {e,?_}})
 rw[O];exact{.ref _,_,I.lnew (r.rep k.toNat) (by rw[len_rep,Nat.mul_comm];exact R),rfl,q _ I.fresh}
end
section
variable{prog:QF}{w:Qz}{A:Ry}{E:PL->PX->Prop}{s:PX}
def yK (j y:List PL)(a c:Nat):j.toArray.extract 0 a++y.toArray++j.toArray.extract c j.toArray.size=(j.take a++y++j.drop c).toArray:=by
 apply Array.toList_inj.mp;first
  | (simp
     exact Qt `s)
  |simp[Qt]
  |simp
def xI {a c n:Nat}(j:a≤c)(y:c≤n):sliceBounds (some (a:Int)) (some (c:Int)) none n=((a:Int),(c:Int),1):=by
 simp only[sliceBounds,Option.getD_none]
 congr 1
 ·omega
 ·congr 1;omega
set_option maxRecDepth 100000 in
def rG {a c:Nat}
 (e:s.heap.get? l=some {cls:=.type "list",data:=.seq items n}) (e2:s.heap.get? b=some {cls:=.type "list",data:=.seq new n2}) (hne:l≠b)
 (hs:s.heap.IsSliceOf sl vl vu .none) (pl:IsPart vl (some (a:Int))) (pu:IsPart vu (some (c:Int))) (hac:a≤c) (hc:c≤items.size)
 (hsz:items.size+new.size≤sizeLine) (h:Q () {s with heap:=s.heap.update l (Obj.mapSeq λxs=>xs.extract 0 a++new++xs.extract c xs.size)}) :
 wpAny (model prog w) A (setItem (.ref l) (.ref sl) (.ref b)) Q E s:=by
 have hl:=PySem.IsL.isList e;have hb:=PySem.IsL.isList e2;obtain⟨os,hos,hcs,hds⟩:=id hs;have hTs:s.TypeIs (.ref sl) "slice":=⟨os,hos,hcs⟩;have hstep:¬ ((rawPart none==rawInt 0)=true):=Qr;have hsame:Builtin.List.listSameRef (.ref l) (.ref b)=false:=by
  exact Rb.mpr hne
 have hmax:(max (a:Int) (c:Int)).toNat=c:=`a
 have hz':((λxs:Array PL=>xs.extract 0 a++new++xs.extract c xs.size) items).size≤sizeLine+1:=by
  simp only[Array.size_append,Array.size_extract];omega
 unfold setItem;try with_reducible refine tqo ?_
 first|refine tqa (tqb ?_)|skip
 refine tqa (wpAny_sequenceKey hl.typeIs `d ?_)
 refine tqa (wpAny_callSpecial?_slot hl.typeIs slot_list_setitem
  (wpAny_call_entry slot_list_setitem hl.typeIs entry_list_setitem ?_ (args_list_setitem _ _ _)))
 show wpAny _ _ (Builtin.List.listSubscript? (.ref sl) >>= _) _ _ s;refine tqa ?_;refine tqa (wpAny_specialOf hTs slice_no_index ?_);refine tqb ?_;refine tqa (wpAny_typeOf hTs ?_);first
  |rw[if_neg `d]
  |refine PySem.W.KFB.if_not `d ?_
 rw[listSliceParts_eq];refine tqa (tqa (tqf hos hds rfl (tqa (wpAny_listPart .none ?_))));rw[if_neg hstep];refine tqa (tqf hos hds rfl (tqa (wpAny_listPart pl ?_)));refine tqa (tqf hos hds rfl (tqa (wpAny_listPart pu (tqb ?_))));first
  |simp only[hsame,Bool.false_eq_true,if_false]
  |refine PySem.W.KFB.if_not hsame ?_
  | (dsimp only
     rw[if_neg (by rw[hsame];exact Qr)])
 refine tqa ?_;refine tqa (wpAny_typeOf hb.typeIs ?_);first
  |refine PySem.W.KFB.if_so `d ?_
  |rw[if_pos `d]
  |simp only[beq_self_eq_true,Bool.true_or,if_true]
 refine tqa (wpAny_seqItems e2 rfl (tqb ?_));refine tqa (tqa (wpAny_seqItems e rfl (tqb ?_)));refine tqa (wpAny_of_eq ((sliceIndices_raw (some (a:Int)) (some (c:Int)) none items.size `s).trans (congrArg (pure:Int×Int×Int->Sem (Int×Int×Int)) (xI hac hc))) ?_)
 show wpAny _ _ (if ((1:Int)==1)=true then _ else _) _ _ s;rw[if_pos `d]
 refine tqa (wpAny_rule ?_);first
  |simp only[nW hsz,Bool.false_eq_true,if_false]
  |refine PySem.W.KFB.if_not (nW hsz) ?_
 first|refine tqa (tqb ?_)|skip
 rw[hmax,RU];refine tqa (wpAny_updateSeq e rfl ?_);refine tqa (wpAny_letGo ?_);first
  |exact tqa (tqb (tqb {.none,rfl,tqb h}))
  |exact tqb {.none,rfl,tqb h}
end
section
variable{X:Cx}
def zb {a c:Int}{s:PX}(I:Inv X pins σ H s)
 (L:H l=some (.lst xs)) (R:H b=some (.lst ys)) (B:l≠b) (hs:s.heap.IsSliceOf sl vl vu .none) (U:RelV (.int a) vl) (W:RelV (.int c) vu) (J:0≤a) (y:a≤c) (Y:c≤xs.length)
 (hz:xs.length+ys.length≤sizeLine) (h:∀s',Inv X pins σ (upd H l (.lst (xs.take a.toNat++ys++xs.drop c.toNat))) s'->Q () s') :
 wpAny (model X.prog X.w) X.A (setItem (.ref l) (.ref sl) (.ref b)) Q X.xe s:=by
 obtain⟨ta,rfl⟩:=U;obtain⟨tc,rfl⟩:=W;obtain⟨z,F,n,r,hl,e⟩:=I.lstM L;obtain⟨z2,j,n2,r2,S,e2⟩:=I.lstM R;obtain⟨M,rfl⟩:=RZ J;obtain⟨O,rfl⟩:=RZ (Int.le_trans J y);refine rG e e2 B hs (.int _ _) (.int _ _) `a (by rw[P7];omega) (by rw[P7,P7];omega) (h _ ?_)
 refine I.lset L e ?_ (Vals.append (Vals.append (r.take _) r2) (r.drop _)) ?_
 ·exact yK F j M O
 ·rw[Qe,Qe,QY,Ru];omega
end
end L2
namespace Att
open PySem PySem.W PySem.Calls PyProof.Rows
def oX:∀(ns:List Int) (vs:List PL),WellAll P h vs (ns.map WData.int)->IntsAre vs ns:=by
 intro ns;induction ns with
 | nil =>
   intro vs w;rw[List.map_nil] at w;cases w;exact .nil
 | cons n ns j =>
   intro vs w;rw[Q6] at w;cases w with
   | cons a b =>
     cases a;exact .cons _ _ (j _ b)
def zd {l:OpenLaw}(hn:l.most=some n)
 (j:l.row.toRowW.claim.pre args=true) (I:WellAll P h vals args) :
 ∃a vs ns,vals=[Value.ref a]/\args=[WData.list (ns.map WData.int)]/\h.get? a=some {cls:=.type "list",data:=.seq vs.toArray}/\IntsAre vs ns/\ns.length≤n:=by
 have F:WShape.hasAll [] args [.list .int]=true:=(pre_splitW j).1;have J:l.pre.holds [] {args:=args}=true:=(pre_splitW j).2;obtain⟨d,r,rfl,h1,h2⟩:=hasAllW_cons F;obtain rfl:=hasAllW_nil h2;obtain⟨xs,rfl,h3⟩:=hasW_list h1;obtain⟨ns,rfl⟩:=items_int h3;have z:ns.length≤n:=by
  have h4:(WTm.not (.lt (.lit (.int (n:Int))) (.len (.arg 0)))).holds [] {args:=[.list (ns.map .int)]}=true:=by
   have h4:=(holds_andW J).1;rw[hn] at h4;exact h4
  have B:=condW_of h4 (w_not (w_lt w_lit (w_len_list (w_arg rfl))));rw[PK] at B;refine Nat.le_of_not_lt λq=>?_;first
   |(rw[decide_eq_true q'] at B;exact absurd B `d)
   |(simp at B;omega)
 cases I with
 | cons L w2 =>
   cases w2;cases L with
   |list ho y=>exact{_,_,ns,rfl,rfl,ho,oX ns _ y,z}
def zq (l:OpenLaw)(args:List WData):l.row.toRowW.claim.post args (.bool true) args=true:=
 postW_of
  (show WShape.has [] (.bool true) .bool=true by first|rfl|decide|simp[WShape.has,WShape.arms,WShape.armsAll])
  (w_eq_bool (w_res rfl) w_lit) rfl
def attach_call {l:OpenLaw}
 (hn:l.most=some n) (L:d.params.defaults=[])
 (call:∀(w:Qz) (s₀ j:PX) (mg R:Str->Option PL) (fa:Addr) (o:Obj) (pm cd y:PL) (a:Addr) (vs:List PL) (ns:List Int),
  Ground q loose [] XP w s₀ mg R j.heap->YP w j.heap->
  j.heap.get? fa=some o->o.data=.func (docDef d.name d.params d.body d.scope pm cd y)->j.heap.CodeRec cd d.name->mg d.name=some (.ref fa)->
  j.heap.get? a=some {cls:=.type "list",data:=.seq vs.toArray}->IntsAre vs ns->ns.length≤n->j.gens=#[]->
  codeAny (model l.prog w) callerA (.call (.ref fa) {[.ref a],[]}) (λr s'=>r=.ok (.ret (.bool true))/\OldK j.heap s'.heap/\s'.os=j.os/\AllBare s'.gens) j) :
 WalkO q loose XP YP l.row.toRowW d [] (λf vs=>PySem.call f vs):=by
 intro w s₀ j mg R G Y fa o pm cd y dV kV ho hd J U M hg S vals as I W hrd O hlo;obtain rfl:dV=.none:=Dflts.none U L;obtain rfl:kV=.none:=Dflts.noKw U;obtain⟨a,vs,ns,rfl,rfl,F,z,B⟩:=zd hn I O;refine enter_call (codeAny_mono (call w s₀ j mg R fa o pm cd y a vs ns G Y ho (fd_plain hd) J M F z B hg) λr s' hq=>?_);obtain⟨rfl,h2,h3,h4⟩:=hq;exact{.inl {.bool true,.bool true,[],rfl,λ_=>rfl,.bool true,zq l _,λ_=>{List.Pairwise.nil,λ_ hm=>(nomatch hm)}},h2,h3,h4}
end Att
namespace L2
open PySem PySem.Spec PyProof.Rows
noncomputable def qB:∀{vs:List PL}{ns:List Int},IntsAre vs ns->Vals (ns.map V.int) vs
 |_,_,.nil=>.nil
 |_,_,.cons n t h=>.cons ⟨t,rfl⟩ (qB h)
def xW (H:Hp):Prop:=∀b,H b=none\/∃o xs,H b=some (.frz o (.lst xs))
def Cj {K:PJ}
 (KX:K.In s₁.heap) (M:s₁.heap.Ns mainGlobals mg) (j:s₁.heap.Ns builtinsNs mb) (hbb:∀x:Str,x≠"__name__"->mb x=bootBuiltins x) (L:s₁.heap.NoLimit) (hg:s₁.gens=#[])
 (Y:s₁.heap.get? a=some {cls:=.type "list",data:=.seq vs.toArray}) (hi:IntsAre vs ns) (hl:ns.length≤sizeLine) (hr:di k callerA)
 (F:∀base:Heap,K.In base->base.Ns mainGlobals mg->lH P w K mg base CX k fa fd [x] sp) (I:∀(s:PX) (u:PL),BindsTo s fd {[u],[]} [(x,u)])
 (hsp:∀H:Hp,xW H->dh K H a (ns.map V.int)->sp [.ref a] H (λv _=>v=.bl true) λ_ _ _=>False)
 (hCX:∀H e s',CX [] H s₁ (λ_ _ _=>False) e s'->False) :
 codeAny (model P w) callerA (.call (.ref fa) {[.ref a],[]}) (λr s'=>r=.ok (.ret (.bool true))/\OldK s₁.heap s'.heap/\s'.os=s₁.os/\AllBare s'.gens) s₁:=by
 have rv:=qB hi;have R:=hi.length;have B:∀H:Hp,xW H->dh K H a (ns.map V.int)->eK P w H s₁.heap->(∀b,H b≠none->b=a)->(H a≠none->K.lookup a=none)->
  codeAny (model P w) callerA (.call (.ref fa) {[.ref a],[]}) (λr s'=>r=.ok (.ret (.bool true))/\OldK s₁.heap s'.heap/\s'.os=s₁.os/\AllBare s'.gens) s₁:=by
  intro H hO hS hok hA hK;have iZ:∀{b:Addr}{o:Obj},s₁.heap.get? b=some o->H b=none->(mf s₁.heap H).get? b=some o:=λe n=>Cz e n;have noA:∀{b:Addr}{o:Obj}{es:Array RE}{U:Nat},s₁.heap.get? b=some o->o.data=.dict es U->H b=none:=λ{b o es U} e d=>by
   cases q:H b with
   |none=>rfl
   | some u =>
     have e':=hA b (by rw[q];simp)
     subst e';rw[Y] at e;cases e;have d':=d;cases d'
  have y:∀{b:Addr}{m:Str->Option PL},s₁.heap.Ns b m->(mf s₁.heap H).Ns b m:=λ{b m} ⟨o,es,U,e,d,r⟩=>{o,es,U,iZ e (noA e d),d,r};have J:=λb o e=>iZ (KX b o e) (by
   cases q:H b with
   |none=>rfl
   | some u =>
     have e':=hA b (by rw[q];simp)
     subst e';rw[hK (by rw[q];simp)] at e;cases e)
  have hM:Mod K mg (mf s₁.heap H):={J,y M,{mb,y j,hbb},let⟨mc,h1,h2⟩:=L;{mc,y h1,h2}}
  have e0:yb P w K mg (mf s₁.heap H) callerA [] s₁ H:={rfl,hM,λb o e=>Gh e,Nat.le_of_eq (Am _ _),trivial,λb j=>absurd (show b∈([]:List Addr) from j) `s,hok,.of_eq hg}
  refine codeAny_mono ((F _ J (y M)).run callerA [] s₁ H {[.ref a],[]} [.ref a] [.ref a] _ _ hr e0 (I s₁ (.ref a)) (.cons rfl .nil) (hsp H hO hS)) λr s' h=>?_;cases r with
  |error e=>exact(hCX H e s' h).elim
  | ok fl =>
    cases fl with
    |next=>exact False.elim h
    |brk=>exact False.elim h
    |cont=>exact False.elim h
    | ret u =>
      obtain⟨v,H',os,bare,un,O,r',q⟩:=h;have q':=q;subst q';obtain rfl:u=Value.bool true:=r';refine{rfl,OldK.of_keep λb o e=>?_,os,bare};cases q:H b with
      |none=>exact un.keep b o e q (by intro z;exact absurd (show b∈([]:List Addr) from z) `s) `s
      | some u =>
        rcases hO b with z|⟨ob,xs,z⟩
        ·rw[q] at z;cases z
        ·have z2:=un.frzs b ob _ z;obtain⟨e1,_⟩:=hok b _ z;obtain⟨e2,_⟩:=O b _ z2;rw[e] at e1;cases e1;exact e2
 cases hk:K.lookup a with
 | some o =>
   have e:=KX a o hk;rw[Y] at e;cases e;refine B (λ_=>none) (λ_=>.inl rfl) (.inr {_,vs.toArray,_,hk,rfl,rfl,rfl,by rw[P7,R];exact hl,by simpa using rv}) (λb u z=>by have S:=z;cases S) (λb z=>absurd rfl z) λz=>absurd rfl z
 | none =>
   refine B (λb=>if b=a then some (.frz {cls:=.type "list",data:=.seq vs.toArray} (.lst (ns.map V.int))) else none) (λb=>?_) (.inl (.inr {{cls:=.type "list",data:=.seq vs.toArray},if_pos rfl})) (λb u z=>?_) (λb z=>?_) λ_=>hk
   ·by_cases j:b=a
    ·exact .inr {_,_,if_pos j}
    ·exact .inl (if_neg j)
   ·by_cases j:b=a
    ·have S:=(if_pos j).symm.trans z;cases S;subst j;exact{Y,by rw[PK];exact hl,vs,_,rv,Y}
    ·have S:=(if_neg j).symm.trans z;cases S
   ·by_cases j:b=a
    ·exact j
    ·exact absurd (if_neg j) z
def E3 {l:PySem.W.OpenLaw}{K:RF->PJ}{CX:Qz->uQ}{sp:Qz->Sp}
 (hn:l.most=some n) (M:n≤sizeLine) (J:d.params.defaults=[]) (hr:di k callerA)
 (hY:∀(w:Qz) (h:Heap),YP w h->(K w.params).In h)
 (F:∀(w:Qz) (mg:Str->Option PL) (fa:Addr) (h:Heap),(K w.params).In h->h.Ns mainGlobals mg->mg d.name=some (.ref fa)->
  ∃fd:FuncData,(∀(s:PX) (u:PL),BindsTo s fd {[u],[]} [(x,u)])/\
   ∀base:Heap,(K w.params).In base->base.Ns mainGlobals mg->lH l.prog w (K w.params) mg base (CX w) k fa fd [x] (sp w))
 (O:∀(w:Qz) (H:Hp) (a:Addr) (ns:List Int),ns.length≤n->xW H->dh (K w.params) H a (ns.map V.int)->sp w [.ref a] H (λv _=>v=.bl true) λ_ _ _=>False)
 (I:∀(w:Qz) (H:Hp) (s:PX) (e:PL) (s':PX),CX w [] H s (λ_ _ _=>False) e s'->False) :
 PySem.W.WalkO q loose XP YP l.row.toRowW d [] (λf vs=>PySem.call f vs):=by
 refine Att.attach_call hn J λw s₀ B mg mb fa o pm cd S a vs ns G Y ho hd hcd L z y j hg=>?_;have R:=hY w _ Y;obtain⟨fd,hb,U⟩:=F w mg fa _ R G.T.g L;exact Cj R G.T.g G.T.b G.T.builtins G.T.nolimit hg z y (Qf j M) hr U hb (λH hO hS=>O w H a ns j hO hS) λH e s'=>I w H B e s'
noncomputable def fj (s:Stmt):Arguments:=match s with
 |.FunctionDef _ a _ _ _ _ _ _ _ _=>a
 |_=>{posonlyargs:=[],args:=[],vararg:=none,kwonlyargs:=[],kw_defaults:=[],kwarg:=none,defaults:=[]}
noncomputable def c6 (s:Stmt):List Stmt:=match s with
 |.FunctionDef _ _ b _ _ _ _ _ _ _=>b
 |_=>[]
noncomputable def bc (s:Stmt):Scope:=match s with
 |.FunctionDef _ _ _ _ _ _ sc _ _ _=>sc
 |_=>{kind:=.function,names:=[],isGenerator:=false,isCoroutine:=false}
abbrev E0:XK:=λ_ _ _=>False
structure wA (K:PJ) (x qual:Str) (st:Stmt) (f:Addr) (fd:FuncData):Prop where
 ex:∃(oc:PL) (od:Option Addr) (kV doc pm:PL) (an:Option Addr) (cdv ct:PL) (osl:Array (Option PL)),
  fd=PySem.W.fnOf x qual (fj st) (c6 st) (bc st) .none kV doc pm an cdv ct/\K.lookup f=some {oc,od,.func fd,osl}/\PySem.W.codeIn K cdv qual=true
 kp:PySem.W.keepIn K (.ref f)=true
section
variable{P:QF}{w:Qz}{K:PJ}{mg:Str->Option PL}{base:Heap}
def J5 {x qual:Str}{st:Stmt}{f:Addr}{oc:PL}{od B:Option Addr}{z:Array (Option PL)}{kV y pm j ct:PL}(l:K.lookup f=some {oc,od,.func (PySem.W.fnOf x qual (fj st) (c6 st) (bc st) .none kV y pm B j ct),z})
 (c:PySem.W.codeIn K j qual=true) (k:PySem.W.keepIn K (.ref f)=true):wA K x qual st f (PySem.W.fnOf x qual (fj st) (c6 st) (bc st) .none kV y pm B j ct):={⟨oc,od,kV,y,pm,B,j,ct,z,rfl,l,c⟩,k}
end
end L2
namespace LD
open PySem
inductive D where
 |non|bl (b:Bool)|int (i:Int)|str (x:Str)|tup (ds:List D)|lst (ds:List D)|frz (ds:List D)|cell (k:Nat)|fn (f:Nat)|exc (c:Nat) (p:Option Int)
 deriving Inhabited
abbrev Mem:=List (List D)
abbrev Env:=List (Option D)
inductive Res (α:Type) where
 |ok (a:α) (M:Mem)
 |err (x:D) (M:Mem)
 |bad
noncomputable def Res.bind {h j:Type}(r:Res h)(f:h->Mem->Res j):Res j:=match r with
 |.ok a M=>f a M
 |.err x M=>.err x M
 |.bad=>.bad
@[simp] theorem Res.bind_ok {h j:Type}(a:h)(M:Mem)(f:h->Mem->Res j):(Res.ok a M).bind f=f a M:=rfl
@[simp] theorem Res.bind_err {h j:Type}(x:D)(M:Mem)(f:h->Mem->Res j):(Res.err x M:Res h).bind f=.err x M:=rfl
@[simp] theorem Res.bind_bad {h j:Type}(f:h->Mem->Res j):(Res.bad:Res h).bind f=.bad:=rfl
inductive nI where
 |add|sub|mul|fdiv|mod|pow
 deriving DecidableEq
inductive jq where
 |eq|ne|lt|le|gt|ge|isN|notN|isin|notin
 deriving DecidableEq
inductive Ty where
 |int|bool|str|tuple|list|own (c:Str)
 deriving DecidableEq
inductive wD where
 |len|tuple|list (m:Bool)|listR (m:Bool)|all|sum|repr
 deriving DecidableEq
inductive fN where
 |one (i:Nat)
 |tup (l:List Nat)
 |two (i:Nat) (l:List Nat)
noncomputable def sz:Nat:=16777216
noncomputable def bb (m:Bool)(ds:List D)(M:Mem):Res D:=if ds.length≤sz then(if m then .ok (.cell M.length) (M++[ds]) else .ok (.lst ds) M) else .bad
noncomputable def kL (ds:List D)(M:Mem):Res D:=if ds.length≤sz then .ok (.tup ds) M else .bad
noncomputable def bU (M:Mem):D->Option (List D)
 |.lst h=>some h
 |.tup h=>some h
 |.frz h=>some h
 |.cell k=>M[k]?
 |_=>none
noncomputable def eP (M:Mem):D->Option (List D)
 |.lst h=>some h
 |.frz h=>some h
 |.cell k=>M[k]?
 |_=>none
noncomputable def fy (M:Mem):D->Option (List D)
 |.lst h=>some h
 |.cell k=>M[k]?
 |_=>none
noncomputable def ak:Nat->D->Bool
 |_,.non=>true
 |_,.bl _=>true
 |_,.int _=>true
 |_,.str x=>x.cps.all (· < 0x110000)
 |n+1,.tup h=>h.all (ak n)
 |n+1,.lst h=>h.all (ak n)
 |0,.tup _=>false
 |0,.lst _=>false
 |_,.frz _=>false
 |_,.cell _=>false
 |_,.fn _=>false
 |_,.exc _ _=>false
mutual
noncomputable def bW:D->D->Bool
 |.non,.non=>true
 |.bl a,.bl b=>a==b
 |.bl a,.int b=>(if a then 1 else 0)==b
 |.int a,.bl b=>a==(if b then 1 else 0)
 |.int a,.int b=>a==b
 |.str a,.str b=>a==b
 |.tup a,.tup b=>dA a b
 |.lst a,.lst b=>dA a b
 |_,_=>false
noncomputable def dA:List D->List D->Bool
 |[],[]=>true
 |a::r,b::t=>bW a b&&dA r t
 |[],_::_=>false
 |_::_,[]=>false
end
noncomputable def g4:D->Bool
 |.str _=>true
 |_=>false
def lK (a b:D):Option Bool:=if g4 a&&g4 b||ak 64 a&&ak 64 b then some (bW a b) else none
noncomputable def view (M:Mem):D->D
 | .cell k => match M[k]? with
   |some h=>.lst h
   |none=>.cell k
 |.frz h=>.lst h
 |d=>d
noncomputable def bE:Nat->Mem->D->D
 |0,_,d=>d
 | n + 1, M, .cell k => match M[k]? with
   |some h=>.lst (h.map (bE n M))
   |none=>.cell k
 |n+1,M,.frz h=>.lst (h.map (bE n M))
 |n+1,M,.lst h=>.lst (h.map (bE n M))
 |n+1,M,.tup h=>.tup (h.map (bE n M))
 |_+1,_,d=>d
def jI (M:Mem)(a b:D):Option Bool:=match lK (view M a) (view M b) with
 |some r=>some r
 |none=>lK (bE 64 M a) (bE 64 M b)
def jQ (M:Mem):D->Option Bool
 |.non=>some false
 |.bl b=>some b
 |.int i=>some (i != 0)
 |.str x=>if x.cps.size≤sz then some (x.cps.size != 0) else none
 |.tup ds=>some (!ds.isEmpty)
 |.lst ds=>some (!ds.isEmpty)
 |.frz ds=>some (!ds.isEmpty)
 |.cell k=>(M[k]?).map λds=>!ds.isEmpty
 |.fn _=>none
 |.exc _ _=>none
def cg (n:Nat)(i:Int):Option Nat:=if 0≤i then(if i<n then some i.toNat else none) else if -(n:Int)≤i then some (i+n).toNat else none
def fO (m:Bool)(o:nI)(a b:D)(M:Mem):Res D:=match o,a,b with
 |.add,.int i,.int j=>.ok (.int (i+j)) M
 |.add,.str x,.str y=>if x.cps.size+y.cps.size≤sz then .ok (.str {x.cps++y.cps}) M else .bad
 |.add,.tup x,.tup y=>kL (x++y) M
 | .add, a, b => match fy M a, fy M b with
   |some x,some y=>bb m (x++y) M
   |_,_=>.bad
 |.sub,.int i,.int j=>.ok (.int (i-j)) M
 |.mul,.int i,.int j=>if (-(2^64)<i/\i<2^64)\/(-(2^64)<j/\j<2^64) then .ok (.int (i*j)) M else .bad
 |.mul,.tup x,.int j=>if x.length*j.toNat≤sz/\-(2^63)≤j/\j<2^63 then .ok (.tup (List.replicate j.toNat x).flatten) M else .bad
 | .mul, a, .int j => match fy M a with
   |some x=>if x.length*j.toNat≤sz/\-(2^63)≤j/\j<2^63 then bb m (List.replicate j.toNat x).flatten M else .bad
   |none=>.bad
 |.fdiv,.int i,.int j=>if 0<j/\j<1073741824 then .ok (.int (i / j)) M else .bad
 |.mod,.int i,.int j=>if 0<j then .ok (.int (i % j)) M else .bad
 |.pow,.int i,.int j=>if 0≤j/\j≤1000000/\i.natAbs<2^64 then .ok (.int (i^j.toNat)) M else .bad
 |_,_,_=>.bad
def oY (x:D)(ds:List D):Option Bool:=if ak 64 x&&ds.all (ak 63) then some (ds.any λy=>bW y x) else none
noncomputable def yI (x y:Str):Bool:=!(Builtin.Str.occurrences y x 0 y.length 1).isEmpty
noncomputable def intsOf:List D->Option (List Int)
 |[]=>some []
 |.int b::r=>(intsOf r).map (b::·)
 |_=>none
def l9:D->Option (List Int)
 |.tup h=>intsOf h
 |_=>none
noncomputable def jz:List D->Option (List (List Int))
 |[]=>some []
 |d::r=>(l9 d).bind λk=>(jz r).map (k::·)
def qa:D->Option (List (List Int))
 |.tup h=>jz h
 |_=>none
def isKey (c:Int)(d:D):Bool:=if c=77 then(l9 d).isSome else if c=78 then(qa d).isSome else false
def cS (M:Mem)(o:Nat):Option (Int×List D):=if 5000≤o then(match M[o-5000]? with
 |some (.int c::es)=>if c=77\/c=78 then some (c,es) else none
 |_=>none) else none
noncomputable def xy:D->D
 |.tup [k,_]=>k
 |d=>d
noncomputable def O0:D->D
 |.tup [_,v]=>v
 |d=>d
def cV (es:List D)(k:D):Option D:=(es.find? λe=>bW (xy e) k).map O0
def putD (es:List D)(k v:D):List D:=if (cV es k).isSome then es.map (λe=>if bW (xy e) k then .tup [xy e,v] else e) else es++[.tup [k,v]]
def inD (M:Mem)(o:Nat)(k:D):Option Bool:=(cS M o).bind λq=>if isKey q.1 k then some (cV q.2 k).isSome else none
def getD (M:Mem)(o:Nat)(k:D):Option D:=(cS M o).bind λq=>if isKey q.1 k then cV q.2 k else none
noncomputable def rW:D->Bool
 |.non=>true
 |_=>false
def bq (o:jq)(a b:D)(M:Mem):Option Bool:=match o,a,b with
 |.eq,a,b=>jI M a b
 |.ne,a,b=>(jI M a b).map (!·)
 |.lt,.int i,.int j=>some (decide (i<j))
 |.le,.int i,.int j=>some (decide (i≤j))
 |.gt,.int i,.int j=>some (decide (j<i))
 |.ge,.int i,.int j=>some (decide (j≤i))
 |.isN,a,.non=>some (rW a)
 |.notN,a,.non=>some (!rW a)
 |.isin,.str x,.str y=>some (yI x y)
 |.notin,.str x,.str y=>some (!yI x y)
 |.isin,a,b=>(bU M b).bind (oY (view M a))
 |.notin,a,b=>((bU M b).bind (oY (view M a))).map (!·)
 |_,_,_=>none
def b9 (a i:D)(M:Mem):Option D:=match a,i with
 |.str x,.int i=>if x.cps.size≤sz then(cg x.cps.size i).bind λj=>(x.cps[j]?).map λc=>.str {#[c]} else none
 |a,.int i=>(bU M a).bind λh=>(cg h.length i).bind λj=>h[j]?
 |_,_=>none
noncomputable def aQ (n d:Nat):D->Option Nat
 |.non=>some d
 |.int v=>some (if v<0 then(v+(n:Int)).toNat else min v.toNat n)
 |_=>none
noncomputable def eQ:Bool->D->Bool
 |true,.int _=>true
 |false,.non=>true
 |_,_=>false
noncomputable def cut {h:Type}(xs:List h)(lo hi:Nat):List h:=(xs.drop lo).take (hi-lo)
def cZ (m:Bool)(a lo hi:D)(M:Mem):Res D:=match a with
 | .tup xs => match aQ xs.length 0 lo, aQ xs.length xs.length hi with
   |some l,some h=>.ok (.tup (cut xs l h)) M
   |_,_=>.bad
 | a => match eP M a with
   | some xs => match aQ xs.length 0 lo, aQ xs.length xs.length hi with
     |some l,some h=>bb m (cut xs l h) M
     |_,_=>.bad
   |none=>.bad
def gP (t:Ty):D->Option Bool
 |.non=>some false
 |.bl _=>some (t==.bool||t==.int)
 |.int _=>some (t==.int)
 |.str _=>some (t==.str)
 |.tup _=>some (t==.tuple)
 |.lst _=>some (t==.list)
 |.frz _=>some (t==.list)
 |.cell _=>some (t==.list)
 |.fn _=>none
 |.exc _ _=>none
noncomputable def boolsOf:List D->Option (List Bool)
 |[]=>some []
 |.bl b::r=>(boolsOf r).map (b::·)
 |_=>none
def dP (f:wD)(ds:List D)(M:Mem):Res D:=match f,ds with
 |.len,[.str x]=>if x.cps.size≤sz then .ok (.int x.cps.size) M else .bad
 | .len, [d] => match bU M d with
   |some xs=>.ok (.int xs.length) M
   |none=>.bad
 |.tuple,[.tup xs]=>.ok (.tup xs) M
 | .tuple, [d] => match eP M d with
   |some xs=>.ok (.tup xs) M
   |none=>.bad
 | .list m, [d] => match bU M d with
   |some xs=>bb m xs M
   |none=>.bad
 |.listR m,[.int n]=>if n<2^20 then bb m ((List.range n.toNat).map λ(k:Nat)=>D.int (k:Int)) M else .bad
 | .all, [d] => match eP M d with
   | some xs => match boolsOf xs with
     |some bs=>.ok (.bl (bs.all id)) M
     |none=>.bad
   |none=>.bad
 | .sum, [d] => match eP M d with
   | some xs => match intsOf xs with
     |some is=>.ok (.int is.sum) M
     |none=>.bad
   |none=>.bad
 |_,_=>.bad
noncomputable def cf:List Nat->List D->Env->Option Env
 |[],[],h=>some h
 |i::l,d::ds,h=>cf l ds (h.set i (some d))
 |_,_,_=>none
def b6 (t:fN)(d:D)(ρ:Env):Option Env:=match t,d with
 |.one i,d=>some (ρ.set i (some d))
 |.tup l,.tup h=>cf l h ρ
 |.two i l,.tup [d,.tup h]=>cf l h (ρ.set i (some d))
 |.tup _,_=>none
 |.two _ _,_=>none
abbrev Walk:=Mem->Option (List D)
noncomputable def eA:Nat->List D->List D
 |_,[]=>[]
 |k,d::r=>.tup [.int k,d]::eA (k+1) r
noncomputable def iy:List D->List D->List D
 |a::r,b::t=>.tup [a,b]::iy r t
 |_,_=>[]
noncomputable def C7:List D->List D->List D->List D
 |a::r,b::t,c::q=>.tup [a,b,c]::C7 r t q
 |_,_,_=>[]
noncomputable def f7 {h:Type}(f:h->D->Mem->Res h)(w:Walk):Nat->Nat->h->Mem->Res h
 |0,_,_,_=>.bad
 | n + 1, i, a, M => match w M with
   |none=>.bad
   | some j => match j[i]? with
     |none=>.ok a M
     |some d=>(f a d M).bind (f7 f w n (i+1))
def cT {h:Type}(f:h->D->Mem->Res h)(w:Walk)(a:h)(M:Mem):Res h:=f7 f w (((w M).getD []).length+1) 0 a M
noncomputable def bX {h:Type}(M:Mem):Option h->Res h
 |some a=>.ok a M
 |none=>.bad
@[simp] theorem B6 {h:Type}(M:Mem)(a:h):bX M (some a)=.ok a M:=rfl
@[simp] theorem Ol {h:Type}(M:Mem):(bX M none:Res h)=.bad:=rfl
inductive Fl where
 |next (ρ:Env)
 |ret (d:D)
 |exc (x:D) (ρ:Env)
def Nc {a b:Int}:bW (.int a) (.int b)=(a==b):=rfl
end LD
namespace LD
open PySem PySem.Spec PyProof.Rows L2
structure Mu where
 pub:Nat->Option Addr
 priv:List Addr
 ob:Nat->Option Addr
def Mu.Mt (μ:Mu)(a:Addr):Prop:=(∃k,μ.pub k=some a)\/a∈μ.priv
abbrev Fa:=Nat->Option Addr
def KL (K:PJ)(a:Addr)(xs:List V):Prop:=
 ∃(o:Obj) (h:Array PL) (n:Nat),K.lookup a=some o/\o.cls=.type "list"/\o.dict=none/\o.data=.seq h n/\h.size≤sizeLine/\Vals xs h.toList
def XAt (C:Addr)(u:Option Addr)(a:Addr)(h:Heap):Prop:=∃o j,h.get? a=some o/\o.cls=.ref C/\o.dict=u/\o.data=.fields j/\1<j.size
noncomputable def A5 (c:Nat):Str:=if c=1 then "number" else "place"
def uL (H:Hp)(c:Nat)(h:Option Addr):Option Int->Prop
 |none=>h=none
 |some i=>∃d,h=some d/\H d=some (.xd [(A5 c,.int i)])
def fY (c:Nat):Nat:=1000+c
def jx (c:Nat):Nat:=900+c
section
variable(fa:Fa)(K:PJ)(μ:Mu)(H:Hp)
mutual
noncomputable def Rep:D->V->Prop
 |.non,v=>v=.non
 |.bl b,v=>v=.bl b
 |.int i,v=>v=.int i
 |.str x,v=>v=.str x
 |.tup j,v=>∃a h,v=.ref a/\dS K H a h/\aL j h
 |.lst j,v=>∃a h,v=.ref a/\(H a=some (.lst h)/\¬ μ.Mt a)/\aL j h
 |.frz j,v=>∃a h,v=.ref a/\((∃ob,H a=some (.frz ob (.lst h)))\/KL K a h)/\aL j h
 |.cell k,v=>∃a,v=.ref a/\μ.pub k=some a
 |.fn f,v=>∃a,v=.ref a/\(fa f=some a\/(fa f=none/\μ.ob f=some a))
 |.exc c p,v=>∃a C u,v=.ref a/\fa (fY c)=some C/\H a=some (.ext (XAt C u a))/\uL H c u p
noncomputable def aL:List D->List V->Prop
 |[],h=>h=[]
 |d::ds,h=>∃v r,h=v::r/\Rep d v/\aL ds r
end
end
def IsX (o:HO):Prop:=(∃h,o=.ext h)\/∃fs,o=.xd fs
structure ExtW (μ:Mu) (H:Hp) (μ':Mu) (H':Hp):Prop where
 mu:∀k a,μ.pub k=some a->μ'.pub k=some a
 tups:∀a vs,Rd H a (.tup vs)->Rd H' a (.tup vs)
 lsts:∀a vs,H a=some (.lst vs)->¬ μ.Mt a->H' a=some (.lst vs)/\¬ μ'.Mt a
 frzs:∀a ob u,H a=some (.frz ob u)->H' a=some (.frz ob u)
 exts:∀a o,IsX o->H a=some o->H' a=some o
 obs:∀k a,μ.ob k=some a->μ'.ob k=some a
structure Ext (μ:Mu) (H:Hp) (μ':Mu) (H':Hp):Prop extends ExtW μ H μ' H' where
 pr:μ'.priv=μ.priv
 pk:∀a∈μ.priv,H' a=H a
def ExtW.refl:ExtW μ H μ H:={λ_ _ h=>h,λ_ _ h=>h,λ_ _ h n=>⟨h,n⟩,λ_ _ _ h=>h,λ_ _ _ h=>h,λ_ _ h=>h}
def ExtW.trans (a:ExtW μ H μ1 H1)(b:ExtW μ1 H1 μ2 H2):ExtW μ H μ2 H2:=
 {λk x h=>b.mu k x (a.mu k x h),λx j h=>b.tups x j (a.tups x j h),λx j h n=>b.lsts x j (a.lsts x j h n).1 (a.lsts x j h n).2,λx ob u h=>b.frzs x ob u (a.frzs x ob u h),λx o i h=>b.exts x o i (a.exts x o i h),λk x h=>b.obs k x (a.obs k x h)}
def Ext.refl:Ext μ H μ H:={.refl,rfl,λ_ _=>rfl}
def Ext.trans (a:Ext μ H μ1 H1)(b:Ext μ1 H1 μ2 H2):Ext μ H μ2 H2:=
 {a.toExtW.trans b.toExtW,b.pr.trans a.pr,λx h=>(b.pk x (by rw[a.pr];exact h)).trans (a.pk x h)}
section
variable{fa:Fa}{K:PJ}{μ μ':Mu}{H H':Hp}
def ExtW.sqT (x:ExtW μ H μ' H')(h:dS K H a vs):dS K H' a vs:=h.elim (λz=>.inl (x.tups a vs z)) .inr
mutual
theorem Rep.extW (x:ExtW μ H μ' H'):∀{d:D}{v:V},Rep fa K μ H d v->Rep fa K μ' H' d v
 |.non,v,h=>h
 |.bl b,v,h=>h
 |.int i,v,h=>h
 |.str y,v,h=>h
 | .tup u, v, h => by
   obtain⟨a,j,e,s,r⟩:=h;exact{a,j,e,x.sqT s,aL.extW x r}
 | .lst u, v, h => by
   obtain⟨a,j,e,s,r⟩:=h;exact{a,j,e,x.lsts a j s.1 s.2,aL.extW x r}
 | .frz u, v, h => by
   obtain⟨a,j,e,s,r⟩:=h;exact{a,j,e,s.elim (λ⟨ob,z⟩=>.inl {ob,x.frzs a ob _ z}) .inr,aL.extW x r}
 | .cell k, v, h => by
   obtain⟨a,e,m⟩:=h;exact{a,e,x.mu k a m}
 | .fn f, v, h => by
   obtain⟨a,e,m⟩:=h;exact{a,e,m.imp id λz=>{z.1,x.obs _ _ z.2}}
 | .exc c p, v, h => by
   obtain⟨a,C,B,e,f,g,n⟩:=h;refine{a,C,B,e,f,x.exts _ _ (.inl {_,rfl}) g,?_};cases p with
   |none=>exact n
   |some i=>exact let⟨d,h1,h2⟩:=n;{d,h1,x.exts _ _ (.inr {_,rfl}) h2}
theorem aL.extW (x:ExtW μ H μ' H'):∀{ds:List D}{vs:List V},aL fa K μ H ds vs->aL fa K μ' H' ds vs
 |[],vs,h=>h
 | d :: ds, vs, h => by
   obtain⟨v,r,e,p,q⟩:=h;exact{v,r,e,Rep.extW x p,aL.extW x q}
end
def Rep.ext (x:Ext μ H μ' H')(h:Rep fa K μ H d v):Rep fa K μ' H' d v:=Rep.extW x.toExtW h
def aL.ext (x:Ext μ H μ' H')(h:aL fa K μ H d v):aL fa K μ' H' d v:=aL.extW x.toExtW h
noncomputable def aL.length:∀{ds:List D}{vs:List V},aL fa K μ H ds vs->vs.length=ds.length
 | [], vs, h => by
   subst h;rfl
 | d :: ds, vs, h => by
   obtain⟨v,r,e,p,q⟩:=h;subst e;simp[aL.length q]
theorem aL.get:∀{ds:List D}{vs:List V}{i:Nat}{d:D},aL fa K μ H ds vs->ds[i]?=some d->∃v,vs[i]?=some v/\Rep fa K μ H d v
 |[],_,_,_,_,e=>by simp at e
 | d :: ds, vs, 0, j, h, e => by
   obtain⟨v,r,rfl,p,q⟩:=h;simp at e;subst e;exact⟨v,rfl,p⟩
 | d :: ds, vs, i + 1, j, h, e => by
   obtain⟨v,r,rfl,p,q⟩:=h;obtain⟨u,h1,h2⟩:=aL.get q (by simpa using e)
   exact{u,by simpa using h1,h2}
def aL.getV:∀{ds:List D}{vs:List V}{i:Nat}{v:V},aL fa K μ H ds vs->vs[i]?=some v->∃d,ds[i]?=some d/\Rep fa K μ H d v:=by
 intro ds vs i v h e;have hl:=h.length;have j:i<vs.length:=(PH.mp e).1;obtain⟨d,hd⟩:∃d,ds[i]?=some d:={ds[i]'(`a),`s}
 obtain⟨u,h1,h2⟩:=h.get hd;rw[e] at h1;cases h1;exact⟨d,hd,h2⟩
theorem aL.append:∀{ds es:List D}{vs ws:List V},aL fa K μ H ds vs->aL fa K μ H es ws->aL fa K μ H (ds++es) (vs++ws)
 | [], _, vs, _, h, g => by
   subst h;exact g
 | d :: ds, es, vs, ws, h, g => by
   obtain⟨v,r,rfl,p,q⟩:=h;exact{v,r++ws,rfl,p,aL.append q g}
def aL.one (h:Rep fa K μ H d v):aL fa K μ H [d] [v]:={v,[],rfl,h,rfl}
noncomputable def aL.drop:∀(n:Nat) {ds:List D}{vs:List V},aL fa K μ H ds vs->aL fa K μ H (ds.drop n) (vs.drop n)
 |0,_,_,h=>h
 | n + 1, [], vs, h => by
   subst h;exact rfl
 | n + 1, d :: ds, vs, h => by
   obtain⟨v,r,rfl,p,q⟩:=h;exact aL.drop n q
theorem aL.take:∀(n:Nat) {ds:List D}{vs:List V},aL fa K μ H ds vs->aL fa K μ H (ds.take n) (vs.take n)
 |0,_,_,h=>rfl
 | n + 1, [], vs, h => by
   subst h;exact rfl
 | n + 1, d :: ds, vs, h => by
   obtain⟨v,r,rfl,p,q⟩:=h;exact{v,r.take n,rfl,p,aL.take n q}
theorem aL.set:∀(n:Nat) {ds:List D}{vs:List V}{d:D}{v:V},aL fa K μ H ds vs->Rep fa K μ H d v->aL fa K μ H (ds.set n d) (vs.set n v)
 | _, [], vs, _, _, h, _ => by
   subst h;exact rfl
 | 0, d :: ds, vs, _, j, h, g => by
   obtain⟨v,r,rfl,p,q⟩:=h;exact⟨j,r,rfl,g,q⟩
 | n + 1, d :: ds, vs, _, j, h, g => by
   obtain⟨v,r,rfl,p,q⟩:=h;exact{v,r.set n j,rfl,p,aL.set n q g}
noncomputable def aL.rep:∀(n:Nat) {ds:List D}{vs:List V},aL fa K μ H ds vs->aL fa K μ H (List.replicate n ds).flatten (List.replicate n vs).flatten
 |0,_,_,_=>rfl
 | n + 1, ds, vs, h => by
   rw[Rf,Rf,RT,RT];exact h.append (aL.rep n h)
noncomputable def aL.ints:∀(ns:List Int),aL fa K μ H (ns.map D.int) (ns.map V.int)
 |[]=>rfl
 |n::ns=>{.int n,ns.map V.int,rfl,rfl,aL.ints ns}
end
noncomputable def ja:Nat->List Str
 |40=>["machine","standing","earlier"]
 |_=>[]
def aI (k:Nat):Nat:=5000+k
noncomputable def Ez (ks:List Int):Int:=reduceHash (Builtin.Tuple.tupleHashOf (ks.map hashInt))
noncomputable def Mb (h:List (List Int)):Int:=reduceHash (Builtin.Tuple.tupleHashOf (h.map Ez))
def mW (c:Int)(d:D):Option Int:=if c=77 then(l9 d).map Ez else if c=78 then(qa d).map Mb else none
def C5 (fa:Fa)(K:PJ)(μ:Mu)(H:Hp)(c:Int)(p:D×D)(e:RE):Prop:=∃b v,e.key=.ref b/\mW c p.1=some e.hash/\Rep fa K μ H p.1 (.ref b)/\RelV v e.val/\Rep fa K μ H p.2 v
def jn (fa:Fa)(K:PJ)(μ:Mu)(H:Hp)(a:Addr)(ds:List D):Prop:=
 (∃(c:Nat) (C u:Addr) (fs:List (Str×V)) (j:List D),fa (jx c)=some C/\H a=some (.ins C u fs)/\fs.map (·.1)=(ja c).take fs.length/\ds=.int c::j/\aL fa K μ H j (fs.map (·.2)))\/
 ∃(c:Int) (j:List RE) (h:List (D×D)),H a=some (.dn j)/\(c=77\/c=78)/\ds=.int c::h.map (λp=>.tup [p.1,p.2])/\RO (C5 fa K μ H c) h j/\(h.map (·.1)).Nodup
def jn.extW {fa:Fa}{K:PJ}{μ μ':Mu}{H H':Hp}{a:Addr}{ds:List D}(h:jn fa K μ H a ds)(x:ExtW μ H μ' H')(e:H' a=H a):jn fa K μ' H' a ds:=
 h.imp (λ⟨c,C,z,fs,j,h1,h2,h3,h4,u⟩=>{c,C,z,fs,j,h1,e.trans h2,h3,h4,u.extW x})
  λ⟨c,j,y,h1,h2,h3,h4,u⟩=>{c,j,y,e.trans h1,h2,h3,RO.mapP h4 λp q ⟨b,v,e1,e2,B,E,F⟩=>{b,v,e1,e2,B.extW x,E,F.extW x},u}
def jn.hold {fa:Fa}{K:PJ}{μ:Mu}{H:Hp}{a:Addr}{ds:List D}(h:jn fa K μ H a ds):∃o,H a=some o/\(∀vs,o≠.lst vs):=by
 rcases h with⟨_,_,_,_,_,_,h,_⟩|⟨_,_,_,h,_⟩
 ·exact{_,h,λ_ z=>by cases z}
 ·exact{_,h,λ_ z=>by cases z}
def jn.new {fa:Fa}{K:PJ}{μ:Mu}{H:Hp}{a p:Addr}{ds:List D}(h:jn fa K μ H a ds)(j:H p=none):a≠p:=let{_,e,_}:=h.hold;aV e j
def jn.nl {fa:Fa}{K:PJ}{μ:Mu}{H:Hp}{a p:Addr}{ds:List D}{vs:List V}(h:jn fa K μ H a ds)(j:H p=some (.lst vs)):a≠p:=λz=>by
 obtain⟨o,e,n⟩:=h.hold;rw[z,j] at e;cases e;exact n _ rfl
def Nl (fa:Fa)(K:PJ)(μ:Mu)(H:Hp)(k:Nat)(ds:List D):Prop:=
 (∃a h,μ.pub k=some a/\H a=some (.lst h)/\aL fa K μ H ds h)\/∃a,μ.ob (aI k)=some a/\μ.pub k=none/\jn fa K μ H a ds
structure RelM (fa:Fa) (K:PJ) (μ:Mu) (H:Hp) (M:Mem):Prop where
 at':∀(k:Nat) (ds:List D),M[k]?=some ds->Nl fa K μ H k ds
 out:∀(k:Nat),M.length≤k->μ.pub k=none
 oout:∀(k:Nat),M.length≤k->μ.ob (aI k)=none
 inj:∀j k a,μ.pub j=some a->μ.pub k=some a->j=k
 oinj:∀j k a,μ.ob (aI j)=some a->μ.ob (aI k)=some a->j=k
 sep:∀k a,μ.pub k=some a->μ.ob (aI k)=none
 pv:∀a∈μ.priv,(∃vs,H a=some (.lst vs))/\∀k,μ.pub k≠some a
structure bw (fa:Fa) (K:PJ) (μ:Mu) (H:Hp) (σ:L2.St) (ρ:Env):Prop where
 len:σ.length=ρ.length
 at':∀(i:Nat) (d:D),ρ[i]?=some (some d)->∃v,σ[i]?=some (some v)/\Rep fa K μ H d v
section
variable{fa:Fa}{K:PJ}{μ μ':Mu}{H H':Hp}{σ:L2.St}{ρ:Env}{M:Mem}
def bw.ext (h:bw fa K μ H σ ρ)(x:Ext μ H μ' H'):bw fa K μ' H' σ ρ:=
 {h.len,λi d e=>let⟨v,h1,h2⟩:=h.at' i d e;{v,h1,h2.ext x}}
def bw.set (h:bw fa K μ H σ ρ){i:Nat}{d:D}{v:V}(r:Rep fa K μ H d v):bw fa K μ H (σ.set i (some v)) (ρ.set i (some d)):=by
 refine{by simp[h.len],λj z e=>?_}
 by_cases y:j=i
 ·subst y;have hl:j<ρ.length:=by
   have:=(PH.mp e).1;simpa using this
  rw[Qj hl] at e;cases e;exact{v,Qj (by rw[h.len];exact hl),r}
 ·rw[PN (Q0 y)] at e;obtain⟨u,h1,h2⟩:=h.at' j z e;exact{u,by rw[PN (Q0 y)];exact h1,h2}
def bw.extW (h:bw fa K μ H σ ρ)(x:ExtW μ H μ' H'):bw fa K μ' H' σ ρ:=
 {h.len,λi d e=>let⟨v,h1,h2⟩:=h.at' i d e;{v,h1,h2.extW x}}
def RelM.mu_lt (h:RelM fa K μ H M)(e:μ.pub k=some a):∃ds vs,M[k]?=some ds/\H a=some (.lst vs)/\aL fa K μ H ds vs:=by
 by_cases hk:k<M.length
 ·rcases h.at' k M[k] (by simp[hk]) with⟨j,vs,h1,h2,h3⟩|⟨_,_,z,_⟩
  ·rw[e] at h1;cases h1;exact{_,vs,by simp[hk],h2,h3}
  ·rw[e] at z;cases z
 ·rw[h.out k `a] at e;cases e
def RelM.at_ (h:RelM fa K μ H M)(e:M[k]?=some ds)(p:μ.pub k=some a):∃vs,H a=some (.lst vs)/\aL fa K μ H ds vs:=by
 obtain⟨j,vs,h1,h2,h3⟩:=h.mu_lt p;rw[e] at h1;cases h1;exact⟨vs,h2,h3⟩
def RelM.fresh (h:RelM fa K μ H M)(j:H p=none):¬ μ.Mt p:=λe=>by
 rcases e with⟨k,e⟩|e
 ·obtain⟨v,u,_,h2,_⟩:=h.mu_lt e;rw[j] at h2;cases h2
 ·obtain⟨⟨u,h2⟩,_⟩:=h.pv p e;rw[j] at h2;cases h2
def RelM.pne (h:RelM fa K μ H M)(u:H p=none)(j:a∈μ.priv):a≠p:=λe=>by
 obtain⟨⟨v,h2⟩,_⟩:=h.pv a j;rw[e,u] at h2;cases h2
def Ext.alloc (h:RelM fa K μ H M)(j:H p=none):Ext μ H μ (upd H p o):=by
 have rd:∀a u,Rd H a u->Rd (upd H p o) a u:=λa u h=>by
  rcases h with h|⟨ob,h⟩
  ·exact .inl (by rw[aF (aV h j)];exact h)
  ·exact .inr {ob,by rw[aF (aV h j)];exact h}
 exact{{λ_ _ h=>h,λa y h=>rd a _ h,λa y h n=>{by rw[aF (aV h j)];exact h,n},λa ob u h=>by rw[aF (aV h j)];exact h,λa o _ h=>by rw[aF (aV h j)];exact h,λ_ _ h=>h},rfl,λa v=>by rw[aF (h.pne j v)]}
def RelM.alloc (h:RelM fa K μ H M)(j:H p=none):RelM fa K μ (upd H p o) M:=
 {λk y e=>(h.at' k y e).imp (λ⟨a,v,h1,h2,h3⟩=>{a,v,h1,by rw[aF (aV h2 j)];exact h2,h3.ext (Ext.alloc h j)}) λ⟨a,h1,h2,h3⟩=>{a,h1,h2,h3.extW (Ext.alloc h j).toExtW (aF (h3.new j))},h.out,h.oout,h.inj,h.oinj,h.sep,λa u=>{let{⟨v,e⟩,_}:=h.pv a u;{v,by rw[aF (h.pne j u)];exact e},(h.pv a u).2}}
noncomputable def fJ (μ:Mu)(n:Nat)(p:Addr):Mu:={λk=>if k=n then some p else μ.pub k,μ.priv,μ.ob}
set_option tactic.hygienic true in
def Ext.cell (h:RelM fa K μ H M)(j:H p=none):Ext μ H (fJ μ M.length p) (upd H p o):=by
 have rd:∀a u,Rd H a u->Rd (upd H p o) a u:=λa u h=>by
  rcases h with h|⟨ob,h⟩
  ·exact .inl (by rw[aF (aV h j)];exact h)
  ·exact .inr {ob,by rw[aF (aV h j)];exact h}
 refine{{λk a e=>?_,λa y g=>rd a _ g,λa y g n=>{by rw[aF (aV g j)];exact g,λe=>?_},λa ob u h=>by rw[aF (aV h j)];exact h,λa o _ h=>by rw[aF (aV h j)];exact h,λ_ _ h=>h},rfl,λa v=>by rw[aF (h.pne j v)]}
 ·show(if k=M.length then some p else μ.pub k)=some a;split
  ·next q=>rw[q,h.out _ (PV _)] at e;cases e
  ·exact e
 ·rcases e with⟨k,e⟩|e
  ·have e:(if k=M.length then some p else μ.pub k)=some a:=e;split at e
   ·cases e;exact aV g j rfl
   ·exact n (.inl ⟨k,e⟩)
  ·exact n (.inr e)
set_option tactic.hygienic true in
def RelM.cell (h:RelM fa K μ H M){p:Addr}{ds:List D}{vs:List V}(u:H p=none)(r:aL fa K μ H ds vs) :
 RelM fa K (fJ μ M.length p) (upd H p (.lst vs)) (M++[ds]):=by
 have x:Ext μ H (fJ μ M.length p) (upd H p (.lst vs)):=Ext.cell h u;have F:=h.fresh u;refine{λk v e=>?_,λk hk=>?_,λk hk=>h.oout k (by simp at hk;omega),λj k a h1 h2=>?_,h.oinj,λk a z=>?_,λa y=>?_}
 ·by_cases hk:k<M.length
  ·rw[PU hk] at e;rcases h.at' k v e with⟨a,E,h1,h2,h3⟩|⟨a,h1,h2,h3⟩
   ·exact .inl {a,E,x.mu k a h1,by rw[aF (aV h2 u)];exact h2,h3.ext x}
   ·exact .inr {a,h1,by show(if k=M.length then some p else μ.pub k)=none;rw[if_neg (Qw hk)];exact h2,h3.extW x.toExtW (aF (h3.new u))}
  ·have B:k=M.length:=by
    have:=(PH.mp e).1;simp at this;omega
   subst B;rw[Qo (PV _)] at e;simp at e;subst e;exact .inl {p,vs,by simp[fJ],cw,r.ext x}
 ·simp at hk;show(if k=M.length then some p else μ.pub k)=none;rw[if_neg `a]
  exact h.out k `a
 ·have h1:(if j=M.length then some p else μ.pub j)=some a:=h1;have h2:(if k=M.length then some p else μ.pub k)=some a:=h2;split at h1<;>split at h2
  ·omega
  ·cases h1;exact absurd (.inl ⟨k,h2⟩) F
  ·cases h2;exact absurd (.inl ⟨j,h1⟩) F
  ·exact h.inj j k a h1 h2
 ·have z:(if k=M.length then some p else μ.pub k)=some a:=z;show μ.ob (aI k)=none;split at z
  ·next e=>rw[e];exact h.oout _ (PV _)
  ·exact h.sep k a z
 ·obtain⟨⟨E,e⟩,n⟩:=h.pv a y;refine{{E,by rw[aF (h.pne u y)];exact e},λk e2=>?_}
  have e2:(if k=M.length then some p else μ.pub k)=some a:=e2;split at e2
  ·cases e2;exact h.pne u y rfl
  ·exact n k e2
def ExtW.write (h2:H a=some (.lst vs))(e:μ.Mt a):ExtW μ H μ (upd H a (.lst ws)):=by
 have ne:∀b u,Rd H b u->(∀xs,u≠.lst xs)->b≠a:=λb u g j q=>by
  subst q;rcases g with g|⟨ob,g⟩
  ·rw[h2] at g;cases g;exact j _ rfl
  ·rw[h2] at g;cases g
 have rd:∀b u,b≠a->Rd H b u->Rd (upd H a (.lst ws)) b u:=λb u h g=>by
  rcases g with g|⟨ob,g⟩
  ·exact .inl (by rw[aF h];exact g)
  ·exact .inr {ob,by rw[aF h];exact g}
 exact{λ_ _ q=>q,λb v g=>rd b _ (ne b _ g (λxs q=>by cases q)) g,λb v g n=>{by rw[aF (λq=>n (by rw[q];exact e))];exact g,n},λb ob u g=>by rw[aF (λq=>by rw[q,h2] at g;cases g)];exact g,λb o i g=>by rw[aF (λq=>by rw[q,h2] at g;cases g;rcases i with⟨_,i⟩|⟨_,i⟩<;>cases i)];exact g,λ_ _ q=>q}
def Ext.write {k:Nat}{a:Addr}{vs ws:List V}(h:RelM fa K μ H M)(e:μ.pub k=some a):Ext μ H μ (upd H a (.lst ws)):=by
 obtain⟨u,vs,_,h2,_⟩:=h.mu_lt e;exact{ExtW.write h2 (.inl ⟨k,e⟩),rfl,λb j=>by rw[aF (λq=>(h.pv b j).2 k (by rw[q];exact e))]}
def RelM.write (h:RelM fa K μ H M){k:Nat}{a:Addr}{ds:List D}{ws:List V}(e:μ.pub k=some a)(r:aL fa K μ H ds ws):RelM fa K μ (upd H a (.lst ws)) (M.set k ds):=by
 have x:Ext μ H μ (upd H a (.lst ws)):=Ext.write (vs:=ws) h e;refine{λj y q=>?_,λj u=>h.out j (by simpa using u),λj u=>h.oout j (by simpa using u),h.inj,h.oinj,h.sep,λb v=>{let{⟨vs,g⟩,_}:=h.pv b v;{vs,by rw[x.pk b v];exact g},(h.pv b v).2}}
 by_cases u:j=k
 ·subst u;have hl:j<M.length:=by have:=(PH.mp q).1;simpa using this
  rw[Qj hl] at q;cases q;exact .inl {a,ws,e,cw,r.ext x}
 ·rw[PN (Q0 u)] at q;rcases h.at' j y q with⟨b,vs,h1,h2,h3⟩|⟨b,h1,h2,h3⟩
  ·have B:b≠a:=λz=>u (h.inj j k a (z ▸ h1) e);exact .inl {b,vs,h1,by rw[aF B];exact h2,h3.ext x}
  ·obtain⟨_,_,_,hl,_⟩:=h.mu_lt e;exact .inr {b,h1,h2,h3.extW x.toExtW (aF (h3.nl hl))}
end
def ae {h:Type}(r:Res h)(k:h->Mem->Prop):Prop:=match r with
 |.ok a M=>k a M
 |_=>False
def aM {j u:Type}{r:Res j}{f:j->Mem->Res u}{k:u->Mem->Prop}(h:ae (r.bind f) k):∃a M,r=.ok a M/\ae (f a M) k:=by
 cases r with
 |ok a M=>exact⟨a,M,rfl,h⟩
 |err=>exact h.elim
 |bad=>exact h.elim
def j8 {j:Type}{M:Mem}{o:Option j}{k:j->Mem->Prop}(h:ae (bX M o) k):∃a,o=some a/\k a M:=by
 cases o with
 |none=>exact h.elim
 |some a=>exact⟨a,rfl,h⟩
def aO {j:Type}{r:Res j}{k k':j->Mem->Prop}(h:ae r k)(m:∀a M,k a M->k' a M):ae r k':=by
 cases r with
 |ok a M=>exact m a M h
 |err=>exact h
 |bad=>exact h
section
variable(fa:Fa)(K:PJ)
def bj (μ:Mu)(H:Hp)(Q:VK)(d:D)(M':Mem):Prop:=∀v H' μ',Ext μ H μ' H'->RelM fa K μ' H' M'->Rep fa K μ' H' d v->Q v H'
def tE (g:Env->Mem->Res D):TE:=λσ H Q=>∃μ ρ M,bw fa K μ H σ ρ/\RelM fa K μ H M/\ae (g ρ M) (bj fa K μ H Q)
def tT (g:Env->Mem->Res Bool):TT:=λσ H Q=>∃μ ρ M,bw fa K μ H σ ρ/\RelM fa K μ H M/\ae (g ρ M) λb h=>∀H' μ',Ext μ H μ' H'->RelM fa K μ' H' h->Q b H'
def tA (g:Env->Mem->Res (List D)):TA:=λσ H Q=>∃μ ρ M,bw fa K μ H σ ρ/\RelM fa K μ H M/\ae (g ρ M) λu j=>∀h H' μ',Ext μ H μ' H'->RelM fa K μ' H' j->aL fa K μ' H' u h->Q h H'
end
def mJ (New:Addr->Prop)(C:Addr)(v:Option Addr)(a:Addr)(h:Heap)(H:Hp):Prop:=New a/\H a=none/\∃o j,h.get? a=some o/\o.cls=.ref C/\o.dict=v/\o.data=.fields j/\
 (j[1]?=some .none\/∃T u ts,j[1]?=some (.ref T)/\T≠a/\New T/\H T=none/\h.get? T=some u/\u.data=.fields ts/\ts[3]?=some .none)
def xX (X:Cx)(b:Addr):Prop:=X.s₀.heap.get? b=none/\∀p∈X.pn,p.1≠b
def XW (fa:Fa)(X:Cx)(μ:Mu)(H:Hp)(x:D)(ρ:Env)(M:Mem):Prop:=∀h j H' μ' u a C v c p,Inv X h j H' u->Ext μ H μ' H'->bw fa X.K μ' H' j ρ->RelM fa X.K μ' H' M->x=.exc c p->fa (fY c)=some C->uL H' c v p->mJ (xX X) C v a u.heap H'->X.xe (.ref a) u
def ku (fa:Fa)(X:Cx)(μ:Mu)(H:Hp)(D:Ends):Fl->Mem->Prop
 |.next h,j=>∀u H' μ',Ext μ H μ' H'->bw fa X.K μ' H' u h->RelM fa X.K μ' H' j->D.nx u H'
 |.ret d,j=>bj fa X.K μ H D.rt d j
 |.exc x h,j=>XW fa X μ H x h j
def tF (fa:Fa)(X:Cx)(g:Env->Mem->Res Fl):TS:=λD σ H=>∃μ ρ M,bw fa X.K μ H σ ρ/\RelM fa X.K μ H M/\ae (g ρ M) (ku fa X μ H D)
def XW.ext (h:XW fa X μ H x ρ M)(y:Ext μ H μ' H'):XW fa X μ' H' x ρ M:=λj v z u s1 a C B c p I e=>h j v z u s1 a C B c p I (y.trans e)
section
variable{fa:Fa}{K:PJ}{μ μ':Mu}{H H':Hp}{Q:VK}
def bj.ext (h:bj fa K μ H Q d M)(x:Ext μ H μ' H'):bj fa K μ' H' Q d M:=λv u j y m r=>h v u j (x.trans y) m r
def j7 {r:Res D}(h:ae r (bj fa K μ H Q))(x:Ext μ H μ' H'):ae r (bj fa K μ' H' Q):=aO h λ_ _ w=>w.ext x
end
def bL (h:PE X e t)(i:∀σ H Q,t' σ H Q->t σ H Q):PE X e t':=λj s σ H Q I q=>h j s σ H Q I (i σ H Q q)
def j5 (h:PT X e t)(i:∀σ H Q,t' σ H Q->t σ H Q):PT X e t':=λj s σ H Q I q=>h j s σ H Q I (i σ H Q q)
def zl (h:PW X e t)(i:∀σ H Q,t' σ H Q->t σ H Q):PW X e t':=λw j s σ H Q I q=>h w j s σ H Q I (i σ H Q q)
def zA (h:PA X e t)(i:∀σ H Q,t' σ H Q->t σ H Q):PA X e t':=λu j s σ H Q I q=>h u j s σ H Q I (i σ H Q q)
def da (h:PS X e t)(i:∀D σ H,t' D σ H->t D σ H):PS X e t':=λj s σ H D I q=>h j s σ H D I (i D σ H q)
def vf (h:kr X e t)(i:∀D σ H,t' D σ H->t D σ H):kr X e t':=λj s σ H D I q=>h j s σ H D I (i D σ H q)
section
variable{fa:Fa}{K:PJ}{μ:Mu}{H:Hp}{σ:L2.St}{ρ:Env}{M:Mem}
def t1 {g:Env->Mem->Res D}{B:Type}{f:D->Mem->Res B}{P:B->Mem->Prop}{R:V->Hp->Prop}(y:bw fa K μ H σ ρ)(E:RelM fa K μ H M)(h:ae ((g ρ M).bind f) P)
 (k:∀x M1 v u j,Ext μ H j u->bw fa K j u σ ρ->RelM fa K j u M1->Rep fa K j u x v->ae (f x M1) P->R v u):tE fa K g σ H R:=by
 obtain⟨x,M1,e,q⟩:=aM h;refine{μ,ρ,M,y,E,?_};rw[e];exact λv u j z F r1=>k x M1 v u j z (y.ext z) F r1 q
def yF {g:Env->Mem->Res Bool}{z:Type}{f:Bool->Mem->Res z}{P:z->Mem->Prop}{R:Bool->Hp->Prop}(v:bw fa K μ H σ ρ)(B:RelM fa K μ H M)(h:ae ((g ρ M).bind f) P)
 (k:∀b M1 u j,Ext μ H j u->bw fa K j u σ ρ->RelM fa K j u M1->ae (f b M1) P->R b u):tT fa K g σ H R:=by
 obtain⟨b,M1,e,q⟩:=aM h;refine{μ,ρ,M,v,B,?_};rw[e];exact λu j y E=>k b M1 u j y (v.ext y) E q
def sC {g:Env->Mem->Res (List D)}{B:Type}{f:List D->Mem->Res B}{P:B->Mem->Prop}{R:List V->Hp->Prop}(y:bw fa K μ H σ ρ)(E:RelM fa K μ H M)(h:ae ((g ρ M).bind f) P)
 (k:∀ds M1 vs u j,Ext μ H j u->bw fa K j u σ ρ->RelM fa K j u M1->aL fa K j u ds vs->ae (f ds M1) P->R vs u):tA fa K g σ H R:=by
 obtain⟨ds,M1,e,q⟩:=aM h;refine{μ,ρ,M,y,E,?_};rw[e];exact λv u j z F r1=>k ds M1 v u j z (y.ext z) F r1 q
end
mutual
noncomputable def toPy:D->PyData
 |.non=>.none
 |.bl b=>.bool b
 |.int i=>.int i
 |.str x=>.str x
 |.tup h=>.tuple (cD h)
 |.lst h=>.list (cD h)
 |.frz _=>.none
 |.cell _=>.none
 |.fn _=>.none
 |.exc _ _=>.none
noncomputable def cD:List D->List PyData
 |[]=>[]
 |d::r=>toPy d::cD r
end
def pK:∀(n:Nat) (d:D),ak n d=true->(toPy d).canLay0=true/\(toPy d).depth≤n:=by
 have all:∀(n:Nat),(∀d,ak n d=true->(toPy d).canLay0=true/\(toPy d).depth≤n)->∀j:List D,j.all (ak n)=true->PyData.canLayAll0 (cD j)=true/\PyData.depthAll (cD j)≤n:=by
  intro n h j;induction j with
  |nil=>intro _;simp[cD,PyData.canLayAll0,PyData.depthAll]
  | cons d r u =>
    intro q;simp only[QZ,PY] at q;obtain⟨h1,h2⟩:=h d q.1;obtain⟨h3,h4⟩:=u q.2;simp only[cD,PyData.canLayAll0,PyData.depthAll,h1,h3,Bool.and_self,true_and];omega
 intro n;induction n with
 | zero =>
   intro d h;cases d with
   |str x=>exact{by simpa[toPy,PyData.canLay0,PyData.strOk,ak] using h,by simp[toPy,PyData.depth]}
   |tup _=>simp[ak] at h
   |lst _=>simp[ak] at h
   |frz _=>simp[ak] at h
   |cell _=>simp[ak] at h
   |fn _=>simp[ak] at h
   |exc y p=>simp[ak] at h
   |_=>exact{by simp[toPy,PyData.canLay0],by simp[toPy,PyData.depth]}
 | succ n u =>
   intro d h;cases d with
   |str x=>exact{by simpa[toPy,PyData.canLay0,PyData.strOk,ak] using h,by simp[toPy,PyData.depth]}
   | tup j =>
     obtain⟨h1,h2⟩:=all n u j (by simpa[ak] using h)
     simp only[toPy,PyData.canLay0,PyData.depth,h1,true_and];omega
   | lst j =>
     obtain⟨h1,h2⟩:=all n u j (by simpa[ak] using h)
     simp only[toPy,PyData.canLay0,PyData.depth,h1,true_and];omega
   |frz _=>simp[ak] at h
   |cell _=>simp[ak] at h
   |fn _=>simp[ak] at h
   |exc y p=>simp[ak] at h
   |_=>exact{by simp[toPy,PyData.canLay0],by simp[toPy,PyData.depth]}
def ju (h:ak 64 d=true):SeqAt.shaped (toPy d)=true:=by
 obtain⟨h1,h2⟩:=pK 64 d h;simp[SeqAt.shaped,h1,h2]
mutual
theorem m9:∀(n m:Nat) (a b:D),ak n a=true->ak m b=true->PyData.eqv (toPy a) (toPy b)=bW a b
 | n, m, .tup a, .tup b, h, j => by
   cases n with
   |zero=>simp[ak] at h
   | succ n =>
     cases m with
     |zero=>simp[ak] at j
     | succ m =>
       exact oj n m a b (by simpa[ak] using h) (by simpa[ak] using j)
 | n, m, .lst a, .lst b, h, j => by
   cases n with
   |zero=>simp[ak] at h
   | succ n =>
     cases m with
     |zero=>simp[ak] at j
     | succ m =>
       exact oj n m a b (by simpa[ak] using h) (by simpa[ak] using j)
 |n,m,.frz _,_,h,j=>by cases n<;>simp[ak] at h
 |n,m,.cell _,_,h,j=>by cases n<;>simp[ak] at h
 |n,m,.fn _,_,h,j=>by cases n<;>simp[ak] at h
 |n,m,.exc _ _,_,h,j=>by cases n<;>simp[ak] at h
 |n,m,_,.frz _,h,j=>by cases m<;>simp[ak] at j
 |n,m,_,.cell _,h,j=>by cases m<;>simp[ak] at j
 |n,m,_,.fn _,h,j=>by cases m<;>simp[ak] at j
 |n,m,_,.exc _ _,h,j=>by cases m<;>simp[ak] at j
 |_,_,.non,.non,_,_=>by first|rfl|simp[toPy,PyData.eqv];rfl
 |_,_,.non,.bl _,_,_=>by first|rfl|simp[toPy,PyData.eqv];rfl
 |_,_,.non,.int _,_,_=>by first|rfl|simp[toPy,PyData.eqv];rfl
 |_,_,.non,.str _,_,_=>by first|rfl|simp[toPy,PyData.eqv];rfl
 |_,_,.non,.tup _,_,_=>by first|rfl|simp[toPy,PyData.eqv];rfl
 |_,_,.non,.lst _,_,_=>by first|rfl|simp[toPy,PyData.eqv];rfl
 |_,_,.bl _,.non,_,_=>by first|rfl|simp[toPy,PyData.eqv];rfl
 |_,_,.bl _,.bl _,_,_=>by first|rfl|simp[toPy,PyData.eqv];rfl
 |_,_,.bl _,.int _,_,_=>by first|rfl|simp[toPy,PyData.eqv];rfl
 |_,_,.bl _,.str _,_,_=>by first|rfl|simp[toPy,PyData.eqv];rfl
 |_,_,.bl _,.tup _,_,_=>by first|rfl|simp[toPy,PyData.eqv];rfl
 |_,_,.bl _,.lst _,_,_=>by first|rfl|simp[toPy,PyData.eqv];rfl
 |_,_,.int _,.non,_,_=>by first|rfl|simp[toPy,PyData.eqv];rfl
 |_,_,.int _,.bl _,_,_=>by first|rfl|simp[toPy,PyData.eqv];rfl
 |_,_,.int _,.int _,_,_=>by first|rfl|simp[toPy,PyData.eqv];rfl
 |_,_,.int _,.str _,_,_=>by first|rfl|simp[toPy,PyData.eqv];rfl
 |_,_,.int _,.tup _,_,_=>by first|rfl|simp[toPy,PyData.eqv];rfl
 |_,_,.int _,.lst _,_,_=>by first|rfl|simp[toPy,PyData.eqv];rfl
 |_,_,.str _,.non,_,_=>by first|rfl|simp[toPy,PyData.eqv];rfl
 |_,_,.str _,.bl _,_,_=>by first|rfl|simp[toPy,PyData.eqv];rfl
 |_,_,.str _,.int _,_,_=>by first|rfl|simp[toPy,PyData.eqv];rfl
 |_,_,.str _,.str _,_,_=>by first|rfl|simp[toPy,PyData.eqv];rfl
 |_,_,.str _,.tup _,_,_=>by first|rfl|simp[toPy,PyData.eqv];rfl
 |_,_,.str _,.lst _,_,_=>by first|rfl|simp[toPy,PyData.eqv];rfl
 |_,_,.tup _,.non,_,_=>by first|rfl|simp[toPy,PyData.eqv];rfl
 |_,_,.tup _,.bl _,_,_=>by first|rfl|simp[toPy,PyData.eqv];rfl
 |_,_,.tup _,.int _,_,_=>by first|rfl|simp[toPy,PyData.eqv];rfl
 |_,_,.tup _,.str _,_,_=>by first|rfl|simp[toPy,PyData.eqv];rfl
 |_,_,.tup _,.lst _,_,_=>by first|rfl|simp[toPy,PyData.eqv];rfl
 |_,_,.lst _,.non,_,_=>by first|rfl|simp[toPy,PyData.eqv];rfl
 |_,_,.lst _,.bl _,_,_=>by first|rfl|simp[toPy,PyData.eqv];rfl
 |_,_,.lst _,.int _,_,_=>by first|rfl|simp[toPy,PyData.eqv];rfl
 |_,_,.lst _,.str _,_,_=>by first|rfl|simp[toPy,PyData.eqv];rfl
 |_,_,.lst _,.tup _,_,_=>by first|rfl|simp[toPy,PyData.eqv];rfl
theorem oj:∀(n m:Nat) (a b:List D),a.all (ak n)=true->b.all (ak m)=true->PyData.eqvAll (cD a) (cD b)=dA a b
 |n,m,[],[],_,_=>by simp[cD,PyData.eqvAll,dA]
 |n,m,[],_::_,_,_=>by simp[cD,PyData.eqvAll,dA]
 |n,m,_::_,[],_,_=>by simp[cD,PyData.eqvAll,dA]
 | n, m, x :: a, y :: b, h, j => by
   simp only[QZ,PY] at h j;simp only[cD,PyData.eqvAll,dA];rw[m9 n m x y h.1 j.1,oj n m a b h.2 j.2]
end
section
variable{fa:Fa}{X:Cx}{μ:Mu}{H:Hp}{σ:L2.St}{pins:List (Addr×Obj)}{s:PX}{M:Mem}
def hD (j:RelM fa X.K μ H M)(h:Rep fa X.K μ H d v)(e:fy M d=some ds):∃a vs,v=.ref a/\H a=some (.lst vs)/\aL fa X.K μ H ds vs:=by
 cases d with
 | lst xs =>
   cases e;obtain⟨a,vs,e,s,r⟩:=h;exact⟨a,vs,e,s.1,r⟩
 | cell k =>
   obtain⟨a,rfl,hk⟩:=h;obtain⟨vs,h2,h3⟩:=j.at_ e hk;exact⟨a,vs,rfl,h2,h3⟩
 |_=>cases e
def bP (j:RelM fa X.K μ H M)(h:Rep fa X.K μ H d v)(e:eP M d=some ds):∃a vs,v=.ref a/\dh X.K H a vs/\aL fa X.K μ H ds vs:=by
 cases d with
 | lst xs =>
   obtain⟨a,vs,h1,h2,h3⟩:=hD j h e;exact{a,vs,h1,.of h2,h3}
 | frz xs =>
   cases e;obtain⟨a,vs,e,s,r⟩:=h;exact{a,vs,e,s.elim (λz=>.inl (.inr z)) .inr,r}
 | cell k =>
   obtain⟨a,vs,h1,h2,h3⟩:=hD j h e;exact{a,vs,h1,.of h2,h3}
 |_=>cases e
def i7 (j:RelM fa X.K μ H M)(h:Rep fa X.K μ H d v)(e:bU M d=some ds):∃a vs,v=.ref a/\(dh X.K H a vs\/dS X.K H a vs)/\aL fa X.K μ H ds vs:=by
 cases d with
 | tup xs =>
   cases e;obtain⟨a,vs,rfl,h1,h2⟩:=h;exact{a,vs,rfl,.inr h1,h2}
 | lst xs =>
   obtain⟨a,vs,h1,h2,h3⟩:=bP j h e;exact{a,vs,h1,.inl h2,h3}
 | frz xs =>
   obtain⟨a,vs,h1,h2,h3⟩:=bP j h e;exact{a,vs,h1,.inl h2,h3}
 | cell k =>
   obtain⟨a,vs,h1,h2,h3⟩:=bP j h e;exact{a,vs,h1,.inl h2,h3}
 |_=>cases e
mutual
theorem d8 (I:Inv X pins σ H s):∀(d:D) (n:Nat) (v:V) (u:PL),ak n d=true->Rep fa X.K μ H d v->RelV v u->∃z,Reads s.heap u (toPy d) z
 | .non, n, v, u, _, h, r => by
   obtain rfl:v=.non:=h;obtain rfl:u=Value.none:=r;exact{_,.none}
 | .bl b, n, v, u, _, h, r => by
   obtain rfl:v=.bl b:=h;obtain rfl:u=Value.bool b:=r;exact{_,.bool b}
 | .int i, n, v, u, _, h, r => by
   obtain rfl:v=.int i:=h;obtain⟨t,rfl⟩:=r;exact{_,.int i t}
 | .str x, n, v, u, _, h, r => by
   obtain rfl:v=.str x:=h;obtain⟨t,rfl⟩:=r;exact{_,.str x t}
 | .tup B, n, v, u, j, h, r => by
   cases n with
   |zero=>simp[ak] at j
   | succ n =>
     obtain⟨a,J,rfl,h1,h2⟩:=h;obtain rfl:u=Value.ref a:=r;obtain⟨y,F,⟨o,e1,e2,k,E⟩,_⟩:=I.tuple h1;obtain⟨z,q⟩:=fH I B n J y (by simpa[ak] using j) h2 F
     exact{_,.tuple e1 e2 E (by simpa using q)}
 | .lst B, n, v, u, j, h, r => by
   cases n with
   |zero=>simp[ak] at j
   | succ n =>
     obtain⟨a,J,rfl,h1,h2⟩:=h;obtain rfl:u=Value.ref a:=r;obtain⟨y,F,⟨o,k,e1,e2,L,E⟩,_⟩:=I.list (dh.of h1.1);obtain⟨z,q⟩:=fH I B n J y (by simpa[ak] using j) h2 F
     exact{_,.list e1 e2 E (by simpa using q)}
 |.frz k,n,v,u,j,_,_=>by cases n<;>simp[ak] at j
 |.cell k,n,v,u,j,_,_=>by cases n<;>simp[ak] at j
 |.fn f,n,v,u,j,_,_=>by cases n<;>simp[ak] at j
 |.exc _ _,n,v,u,j,_,_=>by cases n<;>simp[ak] at j
theorem fH (I:Inv X pins σ H s):∀(ds:List D) (n:Nat) (vs:List V) (us:List PL),ds.all (ak n)=true->aL fa X.K μ H ds vs->Vals vs us->∃u,ReadsAll s.heap us (cD ds) u
 | [], n, vs, us, _, h, r => by
   obtain rfl:vs=[]:=h;cases r;exact{_,.nil}
 | d :: ds, n, vs, us, j, h, r => by
   obtain⟨v,vr,rfl,h1,h2⟩:=h;simp only[QZ,PY] at j;cases r with
   | cons r1 r2 =>
     obtain⟨u,y⟩:=d8 I d n v _ j.1 h1 r1;obtain⟨bs,z⟩:=fH I ds n vr _ j.2 h2 r2;exact{_,.cons y z}
end
def E6 (h:ak n (view M d)=true):(view M d=d/\ak n d=true)\/∃ds,eP M d=some ds/\view M d=.lst ds:=by
 cases d with
 | cell k =>
   cases e:M[k]? with
   | none =>
     have j:view M (.cell k)=.cell k:=by simp[view,e]
     rw[j] at h;cases n<;>simp[ak] at h
   |some ds=>exact .inr {ds,e,by simp[view,e]}
 |frz ds=>exact .inr ⟨ds,rfl,rfl⟩
 |_=>exact .inl ⟨rfl,h⟩
def ky (I:Inv X pins σ H s)(L:RelM fa X.K μ H M)(j:ak 64 (view M d)=true)(h:Rep fa X.K μ H d v)(r:RelV v u):∃B,Reads s.heap u (toPy (view M d)) B:=by
 rcases E6 j with⟨e,y⟩|⟨E,e,J⟩
 ·rw[e];exact d8 I _ 64 v u y h r
 ·rw[J] at j ⊢;obtain⟨a,P,rfl,h1,h2⟩:=bP L h e;obtain rfl:u=Value.ref a:=r;obtain⟨z,O,⟨o,k,e1,e2,Q,F⟩,_⟩:=I.list h1;obtain⟨B,q⟩:=fH I E 63 P z (by simpa[ak] using j) h2 O
  exact{_,.list e1 e2 F (by simpa using q)}
theorem jP (I:Inv X pins σ H s)(J:RelM fa X.K μ H M):∀(n m:Nat) (d:D) (v:V) (u:PL),ak m (bE n M d)=true->Rep fa X.K μ H d v->RelV v u->∃E,Reads s.heap u (toPy (bE n M d)) E
 |0,m,d,v,u,j,h,r=>d8 I d m v u j h r
 | n + 1, m, d, v, u, j, h, r => by
   have S:=jP I J n;have all:∀(m:Nat) (z:List D) (B:List V) (L:List PL),(z.map (bE n M)).all (ak m)=true->aL fa X.K μ H z B->Vals B L->∃E,ReadsAll s.heap L (cD (z.map (bE n M))) E:=by
    intro m z;induction z with
    | nil =>
      intro B L _ h r;obtain rfl:B=[]:=h;cases r;exact{_,.nil}
    | cons d z Q =>
      intro B L j h r;obtain⟨v,vr,rfl,h1,h2⟩:=h;simp only[Q6,QZ,PY] at j;cases r with
      | cons r1 r2 =>
        obtain⟨E,U⟩:=S m d v _ j.1 h1 r1;obtain⟨bs,W⟩:=Q vr _ j.2 h2 r2;exact{_,.cons U W}
   have lst:∀(z:List D) (a:Addr) (B:List V),ak m (.lst (z.map (bE n M)))=true->dh X.K H a B->aL fa X.K μ H z B->u=.ref a->∃E,Reads s.heap u (toPy (.lst (z.map (bE n M)))) E:=by
    intro z a B j h1 h2 e;subst e;cases m with
    |zero=>simp[ak] at j
    | succ m =>
      obtain⟨F,R,⟨o,k,e1,e2,Y,O⟩,_⟩:=I.list h1;obtain⟨E,q⟩:=all m z B F (by simpa[ak] using j) h2 R
      exact{_,.list e1 e2 O (by simpa using q)}
   cases d with
   | cell k =>
     cases e:M[k]? with
     | none =>
       have P:bE (n+1) M (.cell k)=.cell k:=by simp[bE,e]
       rw[P] at j;cases m<;>simp[ak] at j
     | some z =>
       have P:bE (n+1) M (.cell k)=.lst (z.map (bE n M)):=by simp[bE,e]
       rw[P] at j ⊢;obtain⟨a,B,rfl,h1,h2⟩:=bP J h e;exact lst z a B j h1 h2 r
   | frz z =>
     obtain⟨a,B,rfl,h1,h2⟩:=bP J h rfl;exact lst z a B j h1 h2 r
   | lst z =>
     obtain⟨a,B,rfl,h1,h2⟩:=bP J h rfl;exact lst z a B j h1 h2 r
   | tup z =>
     have j:ak m (.tup (z.map (bE n M)))=true:=j;cases m with
     |zero=>simp[ak] at j
     | succ m =>
       obtain⟨a,B,rfl,h1,h2⟩:=h;obtain rfl:u=Value.ref a:=r;obtain⟨F,R,⟨o,e1,e2,k,O⟩,_⟩:=I.tuple h1;obtain⟨E,q⟩:=all m z B F (by simpa[ak] using j) h2 R
       exact{_,.tuple e1 e2 O (by simpa using q)}
   |non=>exact d8 I .non m v u j h r
   |bl b=>exact d8 I (.bl b) m v u j h r
   |int i=>exact d8 I (.int i) m v u j h r
   |str x=>exact d8 I (.str x) m v u j h r
   |fn f=>exact d8 I (.fn f) m v u j h r
   |exc y p=>exact d8 I (.exc y p) m v u j h r
abbrev Rm (X:Cx):Prop:=X.A.units+100<cLine
def gF (fa:Fa)(K:PJ)(o:jq):R2:=λx y H Q=>∃μ M h j b,RelM fa K μ H M/\Rep fa K μ H h x/\Rep fa K μ H j y/\bq o h j M=some b/\Q (.bl b) H
set_option tactic.hygienic true in
def ub (hs:(g4 a&&g4 b)=false)(h:lK a b=some k):ak 64 a=true/\ak 64 b=true/\k=bW a b:=by
 unfold lK at h;rw[hs,Bool.false_or] at h;split at h
 ·next q=>
  simp only[PY] at q;exact{q.1,q.2,(PQ h).symm}
 ·cases h
def tZ (d:D):g4 (view M d)=g4 d:=by
 cases d with
 |cell k=>cases e:M[k]?<;>simp[view,e,g4]
 |_=>rfl
def qT (n:Nat)(d:D):g4 (bE n M d)=g4 d:=by
 cases n with
 |zero=>rfl
 | succ n =>
   cases d with
   |cell k=>cases e:M[k]?<;>simp[bE,e,g4]
   |_=>rfl
def qW (I:Inv X pins σ H s)(z:RelM fa X.K μ H M)(hs:(g4 a&&g4 b)=false)(h:jI M a b=some k)(h1:Rep fa X.K μ H a x)(h2:Rep fa X.K μ H b y)(B:RelV x v)(E:RelV y u) :
 ∃c e j bs,ak 64 c=true/\ak 64 e=true/\k=bW c e/\Reads s.heap v (toPy c) j/\Reads s.heap u (toPy e) bs:=by
 unfold jI at h;cases q:lK (view M a) (view M b) with
 | some r =>
   rw[q] at h;cases h;obtain⟨p1,p2,e⟩:=ub (by rw[tZ,tZ];exact hs) q
   obtain⟨j,r1⟩:=ky I z p1 h1 B;obtain⟨bs,r2⟩:=ky I z p2 h2 E;exact{_,_,j,bs,p1,p2,e,r1,r2}
 | none =>
   rw[q] at h;obtain⟨p1,p2,e⟩:=ub (by rw[qT,qT];exact hs) h
   obtain⟨j,r1⟩:=jP I z 64 64 a x v p1 h1 B;obtain⟨bs,r2⟩:=jP I z 64 64 b y u p2 h2 E;exact{_,_,j,bs,p1,p2,e,r1,r2}
def sD (h:(g4 a&&g4 b)=true):∃x y,a=.str x/\b=.str y:=by
 cases a with
 | str x =>
   cases b with
   |str y=>exact⟨x,y,rfl,rfl⟩
   |_=>cases h
 |_=>cases h
def v7:jI M (.str x) (.str y)=some (x==y):=by
 have e:bW (.str x) (.str y)=(x==y):=rfl;rw[<- e];rfl
def O9 (L:Rm X):bN X (compareOp .Eq) (gF fa X.K .eq):=by
 intro pins s σ H x y v u Q I z B h;obtain⟨μ,M,E,F,b,J,h1,h2,e,q⟩:=h;cases hs:g4 E&&g4 F with
 | true =>
   obtain⟨i,j,rfl,rfl⟩:=sD hs;obtain rfl:x=.str i:=h1;obtain rfl:y=.str j:=h2;obtain rfl:(i==j)=b:=PQ (v7.symm.trans e);exact L9 pins s σ H _ _ v u Q I z B {rfl,by rw[nh];exact q}
 | false =>
   obtain⟨_,_,O,bs,p1,p2,rfl,r1,r2⟩:=qW I J hs (e) h1 h2 z B;refine SeqAt.compareEq_shaped r1 r2 (ju p1) (ju p2) (by unfold Rm at L;omega) ?_
   rw[m9 64 64 _ _ p1 p2];exact{.bl _,H,I,rfl,q}
def O3 (O:Rm X):bN X (compareOp .NotEq) (gF fa X.K .ne):=by
 intro pins s σ H x y v u Q I F J h;obtain⟨μ,M,B,E,b,L,h1,h2,e,q⟩:=h;have e:(jI M B E).map (!·)=some b:=e;cases z:jI M B E with
 |none=>rw[z] at e;cases e
 | some k =>
   rw[z] at e;obtain rfl:(!k)=b:=PQ e;cases hs:g4 B&&g4 E with
   | true =>
     obtain⟨i,j,rfl,rfl⟩:=sD hs;obtain rfl:x=.str i:=h1;obtain rfl:y=.str j:=h2;obtain rfl:(i==j)=k:=PQ (v7.symm.trans z);exact L4 pins s σ H _ _ v u Q I F J {rfl,by rw[nh];exact q}
   | false =>
     obtain⟨_,_,P,bs,p1,p2,rfl,r1,r2⟩:=qW I L hs z h1 h2 F J;refine SeqAt.compareNe_shaped r1 r2 (ju p1) (ju p2) (by unfold Rm at O;omega) ?_
     rw[m9 64 64 _ _ p1 p2];exact{.bl _,H,I,rfl,q}
end
section
variable{fa:Fa}{X:Cx}{μ:Mu}{H:Hp}{σ:L2.St}{pins:List (Addr×Obj)}{s:PX}{M:Mem}
def ig (h:bN X f r)(i:∀x y H Q,r' x y H Q->r x y H Q):bN X f r':=λpins s σ H x y v u Q I j z q=>h pins s σ H x y v u Q I j z (i x y H Q q)
def je (h:cu X f r)(i:∀xs H Q,r' xs H Q->r xs H Q):cu X f r':=λpins s σ H xs u Q I j q=>h pins s σ H xs u Q I j (i xs H Q q)
def ni {g:Int->Int->Bool}(ho:o=.lt\/o=.le\/o=.gt\/o=.ge)(F:∀i j,bq o (.int i) (.int j) []=some (g i j))(h:gF fa X.K o x y H Q) :
 ∃i j,x=.int i/\y=.int j/\Q (.bl (g i j)) H:=by
 obtain⟨μ,M,v,z,b,I,h1,h2,e,q⟩:=h;have u:∀i j,v=.int i->z=.int j->∃i j,x=.int i/\y=.int j/\Q (.bl (g i j)) H:=λi j e1 e2=>by
  subst e1 e2;have B:bq o (.int i) (.int j) M=some (g i j):=by
   have:=F i j;rcases ho with rfl|rfl|rfl|rfl<;>exact this
  rw[e] at B;have E:=PQ B;subst E;exact⟨i,j,h1,h2,q⟩
 rcases ho with rfl|rfl|rfl|rfl<;>
 ·cases v with
  |int i=>cases z<;>first|exact u _ _ rfl rfl|cases e
  |_=>cases e
def O4:bN X (compareOp .Lt) (gF fa X.K .lt):=ig L5 λx y H Q h=>ni (.inl rfl) (λ_ _=>rfl) h
def O5:bN X (compareOp .LtE) (gF fa X.K .le):=ig L6 λx y H Q h=>ni (.inr (.inl rfl)) (λ_ _=>rfl) h
def O7:bN X (compareOp .Gt) (gF fa X.K .gt):=ig L7 λx y H Q h=>ni (.inr (.inr (.inl rfl))) (λ_ _=>rfl) h
def O8:bN X (compareOp .GtE) (gF fa X.K .ge):=ig L8 λx y H Q h=>ni (.inr (.inr (.inr rfl))) (λ_ _=>rfl) h
def vc {K:PJ}(h:Rep fa K μ H d v):decide (v=.non)=rW d:=by
 cases d with
 |non=>obtain rfl:v=.non:=h;rfl
 |bl b=>obtain rfl:v=.bl b:=h;rfl
 |int b=>obtain rfl:v=.int b:=h;rfl
 |str b=>obtain rfl:v=.str b:=h;rfl
 |tup b=>obtain⟨a,j,rfl,_⟩:=h;rfl
 |lst b=>obtain⟨a,j,rfl,_⟩:=h;rfl
 |frz b=>obtain⟨a,j,rfl,_⟩:=h;rfl
 |cell b=>obtain⟨a,rfl,_⟩:=h;rfl
 |fn b=>obtain⟨a,rfl,_⟩:=h;rfl
 |exc y p=>obtain⟨a,_,_,rfl,_⟩:=h;rfl
def Na:bN X (compareOp .Is) (gF fa X.K .isN):=ig Jm λx y H Q h=>by
 obtain⟨μ,M,u,j,b,v,h1,h2,e,q⟩:=h;cases j<;>first|cases (show(none:Option Bool)=some b from e)|skip
 refine{h2,?_};rw[vc h1];rw[PQ e];exact q
def KZ:bN X (compareOp .IsNot) (gF fa X.K .notN):=ig Ge λx y H Q h=>by
 obtain⟨μ,M,u,j,b,v,h1,h2,e,q⟩:=h;cases j<;>first|cases (show(none:Option Bool)=some b from e)|skip
 refine{h2,?_};rw[vc h1];rw[PQ e];exact q
noncomputable def uI (x:D)(j:ak 64 x=true):∀(ds:List D),ds.all (ak 63)=true->((cD ds).any λy=>PyData.eqv y (toPy x))=ds.any λy=>bW y x
 |[],_=>rfl
 | d :: r, h => by
   simp only[QZ,PY] at h;simp only[cD,List.any_cons,m9 63 64 d x h.1 j,uI x j r h.2]
theorem sr (n:Nat):∀ds:List D,ds.all (ak n)=true->PyData.canLayAll0 (cD ds)=true/\PyData.depthAll (cD ds)≤n
 |[],_=>by simp[cD,PyData.canLayAll0,PyData.depthAll]
 | d :: r, h => by
   simp only[QZ,PY] at h;obtain⟨h1,h2⟩:=pK n d h.1;obtain⟨h3,h4⟩:=sr n r h.2;simp only[cD,PyData.canLayAll0,PyData.depthAll,h1,h3,Bool.and_self,true_and];omega
def zc (I:Inv X pins σ H s)(J:RelM fa X.K μ H M)(E:ds.all (ak 63)=true)(h:Rep fa X.K μ H d v)(r:RelV v u)(e:bU M d=some ds) :
 (∃y,Reads s.heap u (.list (cD ds)) y)\/∃y,Reads s.heap u (.tuple (cD ds)) y:=by
 obtain⟨a,F,rfl,h1,h2⟩:=i7 J h e;obtain rfl:u=Value.ref a:=r;rcases h1 with h1|h1
 ·obtain⟨j,B,⟨o,k,e1,e2,L,z⟩,_⟩:=I.list h1;obtain⟨y,q⟩:=fH I ds 63 F j E h2 B;exact .inl {_,.list e1 e2 z (by simpa using q)}
 ·obtain⟨j,B,⟨o,e1,e2,k,z⟩,_⟩:=I.tuple h1;obtain⟨y,q⟩:=fH I ds 63 F j E h2 B;exact .inr {_,.tuple e1 e2 z (by simpa using q)}
set_option tactic.hygienic true in
def Aj (L:Rm X)(I:Inv X pins σ H s)(F:RelM fa X.K μ H M)(h1:Rep fa X.K μ H dx x)(h2:Rep fa X.K μ H dy y)(O:RelV x v)(P:RelV y u)
 (e1:bU M dy=some ds) (e2:oY (view M dx) ds=some b) (j:Bool) (q:Q (.bool (if j then !b else b)) s):wpAny (model X.prog X.w) X.A (compareOp (if j then .NotIn else .In) v u) Q X.xe s:=by
 unfold oY at e2;split at e2
 ·next z=>
  simp only[PY] at z;obtain⟨p1,p2⟩:=z;have J:=PQ e2;subst J;obtain⟨R,r1⟩:=ky I F p1 h1 O;obtain⟨B,d1⟩:=pK 64 _ p1;obtain⟨E,S⟩:=sr 63 ds p2;have h:X.A.units+1+min (PyData.depthAll (cD ds)) (toPy (view M dx)).depth<cLine:=by unfold Rm at L;omega
  rw[<- uI _ p1 ds p2] at q;rcases zc I F p2 h2 P e1 with⟨bs,r2⟩|⟨bs,r2⟩
  ·cases j
   ·exact SeqAt.in_list_reads r2 r1 E B h q
   ·exact SeqAt.notIn_list_reads r2 r1 E B h q
  ·cases j
   ·exact SeqAt.in_tuple_reads r2 r1 E B h q
   ·exact SeqAt.notIn_tuple_reads r2 r1 E B h q
 ·cases e2
def O6 (L:Rm X):bN X (compareOp .In) (gF fa X.K .isin):=by
 intro pins s σ H x y v u Q I B E h;obtain⟨μ,M,z,j,b,J,h1,h2,e,q⟩:=h;have gen:(bU M j).bind (oY (view M z))=some b->wpAny (model X.prog X.w) X.A (compareOp .In v u) (EP X pins σ Q) X.xe s:=λe=>by
  cases e1:bU M j with
  |none=>rw[e1] at e;cases e
  | some O =>
    rw[e1] at e;exact Aj L I J h1 h2 B E e1 e false {.bl b,H,I,rfl,q}
 by_cases hs:(∃a,z=.str a)/\∃c,j=.str c
 ·obtain⟨⟨a,rfl⟩,c,rfl⟩:=hs;have F:=PQ e;subst F;exact zB pins s σ H x y v u Q I B E ⟨a,c,h1,h2,q⟩
 ·refine gen ?_;cases z<;>first|exact e|(cases j<;>first|exact e|exact absurd {{_,rfl},_,rfl} hs)
def Hd (O:Rm X):bN X (compareOp .NotIn) (gF fa X.K .notin):=by
 intro pins s σ H x y v u Q I E F h;obtain⟨μ,M,j,z,b,L,h1,h2,e,q⟩:=h;have gen:((bU M z).bind (oY (view M j))).map (!·)=some b->wpAny (model X.prog X.w) X.A (compareOp .NotIn v u) (EP X pins σ Q) X.xe s:=λe=>by
  cases e1:bU M z with
  |none=>rw[e1] at e;cases e
  | some J =>
    rw[e1] at e;cases e2:oY (view M j) J with
    |none=>rw[Option.bind_some,e2] at e;cases e
    | some k =>
      rw[Option.bind_some,e2] at e;have B:=PQ e;subst B;exact Aj O I L h1 h2 E F e1 e2 true {.bl _,H,I,rfl,q}
 by_cases hs:(∃a,j=.str a)/\∃c,z=.str c
 ·obtain⟨⟨a,rfl⟩,c,rfl⟩:=hs;have B:=PQ e;subst B;exact tm pins s σ H x y v u Q I E F ⟨a,c,h1,h2,q⟩
 ·refine gen ?_;cases j<;>first|exact e|(cases z<;>first|exact e|exact absurd {{_,rfl},_,rfl} hs)
noncomputable def fb:jq->CmpOp
 |.eq=>.Eq|.ne=>.NotEq|.lt=>.Lt|.le=>.LtE|.gt=>.Gt|.ge=>.GtE|.isN=>.Is|.notN=>.IsNot|.isin=>.In|.notin=>.NotIn
def nk (h:Rm X):∀o:jq,bN X (compareOp (fb o)) (gF fa X.K o)
 |.eq=>O9 h|.ne=>O3 h|.lt=>O4|.le=>O5|.gt=>O7|.ge=>O8|.isN=>Na|.notN=>KZ|.isin=>O6 h|.notin=>Hd h
def lT (fa:Fa)(K:PJ)(m:Bool)(o:nI):R2:=λx y H Q=>∃μ M h j,RelM fa K μ H M/\Rep fa K μ H h x/\Rep fa K μ H j y/\ae (fO m o h j M) (bj fa K μ H Q)
def aS (j:RelM fa X.K μ H M)(h:bj fa X.K μ H Q d M)(r:Rep fa X.K μ H d v):Q v H:=h v H μ .refl j r
set_option tactic.hygienic true in
def g7 (j:RelM fa X.K μ H M)(r:aL fa X.K μ H ds vs)(h:ae (bb m ds M) (bj fa X.K μ H Q)):ds.length≤sz/\∀p,H p=none->Q (.ref p) (upd H p (.lst vs)):=by
 unfold bb at h;split at h
 ·next v=>
  refine{v,λp u=>?_};cases m with
  | true =>
    exact h (.ref p) _ (fJ μ M.length p) (Ext.cell j u) (j.cell u r) {p,rfl,by simp[fJ]}
  | false =>
    exact h (.ref p) _ μ (Ext.alloc j u) (j.alloc u) {p,vs,rfl,{cw,j.fresh u},r.ext (Ext.alloc j u)}
 ·exact h.elim
def i4 (j:RelM fa X.K μ H M)(r:aL fa X.K μ H ds vs)(h:bj fa X.K μ H Q (.tup ds) M):∀p,H p=none->Q (.ref p) (upd H p (.tup vs)):=λp u=>
 h (.ref p) _ μ (Ext.alloc j u) (j.alloc u) {p,vs,rfl,.of cw,r.ext (Ext.alloc j u)}
def dE:sz=sizeLine:=by rw[sizeLine_eq];rfl
def B3:bN X (binaryOp .Add) (λx y H Q=>∃a b ys,x=.ref a/\y=.ref b/\dS X.K H a []/\dS X.K H b ys/\Q (.ref b) H):=by
 intro pins s σ H x y v u Q I rx ry h;obtain⟨a,b,ys,rfl,rfl,U,W,q⟩:=h;cases rx;cases ry;obtain⟨its,r1,p1,_⟩:=I.tuple U;obtain⟨z,r2,p2,_⟩:=I.tuple W;cases r1;obtain⟨⟨cls,S,R,sl⟩,ho,Y,n,hd⟩:=id p1;obtain⟨⟨P,E,B,O⟩,j,J,n2,L⟩:=id p2;subst Y hd J L;exact concat_meets {_,ho,rfl} {_,j,rfl} noFill_tuple_add seq_tuple_add PySem.F.slot_tuple_add PySem.F.entry_tuple_add (PySem.F.args_tuple_add_2 _ _)
  (tuple_addW0 a b #[] z.toArray n n2 S E sl O rfl) {ho,j,{.ref b,H,I,rfl,q}}
def CN (I:Inv X pins σ H s)(j:RelM fa X.K μ H M)(h1:Rep fa X.K μ H dx x)(h2:Rep fa X.K μ H dy y)(L:RelV x v)(O:RelV y u)
 (h:ae (match fy M dx,fy M dy with|some x,some y=>bb m (x++y) M|_,_=>.bad) (bj fa X.K μ H Q)):wpAny (model X.prog X.w) X.A (binaryOp .Add v u) (EP X pins σ Q) X.xe s:=by
 cases e1:fy M dx with
 |none=>rw[e1] at h;exact h.elim
 | some xs =>
   cases e2:fy M dy with
   |none=>rw[e1,e2] at h;exact h.elim
   | some S =>
     rw[e1,e2] at h;obtain⟨a,P,rfl,E,z⟩:=hD j h1 e1;obtain⟨b,R,rfl,F,B⟩:=hD j h2 e2;obtain⟨J,k⟩:=g7 j (z.append B) h;refine Jn pins s σ H _ _ v u Q I L O {a,b,P,R,rfl,rfl,E,F,?_,k};rw[z.length,B.length,<- Qe,<- dE];exact J
set_option tactic.hygienic true in
def Nj (m:Bool):bN X (binaryOp .Add) (lT fa X.K m .add):=by
 intro pins s σ H x y v u Q I F J h;obtain⟨μ,M,L,O,B,h1,h2,h⟩:=h;have hi:∀i j,L=.int i->O=.int j->wpAny (model X.prog X.w) X.A (binaryOp .Add v u) (EP X pins σ Q) X.xe s:=λi j e1 e2=>by
  subst e1 e2;exact Jo pins s σ H x y v u Q I F J {i,j,h1,h2,aS B h rfl}
 have hs:∀i j,L=.str i->O=.str j->wpAny (model X.prog X.w) X.A (binaryOp .Add v u) (EP X pins σ Q) X.xe s:=λi j e1 e2=>by
  subst e1 e2;have h:ae (if i.cps.size+j.cps.size≤sz then .ok (.str {i.cps++j.cps}) M else .bad) (bj fa X.K μ H Q):=h;split at h
  ·next W=>exact w6 pins s σ H x y v u Q I F J {i,j,h1,h2,by rw[<- dE];exact W,aS B h rfl}
  ·exact h.elim
 have ht:∀i j,L=.tup i->O=.tup j->wpAny (model X.prog X.w) X.A (binaryOp .Add v u) (EP X pins σ Q) X.xe s:=λi j e1 e2=>by
  subst e1 e2;have h:ae (if (i++j).length≤sz then .ok (.tup (i++j)) M else .bad) (bj fa X.K μ H Q):=h;split at h
  ·next W=>
   obtain⟨a,R,e1,S,E⟩:=id h1;obtain⟨b,Y,e2,U,P⟩:=id h2;by_cases h0:i=[]
   ·subst h0;obtain rfl:R=[]:=E;exact B3 pins s σ H x y v u Q I F J {a,b,Y,e1,e2,S,U,aS B h ⟨b,Y,rfl,U,P⟩}
   ·have hv:R≠[]:=λz=>h0 (by have:=E.length;rw[z] at this;exact RX.mp this.symm)
    refine Gg pins s σ H x y v u Q I F J {a,b,R,Y,e1,e2,S,U,hv,?_,λz=>?_,λ_=>i4 B (E.append P) h}
    ·rw[E.length,P.length,<- Qe,<- dE];exact W
    ·subst z;have ej:=RX.mp P.length.symm;subst ej;exact aS B h {a,R,rfl,S,by simpa using E}
  ·exact h.elim
 cases L<;>cases O<;>first|exact hi _ _ rfl rfl|exact hs _ _ rfl rfl|exact ht _ _ rfl rfl|exact CN (m:=m) I B h1 h2 F J h
def r8 {g:Int->Int->Int}(hr:bN X (binaryOp op) (rI C λi j=>.int (g i j)))
 (z:∀u v M (P:D->Mem->Prop),ae (fO m o u v M) P->∃i j,u=.int i/\v=.int j/\C i j/\P (.int (g i j)) M):bN X (binaryOp op) (lT fa X.K m o):=ig hr λx y H Q h=>by
 obtain⟨μ,M,u,v,B,h1,h2,h⟩:=h;obtain⟨i,j,rfl,rfl,c,q⟩:=z u v M _ h;exact{i,j,h1,h2,c,aS B q rfl}
def Nd (m:Bool):bN X (binaryOp .Sub) (lT fa X.K m .sub):=r8 (C:=λ_ _=>True) (ig Jh λx y H Q ⟨i,j,e1,e2,_,q⟩=>⟨i,j,e1,e2,q⟩) λu v M P h=>by
 cases u<;>cases v<;>first|exact{_,_,rfl,rfl,trivial,h}|exact h.elim
set_option tactic.hygienic true in
def K9 (m:Bool):bN X (binaryOp .FloorDiv) (lT fa X.K m .fdiv):=r8 Gf λu v M P h=>by
 have y:∀i j,u=.int i->v=.int j->∃i j,u=.int i/\v=.int j/\Lw i j/\P (.int (i / j)) M:=λi j e1 e2=>by
  subst e1 e2;have h:ae (if 0<j/\j<1073741824 then .ok (.int (i / j)) M else .bad) P:=h;split at h
  ·next c=>exact⟨i,j,rfl,rfl,c,h⟩
  ·exact h.elim
 cases u<;>cases v<;>first|exact y _ _ rfl rfl|exact h.elim
set_option tactic.hygienic true in
def Nh (m:Bool):bN X (binaryOp .Mod) (lT fa X.K m .mod):=r8 Jl λu v M P h=>by
 have y:∀i j,u=.int i->v=.int j->∃i j,u=.int i/\v=.int j/\0<j/\P (.int (i % j)) M:=λi j e1 e2=>by
  subst e1 e2;have h:ae (if 0<j then .ok (.int (i % j)) M else .bad) P:=h;split at h
  ·next c=>exact⟨i,j,rfl,rfl,c,h⟩
  ·exact h.elim
 cases u<;>cases v<;>first|exact y _ _ rfl rfl|exact h.elim
set_option tactic.hygienic true in
def Nf (m:Bool):bN X (binaryOp .Pow) (lT fa X.K m .pow):=r8 Jj λu v M P h=>by
 have y:∀i j,u=.int i->v=.int j->∃i j,u=.int i/\v=.int j/\Lv i j/\P (.int (i^j.toNat)) M:=λi j e1 e2=>by
  subst e1 e2;have h:ae (if 0≤j/\j≤1000000/\i.natAbs<2^64 then .ok (.int (i^j.toNat)) M else .bad) P:=h;split at h
  ·next c=>exact⟨i,j,rfl,rfl,c,h⟩
  ·exact h.elim
 cases u<;>cases v<;>first|exact y _ _ rfl rfl|exact h.elim
set_option tactic.hygienic true in
def BQ {j:Int}(I:Inv X pins σ H s)(z:RelM fa X.K μ H M)(h1:Rep fa X.K μ H dx x)(h2:Rep fa X.K μ H (.int j) y)(F:RelV x v)(J:RelV y u)
 (h:ae (match fy M dx with|some x=>if x.length*j.toNat≤sz/\-(2^63)≤j/\j<2^63 then bb m (List.replicate j.toNat x).flatten M else .bad|none=>.bad) (bj fa X.K μ H Q)) :
 wpAny (model X.prog X.w) X.A (binaryOp .Mult v u) (EP X pins σ Q) X.xe s:=by
 cases e1:fy M dx with
 |none=>rw[e1] at h;exact h.elim
 | some xs =>
   rw[e1] at h;simp only at h;split at h
   ·next c=>
    obtain⟨a,L,rfl,E,B⟩:=hD z h1 e1;obtain⟨O,k⟩:=g7 z (B.rep j.toNat) h;exact Ji pins s σ H _ _ v u Q I F J {a,j,L,rfl,h2,E,c.2.1,c.2.2,by rw[B.length,<- dE];exact c.1,k}
   ·exact h.elim
end
end LD
namespace LD
open PySem PySem.Spec PyProof.Rows L2 PySem.Builtin
open PySem.Sem (wp)
def nX:fillsNumberSlot (.type "tuple") "mul"=pure false:=
 PySem.fillsNumberSlot_seq F.slot_tuple_mul.lookup `k F.slot_tuple_rmul.lookup `k
def sU:seqRepeat? (.type "tuple")=pure (some (.builtin "tuple.__mul__")):=by
 unfold seqRepeat?;rw[PySem.seqSlot_of (name:="__mul__") F.slot_tuple_mul.lookup `k,PySem.seqSlot_of (name:="__rmul__") F.slot_tuple_rmul.lookup `k]
 rfl
def pQ (a:Int)(t:Tok)(l:Addr)(items:Array PL)(n:Nat)(dd:Option Addr)(sl:Array (Option PL)) :
 Meets (Builtin.«int.__rmul__» {[.int a t,.ref l],[]}) (λ_ R s=>s.heap.get? l=some {cls:=.type "tuple",dict:=dd,data:=.seq items n,slots:=sl}/\R (.ok (.ret Value.notImplemented)) s):=
 .of_wp λprog w A R s h=>by obtain⟨j,g,d,tk,os⟩:=s;obtain⟨hl,h⟩:=h;wp_walk using wpAny_loadPart' hl;exact{_,rfl,h}
def w5 {x:Int}(h:-(2^63)≤x)(h1:x<2^63):(decide (x < -2^63)||decide (x≥2^63))=false:=by
 rw[decide_eq_false `a,decide_eq_false `a];rfl
def p7 (l:Addr)(items:Array PL)(n:Nat)(dd:Option Addr)(sl:Array (Option PL))(x:Int)(u:Tok)(j:-(2^63)≤x)(h1:x<2^63)(v:(items.isEmpty||x==1)=true) :
 Meets (Builtin.«tuple.__mul__» {[.ref l,.int x u],[]}) (λ_ R s=>s.heap.get? l=some {cls:=.type "tuple",dict:=dd,data:=.seq items n,slots:=sl}/\R (.ok (.ret (.ref l))) s):=
 .of_wp λprog w A R s h=>by
  obtain⟨y,g,d,tk,os⟩:=s;obtain⟨hl,h⟩:=h;have f1:=AutoSeq1.idx_int;wp_walk using wpAny_loadPart' hl
  refine wpAny_ite_false (by rw[w5 j h1];rfl) ?_
  wp_walk using wpAny_loadPart' hl
  exact{_,rfl,h}
def p8 (l:Addr)(items:Array PL)(n:Nat)(dd:Option Addr)(sl:Array (Option PL))(x:Int)(u:Tok)(j:-(2^63)≤x)(h1:x<2^63)(y:(items.isEmpty||x==1)=false)(v:(decide (x≤0)||items.isEmpty)=true) :
 Meets (Builtin.«tuple.__mul__» {[.ref l,.int x u],[]}) (λ_ R s=>s.heap.get? l=some {cls:=.type "tuple",dict:=dd,data:=.seq items n,slots:=sl}/\R (.ok (.ret (.ref s.heap.objs.size))) {s with heap:=s.heap.push {cls:=Value.type "tuple",data:=Data.seq #[]},toks:=s.toks}):=
 .of_wp λprog w A R s h=>by
  obtain⟨z,g,d,tk,os⟩:=s;obtain⟨hl,h⟩:=h;have f1:=AutoSeq1.idx_int;wp_walk using wpAny_loadPart' hl
  refine wpAny_ite_false (by rw[w5 j h1];rfl) ?_
  wp_walk using wpAny_loadPart' hl
  exact{_,rfl,h}
def p9 (l:Addr)(items:Array PL)(n:Nat)(dd:Option Addr)(sl:Array (Option PL))(x:Int)(u:Tok)(j:-(2^63)≤x)(h1:x<2^63)(z:(items.isEmpty||x==1)=false)(v:(decide (x≤0)||items.isEmpty)=false)
 (hs:(items.size:Int)*x≤16777216) (y:(List.foldl (λx1 x2=>x1++x2) #[] (List.replicate x.toNat items)).size≤sizeLine) :
 Meets (Builtin.«tuple.__mul__» {[.ref l,.int x u],[]}) (λ_ R s=>s.heap.get? l=some {cls:=.type "tuple",dict:=dd,data:=.seq items n,slots:=sl}/\R (.ok (.ret (.ref s.heap.objs.size))) {s with heap:=s.heap.push {cls:=Value.type "tuple",data:=Data.seq (List.foldl (λx1 x2=>x1++x2) #[] (List.replicate x.toNat items))},toks:=s.toks}):=
 .of_wp λprog w A R s h=>by
  obtain⟨B,g,d,tk,os⟩:=s;obtain⟨hl,h⟩:=h;have f1:=AutoSeq1.idx_int;wp_walk using wpAny_loadPart' hl
  refine wpAny_ite_false (by rw[w5 j h1];rfl) ?_
  wp_walk using wpAny_loadPart' hl
  refine wpAny_ite_false (decide_eq_false `a) ?_
  wp_walk using wpAny_loadPart' hl
  refine wpAny_ite_false (decide_eq_false (by unfold Tuple.tupleTooMany;rw[sizeLine_eq];simp;omega)) ?_
  wp_walk using wpAny_loadPart' hl
  exact{_,rfl,h}
section
variable{fa:Fa}{X:Cx}{μ:Mu}{H:Hp}{σ:L2.St}{pins:List (Addr×Obj)}{s:PX}{M:Mem}
def qK (h:List PL)(m:Nat):List.foldl (λx1 x2=>x1++x2) #[] (List.replicate m h.toArray)=(List.replicate m h).flatten.toArray:=by
 have:=foldl_rep h m [];rw[List.nil_append] at this;exact this
def Gd:bN X (binaryOp .Mult) (λx y H Q=>∃l k xs,x=.ref l/\y=.int k/\dS X.K H l xs/\-(2^63)≤k/\k<2^63/\xs.length*k.toNat≤sz/\
 ((List.replicate k.toNat xs).flatten=xs->Q (.ref l) H)/\∀p,H p=none->Q (.ref p) (upd H p (.tup (List.replicate k.toNat xs).flatten))):=by
 intro pins s σ H x y v u Q I rx ry h;obtain⟨l,k,xs,rfl,rfl,Y,h1,h2,U,q1,q2⟩:=h;cases rx;obtain⟨t,rfl⟩:=ry;obtain⟨j,r,p,hzz⟩:=I.tuple Y;have hl:=r.length;obtain⟨⟨cls,L,data,sl⟩,ho,W,n,hd⟩:=id p;subst W hd;refine wpAny_binaryOp_repeat_ref `d {_,ho,rfl} (λs'=>typeIs_int s' k t) nX F.fills_int_mul F.slot_int_rmul sU F.slot_int_index.lookup
  (call_meets F.slot_int_rmul (typeIs_int s k t) F.entry_int_rmul (F.args_int_rmul_2 _ _) (pQ k t l j.toArray n L sl) {ho,rfl,{_,ho,rfl},?_})
 have new:∀(B:List PL),Vals (List.replicate k.toNat xs).flatten B->EP X pins σ Q (.ref s.heap.objs.size) {s with heap:=s.heap.push {cls:=Value.type "tuple",data:=Data.seq B.toArray}}:=λB r'=>by
  refine{.ref s.heap.objs.size,_,I.laid (λb ob q=>PM _ q) (PV _) ?_,rfl,q2 _ (I.hok.fresh (PV _))};exact{by rw[len_rep,Nat.mul_comm,<- dE];exact U,_,r',IsTup.new _ _}
 by_cases O:(j.toArray.isEmpty||k==1)=true
 ·refine call_meets F.slot_tuple_mul {_,ho,rfl} F.entry_tuple_mul (F.args_tuple_mul_2 _ _) (p7 l j.toArray n L sl k t h1 h2 O) {ho,{.ref l,H,I,rfl,q1 ?_}};rcases Bool.or_eq_true_iff.mp O with z|z
  ·have e:j=[]:=by simpa using z
   subst e;have e2:=RX.mp hl;subst e2;simp
  ·have e:k=1:=by simpa using z
   subst e;simp
 ·have E:(j.toArray.isEmpty||k==1)=false:=by simpa using O
  by_cases P:(decide (k≤0)||j.toArray.isEmpty)=true
  ·refine call_meets F.slot_tuple_mul {_,ho,rfl} F.entry_tuple_mul (F.args_tuple_mul_2 _ _) (p8 l j.toArray n L sl k t h1 h2 E P) {ho,new [] ?_};have hk:k≤0:=by
    rcases Bool.or_eq_true_iff.mp P with z|z
    ·simpa using z
    ·rw[z] at E;cases E
   have R:k.toNat=0:=`a
   rw[R];exact .nil
  ·have J:(decide (k≤0)||j.toArray.isEmpty)=false:=by simpa using P
   have hk:0<k:=by
    have:=(Bool.or_eq_false_iff.mp J).1;simpa using this
   have hs:(j.toArray.size:Int)*k≤16777216:=by
    have e1:(j.toArray.size:Int)*k=((xs.length*k.toNat:Nat):Int):=by
     rw[P7,<- hl,Int.natCast_mul,Int.toNat_of_nonneg `a]
    rw[e1];have:xs.length*k.toNat≤16777216:=U;omega
   have S:(List.foldl (λx1 x2=>x1++x2) #[] (List.replicate k.toNat j.toArray)).size≤sizeLine:=by
    rw[qK,P7,len_rep,Nat.mul_comm,<- hl,<- dE];exact U
   refine call_meets F.slot_tuple_mul {_,ho,rfl} F.entry_tuple_mul (F.args_tuple_mul_2 _ _) (p9 l j.toArray n L sl k t h1 h2 E J hs S) {ho,?_};rw[qK];exact new _ (r.rep k.toNat)
set_option tactic.hygienic true in
def Ng (m:Bool):bN X (binaryOp .Mult) (lT fa X.K m .mul):=by
 intro pins s σ H x y v u Q I L O h;obtain⟨μ,M,B,E,F,h1,h2,h⟩:=h;have U:∀i j,B=.int i->E=.int j->wpAny (model X.prog X.w) X.A (binaryOp .Mult v u) (EP X pins σ Q) X.xe s:=λi j e1 e2=>by
  subst e1 e2;have h:ae (if (-(2^64)<i/\i<2^64)\/(-(2^64)<j/\j<2^64) then .ok (.int (i*j)) M else .bad) (bj fa X.K μ H Q):=h;split at h
  ·next c=>exact Jk pins s σ H x y v u Q I L O {i,j,h1,h2,c,aS F h rfl}
  ·exact h.elim
 have W:∀i j,B=.tup i->E=.int j->wpAny (model X.prog X.w) X.A (binaryOp .Mult v u) (EP X pins σ Q) X.xe s:=λi j e1 e2=>by
  subst e1 e2;have h:ae (if i.length*j.toNat≤sz/\-(2^63)≤j/\j<2^63 then .ok (.tup (List.replicate j.toNat i).flatten) M else .bad) (bj fa X.K μ H Q):=h;split at h
  ·next c=>
   obtain⟨a,R,e1,P,J⟩:=id h1;refine Gd pins s σ H x y v u Q I L O {a,j,R,e1,h2,P,c.2.1,c.2.2,by rw[J.length];exact c.1,λz=>?_,i4 F (J.rep j.toNat) h}
   refine aS F h {a,R,rfl,P,?_};have:=J.rep j.toNat;rw[z] at this;exact this
  ·exact h.elim
 have hl:∀j,E=.int j->ae (match fy M B with|some x=>if x.length*j.toNat≤sz/\-(2^63)≤j/\j<2^63 then bb m (List.replicate j.toNat x).flatten M else .bad|none=>.bad) (bj fa X.K μ H Q)->
  wpAny (model X.prog X.w) X.A (binaryOp .Mult v u) (EP X pins σ Q) X.xe s:=λj e1 S=>by
  subst e1;exact BQ I F h1 h2 L O S
 cases E with
 |int j=>cases B<;>first|exact U _ _ rfl rfl|exact W _ _ rfl rfl|exact hl _ rfl h
 |_=>cases B<;>exact h.elim
noncomputable def binOp:nI->Operator
 |.add=>.Add|.sub=>.Sub|.mul=>.Mult|.fdiv=>.FloorDiv|.mod=>.Mod|.pow=>.Pow
def Ni (m:Bool):∀o:nI,bN X (binaryOp (binOp o)) (lT fa X.K m o)
 |.add=>Nj m|.sub=>Nd m|.mul=>Ng m|.fdiv=>K9 m|.mod=>Nh m|.pow=>Nf m
end
end LD
namespace LD
open PySem PySem.Spec PyProof.Rows L2
section
variable{fa:Fa}{X:Cx}{μ:Mu}{H:Hp}{σ:L2.St}{pins:List (Addr×Obj)}{s:PX}{M:Mem}
def JX (h:jN X r)(i:∀x y H Q,r' x y H Q->r x y H Q):jN X r':=λz j pins s σ H x y v u Q I B E q hs=>h z j pins s σ H x y v u Q I B E (i x y H Q q) hs
def rIdx (fa:Fa)(K:PJ):R2:=λx y H Q=>∃μ M h j d,RelM fa K μ H M/\Rep fa K μ H h x/\Rep fa K μ H j y/\b9 h j M=some d/\bj fa K μ H Q d M
def tX (n:Nat)(i:Int):LD.cg n i=L2.cg n i:=rfl
set_option tactic.hygienic true in
def Mh:jN X (rIdx fa X.K):=JX JW λx y H Q h=>by
 obtain⟨μ,M,u,I,d,F,h1,h2,e,q⟩:=h;have gen:∀i,I=.int i->((bU M u).bind λE=>(LD.cg E.length i).bind λj=>E[j]?)=some d->IL X.K x y H Q:=λi R O=>by
  subst R;clear e;have e:=O;clear O;cases e1:bU M u with
  |none=>rw[e1] at e;cases e
  | some E =>
    rw[e1,Option.bind_some] at e;obtain⟨a,L,rfl,B,r⟩:=i7 F h1 e1;cases e2:LD.cg E.length i with
    |none=>rw[e2] at e;cases e
    | some j =>
      rw[e2,Option.bind_some] at e;obtain⟨v,U,P⟩:=r.get e;have he:rB L i=some v:=by
       unfold rB;rw[r.length,<- tX,e2];exact U
      rcases B with B|B
      ·exact .inl {a,L,i,v,rfl,h2,B,he,aS F q P}
      ·exact .inr (.inl {a,L,i,v,rfl,h2,B,he,aS F q P})
 have str:∀z i,u=.str z->I=.int i->IL X.K x y H Q:=λz i e1 e2=>by
  subst e1 e2;have e:(if z.cps.size≤sz then(LD.cg z.cps.size i).bind λj=>(z.cps[j]?).map λc=>D.str {#[c]} else none)=some d:=e;split at e
  ·next W=>
   cases e2:LD.cg z.cps.size i with
   |none=>rw[e2] at e;cases e
   | some j =>
     rw[e2,Option.bind_some] at e;cases J:z.cps[j]? with
     |none=>rw[J] at e;cases e
     | some c =>
       rw[J] at e;have S:=PQ e;subst S;refine .inr (.inr {z,i,c,h1,h2,by rw[<- dE];exact W,?_,aS F q rfl})
       unfold rB;rw[show z.cps.toList.length=z.cps.size by simp,<- tX,e2]
       simpa using J
  ·cases e
 cases I with
 |int i=>cases u<;>first|exact str _ _ rfl rfl|exact gen _ rfl e
 |_=>cases u<;>cases (e)
def Ii (h:mH X r)(i:∀x lo hi H Q,r' x lo hi H Q->r x lo hi H Q):mH X r':=λpins s σ H x v y z lo hi sl Q I u hs pl j q=>h pins s σ H x v y z lo hi sl Q I u hs pl j (i x lo hi H Q q)
noncomputable def oN:D->Option (Option Int)
 |.non=>some none
 |.int i=>some (some i)
 |_=>none
def sR (n d:Nat)(x:D):LD.aQ n d x=(oN x).map (HT.aQ n d):=by
 cases x<;>rfl
def sO:mH X (λx lo hi H Q=>∃a xs,x=.ref a/\dS X.K H a xs/\(HT.aQ xs.length 0 lo=0/\HT.aQ xs.length xs.length hi=xs.length)/\Q (.ref a) H):=by
 intro pins s σ H x v U W lo hi sl Q I R hs pl P h;obtain⟨a,xs,rfl,O,J,q⟩:=h;cases R;obtain⟨j,r,u,S⟩:=I.tuple O;refine{"tuple",_,Q9.lookup,u.typeIs,?_};have y:j.toArray.size=xs.length:=by rw[P7];exact r.length.symm
 rw[<- y] at J;obtain⟨os,F,E,L⟩:=id hs;have B:s.TypeIs (.ref sl) "slice":=⟨os,F,E⟩;unfold getItem;try with_reducible refine tqo ?_
 first|refine tqa (tqb ?_)|skip
 refine tqa (wpAny_sequenceKey u.typeIs `d ?_)
 refine tqa (wpAny_callSpecial?_slot u.typeIs Q9
  (wpAny_call_entry Q9 u.typeIs entry_tuple_getitem ?_ (args_tuple_getitem _ _)))
 show wpAny _ _ (Builtin.Tuple.tupleItemsOf (.ref a) >>= _) _ _ s;refine tqa (tupleItemsOf_ u ?_);refine tqa (wpAny_typeOf B ?_);rw[if_pos `d]
 refine tqa (HT.i6 hs pl P ?_);have z:(((HT.aQ j.toArray.size 0 lo:Nat):Int)==0&&(1:Int)==1&&(HT.aQ j.toArray.size j.toArray.size hi-HT.aQ j.toArray.size 0 lo)==j.toArray.size)=true:=by
  rw[J.1,J.2];simp
 show wpAny _ _ (if (((HT.aQ j.toArray.size 0 lo:Nat):Int)==0&&(1:Int)==1&&(HT.aQ j.toArray.size j.toArray.size hi-HT.aQ j.toArray.size 0 lo)==j.toArray.size)=true then _ else _) _ _ s;rw[if_pos z];refine tqa ?_;refine tqa (wpAny_typeOf u.typeIs ?_);refine tqb ?_;rw[if_pos `d]
 exact tqa (wpAny_rule (tqb {_,rfl,tqb {.ref a,H,I,rfl,q}}))
def Oh (fa:Fa)(K:PJ)(m:Bool):V->Option Int->Option Int->Hp->VK->Prop:=λx lo u H Q=>∃μ M j dl h,RelM fa K μ H M/\Rep fa K μ H j x/\oN dl=some lo/\oN h=some u/\ae (cZ m j dl h M) (bj fa K μ H Q)
def FJ (m:Bool):mH X (Oh fa X.K m):=by
 refine Ii (FK.or (Ih.or sO)) λx lo u H Q h=>?_;obtain⟨μ,M,z,dl,E,B,h1,e1,e2,h⟩:=h;have gen:ae (match eP M z with
  | some xs => match LD.aQ xs.length 0 dl, LD.aQ xs.length xs.length E with
    |some l,some h=>bb m (cut xs l h) M
    |_,_=>.bad
  |none=>.bad) (bj fa X.K μ H Q)->IH X.K x lo u H Q:=λh=>by
  cases e:eP M z with
  |none=>rw[e] at h;exact h.elim
  | some xs =>
    rw[e] at h;simp only[sR,e1,e2,Option.map_some] at h;obtain⟨a,j,rfl,v,r⟩:=bP B h1 e;have hl:=r.length;obtain⟨_,k⟩:=g7 B ((r.drop (HT.aQ xs.length 0 lo)).take (HT.aQ xs.length xs.length u-HT.aQ xs.length 0 lo)) h;refine{a,j,rfl,v,?_};unfold qm;rw[hl];exact k
 have tup:∀xs,z=.tup xs->IG X.K x lo u H Q\/∃a xs,x=.ref a/\dS X.K H a xs/\(HT.aQ xs.length 0 lo=0/\HT.aQ xs.length xs.length u=xs.length)/\Q (.ref a) H:=λxs e=>by
  subst e;have h:ae (match LD.aQ xs.length 0 dl,LD.aQ xs.length xs.length E with
   |some l,some h=>.ok (.tup (cut xs l h)) M
   |_,_=>.bad) (bj fa X.K μ H Q):=h
  simp only[sR,e1,e2,Option.map_some] at h;obtain⟨a,j,rfl,v,r⟩:=h1;have hl:=r.length;by_cases y:HT.aQ j.length 0 lo=0/\HT.aQ j.length j.length u=j.length
  ·refine .inr {a,j,rfl,v,y,?_};rw[hl] at y;have F:cut xs (HT.aQ xs.length 0 lo) (HT.aQ xs.length xs.length u)=xs:=by rw[y.1,y.2];simp[cut]
   rw[F] at h;exact aS B h ⟨a,j,rfl,v,r⟩
  ·refine .inl {a,j,rfl,v,y,?_};have k:=i4 B ((r.drop (HT.aQ xs.length 0 lo)).take (HT.aQ xs.length xs.length u-HT.aQ xs.length 0 lo)) h;unfold qm;rw[hl];exact k
 cases z<;>first|exact .inr (tup _ rfl)|exact .inl (gen h)
def nO (fa:Fa)(K:PJ)(f:wD):List V->Hp->VK->Prop:=λj H Q=>∃μ M h,RelM fa K μ H M/\aL fa K μ H h j/\ae (dP f h M) (bj fa K μ H Q)
def oI {d:D}{vs:List V}{K:PJ}(h:aL fa K μ H [d] vs):∃v,vs=[v]/\Rep fa K μ H d v:=by
 obtain⟨v,r,rfl,h1,h2⟩:=h;obtain rfl:r=[]:=h2;exact⟨v,rfl,h1⟩
set_option tactic.hygienic true in
def Mr:cu X (.builtin "len") (nO fa X.K .len):=je (uw.or uu) λB H Q h=>by
 obtain⟨μ,M,E,j,r,h⟩:=h
 match E,r,h with
 |[],_,h=>exact h.elim
 |d::_::_,_,h=>cases d<;>exact h.elim
 | [d], r, h =>
   obtain⟨v,rfl,y⟩:=oI r;have gen:ae (match bU M d with|some xs=>.ok (.int xs.length) M|none=>.bad) (bj fa X.K μ H Q)->∃p u,[v]=[.ref p]/\(dh X.K H p u\/dS X.K H p u)/\Q (.int u.length) H:=λh=>by
    cases e:bU M d with
    |none=>rw[e] at h;exact h.elim
    | some xs =>
      rw[e] at h;obtain⟨a,B,rfl,F,r⟩:=i7 j y e;refine{a,B,rfl,F,?_};rw[r.length];exact aS j h rfl
   have str:∀x,d=.str x->∃z,[v]=[V.str z]/\z.length≤sizeLine/\Q (.int z.length) H:=λx e=>by
    subst e;have h:ae (if x.cps.size≤sz then .ok (.int x.cps.size) M else .bad) (bj fa X.K μ H Q):=h;split at h
    ·next c=>exact{x,by rw[show v=.str x from y],by rw[<- dE];exact c,aS j h rfl}
    ·exact h.elim
   cases d<;>first|exact .inr (str _ rfl)|exact .inl (gen h)
def GH:cu X (.type "tuple") (nO fa X.K .tuple):=je rJ λu H Q h=>by
 obtain⟨μ,M,E,y,r,h⟩:=h
 match E,r,h with
 |[],_,h=>exact h.elim
 |d::_::_,_,h=>cases d<;>exact h.elim
 | [d], r, h =>
   obtain⟨v,rfl,B⟩:=oI r;have gen:ae (match eP M d with|some xs=>.ok (.tup xs) M|none=>.bad) (bj fa X.K μ H Q)->∃p j,[v]=[.ref p]/\((dh X.K H p j/\∀l,H l=none->Q (.ref l) (upd H l (.tup j)))\/(dS X.K H p j/\Q (.ref p) H)):=λh=>by
    cases e:eP M d with
    |none=>rw[e] at h;exact h.elim
    | some xs =>
      rw[e] at h;obtain⟨a,u,rfl,z,r⟩:=bP y B e;exact{a,u,rfl,.inl {z,i4 y r h}}
   have tup:∀x,d=.tup x->∃p j,[v]=[.ref p]/\((dh X.K H p j/\∀l,H l=none->Q (.ref l) (upd H l (.tup j)))\/(dS X.K H p j/\Q (.ref p) H)):=λx e=>by
    subst e;obtain⟨a,u,rfl,z,r⟩:=id B;exact{a,u,rfl,.inr {z,aS y h B}}
   cases d<;>first|exact tup _ rfl|exact gen h
def J8 (m:Bool):cu X (.type "list") (nO fa X.K (.list m)):=je ur λu H Q h=>by
 obtain⟨μ,M,y,j,r,h⟩:=h
 match y,r,h with
 |[],_,h=>exact h.elim
 |_::_::_,_,h=>exact h.elim
 | [d], r, h =>
   obtain⟨v,rfl,B⟩:=oI r;have h:ae (match bU M d with|some xs=>bb m xs M|none=>.bad) (bj fa X.K μ H Q):=h
   cases e:bU M d with
   |none=>rw[e] at h;exact h.elim
   | some xs =>
     rw[e] at h;obtain⟨a,u,rfl,z,r⟩:=i7 j B e;obtain⟨_,k⟩:=g7 j r h;exact⟨a,u,rfl,z,k⟩
end
section
variable{fa:Fa}{X:Cx}{μ:Mu}{H:Hp}{σ:L2.St}{pins:List (Addr×Obj)}{s:PX}{M:Mem}
set_option tactic.hygienic true in
def NZ (hM:RelM fa X.K μ H M)(h:Rep fa X.K μ H d v)(e:jQ M d=some k):CY X.K v H k:=by
 cases d with
 |non=>obtain rfl:v=.non:=h;exact(PQ e).symm
 |bl b=>obtain rfl:v=.bl b:=h;exact(PQ e).symm
 |int i=>obtain rfl:v=.int i:=h;exact(PQ e).symm
 | str x =>
   obtain rfl:v=.str x:=h;have e:(if x.cps.size≤sz then some (x.cps.size != 0) else none)=some k:=e;split at e
   ·next c=>
    refine{by rw[<- dE];exact c,?_}
    rw[<- PQ e];show(x.cps.size != 0)=((x.cps.size:Int) != 0);rw[Ra];simp
   ·cases e
 | tup ds =>
   obtain⟨a,vs,rfl,hq,r⟩:=h;refine .inr (.inl {vs,hq,?_});rw[<- PQ e];have:=r.length;cases vs<;>cases ds<;>simp_all
 | lst ds =>
   obtain⟨a,vs,rfl,hq,r⟩:=bP hM h rfl;refine .inl {vs,hq,?_};rw[<- PQ e];have:=r.length;cases vs<;>cases ds<;>simp_all
 | frz ds =>
   obtain⟨a,vs,rfl,hq,r⟩:=bP hM h rfl;refine .inl {vs,hq,?_};rw[<- PQ e];have:=r.length;cases vs<;>cases ds<;>simp_all
 | cell c =>
   have e:(M[c]?).map (λds=>!ds.isEmpty)=some k:=e;cases e1:M[c]? with
   |none=>rw[e1] at e;cases e
   | some ds =>
     rw[e1] at e;obtain⟨a,vs,rfl,hq,r⟩:=bP hM h e1;refine .inl {vs,hq,?_};rw[<- PQ e];have:=r.length;cases vs<;>cases ds<;>simp_all
 |fn f=>cases e
 |exc y p=>cases e
def zj:∀{ds:List D}{bs:List Bool}{vs:List V}{us:List PL},boolsOf ds=some bs->aL fa X.K μ H ds vs->Vals vs us->PyProof.Rows.LSm.BoolsAre us bs:=by
 intro ds;induction ds with
 | nil =>
   intro bs vs us e h r;obtain rfl:vs=[]:=h;cases r;cases e;exact .nil
 | cons d ds j =>
   intro bs vs us e h r;obtain⟨v,vr,rfl,h1,h2⟩:=h;cases r with
   | cons r1 r2 =>
     cases d with
     | bl b =>
       have e:(boolsOf ds).map (b::·)=some bs:=e;cases e1:boolsOf ds with
       |none=>rw[e1] at e;cases e
       | some u =>
         rw[e1] at e;have e2:=PQ e;subst e2;obtain rfl:v=.bl b:=h1;obtain rfl:_=Value.bool b:=r1;exact .cons b (j e1 h2 r2)
     |_=>cases e
def qr:cu X (.builtin "all") (λxs H Q=>∃μ ds bs p vs,xs=[.ref p]/\X.calm=true/\dh X.K H p vs/\aL fa X.K μ H ds vs/\boolsOf ds=some bs/\Q (.bl (bs.all id)) H):=by
 intro pins s σ H xs us Q I r h;obtain⟨μ,ds,bs,p,vs,rfl,J,L,O,E,q⟩:=h;obtain⟨u,rfl,R⟩:=vals1 r;cases R;obtain⟨j,P,pl,Y⟩:=I.list L;have B:=zj E O P;have y:=pl.lt;refine call_all_walk (wpAny_pyIter_list pl.isList ?_);refine{s.heap.objs.size,[s.heap.objs.size,p],[s.heap.objs.size],j.toArray.size,_,_,λi=>(bs[i]?).getD true,rfl,Walks.list (A:=X.A.in1) (I.ok.hd J) _ p (Qw y) j.toArray,
  {{_,Qn _ rfl,rfl,rfl},pl.isList.push _},λi v s' U S F z=>?_,λW tk hk=>?_}
 ·obtain⟨b,e,rfl⟩:=B.get i v (by simpa using F)
  simp only[e,Option.getD_some] at z;exact tqp z
 ·have e:((List.range j.toArray.size).all λi=>(bs[i]?).getD true)=bs.all id:=by
   rw[P7,B.length];exact PyProof.Rows.LSm.range_all bs
  rw[e];exact{.bl _,H,I.kept (PyProof.Rows.LSm.kept_iter hk),rfl,q}
def BP:∀{ds:List D}{bs:List Int}{vs:List V}{us:List PL},intsOf ds=some bs->aL fa X.K μ H ds vs->Vals vs us->IntsAre us bs:=by
 intro ds;induction ds with
 | nil =>
   intro bs vs us e h r;obtain rfl:vs=[]:=h;cases r;cases e;exact .nil
 | cons d ds j =>
   intro bs vs us e h r;obtain⟨v,vr,rfl,h1,h2⟩:=h;cases r with
   | cons r1 r2 =>
     cases d with
     | int b =>
       have e:(intsOf ds).map (b::·)=some bs:=e;cases e1:intsOf ds with
       |none=>rw[e1] at e;cases e
       | some u =>
         rw[e1] at e;have e2:=PQ e;subst e2;obtain rfl:v=.int b:=h1;obtain⟨t,rfl⟩:=r1;exact .cons b t (j e1 h2 r2)
     |_=>cases e
def rK:cu X (.builtin "sum") (λxs H Q=>∃μ ds bs p vs,xs=[.ref p]/\X.calm=true/\dh X.K H p vs/\aL fa X.K μ H ds vs/\intsOf ds=some bs/\Q (.int bs.sum) H):=by
 intro pins s σ H xs U Q I r h;obtain⟨μ,ds,ns,p,vs,rfl,B,E,J,z,q⟩:=h;obtain⟨u,rfl,O⟩:=vals1 r;cases O;obtain⟨F,L,pl,S⟩:=I.list E;have v:=BP z J L;obtain⟨xs,y⟩:=v.allInts.items;have j:=y ▸ pl.isList;refine sum_intListG (I.ok.hd B) j λR tk P hk=>?_;have e1:ns=xs.toList.map (·.1):=by
  rw[<- nums_intItems,<- y];exact(v.numsOf).symm
 have e2:preSum (numAt xs) xs.size=ns.sum:=by
  rw[preSum_eq,Qt `s,e1]
 rw[e2];exact{.int _,H,I.kept hk,⟨P,rfl⟩,q}
def Mv (z:X.calm=true):cu X (.builtin "all") (nO fa X.K .all):=je (qr) λu H Q h=>by
 obtain⟨μ,M,y,j,r,h⟩:=h
 match y,r,h with
 |[],_,h=>exact h.elim
 |d::_::_,_,h=>exact h.elim
 | [d], r, h =>
   obtain⟨v,rfl,E⟩:=oI r;have h:ae (match eP M d with|some xs=>(match boolsOf xs with|some bs=>.ok (.bl (bs.all id)) M|none=>.bad)|none=>.bad) (bj fa X.K μ H Q):=h
   cases e:eP M d with
   |none=>rw[e] at h;exact h.elim
   | some xs =>
     rw[e] at h;simp only at h;cases e2:boolsOf xs with
     |none=>rw[e2] at h;exact h.elim
     | some bs =>
       rw[e2] at h;obtain⟨a,u,rfl,B,r⟩:=bP j E e;exact{μ,xs,bs,a,u,rfl,z,B,r,e2,aS j h rfl}
def Mq (z:X.calm=true):cu X (.builtin "sum") (nO fa X.K .sum):=je (rK) λu H Q h=>by
 obtain⟨μ,M,y,j,r,h⟩:=h
 match y,r,h with
 |[],_,h=>exact h.elim
 |d::_::_,_,h=>exact h.elim
 | [d], r, h =>
   obtain⟨v,rfl,E⟩:=oI r;have h:ae (match eP M d with|some xs=>(match intsOf xs with|some bs=>.ok (.int bs.sum) M|none=>.bad)|none=>.bad) (bj fa X.K μ H Q):=h
   cases e:eP M d with
   |none=>rw[e] at h;exact h.elim
   | some xs =>
     rw[e] at h;simp only at h;cases e2:intsOf xs with
     |none=>rw[e2] at h;exact h.elim
     | some bs =>
       rw[e2] at h;obtain⟨a,u,rfl,B,r⟩:=bP j E e;exact{μ,xs,bs,a,u,rfl,z,B,r,e2,aS j h rfl}
noncomputable def tyName:Ty->String
 |.int=>"int" | .bool=>"bool" | .str=>"str" | .tuple=>"tuple" | .list=>"list" | .own _=>""
def Np:D->String
 |.non=>"NoneType" | .bl _=>"bool" | .int _=>"int" | .str _=>"str" | .tup _=>"tuple" | _=>"list"
def LC (t:Ty)(d:D)(b:Bool)(j:∀c,t≠.own c)(e:gP t d=some b):PySem.W.kitOne X.K (.type (Np d)) (.type (tyName t))=some b:=by
 cases t with
 |own c=>exact absurd rfl (j c)
 |_=>cases d<;>first|(cases (show(none:Option Bool)=some b from e))|(have h:=PQ e;subst h;(first|rfl|decide +kernel))
def Bn (J:RelM fa X.K μ H M)(h:Rep fa X.K μ H d v)(e:gP t d=some b)(I:Inv X pins σ H s)(r:RelV v u)
 (j:PySem.W.kitOne X.K (.type (Np d)) c=some b) (q:∀tk,Q (.bool b) {s with toks:=tk}):wpAny (model X.prog X.w) X.A (call (.builtin "isinstance") [u,c]) Q X.xe s:=by
 cases d with
 |non=>obtain rfl:v=.non:=h;exact jD I r .non j q
 |bl x=>obtain rfl:v=.bl x:=h;exact jD I r (.bl x) j q
 |int x=>obtain rfl:v=.int x:=h;exact jD I r (.int x) j q
 |str x=>obtain rfl:v=.str x:=h;exact jD I r (.str x) j q
 | tup F =>
   obtain⟨a,O,rfl,B,_⟩:=h;obtain rfl:u=Value.ref a:=r;obtain⟨E,L,⟨o,h1,h2,_⟩,_⟩:=I.tuple B;exact QW PySem.W.kitx_tuple I.kIn ⟨o,h1,h2⟩ j (λz=>nomatch z) q
 | lst F =>
   obtain⟨a,O,rfl,B,_⟩:=bP J h rfl;obtain rfl:u=Value.ref a:=r;obtain⟨E,L,⟨o,n,h1,h2,_⟩,_⟩:=I.list B;exact QW PySem.W.kitx_list I.kIn ⟨o,h1,h2⟩ j (λz=>nomatch z) q
 | frz F =>
   obtain⟨a,O,rfl,B,_⟩:=bP J h rfl;obtain rfl:u=Value.ref a:=r;obtain⟨E,L,⟨o,n,h1,h2,_⟩,_⟩:=I.list B;exact QW PySem.W.kitx_list I.kIn ⟨o,h1,h2⟩ j (λz=>nomatch z) q
 | cell k =>
   obtain⟨a,rfl,hk⟩:=h;obtain⟨F,O,_,B,_⟩:=J.mu_lt hk;obtain rfl:u=Value.ref a:=r;obtain⟨E,L,⟨o,n,h1,h2,_⟩,_⟩:=I.list (dh.of B);exact QW PySem.W.kitx_list I.kIn ⟨o,h1,h2⟩ j (λz=>nomatch z) q
 |fn f=>cases e
 |exc y p=>cases e
def LQ (fa:Fa)(K:PJ)(t:Ty):List V->Hp->VK->Prop:=λh H Q=>∃μ M d v b,h=[v,.ty (tyName t)]/\RelM fa K μ H M/\Rep fa K μ H d v/\gP t d=some b/\Q (.bl b) H
def J9 (t:Ty)(y:∀c,t≠.own c):cu X (.builtin "isinstance") (LQ fa X.K t):=by
 intro pins s σ H xs B Q I r h;obtain⟨μ,M,d,v,b,rfl,j,z,e,q⟩:=h;obtain⟨u,w,rfl,r1,r2⟩:=vals2 r;obtain rfl:w=Value.type (tyName t):=r2;exact Bn j z e I r1 (LC t d b y e) λtk=>{.bl b,H,I.tok _,rfl,q}
end
section
variable{fa:Fa}{X:Cx}
abbrev DE (fa:Fa)(X:Cx)(e:Expr)(g:Env->Mem->Res D):Prop:=PE X e (tE fa X.K g)
abbrev DT (fa:Fa)(X:Cx)(e:Expr)(g:Env->Mem->Res Bool):Prop:=PT X e (tT fa X.K g)
abbrev DW (fa:Fa)(X:Cx)(e:Expr)(g:Env->Mem->Res Bool):Prop:=PW X e (tT fa X.K g)
abbrev DA (fa:Fa)(X:Cx)(es:List Expr)(g:Env->Mem->Res (List D)):Prop:=PA X es (tA fa X.K g)
abbrev DS (fa:Fa)(X:Cx)(st:Stmt)(g:Env->Mem->Res Fl):Prop:=PS X st (tF fa X g)
abbrev kv (fa:Fa)(X:Cx)(st:List Stmt)(g:Env->Mem->Res Fl):Prop:=kr X st (tF fa X g)
variable{a b d:Expr}{ga gb gd:Env->Mem->Res D}{pos:Pos}
def MG {i:Nat}(B:X.N[i]?=some x)(E:wu X.env.scope x)(hd:(x==("__debug__":Str))=false)(j:(x==("__classdict__":Str))=false) :
 DE fa X (.Name x pos) (λρ M=>bX M (ρ[i]?.getD none)):=bL (zx B E hd j) λI H Q ⟨F,ρ,M,y,z,h⟩=>by
 obtain⟨d,e,w⟩:=j8 h;have u:ρ[i]?=some (some d):=by
  cases q:ρ[i]? with
  |none=>rw[q] at e;cases e
  |some o=>rw[q] at e;simp at e;rw[e]
 obtain⟨v,h1,h2⟩:=y.at' i d u;exact{v,h1,aS z w h2}
def iY (h:PE X e (tC v))(r:∀μ H,Rep fa X.K μ H dc v):DE fa X e (λ_ M=>.ok dc M):=bL h λz H Q ⟨μ,y,M,u,j,h⟩=>aS j h (r μ H)
def MQ {i:Int}:DE fa X (.Constant (.int i) j pos) (λ_ M=>.ok (.int i) M):=iY zy λ_ _=>rfl
def O2:DE fa X (.Constant (.bool i) j pos) (λ_ M=>.ok (.bl i) M):=iY LZ λ_ _=>rfl
def MI:DE fa X (.Constant (.str i) j pos) (λ_ M=>.ok (.str i) M):=iY Ja λ_ _=>rfl
def MM:DE fa X (.Constant .none j pos) (λ_ M=>.ok .non M):=iY Jd λ_ _=>rfl
def t2 {Q:Type}{f:D->D->Mem->Res Q}{P:Q->Mem->Prop}{R:V->V->Hp->Prop}(S:bw fa X.K μ H σ ρ)(U:RelM fa X.K μ H M)
 (h:ae ((ga ρ M).bind λx M=>(gb ρ M).bind λy M=>f x y M) P)
 (k:∀x y B v u z j,Ext μ H j z->bw fa X.K j z σ ρ->RelM fa X.K j z B->Rep fa X.K j z x v->Rep fa X.K j z y u->ae (f x y B) P->R v u z) :
 tE fa X.K ga σ H λv L=>tE fa X.K gb σ L λu z=>R v u z:=
 t1 S U h λx M1 v L Y W E I r1 h1=>t1 E I h1 λy B u z j O F J r2 h2=>k x y B v u z j (W.trans O) F J (r1.ext O) r2 h2
def MW (m:Bool)(o:nI)(J:DE fa X a ga)(L:DE fa X b gb):DE fa X (.BinOp a (binOp o) b pos) (λρ M=>(ga ρ M).bind λx M=>(gb ρ M).bind λy M=>fO m o x y M):=
 bL (LX (Ni m o) J L) λS H Q ⟨R,ρ,M,E,I,h⟩=>t2 E I h λx y B v u P z O F j r1 r2 h2=>{z,B,x,y,j,r1,r2,j7 h2 O}
def oR {P:D->Mem->Prop}(h:ae ((bX M r).bind λb M=>.ok (.bl b) M) P):∃b,r=some b/\P (.bl b) M:=by
 obtain⟨b,j,e,q⟩:=aM h;cases r with
 |none=>cases e
 |some u=>cases e;exact{_,rfl,q}
def MT (O:Rm X)(o:jq)(J:DE fa X a ga)(L:DE fa X b gb)(hm:behindInMarks (fb o) b=false) :
 DE fa X (.Compare a [fb o] [b] pos) (λρ M=>(ga ρ M).bind λx M=>(gb ρ M).bind λy M=>(bX M (bq o x y M)).bind λb M=>.ok (.bl b) M):=
 bL (pV (nk O o) J L hm) λU H Q ⟨S,ρ,M,E,I,h⟩=>t2 E I h λx y B v u R z P F j r1 r2 h2=>by
  obtain⟨b,e,q⟩:=oR h2;exact{z,B,x,y,b,j,r1,r2,e,aS j (q.ext P) rfl}
def Kl (W:Rm X)(o:jq)(S:DE fa X a ga)(U:DE fa X b gb)(hm:behindInMarks (fb o) b=false) :
 DT fa X (.Compare a [fb o] [b] pos) (λρ M=>((ga ρ M).bind λx M=>(gb ρ M).bind λy M=>(bX M (bq o x y M)).bind λb M=>.ok (.bl b) M).bind λx M=>bX M (jQ M x)):=
 j5 (pT (nk W o) S U hm) λσ H Q ⟨μ,ρ,M,O,R,h⟩=>by
  obtain⟨z,I,e,q⟩:=aM h;have L:ae ((ga ρ M).bind λx M=>(gb ρ M).bind λy M=>(bX M (bq o x y M)).bind λb M=>.ok (.bl b) M) (λd M=>d=z/\M=I):=by rw[e];exact⟨rfl,rfl⟩
  refine t2 O R L λx y F v u E B Y P j r1 r2 h2=>?_;obtain⟨b,e1,e2,J⟩:=oR h2;subst e2 J;exact{B,F,x,y,b,j,r1,r2,e1,b,rfl,q E B Y j}
def Fm (F:∀ρ M x M',g ρ M=.ok x M'->∃k,x=.bl k)(h:tT fa X.K (λρ M=>(g ρ M).bind λx M=>bX M (jQ M x)) σ H Q) :
 tE fa X.K g σ H (λx u=>∃k,x=.bl k/\Q k u):=by
 obtain⟨L,ρ,M,B,E,h⟩:=h;obtain⟨x,z,e,q⟩:=aM h;obtain⟨k,rfl⟩:=F ρ M x z e;refine{L,ρ,M,B,E,?_};rw[e];intro v y j J I r1;obtain rfl:v=.bl k:=r1;exact{k,rfl,q y j J I}
def Ex {o O:jq}{L:Env->Mem->Res D}(S:L2.St)(H:Hp)(Q:VK):tE fa X.K (λρ M=>(ga ρ M).bind λx M=>(gb ρ M).bind λy M=>(bX M (bq o x y M)).bind λk M=>
 if k then(L ρ M).bind λz M=>(bX M (bq O y z M)).bind λb M=>.ok (.bl b) M else .ok (.bl false) M) S H Q->sv (gF fa X.K o) (gF fa X.K O) (tE fa X.K ga) (tE fa X.K gb) (tE fa X.K L) S H Q:=λ⟨μ,ρ,M,hE,hM,h⟩=>by
 refine t2 hE hM h λx y U v u H2 I P F j r1 r2 h2=>?_;obtain⟨k,M3,e,q⟩:=aM h2;cases E:bq o x y U with
 |none=>rw[E] at e;cases e
 | some k' =>
   rw[E] at e;cases e;refine{I,_,x,y,k,j,r1,r2,E,k,rfl,?_};cases k with
   |false=>exact aS j (bj.ext q P) rfl
   | true =>
     refine t1 F j q λz W w H4 J R hE4 B r4 h4=>?_;obtain⟨b,Y,q4⟩:=oR h4;exact{J,W,y,z,b,B,r2.ext R,r4,Y,aS B (q4.ext (P.trans R)) rfl}
def MV (j:Rm X)(o h:jq)(u:DE fa X a ga)(v:DE fa X b gb)(B:DE fa X d gc)(hm:lastMarks [fb o,fb h] [b,d]=false) :
 DE fa X (.Compare a [fb o,fb h] [b,d] pos) (λρ M=>(ga ρ M).bind λx M=>(gb ρ M).bind λy M=>(bX M (bq o x y M)).bind λk M=>
  if k then(gc ρ M).bind λz M=>(bX M (bq h y z M)).bind λb M=>.ok (.bl b) M else .ok (.bl false) M):=bL (B1 (nk j o) (nk j h) u v B hm) Ex
def B4 {x:D}(h:((bX M r).bind λb M=>Res.ok (.bl b) M)=.ok x M'):∃k,x=.bl k:=by
 cases r with
 |none=>cases h
 |some b=>cases h;exact⟨b,rfl⟩
def fc {j u:Type}{r:Res j}{f:j->Mem->Res u}{x:u}(h:r.bind f=.ok x M):∃a M1,r=.ok a M1/\f a M1=.ok x M:=by
 cases r with
 |ok a M1=>exact⟨a,M1,rfl,h⟩
 |err=>cases h
 |bad=>cases h
def Km (v:Rm X)(o j:jq){u:Env->Mem->Res D}(B:DE fa X a ga)(E:DE fa X b gb)(F:DE fa X d u)(hm:lastMarks [fb o,fb j] [b,d]=false) :
 DT fa X (.Compare a [fb o,fb j] [b,d] pos) (λρ M=>((ga ρ M).bind λx M=>(gb ρ M).bind λy M=>(bX M (bq o x y M)).bind λk M=>
  if k then(u ρ M).bind λz M=>(bX M (bq j y z M)).bind λb M=>.ok (.bl b) M else .ok (.bl false) M).bind λx M=>bX M (jQ M x)):=
 j5 (BV (nk v o) (nk v j) B E F hm) λI H Q h=>Ex I H _ (Fm (λρ M x J e=>by
  obtain⟨S,L,_,e⟩:=fc e;obtain⟨U,O,_,e⟩:=fc e;obtain⟨k,P,_,e⟩:=fc e;cases k with
  |false=>cases e;exact{_,rfl}
  | true =>
    obtain⟨W,R,_,e⟩:=fc e;exact B4 e) h)
def MN (B:DE fa X a ga):DE fa X (.UnaryOp .USub a pos) (λρ M=>(ga ρ M).bind λx M=>match x with|.int i=>.ok (.int (-i)) M|_=>.bad):=
 bL (LV HE B) λO H Q ⟨L,ρ,M,u,z,h⟩=>t1 u z h λx J v I F E y j r1 h1=>by
  cases x with
  |int i=>exact{i,r1,aS j (bj.ext h1 E) rfl}
  |_=>exact h1.elim
def MY {rest:List Expr}(I:DE fa X a ga)(J:DE fa X (.BoolOp .And (b::rest) pos) gb):DE fa X (.BoolOp .And (a::b::rest) pos) (λρ M=>(ga ρ M).bind λx M=>match x with
 |.bl true=>gb ρ M
 |.bl false=>.ok (.bl false) M
 |_=>.bad):=
 bL (Jg I J) λP H Q ⟨O,ρ,M,E,F,h⟩=>t1 E F h λx B v L y z u j r1 h1=>by
  cases x with
  | bl k =>
    refine{k,r1,?_};cases k with
    |true=>exact{y,ρ,B,u,j,j7 h1 z}
    |false=>exact aS j (bj.ext h1 z) rfl
  |_=>exact h1.elim
def O1 {rest:List Expr}(I:DE fa X a ga)(J:DE fa X (.BoolOp .Or (b::rest) pos) gb):DE fa X (.BoolOp .Or (a::b::rest) pos) (λρ M=>(ga ρ M).bind λx M=>match x with
 |.bl true=>.ok (.bl true) M
 |.bl false=>gb ρ M
 |_=>.bad):=
 bL (LW I J) λP H Q ⟨O,ρ,M,E,F,h⟩=>t1 E F h λx B v L y z u j r1 h1=>by
  cases x with
  | bl k =>
    refine{k,r1,?_};cases k with
    |true=>exact aS j (bj.ext h1 z) rfl
    |false=>exact{y,ρ,B,u,j,j7 h1 z}
  |_=>exact h1.elim
def EB (h:DE fa X a ga):DE fa X (.BoolOp op [a] pos) ga:=Jb h
def MK (B:DE fa X a ga):DE fa X (.UnaryOp .Not a pos) (λρ M=>(ga ρ M).bind λx M=>match x with|.bl k=>.ok (.bl (!k)) M|_=>.bad):=
 bL (Jc B) λO H Q ⟨L,ρ,M,u,z,h⟩=>t1 u z h λx J v I F E y j r1 h1=>by
  cases x with
  |bl k=>exact{k,r1,aS j (bj.ext h1 E) rfl}
  |_=>exact h1.elim
variable{ta tb:Env->Mem->Res Bool}
def GN (h:DT fa X a ta):DW fa X (.BoolOp .And [a] pos) ta:=FZ h
def Kh (h:DT fa X a ta):DW fa X (.BoolOp .Or [a] pos) ta:=IQ h
def Nw {Q:Bool->Hp->Prop}(x:Ext μ H μ' H')(h:ae b' λb M'=>∀u j,Ext μ H j u->RelM fa X.K j u M'->Q b u):ae b' λb M'=>∀u j,Ext μ' H' j u->RelM fa X.K j u M'->Q b u:=
 aO h λb M q u j y m=>q u j (x.trans y) m
def Ki {rest:List Expr}(I:DT fa X a ta)(J:DW fa X (.BoolOp .And (b::rest) pos) tb):DW fa X (.BoolOp .And (a::b::rest) pos) (λρ M=>(ta ρ M).bind λk M=>if k then tb ρ M else .ok false M):=
 zl (IS I J) λO H Q ⟨L,ρ,M,E,F,h⟩=>yF E F h λk B z u y v j h1=>by
  cases k with
  |true=>exact{u,ρ,B,v,j,Nw y h1}
  |false=>exact h1 z u y j
def MA {rest:List Expr}(I:DT fa X a ta)(J:DW fa X (.BoolOp .Or (b::rest) pos) tb):DW fa X (.BoolOp .Or (a::b::rest) pos) (λρ M=>(ta ρ M).bind λk M=>if k then .ok true M else tb ρ M):=
 zl (LS I J) λO H Q ⟨L,ρ,M,E,F,h⟩=>yF E F h λk B z u y v j h1=>by
  cases k with
  |true=>exact h1 z u y j
  |false=>exact{u,ρ,B,v,j,Nw y h1}
def Kj (E:DT fa X a ta):DT fa X (.UnaryOp .Not a pos) (λρ M=>(ta ρ M).bind λk M=>.ok (!k) M):=
 j5 (IV E) λL H Q ⟨J,ρ,M,y,B,h⟩=>yF y B h λk I v u F z j h1=>h1 v u F j
def CG (F:DE fa X a ga)(he:∀whole,isTrue a X.env whole=(do let v <- whole;standAt a.pos;holding [v] (truthy v))):DT fa X a (λρ M=>(ga ρ M).bind λx M=>bX M (jQ M x)):=
 j5 (BU F he) λO H Q ⟨L,ρ,M,z,E,h⟩=>t1 z E h λx J v y u I B j r1 h1=>by
  obtain⟨k,e,q⟩:=j8 h1;exact{k,NZ j r1 e,q y u I j}
def MP (J:DT fa X c gc)(F:DE fa X a ga)(I:DE fa X b gb):DE fa X (.IfExp c a b pos) (λρ M=>(gc ρ M).bind λk M=>if k then ga ρ M else gb ρ M):=
 bL (tj J F I) λP H Q ⟨O,ρ,M,B,E,h⟩=>yF B E h λk y L v z j u h1=>by
  cases k with
  |true=>exact{v,ρ,y,j,u,j7 h1 z}
  |false=>exact{v,ρ,y,j,u,j7 h1 z}
def MR (J:DE fa X a ga)(L:DE fa X b gb)(hs:i0 b):DE fa X (.Subscript a b pos) (λρ M=>(ga ρ M).bind λx M=>(gb ρ M).bind λy M=>bX M (b9 x y M)):=
 bL (wY Mh J L hs) λS H Q ⟨R,ρ,M,E,I,h⟩=>t2 E I h λx y B v u P z O F j r1 r2 h2=>by
  obtain⟨d,e,q⟩:=j8 h2;exact{z,B,x,y,d,j,r1,r2,e,q.ext O}
def DO (fa:Fa)(X:Cx)(e:Option Expr)(z:Bool)(g:Env->Mem->Res D):Prop:=PO X e λB H Q=>∃u v M,bw fa X.K u H B v/\RelM fa X.K u H M/\ae (g v M) λd y=>∃o,eQ z d=true/\oN d=some o/\∀j h,Ext u H h j->RelM fa X.K h j y->Q o j
def GY:DO fa X none false (λ_ M=>.ok .non M):=λh s v H Q I ⟨u,z,M,y,j,o,_,e,k⟩=>by
 cases e;exact F8 h s v H Q I (k H u .refl j)
def GX (E:DE fa X a ga):DO fa X (some a) true ga:=λj s L H Q I ⟨F,J,M,z,B,h⟩=>F7 E j s L H Q I {F,J,M,z,B,aO h λd O ⟨o,p,e,k⟩ v y u x m r=>by
 cases d with
 |int i=>cases e;exact{i,r,k y u x m}
 |_=>cases p}
def part_of {d:D}(h:eQ hp d=true):∃o,oN d=some o:=by
 cases hp<;>cases d<;>first|exact{_,rfl}|cases h
set_option tactic.hygienic true in
def MJ (m hl hh:Bool){lo hi:Option Expr}(ha:DE fa X a ga)(F:DO fa X lo hl gl)(E:DO fa X hi hh gh):DE fa X (.Subscript a (.Slice lo hi none p2) pos)
 (λρ M=>(ga ρ M).bind λx M=>(gl ρ M).bind λl M=>(gh ρ M).bind λh M=>if eQ hl l&&eQ hh h then cZ m x l h M else .bad):=
 bL (BZ (FJ m) ha F E) λσ H Q ⟨μ,ρ,M,hE,hM,h⟩=>t1 hE hM h λx U v H1 J x1 j y r1 h1=>by
  obtain⟨l,W,e2,h2⟩:=aM h1;obtain⟨u,Y,e3,h3⟩:=aM h2;split at h3
  ·next c=>
   rw[PY] at c;obtain⟨ol,P⟩:=part_of c.1;obtain⟨ou,R⟩:=part_of c.2;refine{J,ρ,U,j,y,?_};rw[e2];refine{ol,c.1,P,λH2 L I z=>{L,ρ,W,j.ext I,z,?_}};rw[e3];exact{ou,c.2,R,λH3 O S B=>{O,Y,x,l,u,B,(r1.ext I).ext S,P,R,j7 h3 ((x1.trans I).trans S)}}
  ·exact h3.elim
def KI:DA fa X [] (λ_ M=>.ok [] M):=zA eR λz H Q ⟨u,y,M,v,j,h⟩=>h [] H u .refl j rfl
def G5 (P:DE fa X a ga)(hs:DA fa X es gs)(I:starEach (a::es) X.env=(false,eval a X.env)::starEach es X.env) :
 DA fa X (a::es) (λρ M=>(ga ρ M).bind λx M=>(gs ρ M).bind λxs M=>.ok (x::xs) M):=
 zA (cM P hs I) λσ H Q ⟨μ,ρ,M,J,O,h⟩=>t1 J O h λx W v U S R j u r1 h1=>sC j u h1 λxs Y B F z E L y r2 h2=>h2 (v::B) F z (R.trans E) y {v,B,rfl,r1.ext E,r2}
set_option tactic.hygienic true in
def MH (hs:DA fa X es gs):DE fa X (.Tuple es k pos) (λρ M=>(gs ρ M).bind kL):=
 bL (I9 hs) λL H Q ⟨J,ρ,M,u,y,h⟩=>sC u y h λxs F I E B z v j r1 h1=>by
  unfold kL at h1;split at h1
  ·next c=>exact{by rw[r1.length,<- dE];exact c,i4 j r1 (bj.ext h1 z)}
  ·exact h1.elim
def MO (m:Bool)(hs:DA fa X es gs):DE fa X (.List es pos) (λρ M=>(gs ρ M).bind (bb m)):=
 bL (Je hs) λL H Q ⟨J,ρ,M,u,y,h⟩=>sC u y h λxs F I E B z v j r1 h1=>by
  obtain⟨c,k⟩:=g7 j r1 (j7 h1 z);exact{by rw[r1.length,<- dE];exact c,k}
end
def qZ (o:Obj)(f:Array PL->Array PL):(o.mapFields f).dict=o.dict:=by
 obtain⟨c,d,h,sl⟩:=o;cases h<;>rfl
section
variable{P:QF}{w:Qz}{M:Model}{A:Ry}{E:PL->PX->Prop}{base:Heap}{env:Rg}{outer:List Rg}{L a C:Addr}{dx:Option Addr}{New:Addr->Prop}{H:Hp}{s:PX}{Q:Unit->PX->Prop}
def u4 (hfr:A.frames=some (env::outer))(hl:s.heap.FunFrames base (env::outer))(hf:env.frame=some L)
 (he:s.heap.get? a=some oe) (hd:oe.data=.fields vs) (hsz:1<vs.size)
 (h:∀S T oT ts,(∀b o,b∉fU (env::outer)->b≠a->s.heap.get? b=some o->S.get? b=some o)->(∀b o,b≠a->s.heap.get? b=some o->∃sl,S.get? b=some {o with slots:=sl})->s.heap.objs.size≤T->T≠a->
  S.get? a=some (oe.mapFields (·.setIfInBounds 1 (.ref T)))->S.get? T=some oT->oT.data=.fields ts->ts[3]?=some .none->Q () {s with heap:=S}) :
 wpAny M A (do let f <- frameOf env;let pl <- entryPlaceOf L had;let b <- EntryCells.newEntry head f .none (rawInt L) .none pl;setField (.ref a) 1 b) (λ_ s'=>wpAny M A (setFlight (.ref a) none) Q E s') E s:=by
 have U:a∉fU (env::outer):=λhm=>by
  obtain⟨_,o,ho,hnf⟩:=hl.mem hm;rw[he] at ho;cases ho;exact hnf vs hd
 refine tqa (wpAny_frameOf_fun hfr hl hf λj v=>?_);refine tqa (wpAny_entryPlaceOf λpl W=>?_);refine tqa (wpAny_newObj_type ?_ (W.sizeOk5 _ _ _ _ _));have F:j.get? a=some oe:=(v.2.1 a U).trans he;generalize ho:({cls:=.type "traceback",dict:=none,data:=.fields ([head,.ref L,.none,rawInt L,.none]++(if pl.isEmpty then List.replicate 6 Value.none else pl)).toArray}:Obj)=o;have O:o.data=.fields ([head,.ref L,.none,rawInt L,.none]++(if pl.isEmpty then List.replicate 6 Value.none else pl)).toArray:=by rw[<- ho]
 have I:=PM o F;refine wpAny_setField I hd hsz ?_;have R:=QR (Qk F);have B:=RP hd (·.setIfInBounds 1 (Value.ref j.objs.size));have J:=Rw (Obj.mapFields (·.setIfInBounds 1 (Value.ref j.objs.size))) I (Obj.isFreed_of_fields B);have y:=(Rq (j.push o) (Obj.mapFields (·.setIfInBounds 1 (Value.ref j.objs.size))) (Q0 R)).trans (Qn j (Obj.isFreed_of_fields O));refine tqa (tqf J B (x:=.ref j.objs.size) (by simp[hsz]) ?_)
 rw[if_pos `s]
 refine wpAny_setField y O (by simp only[P7,Qe,RG,List.length_nil]<;>omega) ?_
 have keep:∀b u,b≠a->j.get? b=some u->(((j.push o).update a (Obj.mapFields (·.setIfInBounds 1 (Value.ref j.objs.size)))).update j.objs.size (Obj.mapFields (·.setIfInBounds 3 ((none:Option Addr).elim Value.none λf=>rawInt f)))).get? b=some u:=λb u z Y=>by
  have hbT:=QR (Qk Y);rw[Rq _ _ hbT,Rq _ _ (Q0 z)];exact PM _ Y
 refine h _ j.objs.size _ _ (λb u Y z q=>keep b u z ((v.2.1 b Y).trans q)) (λb u z q=>?_) (Nat.le_of_eq v.1.symm) R ?_ (Rw _ y (Obj.isFreed_of_fields (RP O _))) (RP O _) ?_
 ·obtain⟨sl,e⟩:=v.2.2 b u q;exact{sl,keep b _ z e}
 ·rw[Rq _ _ R];exact J
 ·first|(simp;done)|(rcases W with rfl|⟨_,_,_,_,_,_,_,rfl⟩<;>simp)
def vn (hfr:A.frames=some (env::outer))(hl:s.heap.FunFrames base (env::outer))(hf:env.frame=some L)(hF:mJ New C dx a s.heap H)(hN:∀b,s.heap.objs.size≤b->New b)(hok:eK P w H s.heap)(J:∀b∈fU (env::outer),H b=none)
 (h:∀B ch,(∀b∈ch,New b/\H b=none/\∃o vs,s.heap.get? b=some o/\o.data=.fields vs)->Un (fU (env::outer)) ch H H s.heap B->eK P w H B->mJ New C dx a B H->Q () {s with heap:=B}) :
 wpAny M A (noteFrame (.ref a) env) (λ_ s1=>wpAny M A (setFlight (.ref a) none) Q E s1) E s:=by
 obtain⟨na,ha,oe,vs,he,hc,Y,hd,tr⟩:=hF;have U:∀B ch,(∀b∈ch,New b/\H b=none/\∃o vs,s.heap.get? b=some o/\o.data=.fields vs)->(∀b o,b∉fU (env::outer)->b∉ch->s.heap.get? b=some o->B.get? b=some o)->(∀b o,b∉ch->s.heap.get? b=some o->∃sl,B.get? b=some {o with slots:=sl})->mJ New C dx a B H->Q () {s with heap:=B}:=λB ch W keep slot fl=>by
  refine h B ch W {λb o q _ j F=>keep b o j F q,λb o q _ _ F=>slot b o F q,λ_ _ _ n _=>n,λb o q F=>let⟨sl,e⟩:=slot b o F q;{_,e},λ_ _ e=>e,λ_ _ _ e=>e,λb ps e=>{#[],by rw[e];simp}} (λb u e=>(hok b u e).stay (λc v hc q=>?_) (λ_ q=>q) λ_ _ q=>q) fl
  have nn:H c≠none:=by rcases hc with z|z<;>(intro z';first|(rw[z,e] at z';cases z')|(rw[z] at z';cases z'))
  exact keep c v (λz=>nn (J c z)) (λz=>nn (W c z).2.1) q
 unfold noteFrame;simp only[hf];rcases tr with h1|⟨T,oT,ts,h1,hTa,nT,hT0,hT,I,h3⟩
 ·refine tqa (tqf he hd h1 ?_);rw[if_neg `d]
  refine u4 hfr hl hf he hd (Ro.mp h1).1 λB T oT ts k1 k2 R k4 k5 k6 k7 k8=>?_;refine U B [a] (λb j=>?_) (λb o j F q=>k1 b o j (λz=>F (by simp[z])) q) (λb o F q=>k2 b o (λz=>F (by simp[z])) q) {na,ha,_,_,k5,?_,?_,RP hd _,.inr {T,oT,ts,by simp[(Ro.mp h1).1],k4,hN _ R,hok.fresh R,k6,k7,k8}}
  ·rcases Qa.mp j with rfl
   exact⟨na,ha,oe,vs,he,hd⟩
  ·rw[Obj.cls_mapFields];exact hc
  ·rw[qZ];exact Y
 ·refine tqa (tqf he hd h1 ?_);rw[if_pos `s]
  refine tqa (tqf hT I h3 ?_);rw[if_neg (by simp[rawInt])]
  refine tqa (wpAny_setField hT I (Ro.mp h3).1 ?_);have y:∀b,b≠T->(s.heap.update T (Obj.mapFields (·.setIfInBounds 3 Value.none))).get? b=s.heap.get? b:=λb j=>Rq _ _ (Q0 j);have S:∀b o,s.heap.get? b=some o->(∀vs,o.data≠.fields vs)->b≠T:=λb o j O q=>by
   rw[q,hT] at j;cases j;exact O ts I
  have hz:(s.heap.update T (Obj.mapFields (·.setIfInBounds 3 Value.none))).objs.size=s.heap.objs.size:=Heap.size_after_update ..;refine u4 hfr (hl.of_keeps λb o j O=>{o,(y b (S b o j O)).trans j,rfl}) hf ((y a (Q0 hTa)).trans he) hd (Ro.mp h1).1 λB T' oT' ts' k1 k2 R k4 k5 k6 k7 k8=>?_;have R:s.heap.objs.size≤T':=by rw[<- hz];exact R
  refine U B [a,T] (λb j=>?_) (λb o j F q=>k1 b o j (λz=>F (by simp[z])) ((y b (λz=>F (by simp[z]))).trans q)) (λb o F q=>k2 b o (λz=>F (by simp[z])) ((y b (λz=>F (by simp[z]))).trans q)) {na,ha,_,_,k5,?_,?_,RP hd _,.inr {T',oT',ts',by simp[(Ro.mp h1).1],k4,hN _ R,hok.fresh R,k6,k7,k8}}
  ·rcases Qu.mp j with rfl|j
   ·exact⟨na,ha,oe,vs,he,hd⟩
   ·rcases Qa.mp j with rfl
    exact⟨nT,hT0,oT,ts,hT,I⟩
  ·rw[Obj.cls_mapFields];exact hc
  ·rw[qZ];exact Y
end
def iG (P:QF)(w:Qz):uQ:=λouter H s E e s'=>∃a C dx H',e=.ref a/\s'.os=s.os/\AllBare s'.gens/\Un (fU outer) [] H H' s.heap s'.heap/\eK P w H' s'.heap/\mJ (λb=>s.heap.get? b=none) C dx a s'.heap H'/\E (.ref C) dx H'
def mJ.imp (f:mJ New C dx a h H)(i:∀b,New b->New' b):mJ New' C dx a h H:=by
 obtain⟨u,j,o,F,h1,h2,h3,h4,B⟩:=f;refine{i _ u,j,o,F,h1,h2,h3,h4,?_};rcases B with t|⟨T,v,ts,t1,t2,y,z⟩
 ·exact .inl t
 ·exact .inr {T,v,ts,t1,t2,i _ y,z}
section
variable{P:QF}{w:Qz}{K:PJ}{mg:Str->Option PL}{base:Heap}{N:List Str}{qual:Str}{scope:Scope}{f:Addr}{cd:PL}{A:Ry}{outer:List Rg}{s:PX}{H:Hp}{E:XK}
def Cg (I:Inv (gp (iG P w) P w K mg base N qual scope f cd A outer s H E) pins σ H' s')(W:mJ (xX (gp (iG P w) P w K mg base N qual scope f cd A outer s H E)) C dx a s'.heap H')(U:E (.ref C) dx H') :
 (gp (iG P w) P w K mg base N qual scope f cd A outer s H E).xe (.ref a) s':=by
 have F:=I.stack;have J:=I.sz;have Y:∀b o,s.heap.get? b=some o->b∈fU (envOfC qual scope s.heap.objs.size f cd::outer)->b∈fU outer:=λb o q y=>by
  rcases Qu.mp (y) with e|e
  ·exact absurd (Qk q) (by rw[e];exact Q4 _)
  ·exact e
 unfold gp;refine tqa (vn (New:=λb=>s.heap.get? b=none) I.ok.frames F rfl (W.imp λb z=>z.1) (λb z=>Heap.get?_none_of_le (Qf J z)) I.hok I.stkFree λh' R B u hok fl=>?_);have v:∀b o,s.heap.get? b=some o->b∉R:=λb o q z=>by have:=(B b z).1;rw[q] at this;cases this
 have h:=I.base;refine{a,C,dx,H',rfl,I.os,I.bare,{λb o q n y j=>?_,λb o q n y j=>?_,h.free,λb o q j=>?_,h.tups,h.frzs,h.tbls},hok,fl,U}
 ·exact u.keep b o (h.keep b o q n y j) (h.free b o q n j) (λz=>y (Y b o q z)) (v b o q)
 ·obtain⟨sl,e⟩:=h.slot b o q n y j;obtain⟨O,S⟩:=u.any e (h.free b o q n j) (v b o q);exact⟨O,S⟩
 ·obtain⟨o',e⟩:=h.there b o q j;exact u.there b o' e (v b o q)
end
section
variable{X:Cx}{pins:List (Addr×Obj)}{σ:L2.St}{H H':Hp}{s s':PX}{E:XK}{e:PL}
def qV (I:Inv X pins σ H s)(v:X.ex=[])(h:iG X.prog X.w X.stack H s E e s'):∃a C dx H',e=.ref a/\Inv X pins σ H' s'/\mJ (xX X) C dx a s'.heap H'/\E (.ref C) dx H':=by
 obtain⟨a,C,dx,H',rfl,os,bare,un,hok,fl,q⟩:=h;refine{a,C,dx,H',rfl,I.call' os un hok bare (λb z=>absurd z `s),fl.imp λb z=>{?_,λp u e=>?_},q}
 ·cases e:X.s₀.heap.get? b with
  |none=>rfl
  | some o =>
    obtain⟨y,j⟩:=I.base.there b o e (by rw[v];simp)
    rw[z] at j;cases j
 ·have:=(I.pin p (QT _ u)).1;rw[e,z] at this;cases this
def Ct (I:Inv X pins σ H s)(j:∀b∈ch,X.s₀.heap.get? b=none/\(∃o vs,s.heap.get? b=some o/\o.data=.fields vs)/\∀p∈X.pn++pins,p.1≠b)(u:Un (fU X.stack) ch H H s.heap h')(hok:eK X.prog X.w H h'):Inv X pins σ H {s with heap:=h'}:=by
 obtain⟨m,⟨o,es,ep,ho,hd,r⟩,hl⟩:=id I.loc;have J:X.env.locals∉ch:=λz=>by
  obtain⟨R,vs,e,d⟩:=(j _ z).2.1;rw[ho] at e;cases e;rw[hd] at d;cases d
 have F:∀x c,X.env.cells.lookup x=some c->c∉ch:=λx c e z=>by
  obtain⟨R,vs,U,d⟩:=(j _ z).2.1;obtain⟨v,o2,e2,d2⟩:=I.cell x c e;rw[e2] at U;cases U;rw[d2] at d;cases d
 have n0:∀b o,X.s₀.heap.get? b=some o->b∉ch:=λb o e z=>by rw[(j b z).1] at e;cases e
 have O:∀b o,X.s₀.heap.get? b=some o->b∉X.fs->b∉fU X.stack:=λb o e n z=>(Qu.mp (I.stkSub b z)).elim (λq=>absurd (Qk e) (by rw[q];exact Nat.not_lt.mpr I.ok.above)) n
 obtain⟨sl,hL⟩:=u.any ho I.free J;have h:∀x c,X.env.cells.lookup x=some c->∀v,s.heap.IsCell c v->h'.IsCell c v:=λx c e v ⟨o,ho,hd⟩=>by
  obtain⟨sl,q⟩:=u.any ho (I.freeC x c e) (F x c e);exact{_,q,hd}
 refine{I.ok,I.os,I.bare,{λb o e n B y=>?_,λb o e n B y=>?_,I.base.free,λb o e y=>?_,I.base.tups,I.base.frzs,I.base.tbls},{m,{_,es,ep,hL,hd,r},λi x v e1 e2 e3=>?_},λx c e=>?_,I.free,I.freeC,λp W=>?_,hok,I.len}
 ·exact u.keep b o (I.base.keep b o e n B y) (I.base.free b o e n y) (O b o e B) (n0 b o e)
 ·obtain⟨sl,e1⟩:=I.base.slot b o e n B y;obtain⟨S,e2⟩:=u.any e1 (I.base.free b o e n y) (n0 b o e);exact⟨S,e2⟩
 ·obtain⟨R,e1⟩:=I.base.there b o e y;exact u.there b R e1 (n0 b o e)
 ·obtain⟨u',r',l⟩:=hl i x v e1 e2 e3;refine{u',r',?_};rcases l with l|⟨k,c,e,z⟩
  ·exact .inl l
  ·exact .inr {k,c,e,h x c e _ z}
 ·obtain⟨v,z⟩:=I.cell x c e;exact{v,h x c e v z}
 ·obtain⟨e,n,ne,Y,d⟩:=I.pin p W;exact{u.keep p.1 p.2 e n (λz=>(Qu.mp (I.stkSub _ z)).elim ne Y) λz=>(j _ z).2.2 p W rfl,n,ne,Y,d}
end
def fq {h:Type}(r:Res h)(k:h->Mem->Prop)(j:D->Mem->Prop):Prop:=match r with
 |.ok a M=>k a M
 |.err x M=>j x M
 |.bad=>False
def tB {j:Type}{r:Res j}{k:j->Mem->Prop}{u:D->Mem->Prop}(h:ae r k):fq r k u:=by
 cases r with
 |ok a M=>exact h
 |err=>exact h.elim
 |bad=>exact h
def EL (fa:Fa)(K:PJ)(μ:Mu)(H:Hp)(E:XK)(x:D)(M':Mem):Prop:=∀C dx c p H' h,Ext μ H h H'->RelM fa K h H' M'->x=.exc c p->fa (fY c)=some C->uL H' c dx p->E (.ref C) dx H'
def DQ:Passes (iG P w) X E0:=λ_ _ _ _ _ _ _ h=>let{_,_,_,_,_,_,_,_,_,_,z}:=h;z.elim
def DG (fa:Fa)(K:PJ)(k:Nat)(call:List D->Mem->Res D):Sp:=λu H Q E=>u.length=k/\∃h M j,RelM fa K h H M/\aL fa K h H j u/\fq (call j M) (bj fa K h H Q) (EL fa K h H E)
def gZ (fa:Fa)(P:QF)(w:Qz)(K:PJ)(mg:Str->Option PL)(base:Heap)(n:Nat)(f:Nat)(call:List D->Mem->Res D):Prop:=
 (∀h M,call h M=.bad)\/∃(ad:Addr) (j:FuncData) (ps:List Str),fa f=some ad/\PySem.W.keepIn K (.ref ad)=true/\Binds K j ps []/\(∀h M,h.length≠ps.length->call h M=.bad)/\lH P w K mg base (iG P w) (2*n+4) ad j ps (DG fa K ps.length call)/\((fa (500+f)).isSome=true->Binds K j ps [.none])
section
variable{fa:Fa}{X:Cx}{a b d:Expr}{ga gb gd:Env->Mem->Res D}{pos p:Pos}{es:List Expr}{gs:Env->Mem->Res (List D)}{n:Nat}
def AL {call:List D->Mem->Res D}{r:Res (List D)}(j:∀ds M,call ds M=.bad)(h:ae (r.bind λds M=>call ds M) P):False:=by
 obtain⟨ds,M,_,q⟩:=aM h;rw[j] at q;exact q
def ra {call:List D->Mem->Res D}(v:bw fa X.K μ H σ ρ)(z:RelM fa X.K μ H M)(h:ae ((gs ρ M).bind λds M=>call ds M) (bj fa X.K μ H Q))
 (hk:∀ds M1,ds.length≠k->call ds M1=.bad):DD (DG fa X.K k call) [] E0 (tA fa X.K gs) σ H Q:=by
 refine sC v z h λds M1 F E u B y j r1 h1=>?_;rw[Qy];refine{?_,u,M1,ds,j,r1,tB (j7 h1 B)};rw[r1.length];by_cases hl:ds.length=k
 ·exact hl
 ·rw[hk ds M1 hl] at h1;exact h1.elim
def KR {call:List D->Mem->Res D}(C:gZ fa X.prog X.w X.K X.mg X.base n f call)(hr:di (2*n+4) X.A)(E:Gl X x)(hm:∀ad,fa f=some ad->X.mg x=some (.ref ad))(hs:DA fa X (a::es) gs)
 (j:(x==("__debug__":Str))=false) (he:starEach (a::es) X.env=(false,eval a X.env)::starEach es X.env) (u:(backTo pos (starEach es X.env)).any (·.1)=false) :
 DE fa X (.Call (.Name x p) (a::es) [] pos) (λρ M=>(gs ρ M).bind λds M=>call ds M):=by
 rcases C with B|⟨ad,O,ps,h1,h2,h3,h4,F,_⟩
 ·exact λz s L H Q I ⟨J,ρ,M,v,y,h⟩=>(AL B h).elim
 ·exact bL (Ga F hr E (hm ad h1) h2 h3 .nil DQ hs j he u) λL H Q ⟨J,ρ,M,v,y,h⟩=>ra v y h h4
def G8 {i:Nat}{x:Str}{call:Nat->List D->Mem->Res D}(C:∀f,gZ fa X.prog X.w X.K X.mg X.base n f (call f))(hr:di (2*n+4) X.A)(hN:X.N[i]?=some x)(hv:wu X.env.scope x)(hs:DA fa X (a::es) gs)
 (hd:(x==("__debug__":Str))=false) (z:(x==("__classdict__":Str))=false) (he:starEach (a::es) X.env=(false,eval a X.env)::starEach es X.env) (B:(backTo pos (starEach es X.env)).any (·.1)=false) :
 DE fa X (.Call (.Name x p) (a::es) [] pos) (λρ M=>match ρ[i]?.getD none with|some (.fn f)=>(gs ρ M).bind λds M=>call f ds M|_=>.bad):=by
 intro y s R H Q I ⟨μ,ρ,M,P,hM,h⟩;dsimp only at h;cases e:ρ[i]?.getD none with
 |none=>rw[e] at h;exact h.elim
 | some df =>
   cases df with
   | fn f =>
     rw[e] at h;have e':ρ[i]?=some (some (.fn f)):=by
      cases q:ρ[i]? with
      |none=>rw[q] at e;cases e
      |some o=>rw[q] at e;simp at e;rw[e]
     obtain⟨v,E,J⟩:=P.at' i _ e';obtain⟨ad,rfl,j⟩:=J;rcases C f with hb|⟨Y,fd,ps,h1,h2,h3,h4,F,_⟩
     ·exact(AL hb h).elim
     ·rcases j with j|⟨j,_⟩<;>rw[j] at h1<;>cases h1
      refine wpAny_Call_Name_kw (aP (zx hN hv hd z y s R H (λv S=>v=.ref ad/\S=H) I {_,E,rfl,rfl}) λu s1 ⟨v,U,L,r1,e1,e2⟩=>?_);subst e1 e2;obtain rfl:u=Value.ref ad:=r1;refine PySem.W.callWith_K L.ok.mod.kin h2 (aP (hs pos y s1 R U _ L (ra P hM h h4)) λus s2 ⟨vs,H2,O,r,q⟩=>{O.kIn,?_}) he B;exact zi F hr h3 .nil DQ O r q
   |_=>rw[e] at h;exact h.elim
def xD (f:wD){id:String}(I:cu X (.builtin id) (nO fa X.K f))(J:Gl X x)(hm:X.mg x=none)(L:bootBuiltins x=some (.builtin id))(hs:DA fa X (a::es) gs)(hn:x≠"__name__")(u:(x==("__debug__":Str))=false)
 (he:starEach (a::es) X.env=(false,eval a X.env)::starEach es X.env) (v:(backTo pos (starEach es X.env)).any (·.1)=false):DE fa X (.Call (.Name x p) (a::es) [] pos) (λρ M=>(gs ρ M).bind λds M=>dP f ds M):=
 bL (i8 I J hm L hs hn u he v) λU H Q ⟨S,ρ,M,B,F,h⟩=>sC B F h λds z R P y O E j r1 h1=>{y,z,ds,j,r1,j7 h1 O}
def Ax (f:wD)(I:cu X (.type T) (nO fa X.K f))(J:Gl X x)(hm:X.mg x=none)(L:bootBuiltins x=some (.type T))(hs:DA fa X (a::es) gs)(hn:x≠"__name__")(u:(x==("__debug__":Str))=false)
 (he:starEach (a::es) X.env=(false,eval a X.env)::starEach es X.env) (v:(backTo pos (starEach es X.env)).any (·.1)=false):DE fa X (.Call (.Name x p) (a::es) [] pos) (λρ M=>(gs ρ M).bind λds M=>dP f ds M):=
 bL (zz I J hm L hs hn u he v) λU H Q ⟨S,ρ,M,B,F,h⟩=>sC B F h λds z R P y O E j r1 h1=>{y,z,ds,j,r1,j7 h1 O}
def KJ (t:Ty)(R:∀c,t≠.own c)(O:DE fa X a ga)(P:Gl X "isinstance")(hm:X.mg "isinstance"=none)(S:bootBuiltins "isinstance"=some (.builtin "isinstance"))(y:Gl X x)(z:X.mg x=none)(B:bootBuiltins x=some (.type (tyName t)))
 (hn:x≠"__name__") (u:(x==("__debug__":Str))=false)
 (he:starEach [a,.Name x p1] X.env=(false,eval a X.env)::starEach [.Name x p1] X.env):DE fa X (.Call (.Name "isinstance" p2) [a,.Name x p1] [] pos) (λρ M=>(ga ρ M).bind λx M=>(bX M (gP t x)).bind λb M=>.ok (.bl b) M):=
 bL (i8 (J9 t R) P hm S (cM O (cM (Gb y z B (v:=.ty (tyName t)) rfl hn u) eR `r) he) `d `d he `r) λσ H Q ⟨Y,ρ,M,I,L,h⟩=>t1 I L h λx F v W E U J j r1 h1=>by
  obtain⟨b,e,q⟩:=oR h1;exact{E,F,x,v,b,rfl,j,r1,e,aS j (q.ext U) rfl}
def gT (fa:Fa)(K:PJ)(t:fN):TG:=λv z H Q=>∃u y M d h,bw fa K u H z y/\RelM fa K u H M/\Rep fa K u H d v/\b6 t d y=some h/\∀j,bw fa K u H j h->Q j H
def tf (h:PG X tg g)(i:∀v y H Q,g' v y H Q->g v y H Q):PG X tg g':=λj s y H v u Q I r q=>h j s y H v u Q I r (i v y H Q q)
def vi (h:uO X tg g)(i:∀v y H Q,g' v y H Q->g v y H Q):uO X tg g':=λj s y H v u Q I r q=>h j s y H v u Q I r (i v y H Q q)
def G3 (u:X.N.Nodup)(hi:X.N[i]?=some x)(y:Loc X.env.scope x)(hf:X.fn x=true\/X.env.scope.names.lookup x=some .local):PG X (.Name x pos) (gT fa X.K (.one i)):=
 tf (pU u hi y hf) λv I H Q ⟨E,F,M,d,z,j,B,r,e,k⟩=>by
  have h:=PQ e;subst h;exact k _ (j.set r)
def J3 (fa:Fa)(K:PJ)(l:List Nat):wy:=λz B H Q=>∃u y M v h,bw fa K u H B y/\RelM fa K u H M/\aL fa K u H v z/\cf l v y=some h/\∀j,bw fa K u H j h->Q j H
inductive iO (X:Cx):List Nat->List Expr->Prop
 |nil:iO X [] []
 |cons {i:Nat}{x:Str}{p:Pos}{l:List Nat}{ns:List Expr} (hi:X.N[i]?=some x) (hx:Loc X.env.scope x) (hf:X.fn x=true\/X.env.scope.names.lookup x=some .local) (r:iO X l ns):iO X (i::l) (.Name x p::ns)
set_option tactic.hygienic true in
def iO.each (h:iO X l ns):(assignEach ns X.env).length=l.length/\(assignEach ns X.env).findIdx? (·.1)=none:=by
 induction h with
 |nil=>exact⟨rfl,rfl⟩
 | cons u v hf r j =>
   rename_i i x p l ns;have e:assignEach (.Name x p::ns) X.env=(false,assign (.Name x p) X.env)::assignEach ns X.env:=rfl;rw[e];refine{by simp[j.1],?_}
   rw[List.findIdx?_cons];simp[j.2]
def uc (I:X.N.Nodup)(h:iO X l ns):uO X ns (J3 fa X.K l):=by
 induction h with
 | nil =>
   refine vi vg λB R H Q ⟨E,P,M,j,u,y,z,r,e,k⟩=>?_;cases j with
   | nil =>
     obtain rfl:B=[]:=r;have F:=PQ e;subst F;exact{rfl,k _ y}
   |cons=>cases e
 | cons J L hf r O =>
   refine vi (nV (pU I J L hf) O `r) λB R H Q ⟨E,P,M,j,u,y,z,r,e,k⟩=>?_
   cases j with
   |nil=>cases e
   | cons d j =>
     obtain⟨v,vr,rfl,r1,r2⟩:=r;exact{v,vr,rfl,E,_,M,j,u,y.set r1,z,r2,e,k}
noncomputable def iz:∀{l:List Nat}{ds:List D}{ρ ρ1:Env},cf l ds ρ=some ρ1->ds.length=l.length
 |[],[],_,_,_=>rfl
 |_::_,[],_,_,h=>by cases h
 |[],_::_,_,_,h=>by cases h
 | _ :: l, _ :: ds, _, _, h => by
   have:=iz (ds:=ds) h;simp[this]
def KG (E:X.calm=true)(B:X.N.Nodup)(h:iO X l ns):PG X (.Tuple ns k pos) (gT fa X.K (.tup l)):=
 tf (s9 E (uc B h) h.each.1 h.each.2) λv O H Q ⟨J,L,M,d,j,y,z,r,e,k⟩=>by
  cases d with
  | tup u =>
    obtain⟨a,I,rfl,F,r⟩:=r;exact{a,I,rfl,F,by rw[r.length];exact iz e,J,L,M,u,j,y,z,r,e,k}
  |_=>cases e
set_option tactic.hygienic true in
def uA {d:D}(h:b6 (.two j l) d ρ=some ρ1):∃e ds,d=.tup [e,.tup ds]/\cf l ds (ρ.set j (some e))=some ρ1:=by
 unfold b6 at h;split at h
 ·next e=>cases e
 ·next e=>cases e
 ·next e=>cases e;exact{_,_,rfl,h}
 ·cases h
 ·cases h
def KC (E:X.calm=true)(B:X.N.Nodup){ns:List Expr}(hi:X.N[i]?=some x)(R:Loc X.env.scope x)(hf:X.fn x=true\/X.env.scope.names.lookup x=some .local)(h:iO X l ns):PG X (.Tuple [.Name x px,.Tuple ns k2 p2] k pos) (gT fa X.K (.two i l)):=
 tf (s9 E (nV (pU B hi R hf) (nV (s9 E (uc B h) h.each.1 h.each.2) vg))) λv σ H Q ⟨Y,ρ,M,d,y,L,O,r,e,k⟩=>by
  obtain⟨I,J,rfl,e⟩:=uA e;obtain⟨a,vs,rfl,P,S,U,rfl,r0,v1,u,rfl,r1,r2⟩:=r;obtain rfl:u=[]:=r2;obtain⟨b,W,rfl,j,F⟩:=r1;exact{a,_,rfl,P,rfl,S,_,rfl,.ref b,[],rfl,b,W,rfl,j,by rw[F.length];exact iz e,Y,ρ.set i (some I),M,J,y,L.set r0,O,F,e,λz h1=>{rfl,k z h1}}
end
section
variable{fa:Fa}{X:Cx}{a b d:Expr}{ga gb gd:Env->Mem->Res D}{pos p:Pos}{es:List Expr}{gs:Env->Mem->Res (List D)}{n:Nat}
def Ku (O:DE fa X a ga)(P:PG X tg (gT fa X.K t))(hs:swapsWithSole [tg] a pos.line X.env=pure false)(Q:swappedStores [tg] a X.env=pure none)(h1:(assignEach [tg] X.env).map (·.2)=[assign tg X.env]) :
 DS fa X (.Assign [tg] a pos) (λρ M=>(ga ρ M).bind λx M=>(bX M (b6 t x ρ)).bind λρ1 M=>.ok (.next ρ1) M):=
 da (lV O P hs Q h1) λD Y H ⟨W,ρ,M,J,L,h⟩=>t1 J L h λx I v F u R z j r1 h1=>by
  obtain⟨ρ1,U,e,q⟩:=aM h1;cases y:b6 t x ρ with
  |none=>rw[y] at e;cases e
  | some S =>
    rw[y] at e;cases e;exact{u,ρ,I,x,ρ1,z,j,r1,y,λE B=>q E F u R B j}
def js {y:Ends}{ad:Addr}(z:bw fa X.K μ H σ ρ)(v:RelM fa X.K μ H M)(hk:μ.pub k=some ad)(r:aL fa X.K μ H ds ws)
 (q:∀j u h,Ext μ H h u->bw fa X.K h u j ρ->RelM fa X.K h u (M.set k ds)->y.nx j u):y.nx σ (upd H ad (.lst ws)):=
 q σ _ μ (Ext.write (vs:=ws) v hk) (z.ext (Ext.write (vs:=ws) v hk)) (v.write hk r)
def Kp (ha:DE fa X a ga)(hb:DE fa X b gb)(hd:DE fa X d gd){p2:Pos}
 (h0:∀v,assign (.Subscript a b p2) X.env v=(do
  let B <- holding [v] (eval a X.env)
  let L <- holding [v,B] (eval b X.env)
  standAt p2
  holding [v,B,L] (setItem B L v)
  release [v,B,L] [])) (hs:swapsWithSole [.Subscript a b p2] d pos.line X.env=pure false) (hw:swappedStores [.Subscript a b p2] d X.env=pure none) (h1:(assignEach [.Subscript a b p2] X.env).map (·.2)=[assign (.Subscript a b p2) X.env]) :
 DS fa X (.Assign [.Subscript a b p2] d pos) (λρ M=>(gd ρ M).bind λz M=>(ga ρ M).bind λx M=>(gb ρ M).bind λy M=>match x,y with
  | .cell k, .int n => match M[k]? with
    | some ds => match cg ds.length n with
      |some j=>.ok (.next ρ) (M.set k (ds.set j z))
      |none=>.bad
    |none=>.bad
  |_,_=>.bad):=
 da (lV hd (zw ha hb set_list h0) hs hw h1) λU σ H ⟨μ,ρ,M,hE,hM,h⟩=>t1 hE hM h λz M1 v H1 μ1 x1 F J r1 h1=>t2 F J h1 λx y M2 vx vy Y μ2 S I u rx ry h2=>by
  have O:∀k n,x=.cell k->y=.int n->DM vx vy v Y λH3=>U.nx σ H3:=λk n e1 e2=>by
   subst e1 e2;dsimp only at h2;cases e:M2[k]? with
   |none=>rw[e] at h2;exact h2.elim
   | some ds =>
     rw[e] at h2;dsimp only at h2;cases E:LD.cg ds.length n with
     |none=>rw[E] at h2;exact h2.elim
     | some j =>
       rw[E] at h2;obtain⟨ad,rfl,hk⟩:=rx;obtain⟨ws,h4,R⟩:=u.at_ e hk;have q:=h2;refine{ad,ws,n,j,rfl,ry,h4,by rw[R.length];exact E,js I u hk (R.set j (r1.ext S)) λQ W P x' e' m'=>q Q W P ((x1.trans S).trans x') e' m'}
  cases x with
  | cell k => cases y with
    |int n=>exact O k n rfl rfl
    |_=>exact h2.elim
  |_=>exact h2.elim
set_option tactic.hygienic true in
def Kv (ha:DE fa X a ga)(hd:DE fa X d gd){j u:Pos}(v:attributeBase a "append" X.env (eval a X.env)=eval a X.env)(y:(j.endLine==u.line)=true)(hs:starEach [d] X.env=[(false,eval d X.env)])
 (O:swapsWith (.Call (.Attribute a "append" j) [d] [] u) none pos.line X.env=pure false) :
 DS fa X (.Expr (.Call (.Attribute a "append" j) [d] [] u) pos) (λρ M=>(ga ρ M).bind λx M=>(gd ρ M).bind λz M=>match x with
  | .cell k => match M[k]? with
    |some ds=>if ds.length<sz then .ok (.next ρ) (M.set k (ds++[z])) else .bad
    |none=>.bad
  |_=>.bad):=
 da (mQ (DN PySem.F.plainAttrs_list PySem.F.slot_list_append PySem.F.type_list_append lX ha (cM hd eR hs) v (by rw[hs];rfl) y hs `r) O) λD' σ H ⟨μ,ρ,M,J,hM,h⟩=>by
  obtain⟨x,M1,e1,h1⟩:=aM h;obtain⟨z,M2,e2,h2⟩:=aM h1;cases x with
  | cell k =>
    dsimp only at h2;cases e:M2[k]? with
    |none=>rw[e] at h2;exact h2.elim
    | some ds =>
      rw[e] at h2;dsimp only at h2;split at h2
      ·next hz=>
       have q:=h2;refine{μ,ρ,M,J,hM,?_};rw[e1];intro vx H1 S Q B rx;obtain⟨ad,rfl,hk⟩:=rx;obtain⟨ds1,P,_,L,_⟩:=B.mu_lt hk;refine{.inl {rfl,P,dh.of L},S,ρ,M1,J.ext Q,B,?_};rw[e2];intro vz H2 μ2 I E rz;obtain⟨ws,h4,W⟩:=E.at_ e (I.mu k ad hk);refine{ad,ws,vz,rfl,rfl,h4,by rw[W.length,<- dE];exact hz,?_}
       exact js ((J.ext Q).ext I) E (I.mu k ad hk) (W.append (.one rz)) λU Y R x' e' m'=>q U Y R ((Q.trans I).trans x') e' m'
      ·exact h2.elim
  |_=>exact h2.elim
def MB (F:DE fa X a ga)(hs:swapsWith a none pos.line X.env=pure false):DS fa X (.Expr a pos) (λρ M=>(ga ρ M).bind λ_ M=>.ok (.next ρ) M):=
 da (mQ F hs) λL J H ⟨P,ρ,M,B,E,h⟩=>t1 B E h λx O v z y I j u r1 h1=>h1 J z y I j u
def Ko (v:DE fa X a ga):DS fa X (.Return (some a) pos) (λρ M=>(ga ρ M).bind λx M=>.ok (.ret x) M):=
 da (zo v) λz E H ⟨y,ρ,M,j,u,h⟩=>by
  obtain⟨x,B,e,q⟩:=aM h;refine{y,ρ,M,j,u,?_};rw[e];exact q
def GP:DS fa X (.Return none pos) (λ_ M=>.ok (.ret .non) M):=da F2 λu B H ⟨y,z,M,v,j,h⟩=>aS j h rfl
def GQ:DS fa X (.Pass pos) (λρ M=>.ok (.next ρ) M):=da F4 λz y H ⟨v,ρ,M,j,u,h⟩=>h y H v .refl j u
def Ks {st:Stmt}:DS fa X st (λ_ _=>.bad):=λj s E H u I ⟨z,B,M,v,y,h⟩=>h.elim
set_option tactic.hygienic true in
def ku.ext (x:Ext μ H μ' H')(q:ku fa X μ H D' fl M):ku fa X μ' H' D' fl M:=by
 cases fl with
 |next u=>exact λv j h y e m=>q v j h (x.trans y) e m
 |ret d=>exact bj.ext q x
 |exc z u=>exact XW.ext q x
def Jq (x:Ext μ H μ' H')(h:ae r (ku fa X μ H D')):ae r (ku fa X μ' H' D'):=aO h λfl M q=>q.ext x
def Kq {st z:List Stmt}(I:DT fa X c gc)(J:kv fa X st gt)(hf:kv fa X z gf):DS fa X (.If c st z pos) (λρ M=>(gc ρ M).bind λk M=>if k then gt ρ M else gf ρ M):=
 da (LU I J hf) λL Q H ⟨P,ρ,M,E,F,h⟩=>yF E F h λk y O v B j u h1=>by
  cases k with
  |true=>exact{v,ρ,y,j,u,Jq B h1}
  |false=>exact{v,ρ,y,j,u,Jq B h1}
def GO:kv fa X [] (λρ M=>.ok (.next ρ) M):=vf F1 λz y H ⟨v,ρ,M,j,u,h⟩=>h y H v .refl j u
set_option tactic.hygienic true in
def CH {st:Stmt}(h1:DS fa X st g)(h2:kv fa X ss g'):kv fa X (st::ss) (λρ M=>(g ρ M).bind λfl M=>match fl with
 |.next ρ=>g' ρ M
 |fl=>.ok fl M):=
 vf (BW h1 h2) λL P H ⟨I,ρ,M,B,E,h⟩=>by
  obtain⟨fl,z,e,q⟩:=aM h;refine{I,ρ,M,B,E,?_};rw[e];cases fl with
  |next j=>exact λJ O y F u v=>{y,j,z,u,v,Jq F q}
  |ret d=>exact q
  |exc x j=>exact q
end
def eE (fa:Fa)(K:PJ)(μ0:Mu)(H0:Hp)(w:Walk)(J:It):Prop:=
 ∀(h:Mu) (H:Hp) (M:Mem) (u:List D),ExtW μ0 H0 h H->RelM fa K h H M->w M=some u->(∀(i:Nat) (d:D),u[i]?=some d->J.go i H/\∀x j,J.yld i H x j->Ext h H h j/\RelM fa K h j M/\Rep fa K h j d x)/\∀i,u.length≤i->J.stop i H
def tI (fa:Fa)(K:PJ)(g:Env->Mem->Res Walk):TI:=λz H R=>∃u v M,bw fa K u H z v/\RelM fa K u H M/\ae (g v M) λw y=>∀J j h,Ext u H h j->RelM fa K h j y->eE fa K h j w J->R J j
abbrev DI (fa:Fa)(X:Cx)(tg h:Expr)(g:Env->Mem->Res Walk):Prop:=PI X tg h (tI fa X.K g)
def qz {K:PJ}(h:eE fa K μ0 H0 w J)(x:ExtW μ0 H0 μ1 H1):eE fa K μ1 H1 w J:=λv H M j y u e=>h v H M j (x.trans y) u e
section
variable{fa:Fa}{X:Cx}{tg a b d:Expr}{ga gb gd:Env->Mem->Res D}{pos p:Pos}{es:List Expr}{n:Nat}
def yo {ad:Addr}(h:Rep fa X.K μ0 H0 dd (.ref ad)):eE fa X.K μ0 H0 (λM=>eP M dd) (Lr X.K ad):=λP H M O x u e=>by
 obtain⟨B,j,E,s,r⟩:=bP u (Rep.extW x h) e;cases E;refine{λi d hd=>?_,λi F=>{j,s,by rw[r.length];exact F}}
 obtain⟨v,z,J⟩:=r.get hd;refine{⟨j,v,s,z⟩,λy L ⟨e,I⟩=>?_};subst e;have:=I j s;rw[z] at this;cases this;exact{.refl,u,J}
def A8 {ad:Addr}(h:Rep fa X.K μ0 H0 (.tup ds) (.ref ad)):eE fa X.K μ0 H0 (λ_=>some ds) (Lq X.K ad):=λP H M B x F E=>by
 cases E;obtain⟨z,j,e,s,r⟩:=Rep.extW x h;cases e;refine{λi d hd=>?_,λi I=>{j,s,by rw[r.length];exact I}}
 obtain⟨v,u,L⟩:=r.get hd;refine{⟨j,v,s,u⟩,λy O ⟨e,J⟩=>?_};subst e;have:=J j s;rw[u] at this;cases this;exact{.refl,F,L}
def sj (lo:Int)(n:Nat):eE fa X.K μ0 H0 (λ_=>some ((List.range n).map λ(k:Nat)=>D.int (lo+(k:Int)))) (AX lo n):=λz H M v x j e=>by
 cases e;refine{λi d hd=>?_,λi h=>(show n≤i by simpa using h)}
 rw[P6] at hd;by_cases h:i<n
 ·rw[List.getElem?_range h] at hd;have e:=PQ hd;subst e;refine{h,λy u ⟨e1,e2⟩=>?_};subst e1 e2;exact{.refl,j,rfl}
 ·rw[List.getElem?_eq_none (by simpa using h)] at hd;cases hd
def bZ (ga:Env->Mem->Res D):Env->Mem->Res Walk:=λj M=>(ga j M).bind λx M=>match x with
 |.lst h=>.ok (λ_=>some h) M
 |.tup h=>.ok (λ_=>some h) M
 |.frz h=>.ok (λ_=>some h) M
 |.cell k=>.ok (λM=>M[k]?) M
 |_=>.bad
def Kz (Y:DE fa X a ga):DI fa X tg a (bZ ga):=λu s S H R I ⟨Q,ρ,M,U,W,h⟩=>by
 obtain⟨x,L,e,q⟩:=aM h;have lst:(∀j B,RelM fa X.K j B L->∀v,Rep fa X.K j B x v->∃y,eP L x=some y)->(∀J B j,Ext Q H j B->RelM fa X.K j B L->eE fa X.K j B (λM=>eP M x) J->R J B)->
  wpAny (model X.prog X.w) X.A (eval a X.env) (λv s1=>wpAny (model X.prog X.w) X.A (pyIter v) (Lm X u S tg R) X.xe s1) X.xe s:=λhx q=>by
  refine F9 Y u s S H R I {Q,ρ,M,U,W,?_};rw[e];intro v F z P E r1;obtain⟨y,er⟩:=hx z F E v r1;obtain⟨ad,O,rfl,s1,r⟩:=bP E r1 er;exact{ad,rfl,⟨O,s1⟩,q _ F z P E (yo r1)}
 cases x with
 |lst y=>exact lst (λ_ _ _ _ _=>⟨y,rfl⟩) q
 |frz y=>exact lst (λ_ _ _ _ _=>⟨y,rfl⟩) q
 | tup y =>
   refine IZ Y u s S H R I {Q,ρ,M,U,W,?_};rw[e];intro v F z P E r1;obtain⟨ad,O,rfl,s1,r⟩:=id r1;exact{ad,rfl,⟨O,s1⟩,q _ F z P E (A8 r1)}
 |cell k=>exact lst (λj B m' v ⟨ad,_,hk⟩=>let{y,_,e,_}:=m'.mu_lt hk;⟨y,e⟩) q
 |_=>exact q.elim
def cW (ga:Env->Mem->Res D):Env->Mem->Res Walk:=λh M=>(ga h M).bind λx M=>match x with
 |.int n=>if -(2^62)≤n/\n<2^62 then .ok (λ_=>some ((List.range n.toNat).map λ(k:Nat)=>D.int (k:Int))) M else .bad
 |_=>.bad
def kY (ga gb:Env->Mem->Res D):Env->Mem->Res Walk:=λh M=>(ga h M).bind λx M=>(gb h M).bind λy M=>match x,y with
 |.int i,.int j=>if -(2^62)≤i/\i<2^62/\-(2^62)≤j/\j<2^62 then .ok (λ_=>some ((List.range (j-i).toNat).map λ(k:Nat)=>D.int (i+(k:Int)))) M else .bad
 |_,_=>.bad
set_option tactic.hygienic true in
def G1 (J:DE fa X a ga)(L:Gl X "range")(hm:X.mg "range"=none)(hs:starEach [a] X.env=[(false,eval a X.env)]):DI fa X tg (.Call (.Name "range" p) [a] [] pos) (cW ga):=λj s P H R I ⟨S,U,M,B,F,h⟩=>by
 refine zu L hm (cM J eR hs) hs j s P H R I ?_;refine t1 B F h λx Q v z u O E y r1 h1=>?_;cases x with
 | int n =>
   dsimp only at h1;split at h1
   ·next c=>
    obtain rfl:v=.int n:=r1;refine{n,rfl,c.1,c.2,h1 _ z u O y ?_};have:=sj (fa:=fa) (X:=X) (μ0:=u) (H0:=z) 0 n.toNat;simpa using this
   ·exact h1.elim
 |_=>exact h1.elim
set_option tactic.hygienic true in
def G0 (Q:DE fa X a ga)(S:DE fa X b gb)(U:Gl X "range")(hm:X.mg "range"=none)(hs:starEach [a,b] X.env=[(false,eval a X.env),(false,eval b X.env)])(z:starEach [b] X.env=[(false,eval b X.env)]) :
 DI fa X tg (.Call (.Name "range" p) [a,b] [] pos) (kY ga gb):=λB s Y H R I ⟨μ,ρ,M,L,P,h⟩=>by
 refine zt U hm (cM Q (cM S eR z) (by rw[hs,z])) hs z B s Y H R I ?_
 refine t2 L P h λx y M1 v u J F W O E r1 r2 h1=>?_;cases x with
 | int i =>
   cases y with
   | int j =>
     dsimp only at h1;split at h1
     ·next c=>
      obtain rfl:v=.int i:=r1;obtain rfl:u=.int j:=r2;exact{i,j,rfl,c,h1 _ J F W E (sj i _)}
     ·exact h1.elim
   |_=>exact h1.elim
 |_=>exact h1.elim
def f6 (t:fN)(gb:Env->Mem->Res Fl):Fl->D->Mem->Res Fl:=λfl d M=>match fl with
 |.next j=>(bX M (b6 t d j)).bind λh M=>gb h M
 |fl=>.ok fl M
noncomputable def Fl.out:Fl->Bool
 |.next _=>false
 |_=>true
set_option tactic.hygienic true in
theorem kT {gb:Env->Mem->Res Fl}(ho:fl.out=true):∀(n i:Nat) (M:Mem),ae (f7 (f6 t gb) w n i fl M) P->P fl M
 |0,_,_,h=>h.elim
 | n + 1, i, M, h => by
   unfold f7 at h;cases e:w M with
   |none=>rw[e] at h;exact h.elim
   | some j =>
     rw[e] at h;dsimp only at h;cases e2:j[i]? with
     |none=>rw[e2] at h;exact h
     | some v =>
       rw[e2] at h;cases fl with
       |next u=>cases ho
       |ret d=>exact kT ho n (i+1) M h
       |exc x u=>exact kT ho n (i+1) M h
def tL (fa:Fa)(X:Cx)(g:Env->Mem->Res Fl):TS:=λD h H=>(∀h H,D.nx h H->D.ct h H)/\tF fa X g D h H
abbrev NX (fa:Fa)(X:Cx)(st:List Stmt)(g:Env->Mem->Res Fl):Prop:=kr X st (tL fa X g)
def MD {body:List Stmt}{gb:Env->Mem->Res Fl}(h:kv fa X body gb):NX fa X body gb:=λj s u H D I q=>h j s u H D I q.2
set_option tactic.hygienic true in
def Kr {gw:Env->Mem->Res Walk}{gb:Env->Mem->Res Fl}(hp:PassesOwn (model X.prog X.w) X.A X.env X.xe)(hc:X.calm=true)(hi:DI fa X tg a gw)(hg:PG X tg (gT fa X.K t))(hb:NX fa X body gb)
 (hs:∀x,foldedSetIterable a X.env x=pure x):DS fa X (.For tg a body [] pos) (λρ M=>(gw ρ M).bind λw M=>cT (f6 t gb) w (.next ρ) M):=
 da (IW hp hc hi hg hb hs) λD' σ H ⟨μ,ρ,M,hE,hM,h⟩=>by
  obtain⟨w,M1,e,q⟩:=aM h;refine{μ,ρ,M,hE,hM,?_};rw[e];intro J H1 I x1 hM1 wk;have hE1:=hE.ext x1;refine{λi m E F=>∃j u L,Ext I H1 j F/\bw fa X.K j F E u/\RelM fa X.K j F L/\ae (f7 (f6 t gb) w m i (.next u) L) (ku fa X μ H D'),
   {_,I,ρ,M1,.refl,hE1,hM1,q},?_}
  rintro i m σ2 H2 ⟨B,S,M2,R,O,P,v⟩;cases m with
  |zero=>exact v.elim
  | succ m =>
    unfold f7 at v;cases e2:w M2 with
    |none=>rw[e2] at v;exact v.elim
    | some ds =>
      rw[e2] at v;dsimp only at v;obtain⟨go,stop⟩:=wk B H2 M2 ds R.toExtW P e2;cases ed:ds[i]? with
      | none =>
        rw[ed] at v;exact .inl {stop i (List.getElem?_eq_none_iff.mp ed),v σ2 H2 B (x1.trans R) O P}
      | some d =>
        rw[ed] at v;obtain⟨g1,g2⟩:=go i d ed;refine .inr {g1,λE F=>∃j u L,Ext I H1 j F/\bw fa X.K j F E u/\RelM fa X.K j F L/\ae (f7 (f6 t gb) w m (i+1) (.next u) L) (ku fa X μ H D'),λE F z=>{m,`a,z},λy H3 hy=>?_}
        obtain⟨x3,Q,r3⟩:=g2 y H3 hy;obtain⟨fl,M4,e4,q4⟩:=aM v;obtain⟨U,M5,Y,e6⟩:=fc e4;cases eb:b6 t d S with
        |none=>rw[eb] at Y;cases Y
        | some ρ5 =>
          rw[eb] at Y;cases Y;refine{B,S,_,d,U,O.ext x3,Q,r3,eb,λσ5 hE5=>{λ_ _ z=>z,B,U,_,hE5,Q,?_}};rw[e6];cases fl with
          |next W=>exact λσ6 H6 μ6 x6 hE6 hM6=>{μ6,W,M4,(R.trans x3).trans x6,hE6,hM6,q4}
          |ret d6=>exact(kT rfl m (i+1) M4 q4).ext ((x1.trans R).trans x3)
          |exc x6 W=>exact(kT rfl m (i+1) M4 q4).ext ((x1.trans R).trans x3)
end
abbrev FF:PL->PX->Prop:=λ_ _=>False
section
variable{prog:QF}{w:Qz}{A:Ry}{s:PX}
def AB
 (J:compTurn ce k it acc env=(standAt p >>= λ_=>pyNext it >>= λr=>match r with
  |none=>pure (.done .next)
  |some v=>letOwnedTupleGo target it v >>= λ_=>assign target env v >>= λ_=>body >>= λ_=>again (.compLoop ce k it acc env)))
 (hd:(model prog w).den (.compLoop ce k it acc env)=(compTurn ce k it acc env).onRaise (λx=>do noteFrame x env;theTreesLotGoes x)/\A.under (.compLoop ce k it acc env)=A) (I:Nat->PX->Prop)
 (turn:∀n s,I n s->wpAny (model prog w) A (pyNext it) (λr j=>match r with
  |none=>R (.ok .next) j
  |some v=>wpAny (model prog w) A (letOwnedTupleGo target it v) (λ_ y=>wpAny (model prog w) A (assign target env v) (λ_ z=>wpAny (model prog w) A body (λ_ B=>∃m,m<n/\I m B) FF z) FF y) FF j) FF s)
 (n:Nat) (h:I n s):codeAny (model prog w) A (.compLoop ce k it acc env) R s:=by
 refine codeAny_loop rfl I (λn s L=>?_) n h;rw[hd.1,hd.2];refine wpAny_noted ?_;rw[J];refine wpAny_noRaise ?_;refine tqa (wpAny_standAt (tqa (aP (turn n s L) λr j u=>?_)));cases r with
 |none=>exact tqb u
 | some v =>
   refine tqa (aP u λ_ y E=>?_);exact tqa (aP E λ_ z F=>tqa (aP F λ_ B H=>tqb ⟨rfl,H⟩))
def Bs (y h j:Expr)(B:List R0)(u:Scope)(pos:Pos)(z acc:PL)(env:Rg) :
 compTurn (.ListComp y [{h,j,[],0}] u pos) 0 z acc env=(standAt j.pos >>= λ_=>pyNext z >>= λr=>match r with
  |none=>pure (.done .next)
  |some v=>letOwnedTupleGo h z v >>= λ_=>assign h env v >>= λ_=>(eval y env >>= λx=>call (.builtin "list.append") [acc,x] >>= λ_=>pure ()) >>= λ_=>again (.compLoop (.ListComp y [{h,j,[],0}] u pos) 0 z acc env)):=`r
def turn_if (y h j c:Expr)(u:Scope)(pos:Pos)(z acc:PL)(env:Rg) :
 compTurn (.ListComp y [{h,j,[c],0}] u pos) 0 z acc env=(standAt j.pos >>= λ_=>pyNext z >>= λr=>match r with
  |none=>pure (.done .next)
  |some v=>letOwnedTupleGo h z v >>= λ_=>assign h env v >>= λ_=>(isTrue c env (eval c env) >>= λok=>if ok=true then(eval y env >>= λx=>call (.builtin "list.append") [acc,x] >>= λ_=>pure ()) else pure ()) >>= λ_=>again (.compLoop (.ListComp y [{h,j,[c],0}] u pos) 0 z acc env)):=by
 rw[compTurn_list];refine congrArg _ (funext λ_=>congrArg _ (funext λr=>?_));cases r with
 |none=>rfl
 | some v =>
   simp only[List.forIn_cons,List.forIn_nil,if_true,bind_assoc,pure_bind];refine congrArg _ (funext λ_=>congrArg _ (funext λ_=>congrArg _ (funext λok=>?_)));cases ok<;>simp
def Bq (z h y t2 B:Expr)(u:Scope)(pos:Pos)(E acc:PL)(env:Rg) :
 compTurn (.ListComp z [{h,y,[],0},{t2,B,[],0}] u pos) 0 E acc env=(standAt y.pos >>= λ_=>pyNext E >>= λr=>match r with
  |none=>pure (.done .next)
  |some v=>letOwnedTupleGo h E v >>= λ_=>assign h env v >>= λ_=>(eval B env >>= λx=>standAt B.pos >>= λ_=>foldedSetIterable B env x >>= λx=>holding [x] (pyIter x) >>= λj=>runOwn (.compStart (.ListComp z [{h,y,[],0},{t2,B,[],0}] u pos) 1 j acc env) env >>= λ_=>pure ()) >>= λ_=>again (.compLoop (.ListComp z [{h,y,[],0},{t2,B,[],0}] u pos) 0 E acc env)):=by
 refine bind_congr λ_=>bind_congr λr=>?_;cases r with
 |none=>rfl
 |some v=>simp
def Br (y h u t2 B:Expr)(j:Scope)(pos:Pos)(z acc:PL)(env:Rg) :
 compTurn (.ListComp y [{h,u,[],0},{t2,B,[],0}] j pos) 1 z acc env=(standAt B.pos >>= λ_=>pyNext z >>= λr=>match r with
  |none=>pure (.done .next)
  |some v=>letOwnedTupleGo t2 z v >>= λ_=>assign t2 env v >>= λ_=>(eval y env >>= λx=>call (.builtin "list.append") [acc,x] >>= λ_=>pure ()) >>= λ_=>again (.compLoop (.ListComp y [{h,u,[],0},{t2,B,[],0}] j pos) 1 z acc env)):=by
 rfl
set_option tactic.hygienic true in
theorem lp (env:Rg):∀(ns:List (Str×NameKind)) (h:List (Str×Addr)),(∀y∈ns,y.2=.free->∃c,env.cells.lookup y.1=some c)->(∀x c,h.lookup x=some c->env.cells.lookup x=some c)->
 ∃cl,(forIn ns h λ(y:Str×NameKind) (r:List (Str×Addr))=>if (y.2==NameKind.free)=true then cellOf env y.1 >>= λa=>pure (ForInStep.yield ((y.1,a)::r)) else pure (ForInStep.yield r):Sem _)=pure cl/\
  (∀x c,cl.lookup x=some c->env.cells.lookup x=some c)/\(∀x c,h.lookup x=some c->∃E,cl.lookup x=some E)/\∀y∈ns,y.2=.free->∃c,cl.lookup y.1=some c
 |[],h,_,h2=>{h,`s,h2,λx c e=>⟨c,e⟩,λy j=>nomatch j}
 | (n, k) :: ns, h, h1, h2 => by
   by_cases hk:k=.free
   ·subst hk;obtain⟨a,v⟩:=h1 (n,.free) Qm rfl;have lk:∀x c,((n,a)::h).lookup x=some c->env.cells.lookup x=some c:=λx c e=>by
     rw[QU] at e;split at e
     ·next q=>cases e;rw[eq_of_beq q];exact v
     ·exact h2 x c e
    obtain⟨cl,e,p1,p2,u⟩:=lp env ns ((n,a)::h) (λy j=>h1 y (Qc _ j)) lk;refine{cl,?_,p1,λx c q=>?_,λy j hf=>?_}
    ·rw[List.forIn_cons];have H:cellOf env n=pure a:=by unfold cellOf;rw[v]
     simp only[beq_self_eq_true,if_true,H];exact e
    ·by_cases B:x=n
     ·exact p2 x a (by rw[QU,B];simp)
     ·exact p2 x c (by rw[QU,Rb.mpr B];exact q)
    ·rcases Qu.mp j with z|z
     ·subst z;exact p2 n a (by simp[QU])
     ·exact u y z hf
   ·obtain⟨cl,e,p1,p2,u⟩:=lp env ns h (λy j=>h1 y (Qc _ j)) h2;refine{cl,?_,p1,p2,λy j hf=>?_}
    ·rw[List.forIn_cons];have F:(k==NameKind.free)=false:=by simpa using hk
     simp only[F,Bool.false_eq_true,if_false];exact e
    ·rcases Qu.mp j with z|z
     ·subst z;exact absurd hf hk
     ·exact u y z hf
def pj (h:∀y∈j.names,y.2=.free->∃c,env.cells.lookup y.1=some c) :
 ∃cl,closureFor j env=pure cl/\(∀x c,cl.lookup x=some c->env.cells.lookup x=some c)/\∀y∈j.names,y.2=.free->∃c,cl.lookup y.1=some c:=by
 obtain⟨cl,e,p1,_,u⟩:=lp env j.names [] h (λx c q=>nomatch q);exact{cl,by unfold closureFor;simp only[bind_pure];exact e,p1,u}
end
noncomputable def fV (X:Cx)(own bn:List Str)(scope:Scope)(cl:List (Str×Addr))(C:Addr)(fp:List Addr)(s:PX)(H:Hp):Cx:=
 {X with N:=own++bn,s₀:=s,H₀:=H,env:=compEnvC scope cl C X.env,outer:=X.stack,ex:=fp,fn:=λx=>scope.names.lookup x==some .cell,pn:=[],xe:=FF}
set_option tactic.hygienic true in
noncomputable def mem_of_lookup {j:Type}:∀{l:List (Str×j)}{x:Str}{k:j},l.lookup x=some k->(x,k)∈l
 |[],_,_,h=>by cases h
 | (n, b) :: r, x, k, h => by
   rw[QU] at h;split at h
   ·next q=>cases h;rw[eq_of_beq q];exact Qm
   ·exact Qc _ (mem_of_lookup h)
set_option tactic.hygienic true in
theorem gE {env:Rg}:∀{j:List (Str×NameKind)}{x:Str}{k:NameKind},
 (j.map λ(n,k)=>if (k==NameKind.free&&env.scope.kind==.function&&env.kindOf n==some .cell) then(n,NameKind.cell) else(n,k)).lookup x=some k->
 ∃k0,(x,k0)∈j/\j.lookup x=some k0/\(k=k0\/(k0=.free/\k=.cell))
 |[],_,_,h=>by cases h
 | (n, k0) :: r, x, k, h => by
   have y:=@gE env r x k;have h:List.lookup x ((if (k0==NameKind.free&&env.scope.kind==.function&&env.kindOf n==some .cell)=true then(n,NameKind.cell) else(n,k0))::_)=some k:=h;cases u:x==n with
   | true =>
     have e:=eq_of_beq u;subst e;refine{k0,Qm,by simp[QU],?_}
     split at h
     ·next c=>
      simp[QU] at h;simp at c;exact .inr ⟨c.1.1,h.symm⟩
     ·simp[QU] at h;exact .inl h.symm
   | false =>
     have v:List.lookup x (r.map λ(n,k)=>if (k==NameKind.free&&env.scope.kind==.function&&env.kindOf n==some .cell) then(n,NameKind.cell) else(n,k))=some k:=by
      split at h<;>simpa[QU,u] using h
     obtain⟨k1,h1,h2,h3⟩:=y v;exact{k1,Qc _ h1,by simp[QU,u];exact h2,h3}
theorem oP {h j:Type}{R:h->j->Prop}:∀{l:List h}{r:List j}{i:Nat}{x:h},RO R l r->l[i]?=some x->∃y,r[i]?=some y/\R x y
 |_,_,_,_,.nil,e=>by simp at e
 |_,_,0,_,.cons p _,e=>by simp at e;subst e;exact{_,rfl,p}
 | _, _, i + 1, x, .cons _ t, e => by
   obtain⟨y,h1,h2⟩:=oP t (by simpa using e)
   exact{y,by simpa using h1,h2}
structure fF (X:Cx) (own bn:List Str) (scope:Scope):Prop where
 kind:scope.kind=.function
 cel:∀y∈scope.names,y.2=.cell->scope.names.lookup y.1=some .cell
 loc:∀y∈scope.names,y.2=.local->scope.names.lookup y.1=some .local
 free:∀y∈scope.names,y.2=.free->X.env.kindOf y.1=some .cell\/X.env.kindOf y.1=some .free
 dis:RO (λb x=>(b=x/\scope.names.lookup x≠some .local/\scope.names.lookup x≠some .cell)\/scope.names.lookup b=none) bn X.N
theorem jd:∀(h:List (Str×NameKind)) (n:Nat) (acc:List (Str×Addr)),cellsFrom n h acc=cellsFrom n h []++acc
 |[],_,_=>rfl
 | (nm, k) :: r, n, acc => by
   unfold cellsFrom;split
   ·rw[jd r (n+1) ((nm,n)::acc),jd r (n+1) [(nm,n)],QH];rfl
   ·exact jd r n acc
set_option tactic.hygienic true in
theorem um:∀{j:List (Str×NameKind)}{n:Nat}{x:Str}{c:Addr},(x,c)∈cellsFrom n j []->(x,NameKind.cell)∈j
 |[],_,_,_,h=>nomatch h
 | (nm, k) :: r, n, x, c, h => by
   unfold cellsFrom at h;split at h
   ·next e=>
    rw[jd] at h;rcases Qs.mp h with h|h
    ·exact Qc _ (um h)
    ·cases Qa.mp h;rw[eq_of_beq e];exact Qm
   ·exact Qc _ (um h)
theorem pq:∀{j:List (Str×NameKind)}{n:Nat}{x:Str},(x,NameKind.cell)∈j->∃c,(x,c)∈cellsFrom n j []
 | (nm, k) :: r, n, x, h => by
   unfold cellsFrom;rcases Qu.mp h with h|h
   ·cases h;rw[if_pos (by rfl:(NameKind.cell==NameKind.cell)=true),jd]
    exact{n,Qx _ (Qa.mpr rfl)}
   ·split
    ·obtain⟨c,u⟩:=pq h;rw[jd];exact{c,QT _ u}
    ·exact pq h
theorem l4 {j:Type}:∀{l:List (Str×j)}{x:Str}{b:j},(x,b)∈l->∃c,l.lookup x=some c
 | (n, u) :: r, x, b, h => by
   rw[QU];cases e:x==n with
   |true=>exact{_,rfl}
   | false =>
     rcases Qu.mp h with z|z
     ·cases z;rw[beq_self_eq_true] at e;cases e
     ·exact l4 z
def qX
 (h:Q (newEnv scope s.heap.objs.size globals (cellsFrom (s.heap.objs.size+1) scope.names cl) qual none .none (some env) builtinsNs) {s with heap:=pushCells (s.heap.push {cls:=.type "dict",data:=.dict #[]}) scope.names}) :
 wpAny M A (newFunctionEnv scope globals cl [] qual none .none (some env)) Q E s:=by
 simp only[newFunctionEnv,Option.isSome_some,if_true];refine tqa (wpAny_alloc ?_);refine tqa (wpAny_layCells _ (λv kind j=>by cases u:kind==NameKind.cell<;>simp[u]) _ _ _ _ ?_)
 rw[show({s with heap:=s.heap.push {cls:=.type "dict",data:=.dict #[]}}:PX).heap.objs.size=s.heap.objs.size+1 from RC ..]
 exact tqa (tqb (tqb h))
section
variable{X:Cx}{pins:List (Addr×Obj)}{σ:L2.St}{H:Hp}{s:PX}{fp:List Addr}{scope:Scope}{cl:List (Str×Addr)}{own bn:List Str}
structure Cl (X:Cx) (scope:Scope) (cl:List (Str×Addr)) (n:Nat):Prop where
 sub:∀x c,cl.lookup x=some c->(scope.names.lookup x=some .cell/\n<c)\/(scope.names.lookup x≠some .cell/\X.env.cells.lookup x=some c)
 inj:∀x y c,cl.lookup x=some c->cl.lookup y=some c->scope.names.lookup x=some .cell->scope.names.lookup y=some .cell->x=y
 has:∀y∈scope.names,(y.2=.free\/y.2=.cell)->∃c,cl.lookup y.1=some c
def EC (S:fF X own bn scope)(h1:∀x c,cl.lookup x=some c->X.env.cells.lookup x=some c)(h2:∀y∈scope.names,y.2=.free->∃c,cl.lookup y.1=some c)(h:Heap)(hn:h.objs.size=n+1) :
 Cl X scope (cellsFrom (n+1) scope.names cl) n/\∀x c,(cellsFrom (n+1) scope.names cl).lookup x=some c->scope.names.lookup x=some .cell->(pushCells h scope.names).IsCell c none:=by
 have ok:=cellsFrom_ok scope.names h (n+1) [] {λ_ _ hm=>(nomatch hm),List.Pairwise.nil} (by rw[hn];exact PV _)
 rw[hn] at ok;rw[jd];have j:∀{x c},(cellsFrom (n+1) scope.names []++cl).lookup x=some c->scope.names.lookup x=some .cell->(x,c)∈cellsFrom (n+1) scope.names []:=λ{x c} e u=>by
  obtain⟨E,I⟩:=pq (mem_of_lookup u);obtain⟨J,h2⟩:=l4 I;rw[List.lookup_append,h2] at e;cases e;exact mem_of_lookup h2
 have v:∀{x c},(cellsFrom (n+1) scope.names []++cl).lookup x=some c->scope.names.lookup x≠some .cell->cl.lookup x=some c:=λ{x c} e u=>by
  rw[List.lookup_append] at e;cases z:(cellsFrom (n+1) scope.names []).lookup x with
  |none=>rw[z] at e;exact e
  |some E=>exact absurd (S.cel _ (um (mem_of_lookup z)) rfl) u
 refine{{λx c e=>?_,λx y c e1 e2 u B=>?_,λy B hk=>?_},λx c e u=>(ok.empty x c (j e u)).1}
 ·by_cases u:scope.names.lookup x=some .cell
  ·exact .inl {u,(ok.empty x c (j e u)).2}
  ·exact .inr {u,h1 x c (v e u)}
 ·exact name_of_addr ok.apart (j e1 u) (j e2 B)
 ·rcases hk with hk|hk
  ·obtain⟨c,F⟩:=h2 y B hk;rw[List.lookup_append];cases (cellsFrom (n+1) scope.names []).lookup y.1 with
   |none=>exact⟨c,F⟩
   |some E=>exact⟨E,rfl⟩
  ·obtain⟨c,F⟩:=pq (by rw[<- hk];exact B)
   obtain⟨J,e2⟩:=l4 F;rw[List.lookup_append,e2];exact⟨J,rfl⟩
def Ha (I:Inv X pins σ H s)(S:fF X own bn scope)(j:Cl X scope cl s.heap.objs.size)(v:∀b∈fp,fC X pins H b)(B:∀b∈fp,∃o,s.heap.get? b=some o) :
 (fV X own bn scope cl s.heap.objs.size fp s H).Ok where
 mod:=I.ok.mod
 kind:=S.kind
 glob:=I.ok.glob
 blt:=I.ok.blt
 above:=PV _
 inj:=λx y c h1 h2=>by
  have lt:=λz e=>Nat.not_lt.mpr (RR (let{_,q}:=I.cell z c e;q.lt))
  rcases j.sub x c h1 with⟨a1,a2⟩|⟨a1,a2⟩<;>rcases j.sub y c h2 with⟨J,F⟩|⟨J,F⟩
  ·exact j.inj x y c h1 h2 a1 J
  ·exact absurd a2 (lt y F)
  ·exact absurd F (lt x a2)
  ·exact I.ok.inj x y c a2 F
 has:=λx h=>by
  have E:∀k,(relabel scope X.env).names.lookup x=some k->(k=.cell\/k=.free)->∃c,cl.lookup x=some c:=λk hk L=>by
   obtain⟨O,h1,h2,h3⟩:=gE hk;refine j.has _ h1 ?_;rcases h3 with e|⟨e,_⟩
   ·rcases L with z|z
    ·exact .inr (e.symm.trans z)
    ·exact .inl (e.symm.trans z)
   ·exact .inl e
  rcases h with h|h
  ·exact E _ h (.inl rfl)
  ·exact E _ h (.inr rfl)
 cab:=λx c h e=>by
  rcases j.sub x c e with⟨_,a2⟩|⟨a1,_⟩
  ·exact RR a2
  ·exact absurd (eq_of_beq h) a1
 hd:=I.ok.hd
 frames:=I.ok.frames
 stk:=.inl rfl
 exf:=λb u=>{λe=>by
  obtain⟨o,ho⟩:=B b u;exact absurd (Qk ho) (by rw[e];exact Q4 _),λx c e=>by
  rcases j.sub x c e with⟨_,a2⟩|⟨_,a2⟩
  ·obtain⟨o,ho⟩:=B b u;exact λz=>absurd (Qk ho) (by rw[<- z];exact Nat.lt_asymm a2)
  ·exact(v b u).2.2.2.2.1 x c a2}
 bs:=λb o e=>I.bs b o e
 bsz:=Qf I.ok.bsz I.sz
 noex:=λb o e u=>by
  rcases(v b u).2.2.2.1 with z|z
  ·exact I.ok.noex b o e z
  ·exact absurd (Qg (Qk e) (Qf I.ok.bsz z)) (Q4 _)
 exfs:=λb u M=>by
  rcases Qu.mp (I.stkSub b M) with e|e
  ·exact(v b u).2.1 e
  ·exact(v b u).2.2.1 e
 funs:=I.stack
 frf:=λb u=>I.stkFree b u
def ui (I:Inv X pins σ H s)(S:fF X own bn scope)(h:Cl X scope cl s.heap.objs.size)(P:∀b∈fp,fC X pins H b)(O:∀b∈fp,∃o,s.heap.get? b=some o)
 (hn:h'.Ns s.heap.objs.size m) (hk:∀b o,s.heap.get? b=some o->h'.get? b=some o) (M:∀x c,cl.lookup x=some c->scope.names.lookup x=some .cell->h'.IsCell c none) :
 Inv (fV X own bn scope cl s.heap.objs.size fp s H) [] (List.replicate own.length none++σ) H {s with heap:=h',toks:=t'} where
 ok:=Ha I S h P O
 os:=rfl
 bare:=I.bare
 base:=Un.kept hk
 loc:=by
  refine{m,hn,λi x v e1 e2 W=>?_};have e1:(own++bn)[i]?=some x:=e1;have U:own.length≤i:=by
   by_cases q:i<own.length
   ·rw[PU (by simpa using q),RY] at e2
    simp[q] at e2
   ·omega
  rw[Qo U] at e1;rw[Qo (by simpa using U)] at e2
  simp only[RK] at e2;have L:X.N[i-own.length]?=some x/\scope.names.lookup x≠some .local/\scope.names.lookup x≠some .cell:=by
   rcases oP S.dis e1 with⟨y,h1,⟨h2,h3⟩|h2⟩
   ·subst h2;exact⟨h1,h3⟩
   ·exfalso;have no:∀k,(relabel scope X.env).names.lookup x≠some k:=λk hk=>by
     obtain⟨Q,_,h3,_⟩:=gE hk;rw[h2] at h3;cases h3
    rcases W with z|z|z
    ·exact no _ z
    ·exact no _ z
    ·exact no _ z
  have R:∀k,(relabel scope X.env).names.lookup x=some k->(k=.local\/k=.cell\/k=.free)->∃c,(k=.cell\/k=.free)/\cl.lookup x=some c/\(X.env.kindOf x=some .cell\/X.env.kindOf x=some .free):=λk j J=>by
   obtain⟨Q,h1,h2,h3⟩:=gE j;have nl:Q≠.local:=λe=>L.2.1 (by rw[h2,e])
   have hf:Q=.free:=by
    rcases h3 with e|⟨e,_⟩
    ·rcases J with z|z|z
     ·exact absurd (e.symm.trans z) nl
     ·exact absurd (by rw[h2,e.symm.trans z]) L.2.2
     ·exact e.symm.trans z
    ·exact e
   obtain⟨c,Y⟩:=h.has _ h1 (.inl hf);refine{c,?_,Y,S.free _ h1 hf};rcases J with z|z|z
   ·rcases h3 with e|⟨_,e⟩
    ·rw[hf] at e;rw[e] at z;cases z
    ·rw[e] at z;cases z
   ·exact .inl z
   ·exact .inr z
  have B:∀k,(relabel scope X.env).names.lookup x=some k->(k=.local\/k=.cell\/k=.free)->∃u,RelV v u/\Look (compEnvC scope cl s.heap.objs.size X.env) h' m x u:=λk j J=>by
   obtain⟨c,h1,h2,h3⟩:=R k j J;obtain⟨m0,_,hl⟩:=I.loc;obtain⟨u,r,l⟩:=hl _ x v L.1 e2 (.inr h3);refine{u,r,.inr {?_,c,h2,?_}}
   ·rcases h1 with z|z
    ·subst z;exact .inl j
    ·subst z;exact .inr j
   ·rcases l with⟨z,_⟩|⟨_,c',F,E⟩
    ·rcases h3 with q|q
     ·rw[z] at q;cases q
     ·rw[z] at q;cases q
    ·rcases h.sub x c h2 with⟨a1,_⟩|⟨_,a2⟩
     ·exact absurd a1 L.2.2
     rw[a2] at F;cases F;obtain⟨o,ho,hd⟩:=E;exact{o,hk _ _ ho,hd}
  rcases W with z|z|z
  ·exact B _ z (.inl rfl)
  ·exact B _ z (.inr (.inl rfl))
  ·exact B _ z (.inr (.inr rfl))
 cell:=λx c e=>by
  rcases h.sub x c e with⟨a1,_⟩|⟨_,a2⟩
  ·exact{none,M x c e a1}
  obtain⟨v,o,ho,hd⟩:=I.cell x c a2;exact{v,o,hk _ _ ho,hd}
 free:=I.hok.fresh (PV _)
 freeC:=λx c e=>(h.sub x c e).elim (λz=>I.hok.fresh (RR z.2)) λz=>I.freeC x c z.2
 pin:=λp hp=>nomatch hp
 hok:=I.hok.kept hk
 len:=by
  show(List.replicate own.length none++σ).length=(own++bn).length;have:=Paired.length S.dis;simp[I.len,this]
def comp_back (I:Inv X pins σ H s)(h:∀b∈fp,fC X pins H b)(j:Inv (fV X own bn scope cl C fp s H) pins' σ' H' s'):Inv X pins σ H' s':=
 I.call' j.os j.base j.hok j.bare λb u=>{(h b u).2.2.2.1,(h b u).2.1,(h b u).2.2.2.2.1,(h b u).2.2.2.2.2}
def q8 (I:Inv X pins σ H s)(hf:H' s.heap.objs.size=none)(h:Inv X pins σ' H' s')(hs:Rz s.heap.objs.size s'.heap h''):Inv X pins σ' H' {s' with heap:=h''}:=
 h.turned (λb o j e=>(hs.2 b j).trans e) hf (QR I.lt) (.inr I.sz) (λx c e z=>by
  obtain⟨v,q⟩:=I.cell x c e;exact absurd q.lt (by rw[z];exact Q4 _)) λp u z=>absurd (Qk (I.pin p u).1) (by rw[z];exact Q4 _)
end
structure fD (a:Addr) (μ:Mu) (H:Hp) (μ':Mu) (H':Hp):Prop extends ExtW μ H μ' H' where
 pr:μ'.priv=μ.priv
 pk:∀b∈μ.priv,b≠a->H' b=H b
def fD.refl:fD a μ H μ H:={.refl,rfl,λ_ _ _=>rfl}
def fD.trans (x:fD a μ H μ1 H1)(y:fD a μ1 H1 μ2 H2):fD a μ H μ2 H2:=
 {x.toExtW.trans y.toExtW,y.pr.trans x.pr,λb h n=>(y.pk b (by rw[x.pr];exact h) n).trans (x.pk b h n)}
def Ext.toD (x:Ext μ H μ' H'):fD a μ H μ' H':={x.toExtW,x.pr,λb h _=>x.pk b h}
noncomputable def slots:fN->List Nat
 |.one i=>[i]
 |.tup l=>l
 |.two i l=>i::l
def Clear (W:List Nat)(ρ:Env):Prop:=∀i∈W,∀d,ρ[i]?≠some (some d)
section
variable{fa:Fa}{K:PJ}{μ μ':Mu}{H H':Hp}{σ:L2.St}{ρ ρ1:Env}{M:Mem}{a:Addr}
def bw.weak (h:bw fa K μ H σ ρ1)(hl:ρ1.length=ρ.length)(w:∀(i:Nat) d,ρ[i]?=some (some d)->ρ1[i]?=some (some d)):bw fa K μ H σ ρ:=
 {h.len.trans hl,λi d e=>h.at' i d (w i d e)}
theorem kC:∀{l:List Nat}{ds:List D}{ρ ρ1:Env},cf l ds ρ=some ρ1->ρ1.length=ρ.length/\∀i,i∉l->ρ1[i]?=ρ[i]?
 |[],[],ρ,ρ1,h=>by cases h;exact{rfl,λ_ _=>rfl}
 |_::_,[],_,_,h=>by cases h
 |[],_::_,_,_,h=>by cases h
 | j :: l, d :: ds, ρ, ρ1, h => by
   obtain⟨h1,h2⟩:=kC (ds:=ds) h;refine{by simpa using h1,λi u=>?_}
   rw[h2 i (λz=>u (Qc _ z)),PN (λz=>u (by rw[z];exact Qm))]
def rf (h:b6 t d ρ=some ρ1):ρ1.length=ρ.length/\∀i,i∉slots t->ρ1[i]?=ρ[i]?:=by
 cases t with
 | one j =>
   cases h;exact{`s,λi u=>PN (λz=>u (by rw[z];exact Qm))}
 | tup l =>
   cases d with
   |tup v=>exact kC h
   |_=>cases h
 | two j l =>
   obtain⟨e,v,rfl,h⟩:=uA h;obtain⟨h1,h2⟩:=kC h;refine{by simpa using h1,λi u=>?_}
   rw[h2 i (λz=>u (Qc _ z)),PN (λz=>u (by rw[z];exact Qm))]
def bw.unbind (h:b6 t d ρ=some ρ1)(c:Clear (slots t) ρ)(r:bw fa K μ H σ ρ1):bw fa K μ H σ ρ:=by
 obtain⟨h1,h2⟩:=rf h;refine r.weak h1 λi d e=>?_;by_cases j:i∈slots t
 ·exact absurd e (c i j d)
 ·rw[h2 i j];exact e
def RelM.writeP (h:RelM fa K μ H M)(e:a∈μ.priv)(v:H a=some (.lst vs)):RelM fa K μ (upd H a (.lst ws)) M:=by
 have x:ExtW μ H μ (upd H a (.lst ws)):=ExtW.write v (.inr e);refine{λk B q=>?_,h.out,h.oout,h.inj,h.oinj,h.sep,λb y=>{?_,(h.pv b y).2}}
 ·rcases h.at' k B q with⟨b,u,h1,h2,h3⟩|⟨b,h1,h2,h3⟩
  ·have E:b≠a:=λz=>(h.pv a e).2 k (by rw[h1,z])
   exact .inl {b,u,h1,by rw[aF E];exact h2,h3.extW x}
  ·exact .inr {b,h1,h2,h3.extW x (aF (h3.nl v))}
 ·by_cases j:b=a
  ·subst j;exact⟨ws,cw⟩
  ·obtain⟨u,q⟩:=(h.pv b y).1;exact{u,by rw[aF j];exact q}
def fD.writeP (e:a∈μ.priv)(h:H a=some (.lst vs)):fD a μ H μ (upd H a (.lst ws)):=
 {ExtW.write h (.inr e),rfl,λb _ n=>by rw[aF n]}
end
abbrev PA:=Mu->Hp->List D->Prop
def xV (A:PA):Prop:=∀μ H μ' H' h,Ext μ H μ' H'->A μ H h->A μ' H' h
def LA (fa:Fa)(K:PJ)(a:Addr):PA:=λμ H h=>a∈μ.priv/\∃j,H a=some (.lst j)/\aL fa K μ H h j
def LA.stab {K:PJ}:xV (LA fa K a):=λ_ _ _ _ _ x ⟨h1,h,h2,h3⟩=>{by rw[x.pr];exact h1,h,by rw[x.pk _ h1];exact h2,h3.ext x}
def WB (fa:Fa)(K:PJ)(A:PA)(a:Addr)(μ:Mu)(H:Hp)(ρ:Env)(Q:L2.St->Hp->Prop)(acc:List D)(M':Mem):Prop:=
 ∀h H' μ',fD a μ H μ' H'->bw fa K μ' H' h ρ->RelM fa K μ' H' M'->A μ' H' acc->Q h H'
def WB.ext {K:PJ}(h:WB fa K A a μ H ρ Q acc M')(x:fD a μ H μ1 H1):WB fa K A a μ1 H1 ρ Q acc M':=
 λj H' μ' y e m h1=>h j H' μ' (x.trans y) e m h1
def DB (fa:Fa)(X:Cx)(A:PA)(a:Addr)(W:List Nat)(body:Sem Unit)(g:Env->List D->Mem->Res (List D)):Prop:=
 ∀(h:List (Addr×Obj)) (s:PX) (σ:L2.St) (H:Hp) (Q:L2.St->Hp->Prop) (μ:Mu) (ρ:Env) (M:Mem) (j:List D),Inv X h σ H s->bw fa X.K μ H σ ρ->RelM fa X.K μ H M->Clear W ρ->A μ H j->
  ae (g ρ j M) (WB fa X.K A a μ H ρ Q)->wpAny (model X.prog X.w) X.A body (λ_ v=>∃u H',Inv X h u H' v/\Q u H') X.xe s
def bH (ge:Env->Mem->Res D):Env->List D->Mem->Res (List D):=λρ h M=>(ge ρ M).bind λx M=>if h.length<sz then .ok (h++[x]) M else .bad
def vU (j:Env->Mem->Res Bool)(g:Env->List D->Mem->Res (List D)):Env->List D->Mem->Res (List D):=λρ h M=>(j ρ M).bind λk M=>if k then g ρ h M else .ok h M
def cU (t:fN)(g:Env->List D->Mem->Res (List D))(ρ:Env):List D->D->Mem->Res (List D):=λh d M=>(bX M (b6 t d ρ)).bind λρ1 M=>g ρ1 h M
def t8 (t:fN)(j:Env->Mem->Res Walk)(g:Env->List D->Mem->Res (List D)):Env->List D->Mem->Res (List D):=λρ h M=>(j ρ M).bind λw M=>cT (cU t g ρ) w h M
section
variable{fa:Fa}{X:Cx}{a:Addr}
set_option tactic.hygienic true in
def uf (he:DE fa X elt ge):DB fa X (LA fa X.K a) a [] (eval elt X.env >>= λx=>call (.builtin "list.append") [.ref a,x] >>= λ_=>pure ()) (bH ge):=by
 intro z s σ H Q μ ρ M Y I P hM hc ⟨R,J,hH,hr⟩ h;obtain⟨x,W,e,q⟩:=aM h;split at q
 ·next hz=>
  refine tqa (aP (he z s σ H (λv y=>∃j,Ext μ H j y/\RelM fa X.K j y W/\Rep fa X.K j y x v) I {μ,ρ,M,P,hM,?_}) λu s1 ⟨v,y,S,rv,j,F,O,r1⟩=>?_)
  ·rw[e];exact λv y j F O r1=>⟨j,F,O,r1⟩
  have B:y a=some (.lst J):=by rw[F.pk a R];exact hH
  have E:a∈j.priv:=by rw[F.pr];exact R
  have hl:J.length<sizeLine:=by rw[hr.length,<- dE];exact hz
  refine tqa (aP (lX z s1 σ y (.ref a) [v] (.ref a) [u] (λ_ L=>L=upd y a (.lst (J++[v]))) S rfl (.cons rv .nil) ⟨a,J,v,rfl,rfl,B,hl,rfl⟩) λ_ s2 ⟨_,L,U,_,e2⟩=>tqb {σ,L,U,?_});subst e2;have xd:fD a j y j (upd y a (.lst (J++[v]))):=fD.writeP E B;exact q σ _ j (F.toD.trans xd) ((P.ext F).extW xd.toExtW) (O.writeP E B) {E,_,cw,((hr.ext F).append (.one r1)).extW xd.toExtW}
 ·exact q.elim
def MF (O:xV A)(U:DT fa X c gc)(S:DB fa X A a W body g) :
 DB fa X A a W (isTrue c X.env (eval c X.env) >>= λok=>if ok=true then body else pure ()) (vU gc g):=by
 intro u s σ H Q μ ρ M B I E R Y L h;obtain⟨k,J,e,q⟩:=aM h;refine tqa (aP (U u s σ H (λb y=>b=k/\∃j,Ext μ H j y/\RelM fa X.K j y J) I {μ,ρ,M,E,R,?_}) λb s1 ⟨y,F,P,j,v,z⟩=>?_)
 ·rw[e];exact λy j v z=>⟨rfl,j,v,z⟩
 subst P;cases b with
 | true =>
   rw[if_pos rfl];exact S u s1 σ y Q j ρ J B F (E.ext v) z Y (O _ _ _ _ _ v L) (aO q λ_ _ w=>w.ext v.toD)
 | false =>
   rw[if_neg Qr];exact tqb {σ,y,F,q σ y j v.toD (E.ext v) z (O _ _ _ _ _ v L)}
def qo (sA:xV A)
 (heq:compTurn ce k (.ref it) (.ref a) X.env=(standAt p >>= λ_=>pyNext (.ref it) >>= λr=>match r with
  |none=>pure (.done .next)
  |some v=>letOwnedTupleGo tg (.ref it) v >>= λ_=>assign tg X.env v >>= λ_=>body >>= λ_=>again (.compLoop ce k (.ref it) (.ref a) X.env)))
 (hd:(model X.prog X.w).den (.compLoop ce k (.ref it) (.ref a) X.env)=(compTurn ce k (.ref it) (.ref a) X.env).onRaise (λx=>do noteFrame x X.env;theTreesLotGoes x)/\X.A.under (.compLoop ce k (.ref it) (.ref a) X.env)=X.A) (hx:X.xe=FF) (U:X.calm=true) (T:Turn X.prog X.w X.K tg J fp it tn) (hg:PG X tg (gT fa X.K t)) (S:DB fa X A a W body g) (hW:∀i∈W,i∉slots t)
 (I:Inv X pins σ H s) (st:tn 0 s.heap) (hf:∀b∈fp,fC X pins H b) (hE:bw fa X.K μ H σ ρ) (hM:RelM fa X.K μ H M)
 (hcl:Clear (slots t++W) ρ) (hA:A μ H acc) (wk:eE fa X.K μ H w J) (q:ae (cT (cU t g ρ) w acc M) (WB fa X.K A a μ H ρ Q)) :
 codeAny (model X.prog X.w) X.A (.compLoop ce k (.ref it) (.ref a) X.env) (λr Y=>r=.ok .next/\∃j H',Inv X pins j H' Y/\Q j H') s:=by
 have stat:∀{H':Hp},(∀b∈fp,H' b=none)->∀b∈fp,fC X pins H' b:=λhn b S=>{hn b S,(hf b S).2};have clt:=λi hi=>hcl i (QT _ hi);have clW:∀d ρ1,b6 t d ρ=some ρ1->Clear W ρ1:=λd ρ1 e i hi d' z=>by
  rw[(rf e).2 i (hW i hi)] at z;exact hcl i (Qx _ hi) d' z
 let P:Nat->Nat->PX->Prop:=λm i Y=>∃j H' μ' M' B,Inv X pins j H' Y/\tn i Y.heap/\(∀b∈fp,H' b=none)/\fD a μ H μ' H'/\bw fa X.K μ' H' j ρ/\RelM fa X.K μ' H' M'/\A μ' H' B/\
  ae (f7 (cU t g ρ) w m i B M') (WB fa X.K A a μ H ρ Q)
 have P0:∃m,P m 0 s:={_,σ,H,μ,M,acc,I,st,λb S=>(hf b S).1,.refl,hE,hM,hA,q};obtain⟨m0,P0⟩:=P0;have hturn:∀(n:Nat) (i:Nat) (s3:PX),P n i s3->wpAny (model X.prog X.w) X.A (pyNext (.ref it)) (λr y=>match r with
  |none=>(∃j H',Inv X pins j H' y/\Q j H')
  |some v=>wpAny (model X.prog X.w) X.A (letOwnedTupleGo tg (.ref it) v) (λ_ F=>wpAny (model X.prog X.w) X.A (assign tg X.env v) (λ_ L=>wpAny (model X.prog X.w) X.A body (λ_ O=>∃m,m<n/\P m (i+1) O) FF L) FF F) FF y) FF s3:=by
  rintro n i s3 ⟨σ3,H3,E,M3,R,I3,st3,fr3,x3,hE3,hM3,hA3,q3⟩;have one:∀(d:D) (rest:List D->Mem->Res (List D)) (next:List D->Mem->Prop),J.go i H3->(∀x H',J.yld i H3 x H'->Ext E H3 E H'/\RelM fa X.K E H' M3/\Rep fa X.K E H' d x)->ae ((cU t g ρ R d M3).bind rest) (WB fa X.K A a μ H ρ Q)->
   (∀j H' μ' M' B Y,Inv X pins j H' Y->tn (i+1) Y.heap->(∀b∈fp,H' b=none)->fD a μ H μ' H'->bw fa X.K μ' H' j ρ->RelM fa X.K μ' H' M'->A μ' H' B->ae (rest B M') (WB fa X.K A a μ H ρ Q)->∃m,m<n/\P m (i+1) Y)->
   wpAny (model X.prog X.w) X.A (pyNext (.ref it)) (λr y=>match r with
    |none=>(∃j H',Inv X pins j H' y/\Q j H')
    |some v=>wpAny (model X.prog X.w) X.A (letOwnedTupleGo tg (.ref it) v) (λ_ F=>wpAny (model X.prog X.w) X.A (assign tg X.env v) (λ_ L=>wpAny (model X.prog X.w) X.A body (λ_ O=>∃m,m<n/\P m (i+1) O) FF L) FF F) FF y) FF s3:=by
   intro d rest next go yl qd fin
   refine aP (T.item X rfl rfl rfl U i pins s3 σ3 H3 FF I3 (stat fr3) st3 go) λr s4 ⟨u,hr4,h4⟩=>?_;subst hr4;refine aP h4 λ_ s5 ⟨x,H5,I5,r5,y5,st5,fr5⟩=>?_;obtain⟨x5,hM5,rd⟩:=yl x H5 y5;have I5':=I5.pinned (stat fr5) (T.obj _ _ st5);obtain⟨acc6,M6,e6,q6⟩:=aM qd;obtain⟨ρ1,M7,e7,e8⟩:=fc e6;cases eb:b6 t d ρ with
   |none=>rw[eb] at e7;cases e7
   | some ρ2 =>
     rw[eb] at e7;cases e7;have hg':=hg _ s5 σ3 H5 x u (λj H'=>H'=H5/\bw fa X.K E H5 j ρ1) I5' r5 {E,ρ,_,d,ρ1,hE3.ext x5,hM5,rd,eb,λσ1 h1=>⟨rfl,h1⟩};rw[hx] at hg';refine aP hg' λ_ s6 ⟨σ6,H6,I6,eH,hE6⟩=>?_;subst eH;have hb':=S _ s6 σ6 H6 (λj H'=>∃μ',fD a E H6 μ' H'/\bw fa X.K μ' H' j ρ1/\RelM fa X.K μ' H' M6/\A μ' H' acc6) E ρ1 _ R I6 hE6 hM5 (clW d ρ1 eb) (sA _ _ _ _ _ x5 hA3) (by
      rw[e8];exact λj H' μ' z1 z2 z3 z4=>⟨μ',z1,z2,z3,z4⟩)
     rw[hx] at hb';refine aP hb' λ_ s7 ⟨σ7,H7,I7,μ7,x7,hE7,hM7,hA7⟩=>?_;refine fin σ7 H7 μ7 M6 acc6 s7 I7.unpinned (T.keep _ _ _ st5 λb S o e=>(I7.pin (b,o) (Qx _ (Qx _ (iI S e)))).1) (λb S=>?_) ((x3.trans x5.toD).trans x7) (hE7.unbind eb clt) hM7 hA7 q6;obtain⟨o,e,dd⟩:=T.obj _ _ st5 b S;exact(I7.pin (b,o) (Qx _ (Qx _ (iI S e)))).2.1
  have stop:J.stop i H3->ae (.ok R M3) (WB fa X.K A a μ H ρ Q)->wpAny (model X.prog X.w) X.A (pyNext (.ref it)) (λr y=>match r with
   |none=>(∃j H',Inv X pins j H' y/\Q j H')
   |some v=>wpAny (model X.prog X.w) X.A (letOwnedTupleGo tg (.ref it) v) (λ_ F=>wpAny (model X.prog X.w) X.A (assign tg X.env v) (λ_ L=>wpAny (model X.prog X.w) X.A body (λ_ O=>∃m,m<n/\P m (i+1) O) FF L) FF F) FF y) FF s3:=λhs q=>by
   refine aP (T.done X rfl rfl rfl U i pins s3 σ3 H3 FF I3 (stat fr3) st3 hs) λr s4 ⟨hr4,I4⟩=>?_;subst hr4;exact{σ3,H3,I4,q σ3 H3 E x3 hE3 hM3 hA3}
  cases n with
  |zero=>exact q3.elim
  | succ n =>
    unfold f7 at q3;cases e2:w M3 with
    |none=>rw[e2] at q3;exact q3.elim
    | some ds =>
      rw[e2] at q3;dsimp only at q3;obtain⟨go,stp⟩:=wk E H3 M3 ds x3.toExtW hM3 e2;cases ed:ds[i]? with
      | none =>
        rw[ed] at q3;exact stop (stp i (List.getElem?_eq_none_iff.mp ed)) q3
      | some d =>
        rw[ed] at q3;obtain⟨g1,g2⟩:=go i d ed;refine one d (f7 (cU t g ρ) w n (i+1)) (λ_ _=>True) g1 g2 q3 ?_;intro j H' μ' M' B Y z1 z2 z3 z4 z5 z6 z7 z8;exact{n,`a,j,H',μ',M',B,z1,z2,z3,z4,z5,z6,z7,z8}
 refine AB heq hd (λn Y=>∃i,P n i Y) (λn s3 ⟨i,h3⟩=>?_) m0 {0,P0};refine aP (hturn n i s3 h3) λr s1 h=>?_;cases r with
 |none=>exact⟨rfl,h⟩
 |some v=>exact aP h λ_ s2 h=>aP h λ_ s3 h=>aP h λ_ s4 ⟨m,hm,h⟩=>{m,hm,i+1,h}
end
section
variable{prog:QF}{w:Qz}{A:Ry}{s:PX}{R:Result->PX->Prop}
def rH {j t1 B t2 y:Expr}
 (E:codeAny (model prog w) A (.compLoop (.ListComp j [{t1,B,f1,0},{t2,y,f2,0}] scope pos) 1 it acc env) R s)
 (h:wpAny (model prog w) A (pyIter it) (λu v=>codeAny (model prog w) A (.compLoop (.ListComp j [{t1,B,f1,0},{t2,y,f2,0}] scope pos) 1 u acc env) R v)
  (notedBy (model prog w) A env λx v=>R (.error x) v) s) :
 codeAny (model prog w) A (.compStart (.ListComp j [{t1,B,f1,0},{t2,y,f2,0}] scope pos) 1 it acc env) R s:=by
 refine codeAny_of_tree ?_;refine wpAny_notedAt ?_;refine tqa (wpAny_askSetting (wpAny_ite ?_));split
 ·first
   |exact tqa (tqb (tqb (And.intro rfl E)))
   |exact tqb (And.intro rfl E)
 ·first
   |exact tqa (wpAny_rule (tqa (wpAny_standAt (tqa (wpAny_mono h (λu v z=>tqb (And.intro rfl z)) λ_ _ x=>x)))))
   |(refine tqa (wpAny_rule ?_);show wpAny _ _ (standAt y.pos >>= _) _ _ s;exact tqa (wpAny_standAt (tqa (wpAny_mono h (λu v z=>tqb (And.intro rfl z)) λ_ _ x=>x))))
end
section
variable{fa:Fa}{X:Cx}{a:Addr}
def KH {y t1 W t2 B:Expr}(hx:X.xe=FF)(F:X.calm=true)(hi:DI fa X t2 B gw)(hg:PG X t2 (gT fa X.K t))(he:DE fa X y ge)
 (hs:∀x,foldedSetIterable B X.env x=pure x) :
 DB fa X (LA fa X.K a) a (slots t) (eval B X.env >>= λx=>standAt B.pos >>= λ_=>foldedSetIterable B X.env x >>= λx=>holding [x] (pyIter x) >>= λj=>runOwn (.compStart (.ListComp y [{t1,W,[],0},{t2,B,[],0}] scope pos) 1 j (.ref a) X.env) X.env >>= λ_=>pure ()) (t8 t gw (bH ge)):=by
 intro E s σ H Q μ ρ M acc I hE hM hc hA h;obtain⟨w,M1,e,q⟩:=aM h;refine tqa (aP (hi E s σ H (λJ U=>∃u,Ext μ H u U/\RelM fa X.K u U M1/\eE fa X.K u U w J) I {μ,ρ,M,hE,hM,?_}) λv s1 h1=>?_)
 ·rw[e];exact λJ U u x1 m1 Y=>⟨u,x1,m1,Y⟩
 refine tqa (wpAny_standAt (tqa (wpAny_of_eq (hs v) (tqa (tqo (aP h1 λitv s2 h2=>?_))))));obtain⟨it,fp,tn,J,H2,ei,I2,T,P,f2,μ2,x2,m2,Y⟩:=h2;subst ei;have go:=qo LA.stab (Br y t1 W t2 B scope pos (.ref it) (.ref a) X.env) ⟨rfl,rfl⟩ hx F T hg (uf he) (λi hi=>nomatch hi) I2 P f2 (hE.ext x2) m2 (by simpa using hc) (LA.stab _ _ _ _ _ x2 hA) Y (aO q λ_ _ z=>z.ext x2.toD)
 refine tqa (wpAny_runOwn ?_);have L:codeAny (model X.prog X.w) (X.A.mark none) (.compLoop (.ListComp y [{t1,W,[],0},{t2,B,[],0}] scope pos) 1 (.ref it) (.ref a) X.env) (λr O=>match r with|.ok f=>wpAny (model X.prog X.w) X.A (pure ():Sem Unit) (λ_ O=>∃S H',Inv X E S H' O/\Q S H') X.xe O|.error e=>cameBackBy (model X.prog X.w) X.A X.env X.xe e O) s2:=
  codeAny_mono go λr O ⟨er,z⟩=>by subst er;exact tqb z
 exact rH L (T.self _ 0 _ _ _ P L)
end
section
variable{fa:Fa}{K:PJ}{μ1 μ':Mu}{H1 H':Hp}{M1 M':Mem}{a:Addr}
noncomputable def JD (μ:Mu)(a:Addr):Mu:={μ.pub,a::μ.priv,μ.ob}
def mr (h:RelM fa K μ1 H1 M1)(j:H1 a=none)(o:HO):ExtW μ1 H1 (JD μ1 a) (upd H1 a o):=by
 have x:ExtW μ1 H1 μ1 (upd H1 a o):=(Ext.alloc h j).toExtW;refine{x.mu,x.tups,λb u e n=>{(x.lsts b u e n).1,λz=>?_},x.frzs,x.exts,x.obs};rcases z with z|z
 ·exact n (.inl z)
 ·rcases Qu.mp z with z|z
  ·subst z;rw[j] at e;cases e
  ·exact n (.inr z)
def zk (h:RelM fa K μ1 H1 M1)(j:H1 a=none)(vs:List V):RelM fa K (JD μ1 a) (upd H1 a (.lst vs)) M1:=by
 have x:=mr h j (.lst vs);refine{λk v e=>(h.at' k v e).imp (λ⟨b,u,h1,h2,h3⟩=>{b,u,h1,by rw[aF (aV h2 j)];exact h2,h3.extW x}) λ⟨b,h1,h2,h3⟩=>{b,h1,h2,h3.extW x (aF (h3.new j))},h.out,h.oout,h.inj,h.oinj,h.sep,λb y=>?_}
 ·rcases Qu.mp y with z|z
  ·subst z;exact{⟨vs,cw⟩,λk e=>by
    obtain⟨_,_,_,q,_⟩:=h.mu_lt e;rw[j] at q;cases q}
  ·obtain⟨⟨u,q⟩,n⟩:=h.pv b z;exact{{u,by rw[aF (aV q j)];exact q},n}
set_option tactic.hygienic true in
def F0 (h:RelM fa K μ1 H1 M1)(ha:H1 a=none)(x:fD a (JD μ1 a) (upd H1 a (.lst [])) μ' H')(v:RelM fa K μ' H' M')(hH:H' a=some (.lst vs))(hr:aL fa K μ' H' acc vs)
 (q:ae (bb m acc M') (bj fa K μ1 H1 Q)):Q (.ref a) H':=by
 have S:=λz=>h.pne ha z rfl;have E:=x.pr;have U:∀k,μ'.pub k≠some a:=(v.pv a (by rw[E];exact Qm)).2
 have F:=mr h ha (.lst []);have xe:Ext μ1 H1 ⟨μ'.pub,μ1.priv,μ'.ob⟩ H':=by
  refine{{λk b e=>x.mu k b e,λb y e=>x.tups b y (F.tups b y e),λb y e n=>?_,λb ob u e=>x.frzs b ob u (F.frzs b ob u e),λb o i e=>x.exts b o i (F.exts b o i e),λk b e=>x.obs k b (F.obs k b e)},rfl,λb B=>?_}
  ·obtain⟨H,I⟩:=F.lsts b y e n;obtain⟨z3,z4⟩:=x.lsts b y H I;refine{z3,λz=>z4 ?_};rcases z with z|z
   ·exact .inl z
   ·exact .inr (by rw[E];exact Qc _ z)
  ·have nb:b≠a:=λe=>S (by rw[<- e];exact B)
   rw[x.pk b (Qc _ B) nb,aF nb]
 have Y:ExtW μ' H' ⟨μ'.pub,μ1.priv,μ'.ob⟩ H':={λ_ _ e=>e,λ_ _ e=>e,λb y e n=>{e,λz=>n (z.elim .inl λz=>.inr (by rw[E];exact Qc _ z))},λ_ _ _ e=>e,λ_ _ _ e=>e,λ_ _ e=>e}
 have me:RelM fa K ⟨μ'.pub,μ1.priv,μ'.ob⟩ H' M':={λk L e=>(v.at' k L e).imp (λ⟨b,y,h1,h2,h3⟩=>{b,y,h1,h2,h3.extW Y}) λ⟨b,h1,h2,h3⟩=>{b,h1,h2,h3.extW Y rfl},v.out,v.oout,v.inj,v.oinj,v.sep,λb B=>v.pv b (by rw[E];exact Qc _ B)}
 have re:=hr.extW Y;have R:¬ (⟨μ'.pub,μ1.priv,μ'.ob⟩:Mu).Mt a:=λz=>z.elim (λ⟨k,e⟩=>U k e) S;unfold bb at q;split at q
 ·cases m with
  | false =>
    exact q (.ref a) H' _ xe me {a,vs,rfl,⟨hH,R⟩,re}
  | true =>
    have pc:∀k b,(fJ ⟨μ'.pub,μ1.priv,μ'.ob⟩ M'.length a).pub k=some b->(k=M'.length/\b=a)\/(k≠M'.length/\μ'.pub k=some b):=λk b e=>by
     have e:(if k=M'.length then some a else μ'.pub k)=some b:=e;split at e
     ·next z=>cases e;exact .inl ⟨z,rfl⟩
     ·next z=>exact .inr ⟨z,e⟩
    have O:∀k b,μ'.pub k=some b->(fJ ⟨μ'.pub,μ1.priv,μ'.ob⟩ M'.length a).pub k=some b:=λk b e=>by
     show(if k=M'.length then some a else μ'.pub k)=some b;split
     ·next z=>rw[z,v.out _ (PV _)] at e;cases e
     ·exact e
    have ac:(fJ ⟨μ'.pub,μ1.priv,μ'.ob⟩ M'.length a).pub M'.length=some a:=by
     show(if M'.length=M'.length then some a else _)=some a;rw[if_pos rfl]
    have nc:∀b,¬ μ'.Mt b->¬ (fJ ⟨μ'.pub,μ1.priv,μ'.ob⟩ M'.length a).Mt b:=λb n z=>by
     rcases z with⟨k,z⟩|z
     ·rcases pc k b z with⟨_,e⟩|⟨_,e⟩
      ·exact n (.inr (by rw[E,e];exact Qm))
      ·exact n (.inl ⟨k,e⟩)
     ·exact n (.inr (by rw[E];exact Qc _ z))
    have xc:ExtW μ' H' (fJ ⟨μ'.pub,μ1.priv,μ'.ob⟩ M'.length a) H':={O,λ_ _ e=>e,λb y e n=>{e,nc b n},λ_ _ _ e=>e,λ_ _ _ e=>e,λ_ _ e=>e};have W:Ext μ1 H1 (fJ ⟨μ'.pub,μ1.priv,μ'.ob⟩ M'.length a) H':=by
     refine{{λk b e=>O k b (x.mu k b e),xe.tups,λb y e n=>?_,xe.frzs,xe.exts,xe.obs},rfl,xe.pk};obtain⟨H,I⟩:=F.lsts b y e n;obtain⟨z3,z4⟩:=x.lsts b y H I;exact{z3,nc b z4}
    have P:RelM fa K (fJ ⟨μ'.pub,μ1.priv,μ'.ob⟩ M'.length a) H' (M'++[acc]):=by
     refine{λk L e=>?_,λk hk=>?_,λk hk=>v.oout k (by simp at hk;omega),λj k b e1 e2=>?_,v.oinj,λk b z=>?_,λb B=>?_}
     ·by_cases hk:k<M'.length
      ·rw[PU hk] at e;rcases v.at' k L e with⟨b,y,h1,h2,h3⟩|⟨b,h1,h2,h3⟩
       ·exact .inl {b,y,O k b h1,h2,h3.extW xc}
       ·exact .inr {b,h1,by show(if k=M'.length then some a else μ'.pub k)=none;rw[if_neg (Qw hk)];exact h2,h3.extW xc rfl}
      ·have M:k=M'.length:=by
        have:=(PH.mp e).1;simp at this;omega
       subst M;rw[Qo (PV _)] at e;simp at e;subst e;exact .inl {a,vs,ac,hH,hr.extW xc}
     ·simp at hk;show(if k=M'.length then some a else μ'.pub k)=none;rw[if_neg `a]
      exact v.out k `a
     ·rcases pc j b e1 with⟨j1,J⟩|⟨j1,J⟩<;>rcases pc k b e2 with⟨k1,k2⟩|⟨k1,k2⟩
      ·omega
      ·exact absurd (J ▸ k2) (U k)
      ·exact absurd (k2 ▸ J) (U j)
      ·exact v.inj j k b J k2
     ·show μ'.ob (aI k)=none;rcases pc k b z with⟨e,_⟩|⟨_,e⟩
      ·rw[e];exact v.oout _ (PV _)
      ·exact v.sep k b e
     ·have B:=B;obtain⟨H,I⟩:=v.pv b (by rw[E];exact Qc _ B)
      refine{H,λk e=>?_};rcases pc k b e with⟨_,e⟩|⟨_,e⟩
      ·exact S (e ▸ B)
      ·exact I k e
    exact q (.ref a) H' _ W P ⟨a,rfl,ac⟩
 ·exact q.elim
end
section
variable{fa:Fa}{X:Cx}
def bI (m:Bool)(n:Nat)(t:fN)(j:Env->Mem->Res Walk)(g:Env->List D->Mem->Res (List D)):Env->Mem->Res D:=λh M=>
 (j h M).bind λw M=>(cT (cU t g (List.replicate n none++h)) w [] M).bind (bb m)
def pG (X:Cx)(u B h:Expr)(y:List Expr)(rest:List R0)(j:Scope)(pos:Pos)(body:Addr->Rg->Sem Unit):Prop:=
 ∀(z a:Addr) (env:Rg),compTurn (.ListComp u ({B,h,y,0}::rest) j pos) 0 (.ref z) (.ref a) env=(standAt h.pos >>= λ_=>pyNext (.ref z) >>= λr=>match r with
  |none=>pure (.done .next)
  |some v=>letOwnedTupleGo B (.ref z) v >>= λ_=>assign B env v >>= λ_=>body a env >>= λ_=>again (.compLoop (.ListComp u ({B,h,y,0}::rest) j pos) 0 (.ref z) (.ref a) env))
structure Block (fa:Fa) (X:Cx) (A:Addr->PA) (own bn:List Str) (scope:Scope) (tg:Expr) (t:fN) (W:List Nat) (body:Addr->Rg->Sem Unit) (g:Env->List D->Mem->Res (List D)):Prop where
 pg:∀cl C fp s H,PG (fV X own bn scope cl C fp s H) tg (gT fa X.K t)
 db:∀cl C fp s H a,DB fa (fV X own bn scope cl C fp s H) (A a) a W (body a (compEnvC scope cl C X.env)) g
def q9 (h:∀i∈W,i<n):Clear W (List.replicate n none++ρ):=λi j d e=>by
 rw[PU (by simpa using h i j),RY] at e
 simp[h i j] at e
def sV {K:PJ}(n:Nat)(h:bw fa K μ H σ ρ):bw fa K μ H (List.replicate n none++σ) (List.replicate n none++ρ):=by
 refine{by simp[h.len],λi d e=>?_}
 by_cases j:i<n
 ·rw[PU (by simpa using j),RY] at e
  simp[j] at e
 ·rw[Qo `o] at e ⊢
  simp only[RK] at e ⊢;exact h.at' _ d e
def ph {rest:List R0}
 (S:fF X own bn scope) (R:X.calm=true) (hi:DI fa X tg iter gw) (B:Block fa X (LA fa X.K) own bn scope tg t W body g) (hT:pG X elt tg iter ifs rest scope pos body) (hW:∀i∈W,i∉slots t) (hn:∀i∈slots t++W,i<own.length)
 (hs:∀x,foldedSetIterable iter X.env x=pure x)
 (I:Inv X pins σ H s) (hE:bw fa X.K μ H σ ρ) (hM:RelM fa X.K μ H M) (h:ae (bI m own.length t gw g ρ M) (bj fa X.K μ H Q))
 (post:∀(a C:Addr) (s':PX) (H':Hp),Inv X pins σ H' s'->Q (.ref a) H'->(∃m,s'.heap.Ns C m)->(∀σ2 E s2,Inv X pins σ2 E s2->(H' C=none->E C=none)->E C=none/\∀P,Rz C s2.heap P->Inv X pins σ2 E {s2 with heap:=P})->H' C=none->(C≠X.env.locals/\∀x c,X.env.cells.lookup x=some c->c≠C)->compPost (model X.prog X.w) X.A X.xe use QQ (.ref a) C (.ok .next) s') :
 wpAny (model X.prog X.w) X.A (comprehension (.ListComp elt ({tg,iter,ifs,0}::rest) scope pos) scope X.env p0 (newList []) false (eval iter X.env) use) QQ X.xe s:=by
 obtain⟨w,M1,ew,q⟩:=aM h;obtain⟨acc,M2,ea,q2⟩:=aM q;obtain⟨cl,hcl,O,L⟩:=pj λy hy hf=>I.ok.has y.1 (S.free y hy hf);refine wpAny_comprehension_free rfl hs hcl S.kind S.loc ?_;refine aP (hi pins s σ H (λJ H1=>∃μ1,Ext μ H μ1 H1/\RelM fa X.K μ1 H1 M1/\eE fa X.K μ1 H1 w J) I {μ,ρ,M,hE,hM,?_}) λv s1 h1=>aP h1 λitv s2 h2=>?_
 ·rw[ew];exact λJ H1 μ1 x1 m1 wk=>⟨μ1,x1,m1,wk⟩
 obtain⟨it,fp,tn,J,E,ei,I2,T,st2,f2,μ2,x2,m2,wk⟩:=h2;subst ei;refine wpAny_newObj_type ?_;have ha:=I2.hok.fresh (PV _);have I3:Inv X pins σ (upd E s2.heap.objs.size (.lst [])) {s2 with heap:=s2.heap.push {cls:=.type "list",dict:=none,data:=.seq ([]:List PL).toArray}}:=
  I2.laid (λb o e=>PM _ e) (PV _) {Rh _,[],_,.nil,Qn _ rfl}
 generalize hs3:({s2 with heap:=s2.heap.push {cls:=.type "list",dict:=none,data:=.seq ([]:List PL).toArray}}:PX)=s3 at I3 ⊢
 have k3:∀b o,s2.heap.get? b=some o->s3.heap.get? b=some o:=λb o e=>by rw[<- hs3];exact PM _ e
 have fo2:=T.obj _ _ st2;have f3:∀b∈fp,fC X pins (upd E s2.heap.objs.size (.lst [])) b:=λb u=>by
  obtain⟨o,e,_⟩:=fo2 b u;exact{by rw[aF (Qw (Qk e))];exact(f2 b u).1,(f2 b u).2}
 have fo3:∀b∈fp,∃o,s3.heap.get? b=some o:=λb u=>let{o,e,_}:=fo2 b u;{o,k3 b o e}
 obtain⟨CL,U⟩:=EC S O L (s3.heap.push {cls:=.type "dict",data:=.dict #[]}) (RC ..);generalize F:cellsFrom (s3.heap.objs.size+1) scope.names cl=cl' at CL U;refine qX ?_;rw[F];have j:(pushCells (s3.heap.push {cls:=.type "dict",data:=.dict #[]}) scope.names).Ns s3.heap.objs.size (λ_=>none):=(Heap.Ns.new s3.heap (.type "dict")).keeps (pushCells_keeps _ _);have k4:∀b o,s3.heap.get? b=some o->(pushCells (s3.heap.push {cls:=.type "dict",data:=.dict #[]}) scope.names).get? b=some o:=λb o e=>pushCells_keeps _ _ b o (PM _ e);generalize pushCells (s3.heap.push {cls:=.type "dict",data:=.dict #[]}) scope.names=h₁ at j k4 U ⊢;clear hcl F O L cl
 rename List (Str×Addr)=>cl
 have I4:=ui (t':=s3.toks) I3 S CL f3 fo3 j k4 U;have Y:=I4.ok;have f4:∀b∈fp,fC (fV X own bn scope cl s3.heap.objs.size fp s3 (upd E s2.heap.objs.size (.lst []))) [] (upd E s2.heap.objs.size (.lst [])) b:=λb u=>
  {(f3 b u).1,(Y.exf b u).1,Y.exfs b u,.inl u,(Y.exf b u).2,λp hp=>nomatch hp}
 have st4:=T.keep _ _ _ st2 λb u o e=>k4 b o (k3 b o e);have x3:=mr m2 ha (.lst []);have go:=qo LA.stab (X:=fV X own bn scope cl s3.heap.objs.size fp s3 (upd E s2.heap.objs.size (.lst []))) (acc:=[]) (hT it s2.heap.objs.size _) ⟨rfl,rfl⟩ rfl R T (B.pg _ _ _ _ _) (B.db _ _ _ _ _ _) hW I4 st4 f4
  (sV own.length ((hE.ext x2).extW x3)) (zk m2 ha []) (q9 hn) {Qm,_,cw,rfl} (qz wk x3) (by
   rw[ea];rintro σ' H' μ' z1 z2 z3 ⟨_,vs',z4,z5⟩;exact F0 m2 ha z1 z3 z4 z5 (j7 q2 x2))
 have go':codeAny (model X.prog X.w) X.A (.compLoop (.ListComp elt ({tg,iter,ifs,0}::rest) scope pos) 0 (.ref it) (.ref s2.heap.objs.size) (compEnvC scope cl s3.heap.objs.size X.env)) (compPost (model X.prog X.w) X.A X.xe use QQ (.ref s2.heap.objs.size) s3.heap.objs.size) {s3 with heap:=h₁}:=
  codeAny_mono go λr s' ⟨er,σ',H',I',z⟩=>by
   subst er;refine post _ _ s' H' (comp_back I3 f3 I') z (let{m,hn,_}:=I'.loc;⟨m,hn⟩) (λσ2 E s2' I2' hf=>{hf I'.free,λP hs''=>q8 I3 (hf I'.free) I2' hs''}) I'.free {QR I3.lt,λx c e z=>by
    obtain⟨v,q⟩:=I3.cell x c e;exact absurd q.lt (by rw[z];exact Q4 _)}
 exact codeAny_compStart_list go' (T.self _ 0 _ _ _ st4 go')
def KQ (m:Bool){v z j:Expr}{rest:List R0}
 (S:fF X own bn scope) (u:X.calm=true) (hi:DI fa X z j gw) (B:Block fa X (LA fa X.K) own bn scope z t W body g) (R:pG X v z j ifs rest scope pos body) (U:∀i∈W,i∉slots t) (hn:∀i∈slots t++W,i<own.length)
 (hs:∀x,foldedSetIterable j X.env x=pure x):DE fa X (.ListComp v ({z,j,ifs,0}::rest) scope pos) (bI m own.length t gw g):=by
 intro F s σ H Q I ⟨μ,ρ,M,O,P,h⟩;rw[eval_ListComp];refine ph S u hi B R U hn hs I O P h ?_;intro a C Y H' J q ⟨m,hn⟩ y hf _;exact{m,hn,λL E=>{.ref a,H',(y σ H' Y J id).2 L E,rfl,q}}
def xB (m:Bool){y:Str}{rest:List R0}
 (S:fF X own bn scope) (j:X.calm=true) (hi:DI fa X tg iter gw) (B:Block fa X (LA fa X.K) own bn scope tg t W body g) (hT:pG X elt tg iter ifs rest scope pos body) (hW:∀i∈W,i∉slots t) (hn:∀i∈slots t++W,i<own.length)
 (hs:∀x,foldedSetIterable iter X.env x=pure x) (hN:X.N.Nodup) (hy:X.N[i]?=some y) (hl:X.env.scope.names.lookup y=some .local)
 (J:swapsWith (.ListComp elt ({tg,iter,ifs,0}::rest) scope pos) (some (.Name y py)) spos.line X.env=pure true) :
 DS fa X (.Assign [.Name y py] (.ListComp elt ({tg,iter,ifs,0}::rest) scope pos) spos) (λρ M=>(bI m own.length t gw g ρ M).bind λx M=>(bX M (b6 (.one i) x ρ)).bind λρ1 M=>.ok (.next ρ1) M):=by
 intro O s σ H D' I ⟨μ,ρ,M,L,Y,h⟩;obtain⟨x,M1,ex,q⟩:=aM h;rw[exec_Assign_Name_used _ _ _ _ J];refine tqa (wpAny_standAt (tqa ?_));refine tqa (aP (ph S j hi B hT hW hn hs I L Y (by
  rw[ex];exact λv H' μ' P m1 r1=>q _ H' μ' P ((L.ext P).set r1) m1) ?_) λ_ s' hq=>tqb (tqb hq))
 intro a C s' H' Q q ⟨m,hn⟩ u hf ⟨nL,nC⟩;refine wpAny_assign_Name (qG Q hN hy (.inl hl) (v:=.ref a) rfl (λs2 R ⟨b,hb,E⟩=>?_) (.inr hl));have nb:C≠b:=by
  rcases E with z|z
  ·rw[z];exact nL
  ·exact Q0 (nC y b z)
 exact{m,hn.sameBut hb nb,λU F=>{_,H',(u _ H' s2 R id).2 U F,q}}
end
section
variable{X:Cx}{pins:List (Addr×Obj)}{σ:L2.St}{H:Hp}{s:PX}{h':Heap}{t':Nat}{ch:List Addr}
def u1 (I:Inv X pins σ H s)(hf:∀b∈ch,fC X pins H b)(k:∀b o,b∉ch->s.heap.get? b=some o->h'.get? b=some o):Inv X pins σ H {s with heap:=h',toks:=t'}:=by
 have j:∀b u,H b=some u->b∉ch:=λb u e z=>by rw[(hf b z).1] at e;cases e
 refine I.step (λb y=>{(hf b y).2.2.2.1,(hf b y).2.1,(hf b y).2.2.2.2.1,(hf b y).2.2.2.2.2}) (λb o _ _ h e _=>k b o h e) (λb o _ _ h e _=>{o.slots,k b o h e}) (λ_ _ _ _ n=>n)
  (λb o h e=>{o,k b o h e}) (λ_ _ e=>e) (λ_ _ _ e=>e) (λb ps e=>{#[],by rw[e];simp}) (λm hm=>?_) (λb u e=>?_) I.bare
 ·obtain⟨o,E,B,ho,r⟩:=hm;exact{o,E,B,k _ o (λz=>(hf _ z).2.1 rfl) ho,r}
 ·refine(I.hok b u e).stay (λc v h q=>k c v ?_ q) (λ_ q=>q) λ_ _ q=>q;rcases h with z|z
  ·rw[z];exact j b u e
  ·exact j c _ z
def qC (I:Inv X pins σ H s)(hf:∀b∈ch,fC X pins H b)(k:∀b o,b∉ch->s.heap.get? b=some o->h'.get? b=some o)(B:s.heap.objs.size≤T)(new:ff X.prog X.w (upd H T o) h' T o) :
 Inv X pins σ (upd H T o) {s with heap:=h',toks:=t'}:=by
 have hn:=I.hok.fresh B;have y:∀b u,H b=some u->b∉ch:=λb u e z=>by rw[(hf b z).1] at e;cases e
 refine I.step (λb h=>{(hf b h).2.2.2.1,(hf b h).2.1,(hf b h).2.2.2.2.1,(hf b h).2.2.2.2.2}) (λb o _ _ j e _=>k b o j e) (λb o _ _ j e _=>{o.slots,k b o j e})
  (λb o _ e n=>by rw[aF (Qw (Qg (Qk e) B))];exact n)
  (λb o j e=>{o,k b o j e}) (λb xs e=>by rw[aF (aV e hn)];exact e) (λb ob u e=>by rw[aF (aV e hn)];exact e) (λb ps e=>{#[],by rw[aF (aV e hn),e];simp}) (λm hm=>?_) (λb u e=>?_) I.bare
 ·obtain⟨o,F,E,ho,r⟩:=hm;exact{o,F,E,k _ o (λz=>(hf _ z).2.1 rfl) ho,r}
 ·by_cases h:b=T
  ·subst h;rw[cw] at e;cases e;exact new
  ·rw[aF h] at e;refine(I.hok b u e).stay (λc v j q=>k c v ?_ q) (λc q=>by rw[aF (aV q hn)];exact q) λc xs q=>by rw[aF (aV q hn)];exact q
   rcases j with z|z
   ·rw[z];exact y b u e
   ·exact y c _ z
end
section
variable{fa:Fa}{X:Cx}{a:Expr}{ga:Env->Mem->Res D}{pos p:Pos}
theorem ip:∀(ds:List D) (k i:Nat),(eA k ds)[i]?=(ds[i]?).map λd=>.tup [.int ((k+i:Nat):Int),d]
 |[],_,_=>by simp[eA]
 |d::ds,k,0=>by simp[eA]
 | d :: ds, k, i + 1 => by
   have:=ip ds (k+1) i;simp only[eA,List.getElem?_cons_succ,this]
   congr 1
   funext d
   congr 3
   omega
noncomputable def jc:∀(ds:List D) (k:Nat),(eA k ds).length=ds.length
 |[],_=>rfl
 |d::ds,k=>by simp[eA,jc ds]
end
def b7:Bool->Heap->Addr->Array PL->Prop
 |true,h,a,j=>h.IsList a j
 |false,h,a,j=>h.IsTuple a j
def eJ:Bool->Heap->Addr->Addr->Nat->Prop
 |true,h,j,a,i=>h.IsListIter j a i
 |false,h,j,a,i=>h.IsTupleIter j a i
def b7.extBut (x:b7 b h a its)(hs:Heap.ExtBut c h h')(n:a≠c):b7 b h' a its:=by
 cases b<;>(obtain⟨o,ho,r⟩:=x;exact{o,hs a o n ho,r})
def eJ.extBut (x:eJ b h it a i)(hs:Heap.ExtBut c h h')(n:it≠c):eJ b h' it a i:=by
 cases b<;>(obtain⟨o,ho,r⟩:=x;exact{o,hs it o n ho,r})
def b7.at (x:b7 b h a its)(k:∀o,h.get? a=some o->h'.get? a=some o):b7 b h' a its:=by
 cases b<;>(obtain⟨o,ho,r⟩:=x;exact{o,k o ho,r})
def eJ.at (x:eJ b h it a i)(k:∀o,h.get? it=some o->h'.get? it=some o):eJ b h' it a i:=by
 cases b<;>(obtain⟨o,ho,r⟩:=x;exact{o,k o ho,r})
def eJ.obj (x:eJ b h it a i):∃o,h.get? it=some o/\∀v,o.data≠.cell v:=by
 cases b<;>(obtain⟨o,ho,c,d⟩:=x;exact{o,ho,λv z=>by rw[d] at z;cases z})
section
variable{prog:QF}{w:Qz}{A:Ry}{E:PL->PX->Prop}{s:PX}
def uK {a b:Nat}(h:a≠b):@Ne Addr a b:=h
def HC {T:Addr}{j:Array PL}{k:Nat}{x:PL}{Q:Unit->PX->Prop}(v:s.heap.get? T=some {cls:=.type "tuple",data:=.seq j})(hz:j.size≤64)
 (h:∀u,u.get? T=some {cls:=.type "tuple",data:=.seq (j.setIfInBounds k x)}->Rz T s.heap u->Q () {s with heap:=u}) :
 wpAny (model prog w) A (updateSeq T (·.setIfInBounds k x)) Q E s:=by
 refine wpAny_updateSeq v rfl (h _ ?_ (Rr ..)) (Qf hz `d) (by rw[Array.size_setIfInBounds];exact Qf hz `d)
 rw[Rw _ v rfl];simp[Obj.mapSeq]
def iH {b:Bool}{y a:Addr}{i:Nat}{j:Array PL}{Q:PL->PX->Prop}(hh:A.handled=none)(h:eJ b s.heap y a i)(hl:b7 b s.heap a j)
 (I:∀x u,j[i]?=some x->eJ b u y a (i+1)->Rz y s.heap u->Q x {s with heap:=u})
 (H:j[i]?=none->∀u e,Heap.ExtBut y s.heap u->(∃o,u.get? e=some o/\o.cls=.type "StopIteration")->E (.ref e) {s with heap:=u}):wpAny (model prog w) A (Builtin.SmallTypes.nextOf (.ref y)) Q E s:=by
 cases b with
 | true => cases v : j[i]? with
   |some x=>exact wpAny_nextOf_list_item h hl v λu=>I x u v
   |none=>exact wpAny_nextOf_list_end hh h hl v (H v)
 | false =>
   obtain⟨o,ho,J,hd⟩:=id h;obtain⟨L,B,_,nl,z⟩:=hl;refine tqa (wpAny_callSpecial?_slot h.typeIs F.slot_tuple_iterator_next
    (wpAny_call_entry F.slot_tuple_iterator_next h.typeIs F.entry_tuple_iterator_next ?_ (F.args_tuple_iterator_next_1 _)))
   show wpAny _ _ (field (.ref y) 0 >>= _) _ _ s;refine tqa (tqf ho hd rfl ?_);show wpAny _ _ (if (Value.ref a==Value.none)=true then _ else _) _ _ s;rw[if_neg (show ¬ ((Value.ref a==Value.none)=true) from Qr)];refine tqa (tqf ho hd rfl ?_);refine tqa (wpAny_seqItems B z ?_);cases v:j[i]? with
   | some x =>
     simp only[RU,v];refine tqa (wpAny_setField ho hd `s (tqb {x,rfl,tqb (I x _ v ?_ (Rr ..))}))
     exact{_,Rw _ ho (Obj.isFreed_of_fields (RP hd _)),(Obj.cls_mapFields ..).trans J,by
      rw[RP hd];simp[rawInt]}
   | none =>
     simp only[RU,v];refine tqa (wpAny_rule (tqa (wpAny_setField ho hd `s ?_)))
     refine tqa ?_;refine tqa (wpAny_newObj_type ?_ (by size_fits))
     refine tqa (wpAny_of_eq (by first|rfl|(simp only[firstArgMember];rfl)) ?_)
     refine wpAny_newObj_type ?_ (by size_fits)
     refine tqa (wpAny_handled ?_);first|rw[show A.in1.handled=none from hh]|rw[hh]
     refine tqa (tqb (wpAny_throw ?_));exact H v _ _ (((Rr ..).extBut.push _).push _) {_,Qn _ rfl,rfl}
noncomputable abbrev i5 (us:Array PL):Obj:={cls:=.type "tuple",data:=.seq us}
noncomputable def pR (n k j:Nat):List PL:=(List.range' k j).map λk=>Value.ref (n+k)
def xT (n m:Nat)(h j:Heap):Prop:=∀(c:Nat) o,(c<n\/c=n+m\/n+m+2<c)->h.get? c=some o->j.get? c=some o
def xY (n i k:Nat)(l:List (Bool×Nat))(h:Heap):Prop:=∀(j:Nat) b a,l[j]?=some (b,a)->eJ b h (n+j) a (if j<k then i+1 else i)
def Ll (n:Nat)(l:List (Bool×Nat))(xs:Nat->Array PL)(h:Heap):Prop:=∀(j:Nat) b a,l[j]?=some (b,a)->a<n/\b7 b h a (xs j)
abbrev pF (h:Heap)(n m:Nat)(v:PL):Prop:=IsZip h (n+m+2) (n+m) (n+m+1) v
def Pb (n m i k:Nat)(l:List (Bool×Nat))(xs:Nat->Array PL)(v h:Heap):Prop:=pF h n m .ellipsis/\(∃u:Array PL,u.size=m/\(∀j<k,u[j]?=(xs j)[i]?)/\h.get? (n+m+1)=some (i5 u))/\xY n i k l h/\Ll n l xs h/\xT n m v h/\h.objs.size=v.objs.size
theorem D5 {M:Model}{u:Type}{f:PL×Nat->u->Sem (ForInStep u)}{b:u}{Q:u->PX->Prop}(n m:Nat)(I:Nat->PX->Prop)
 (hs:∀k s,k<m->I k s->wpAny M A (f (.ref (n+k),k) b) (λr v=>r=.yield b/\I (k+1) v) E s) (y:∀s,I m s->Q b s):∀(j k:Nat) (s:PX),k+j=m->I k s->wpAny M A (forIn ((pR n k j).zipIdx k) b f) Q E s
 |0,k,s,e,h=>tqb (y s (e ▸ h))
 | j + 1, k, s, e, h => by
   show wpAny M A (forIn ((Value.ref (n+k),k)::(pR n (k+1) j).zipIdx (k+1)) b f) Q E s;rw[List.forIn_cons];refine tqa (aP (hs k s `a h) ?_)
   rintro _ v ⟨rfl,z⟩;exact D5 n m I hs y j (k+1) v `a z
def sd {n m i:Nat}{l:List (Bool×Nat)}{xs:Nat->Array PL}{us:Array PL}{Q:PL->PX->Prop}(hh:A.handled=none)(hl:l.length=m+1)(h64:m<64)
 (hz:pF s.heap n (m+1) .none) (hTI:s.heap.get? (n+(m+1))=some (i5 (pR n 0 (m+1)).toArray)) (hTO:s.heap.get? (n+(m+1)+1)=some (i5 us)) (U:us.size=m+1) (hi:xY n i 0 l s.heap) (H:Ll n l xs s.heap)
 (hQ:∀F us,us.size=m+1->(∀k<m+1,us[k]?=(xs k)[i]?)->pF F n (m+1) (rawInt s.heap.objs.size)->F.get? (n+(m+1)+1)=some (i5 us)->xY n (i+1) 0 l F->F.get? s.heap.objs.size=some (i5 us)->xT n (m+1) s.heap F->Q (.ref s.heap.objs.size) {s with heap:=F})
 (hE:∀F e k,k<m+1->(xs k)[i]?=none->xT n (m+1) s.heap F->(∃o,F.get? e=some o/\o.cls=.type "StopIteration")->E (.ref e) {s with heap:=F}) :
 wpAny (model prog w) A (Builtin.«zip.__next__» {[.ref (n+(m+1)+2)],[]}) (λfin s'=>∃v,fin=.done (.ret v)/\Q v s') E s:=by
 show wpAny _ _ (field (.ref (n+(m+1)+2)) 2 >>= _) _ _ _;refine tqa (tqf hz rfl rfl ?_);refine tqa (tqf hz rfl rfl ?_);refine tqa (wpAny_seqItems hTI rfl ?_);refine tqa ?_;refine tqa (tqf hz rfl rfl (tqb ?_));refine tqa (wpAny_rule ?_);refine tqa (tqf hz rfl rfl ?_);refine tqa (wpAny_setField_rec hz `s λh0 hz0 S=>?_)
 have u0:∀(c:Nat) o,c≠n+(m+1)+2->s.heap.get? c=some o->h0.get? c=some o:=λc o ne=>S.extBut c o ne;have mm:∀{j b a},l[j]?=some (b,a)->j<m+1:=λe=>hl ▸ (PH.mp e).1;refine tqa (D5 n (m+1) (λk s'=>∃h,s'={s with heap:=h}/\Pb n (m+1) i k l xs s.heap h) ?_ ?_ (m+1) 0 _ (Nat.zero_add _) {h0,rfl,hz0,{us,U,λ_ z=>absurd z (Q5 _),u0 _ _ `a hTO},λj b a e=>(hi j b a e).at λo=>u0 _ o (by have:=mm e;omega),λj b a e=>{(H j b a e).1,(H j b a e).2.at λo=>u0 _ o (by have:=(H j b a e).1;omega)},λc o L=>u0 c o `a,S.1})
 ·rintro k _ hk ⟨h,rfl,hz,⟨us,U,hx,hT⟩,hi,H,kp,sz⟩;obtain⟨⟨b,a⟩,e⟩:∃p,l[k]?=some p:={_,P4 `a}
  have it:=hi k b a e;rw[if_neg (Q4 k)] at it;refine tqa (wpAny_onRaise ?_);refine tqa (iH hh it (H k b a e).2 (λx h1 ex j1 u=>tqb ?_) λen h1 e1 u ⟨oe,J,R⟩=>?_)
  ·have O:=u.extBut _ _ (uK `a) hT
   refine tqa (wpAny_seqItems O rfl ?_);refine tqa (HC O `a λh2 hT2 B=>?_)
   have I:∀(c:Nat) o,c≠n+k->c≠n+(m+1)+1->h.get? c=some o->h2.get? c=some o:=λc o x y z=>B.extBut c o y (u.extBut c o x z);refine tqa (wpAny_letGo (tqb {rfl,h2,rfl,I _ _ `a `a hz,{_,(Array.size_setIfInBounds ..).trans U,λj hj=>?_,hT2},λj b' a' M=>?_,λj b a e=>{(H j b a e).1,(H j b a e).2.at λo=>I _ o (by have:=(H j b a e).1;omega) (by have:=(H j b a e).1;omega)},λc o L x=>I c o `a `a (kp c o L x),by rw[B.1,u.1,sz]}))
   ·by_cases jk:j=k
    ·subst jk;rw[Array.getElem?_setIfInBounds_self_of_lt `a,ex]
    ·rw[Array.getElem?_setIfInBounds_ne (Q0 jk),hx j `a]
   ·by_cases jk:j=k
    ·subst jk;cases e.symm.trans M;rw[if_pos (Nat.lt_succ_self _)];exact j1.at λo=>B.extBut _ o (uK `a)
    ·have q:=hi j b' a' M;have:=mm M;rw[show(if j<k+1 then i+1 else i)=if j<k then i+1 else i by split<;>split<;>omega]
     exact q.at λo=>I _ o `a `a
  ·have W:=u _ _ (uK `a) hz
   have hez:e1≠n+(m+1)+2:=λx=>by subst x;rw[W] at J;cases J;simp at R
   exact wpAny_setField_rec W `s λh2 _ B=>hE h2 e1 k hk en (λc o L x=>B.extBut _ _ (uK `a) (u _ _ (uK `a) (kp c o L x))) {oe,B.extBut _ _ hez J,R}
 ·rintro _ ⟨h4,rfl,X,⟨us,U,hx,hT⟩,hi,H,kp,sz4⟩;refine tqa (wpAny_seqItems hT rfl ?_);refine tqa (wpAny_newTuple (hsz:=Qf (show us.toList.length≤64 by rw[RW];omega) `d) ?_)
  have hzlt:=Qk X;refine tqa ?_;have hz6:pF (h4.push (i5 us)) n (m+1) .ellipsis:=PM _ X;refine tqa (wpAny_setField_rec hz6 `s λh7 hz7 hs7=>?_)
  refine wpAny_setField_rec hz7 `s λh8 Y hs8=>?_
  have I:∀(c:Nat) o,c≠n+(m+1)+2->(h4.push (i5 us)).get? c=some o->h8.get? c=some o:=λc o c1 e=>hs8.extBut _ _ c1 (hs7.extBut _ _ c1 e);refine tqb {_,rfl,?_};have P:=I h4.objs.size _ (QR hzlt) (Qn _ rfl);rw[sz4] at P Y ⊢;refine hQ h8 us U hx Y (I _ _ `a (PM _ hT)) (λj b a e=>?_) P λc o L e=>I c o `a (PM _ (kp c o L e))
  have q:=hi j b a e;rw[if_pos (mm e)] at q;exact q.at λo M=>I _ o (by have:=mm e;omega) (PM _ M)
end
def iu (K:PJ)(H:Hp):Bool->Addr->List V->Prop
 |true,a,xs=>dh K H a xs
 |false,a,xs=>dS K H a xs
noncomputable def ft:D->Bool
 |.tup _=>false
 |_=>true
noncomputable def dj:D->Bool
 |.tup _=>true
 |.lst _=>true
 |.frz _=>true
 |.cell _=>true
 |_=>false
def mO {X:Cx}{u:List (Addr×Obj)}{v:L2.St}{H:Hp}{s:PX}{b:Bool}{a:Addr}{xs:List V}(I:Inv X u v H s)(h:iu X.K H b a xs):∃j:List PL,Vals xs j/\b7 b s.heap a j.toArray:=by
 cases b with
 |true=>obtain⟨j,r,p,_⟩:=I.list h;exact⟨j,r,p.isList⟩
 |false=>obtain⟨j,r,p,_⟩:=I.tuple h;exact⟨j,r,p⟩
def kG {X:Cx}{j:List (Addr×Obj)}{v:L2.St}{H:Hp}{s:PX}{b:Bool}{a:Addr}{xs ys:List V}(I:Inv X j v H s)(h:iu X.K H b a xs)(u:iu X.K H b a ys):xs=ys:=by
 cases b with
 |true=>exact I.list_inj h u
 |false=>exact I.tuple_inj h u
def kD {fa:Fa}{X:Cx}{μ:Mu}{H:Hp}{M:Mem}{d:D}{a:Addr}{ds:List D}(v:RelM fa X.K μ H M)(h:Rep fa X.K μ H d (.ref a))(e:bU M d=some ds):∃vs,iu X.K H (ft d) a vs/\aL fa X.K μ H ds vs:=by
 cases d with
 |tup xs=>cases e;obtain⟨u,vs,e,s,r⟩:=h;cases e;exact⟨vs,s,r⟩
 |lst xs=>obtain⟨u,vs,j,s,r⟩:=bP v h (e);cases j;exact⟨vs,s,r⟩
 |frz xs=>obtain⟨u,vs,j,s,r⟩:=bP v h (e);cases j;exact⟨vs,s,r⟩
 |cell k=>obtain⟨u,vs,j,s,r⟩:=bP v h (e);cases j;exact⟨vs,s,r⟩
 |_=>cases e
def kF {fa:Fa}{X:Cx}{y:List (Addr×Obj)}{L:L2.St}{μ:Mu}{H:Hp}{s:PX}{M:Mem}{d:D}{v:V}(I:Inv X y L H s)(F:RelM fa X.K μ H M)(h:Rep fa X.K μ H d v)(e:dj d=true):∃(a:Nat) (j:Array PL),v=.ref a/\b7 (ft d) s.heap a j:=by
 have u:∀B,bU M d=some B->∃(a:Nat) (j:Array PL),v=.ref a/\b7 (ft d) s.heap a j:=λB z=>by
  obtain⟨a,J,rfl,_,_⟩:=i7 F h z;obtain⟨J,s1,_⟩:=kD F h z;obtain⟨j,_,p⟩:=mO I s1;exact⟨a,j.toArray,rfl,p⟩
 cases d with
 |tup xs=>exact u xs rfl
 |lst xs=>exact u xs rfl
 |frz xs=>exact u xs rfl
 | cell k =>
   obtain⟨a,e,hk⟩:=id h;obtain⟨B,_,z,_⟩:=F.mu_lt hk;exact u B z
 |_=>cases e
def b7.lt {b:Bool}{h:Heap}{a:Addr}{j:Array PL}(x:b7 b h a j):a<h.objs.size:=by
 cases b<;>(obtain⟨o,ho,r⟩:=x;exact Qk ho)
def b7.push {b:Bool}{h:Heap}{a:Addr}{j:Array PL}(x:b7 b h a j)(ob:Obj):b7 b (h.push ob) a j:=by
 cases b<;>(obtain⟨o,ho,r⟩:=x;exact{o,PM _ ho,r})
noncomputable def dU (b:Bool)(a:Addr):Obj:={cls:=.type (if b then "list_iterator" else "tuple_iterator"),data:=.fields #[.ref a,.int 0 0]}
def eJ.new {b:Bool}{h:Heap}{j a:Addr}(e:h.get? j=some (dU b a)):eJ b h j a 0:=by
 cases b<;>exact{_,e,rfl,rfl}
def oJ {prog:QF}{w:Qz}{A:Ry}{E:PL->PX->Prop}{s:PX}{b:Bool}{a:Addr}{j:Array PL}{Q:PL->PX->Prop}(h:b7 b s.heap a j)(u:Q (.ref s.heap.objs.size) {s with heap:=s.heap.push (dU b a)}):wpAny (model prog w) A (pyIter (.ref a)) Q E s:=by
 cases b with
 |true=>exact wpAny_pyIter_list h u
 |false=>exact wpAny_pyIter_tuple h u
abbrev jo:=List (Bool×Nat)
def Lp (K:PJ)(l:jo):It:=
 {λi H => ∀ (j : Nat) b a, l[j]? = some (b, a) -> ∃ xs x, iu K H b a xs /\ xs[i]? = some x,
  λi H v u=>∃p h,H p=none/\v=.ref p/\u=upd H p (.tup h)/\h.length=l.length/\∀(j:Nat) b a,l[j]?=some (b,a)->∀xs,iu K H b a xs->h[j]?=xs[i]?,
  λi H=>(∀(j:Nat) b a,l[j]?=some (b,a)->∃xs,iu K H b a xs)/\∃(j:Nat) (b:Bool) (a:Nat) (xs:List V),l[j]?=some (b,a)/\iu K H b a xs/\xs.length≤i}
def xS (n m:Nat)(l:jo)(i:Nat)(h:Heap):Prop:=pF h n (m+1) .none/\h.get? (n+(m+1))=some (i5 (pR n 0 (m+1)).toArray)/\(∃j:Array PL,j.size=m+1/\h.get? (n+(m+1)+1)=some (i5 j))/\xY n i 0 l h
noncomputable def Hn (n m:Nat):List Addr:=List.range' n (m+4)
def d4 {n m b:Nat}:b∈Hn n m↔n≤b/\b<n+(m+4):=List.mem_range'_1
def DH {X:Cx}{u:List (Addr×Obj)}{B:L2.St}{H:Hp}{s:PX}{l:jo}(I:Inv X u B H s)(h:∀(j:Nat) b a,l[j]?=some (b,a)->∃xs,iu X.K H b a xs) :
 ∃(vs:Nat->List V) (ws:Nat->List PL),∀(j:Nat) b a,l[j]?=some (b,a)->iu X.K H b a (vs j)/\Vals (vs j) (ws j)/\b7 b s.heap a (ws j).toArray:=by
 obtain⟨f,hf⟩:=Classical.skolem.mp λj:Nat=>show ∃p:List V×List PL,∀b a,l[j]?=some (b,a)->iu X.K H b a p.1/\Vals p.1 p.2/\b7 b s.heap a p.2.toArray from by
  cases e:l[j]? with
  |none=>exact{([],[]),λ_ _ z=>by cases z}
  | some p =>
    obtain⟨xs,y⟩:=h j p.1 p.2 e;obtain⟨v,r,q⟩:=mO I y;exact{(xs,v),λJ F z=>by cases z;exact⟨y,r,q⟩}
 exact{λj=>(f j).1,λj=>(f j).2,hf}
theorem Dl:∀{us:List PL}{R:Nat->V->Prop},(∀(k:Nat) w,us[k]?=some w->∃y,RelV y w/\R k y)->∃ys,Vals ys us/\∀(k:Nat) y,ys[k]?=some y->R k y
 |[],R,_=>{[],.nil,λ_ _ z=>by simp at z}
 | w :: r, R, h => by
   obtain⟨y,e,q⟩:=h 0 w rfl;obtain⟨ys,v,t⟩:=Dl λk w e=>h (k+1) w e;exact{y::ys,.cons e v,λk z e=>match k,e with
    |0,e=>by cases e;exact q
    |k+1,e=>t k z e}
def Bp {P:QF}{w:Qz}{K:PJ}{M:List Expr}{kk:Nat}{pos:Pos}(n m:Nat)(l:jo)(hl:l.length=m+1)(O:m<64)(hn:∀(j:Nat) b a,l[j]?=some (b,a)->a<n) :
 Turn P w K (.Tuple M kk pos) (Lp K l) (Hn n m) (n+(m+1)+2) (λi h=>xS n m l i h) where
 mem:=d4.mpr `a
 obj:=λi h ⟨h1,h2,⟨us,_,h3⟩,B⟩ (b:Nat) u=>by
  replace u:=d4.mp u;by_cases c:b<n+(m+1)
  ·obtain⟨j,rfl⟩:∃j,b=n+j:={b-n,`a}
   exact(B j _ _ (P4 `a)).obj
  ·rcases(show b=n+(m+1)\/b=n+(m+1)+1\/b=n+(m+1)+2 by omega) with rfl|rfl|rfl
   ·exact{_,h2,λv z=>by cases z}
   ·exact{_,h3,λv z=>by cases z}
   ·exact{_,h1,λv z=>by cases z}
 keep:=λi h h' ⟨h1,h2,⟨us,y,h3⟩,B⟩ k=>{k _ (d4.mpr `a) _ h1,k _ (d4.mpr `a) _ h2,{us,y,k _ (d4.mpr `a) _ h3},λj b a e=>(B j b a e).at (k _ (d4.mpr (by have:=(PH.mp e).1;omega)))}
 item:=by
  intro X hP S hK hc i U s σ H E I hf {h1,h2,⟨us,y,h3⟩,B} hg;subst hP S hK;obtain⟨vs,ws,L⟩:=DH I λj b a e=>(hg j b a e).imp λ_ ⟨_,h,_⟩=>h;have it:∀k,k<m+1->∃x w b a,l[k]?=some (b,a)/\(vs k)[i]?=some x/\(ws k)[i]?=some w/\RelV x w:=λk hk=>by
   have e:l[k]?=some (l[k]'(`a)):=P4 _
   obtain⟨xs,x,J,ex⟩:=hg k _ _ e;obtain⟨q1,q2,_⟩:=L k _ _ e;rw[kG I J q1] at ex;obtain⟨w,S,r⟩:=q2.get ex;exact{x,w,_,_,e,ex,S,r}
  have R:s.TypeIs (.ref (n+(m+1)+2)) "zip":={_,h1,rfl};unfold pyNext;refine tqa (wpAny_attempt (wpAny_callSpecial?_slot R F.slot_zip_next
   (wpAny_call_entry F.slot_zip_next R F.entry_zip_next
    (sd (I.ok.hd hc) hl O h1 h2 h3 y B (λj b a e=>{hn j b a e,(L j b a e).2.2}) (λh4 us y J z1 z2 g hTT hk=>tqb {_,rfl,?_}) λh' e k hk en _ _=>?_) (F.args_zip_next_1 _))))
  ·have zlt:n+(m+1)+2<s.heap.objs.size:=Qk h1;refine wpAny_letOwnedTupleGo_zip z1 λh5 hz5 hs5=>?_;have Y:∀(c:Nat) o,c≠n+(m+1)+2->h4.get? c=some o->h5.get? c=some o:=λc o=>hs5.extBut c o;obtain⟨ys,vy,ty⟩:=Dl (us:=us.toList) λk w e=>by
    have hk:k<m+1:=by have:=(PH.mp e).1;rw[RW] at this;omega
    obtain⟨x,w',_,_,_,ex,ew,r⟩:=it k hk;have q:=J k hk;rw[Array.getElem?_toList] at e;simp only[List.getElem?_toArray] at q;rw[e,ew] at q;cases q;exact⟨x,r,ex⟩
   have ly:ys.length=m+1:=by rw[vy.length,RW,y]
   refine{.ref s.heap.objs.size,upd H s.heap.objs.size (.tup ys),qC (s:=s) I hf (λ(b:Nat) o u q=>Y b o (λz=>u (d4.mpr `a)) (hk b o (by rw[d4] at u;omega) q)) (PV _) {by rw[ly];exact Qf (show m+1≤64 by omega) `d,us.toList,vy,{_,Y _ _ (QR zlt) hTT,rfl,_,rfl}},rfl,
    {_,ys,I.hok.fresh (PV _),rfl,rfl,ly.trans hl.symm,λj b a e xs J=>?_},{hz5,Y _ _ `a (hk _ _ `a h2),{us,y,Y _ _ `a z2},λj b a e=>(g j b a e).at λo=>Y _ o (by have:=(PH.mp e).1;omega)},λ(b:Nat) u=>?_}
   ·have hj:j<ys.length:=by have:=(PH.mp e).1;omega
    have e1:=P4 hj;rw[kG I J (L j b a e).1,ty j _ e1,e1]
   ·rw[d4] at u;rw[aF (Qw (by omega:(b:Nat)<s.heap.objs.size))];exact(hf b (d4.mpr u)).1
  ·obtain⟨_,_,_,_,_,_,ew,_⟩:=it k hk;simp only[List.getElem?_toArray] at en;rw[ew] at en;cases en
 done:=by
  intro X hP S hK hc i U s σ H E I hf {h1,h2,⟨us,y,h3⟩,B} ⟨hs,k,b,a,xs,ek,hq,le⟩;subst hP S hK;obtain⟨vs,ws,L⟩:=DH I hs;have R:s.TypeIs (.ref (n+(m+1)+2)) "zip":={_,h1,rfl};unfold pyNext;refine tqa (wpAny_attempt (wpAny_callSpecial?_slot R F.slot_zip_next
   (wpAny_call_entry F.slot_zip_next R F.entry_zip_next
    (sd (I.ok.hd hc) hl O h1 h2 h3 y B (λj b a e=>{hn j b a e,(L j b a e).2.2}) (λh4 us y J _ _ _ _ _=>?_) λh' e k _ _ hk he=>?_) (F.args_zip_next_1 _))))
  ·exfalso;have hk:=(PH.mp ek).1;have q:=J k `a
   obtain⟨q1,q2,_⟩:=L k b a ek;rw[Array.getElem?_eq_getElem `a] at q
   simp only[List.getElem?_toArray] at q;rw[List.getElem?_eq_none (by rw[<- q2.length,kG I q1 hq];exact le)] at q
   cases q
  ·obtain⟨o,ho,hcl⟩:=he;refine tqa (wpAny_isInstance ⟨o,ho,hcl⟩ isSubtype_stop ?_);exact tqb {rfl,u1 I hf λ(b:Nat) o u q=>hk b o (by rw[d4] at u;omega) q}
 self:=λ_ _ _ _ _ st h=>wpAny_pyIter_zip st.1 h
noncomputable def hX (h:Heap):jo->Heap
 |[]=>h
 |p::r=>hX (h.push (dU p.1 p.2)) r
noncomputable def rQ (h:Heap):jo->List PL
 |[]=>[]
 |p::r=>.ref h.objs.size::rQ (h.push (dU p.1 p.2)) r
noncomputable def oK:∀{h:Heap}{l:jo},(hX h l).objs.size=h.objs.size+l.length
 |_,[]=>rfl
 |h,p::r=>by show(hX _ r).objs.size=_;rw[oK,RC,RG];omega
noncomputable def lU:∀{l:jo}{h:Heap}{c:Nat}{o:Obj},h.get? c=some o->(hX h l).get? c=some o
 |[],_,_,_,e=>e
 |_::r,_,_,_,e=>lU (l:=r) (PM _ e)
theorem qM:∀{l:jo}{h:Heap}{j:Nat}{p:Bool×Nat},l[j]?=some p->(hX h l).get? (h.objs.size+j)=some (dU p.1 p.2)
 |_::r,h,0,_,e=>by cases e;exact lU (l:=r) (Qn _ rfl)
 | q :: r, h, j + 1, _, e => by
   have:=qM (h:=h.push (dU q.1 q.2)) (j:=j) e;rw[RC,RV,Nat.add_comm 1] at this;exact this
theorem s8:∀{l:jo}{h:Heap}{n k:Nat},h.objs.size=n+k->rQ h l=pR n k l.length
 |[],_,_,_,_=>rfl
 | p :: r, h, n, k, e => by
   have:=s8 (l:=r) (h:=h.push (dU p.1 p.2)) (k:=k+1) (by rw[RC,e];rfl)
   show Value.ref h.objs.size::rQ _ r=Value.ref (n+k)::pR n (k+1) r.length;rw[this,e]
abbrev C8 (h:Heap)(l:jo):Heap:=(hX h l).push (i5 (rQ h l).toArray)
abbrev yd (h:Heap)(l:jo):Heap:=(C8 h l).push (i5 (l.map λ_=>Value.none).toArray)
abbrev sg (h:Heap)(l:jo):Heap:=(yd h l).push {cls:=.type "zip",data:=.fields #[.none,.bool false,.bool false,.ref (hX h l).objs.size,.ref (C8 h l).objs.size]}
def ES (h:Heap){l:jo}{m:Nat}(hl:l.length=m+1):(yd h l).objs.size=h.objs.size+(m+1)+2/\xS h.objs.size m l 0 (sg h l)/\∀c o,h.get? c=some o->(sg h l).get? c=some o:=by
 have u:(hX h l).objs.size=h.objs.size+(m+1):=by rw[oK,hl]
 have s1:(C8 h l).objs.size=h.objs.size+(m+1)+1:=by rw[RC,u]
 have s2:(yd h l).objs.size=h.objs.size+(m+1)+2:=by rw[RC,s1]
 have B:∀{c:Nat}{o},(hX h l).get? c=some o->(sg h l).get? c=some o:=λe=>PM _ (PM _ (PM _ e));have v:(sg h l).get? (hX h l).objs.size=some _:=PM _ (PM _ (Qn _ rfl));have y:(sg h l).get? (C8 h l).objs.size=some _:=PM _ (Qn _ rfl);have z:(sg h l).get? (yd h l).objs.size=some _:=Qn _ rfl;rw[u,s8 (Nat.add_zero _).symm,hl] at v;rw[s1] at y;rw[s2,s1,u] at z;exact{s2,{z,v,{_,by simp[hl],y},λj b a e=>eJ.new (B (qM e))},λc o e=>B (lU e)}
def xg (b0:Bool)(a0:Nat)(b1:Bool)(a1:Nat)(xs0 xs1:Array PL) :
 Meets (Builtin.«zip.__new__» {[.type "zip",.ref a0,.ref a1],[]}) (λ_ R s=>b7 b0 s.heap a0 xs0/\b7 b1 s.heap a1 xs1/\
  R (.ok (.ret (.ref (yd s.heap [(b0,a0),(b1,a1)]).objs.size))) {s with heap:=sg s.heap [(b0,a0),(b1,a1)]}):=
 .of_wp λprog w A R s h=>by
  obtain⟨y,g,d,tk,os⟩:=s;obtain⟨z,B,h⟩:=h;have j:=sub_zip;have u:=z;have v:b7 b1 (Shared.heap {y.push (dU b0 a0),g,d,tk,os}) a1 xs1:=(B).push _;wp_walk using oJ u,oJ v
  exact{_,rfl,h}
section
variable{prog:QF}{w:Qz}{A:Ry}{E:PL->PX->Prop}{s:PX}{a0 a1 a2:Nat}{b0 b1 b2:Bool}{xs0 xs1 xs2:Array PL}{Q:PL->PX->Prop}
def AH (u:b7 b0 s.heap a0 xs0)(v:b7 b1 s.heap a1 xs1)(h:∀j,xS s.heap.objs.size 1 [(b0,a0),(b1,a1)] 0 j->(∀c o,s.heap.get? c=some o->j.get? c=some o)->Q (.ref (s.heap.objs.size+2+2)) {s with heap:=j}) :
 wpAny (model prog w) A (call (.type "zip") [.ref a0,.ref a1]) Q E s:=by
 obtain⟨z,y,x⟩:=ES s.heap (l:=[(b0,a0),(b1,a1)]) rfl;refine callType_new F.called_zip `d (F.typeCall_zip_2 _ _) (F.newCall_zip_2 _ _) (λobj=>F.args_object_init_3 obj _ _) F.entry_zip_new (xg b0 a0 b1 a1 xs0 xs1) {u,v,?_}
 show _/\_;rw[z];exact{{_,y.1,rfl},h _ y x}
end
def oE (d0 d1:D):Walk:=λM=>(bU M d0).bind λh=>(bU M d1).map λj=>iy h j
def m7 (j u:Env->Mem->Res D):Env->Mem->Res Walk:=λh M=>(j h M).bind λd0 M=>(u h M).bind λd1 M=>if dj d0&&dj d1 then .ok (oE d0 d1) M else .bad
theorem sf:∀(j u:List D) (i:Nat) (d:D),(iy j u)[i]?=some d↔∃h e1,j[i]?=some h/\u[i]?=some e1/\d=.tup [h,e1]
 |v::t0,y::t1,0,d=>by simp[iy,eq_comm]
 | v :: t0, y :: t1, i + 1, d => by
   have:=sf t0 t1 i d;simpa[iy] using this
 |[],_,i,d=>by simp[iy]
 |_::_,[],i,d=>by simp[iy]
noncomputable def se:∀(j u:List D) (i:Nat),(iy j u).length≤i->j.length≤i\/u.length≤i
 |v::t0,y::t1,0,h=>by simp[iy] at h
 | v :: t0, y :: t1, i + 1, h => by
   have:=se t0 t1 i (by simpa[iy] using h)
   simpa using this
 |[],_,i,h=>`s
 |_::_,[],i,h=>`s
def Lx (d0 d1 d2:D):Walk:=λM=>(bU M d0).bind λh=>(bU M d1).bind λj=>(bU M d2).map λu=>C7 h j u
def Mm (j u v:Env->Mem->Res D):Env->Mem->Res Walk:=λh M=>(j h M).bind λd0 M=>(u h M).bind λd1 M=>(v h M).bind λd2 M=>if dj d0&&dj d1&&dj d2 then .ok (Lx d0 d1 d2) M else .bad
theorem DL {fa:Fa}{K:PJ}{μ:Mu}{H:Hp}:∀{es:List D}{ws:List V},es.length=ws.length->(∀(j:Nat) e w,es[j]?=some e->ws[j]?=some w->Rep fa K μ H e w)->aL fa K μ H es ws
 |[],[],_,_=>rfl
 |e::es,w::ws,hl,h=>{w,ws,rfl,h 0 e w rfl rfl,DL (by simpa using hl) λj e w=>h (j+1) e w}
def A7 {fa:Fa}{X:Cx}{μ0:Mu}{H0:Hp}{l:jo}{w:Walk} (Y:∀μ H M ds,ExtW μ0 H0 μ H->RelM fa X.K μ H M->w M=some ds->∃ys:List (List D),ys.length=l.length/\(∀(j:Nat) y b a,ys[j]?=some y->l[j]?=some (b,a)->∃vs,iu X.K H b a vs/\aL fa X.K μ H y vs)/\
 (∀(i:Nat) d,ds[i]?=some d->∃es,d=.tup es/\es.map some=ys.map (·[i]?))/\∀i,ds.length≤i->∃y∈ys,y.length≤i):eE fa X.K μ0 H0 w (Lp X.K l):=λμ H M ds x L e=>by
 obtain⟨ys,hl,B,hd,he⟩:=Y μ H M ds x L e;have at_:∀(j:Nat) b a,l[j]?=some (b,a)->∃y vs,ys[j]?=some y/\iu X.K H b a vs/\aL fa X.K μ H y vs:=λj b a e=>by
  have hj:=(PH.mp e).1;have u:=P4 (l:=ys) (i:=j) `a
  obtain⟨vs,q,r⟩:=B j _ b a u e;exact{_,vs,u,q,r}
 refine{λi d O=>?_,λi O=>{λj b a e=>?_,?_}}
 ·obtain⟨es,rfl,F⟩:=hd i d O;have J:∀{j:Nat}{y:List D},ys[j]?=some y->es[j]?.map some=some y[i]?:=λ{j y} u=>by
   have:=congrArg (·[j]?) F;simpa[u] using this
  have le:es.length=l.length:=by have:=congrArg List.length F;simpa[hl] using this
  have S:∀(j:Nat) b a,l[j]?=some (b,a)->∃vs e v,es[j]?=some e/\iu X.K H b a vs/\vs[i]?=some v/\Rep fa X.K μ H e v:=λj b a e=>by
   obtain⟨y,vs,u,q,r⟩:=at_ j b a e;have z:=J u;cases h:es[j]? with
   |none=>rw[h] at z;cases z
   | some e =>
     rw[h] at z;obtain⟨v,B,R⟩:=r.get (PQ z).symm;exact⟨vs,e,v,rfl,q,B,R⟩
  refine{λj b a e=>?_,λy H' ⟨p,zs,P,u,U,lz,t⟩=>?_}
  ·obtain⟨vs,_,v,_,q,B,_⟩:=S j b a e;exact⟨vs,v,q,B⟩
  subst U u;refine{Ext.alloc L P,L.alloc P,p,zs,rfl,.inl (.inl cw),DL (le.trans lz.symm) λj e w F W=>?_};have I:=P4 (l:=l) (i:=j) (by have:=(PH.mp F).1;omega)
  obtain⟨vs,e',v,h1,q,B,R⟩:=S j _ _ I;have z:=t j _ _ I vs q;rw[W,B] at z;rw[F] at h1;cases z;cases h1;exact R.ext (Ext.alloc L P)
 ·obtain⟨_,vs,_,q,_⟩:=at_ j b a e;exact⟨vs,q⟩
 ·obtain⟨y,hy,ly⟩:=he i O;obtain⟨j,J⟩:=RS hy;have I:=P4 (l:=l) (i:=j) (by have:=(PH.mp J).1;omega)
  obtain⟨vs,q,r⟩:=B j y _ _ J I;exact{j,_,_,vs,I,q,by rw[r.length];exact ly}
section
variable{fa:Fa}{X:Cx}{μ0:Mu}{H0:Hp}{d0 d1 d2:D}{a0 a1 a2:Nat}(r0:Rep fa X.K μ0 H0 d0 (.ref a0))(r1:Rep fa X.K μ0 H0 d1 (.ref a1))(r2:Rep fa X.K μ0 H0 d2 (.ref a2))
include r0 r1
theorem yn:eE fa X.K μ0 H0 (oE d0 d1) (Lp X.K [(ft d0,a0),(ft d1,a1)]):=A7 λR H M O x F e=>by
 obtain⟨v,L,e⟩:=QN.mp e;obtain⟨B,s1,rfl⟩:=Qi.mp e;refine{[v,B],rfl,λj y b a u h=>?_,λi d hd=>?_,λi J=>?_}
 ·match j,u,h with
  |0,u,h=>cases u;cases h;exact kD F (Rep.extW x r0) L
  |1,u,h=>cases u;cases h;exact kD F (Rep.extW x r1) s1
 ·obtain⟨P,e1,I,h1,rfl⟩:=(sf v B i d).mp hd;exact{_,rfl,by simp[I,h1]}
 ·rcases se v B i J with z|z<;>exact{_,`s,z}
include r2
end
set_option tactic.hygienic true in
def GZ {fa:Fa}{X:Cx}{B:List Expr}{kk:Nat}{tp p pos:Pos}{Y e1:Expr}{g0 g1:Env->Mem->Res D}(h0:DE fa X Y g0)(h1:DE fa X e1 g1)(hg:Gl X "zip")(hm:X.mg "zip"=none)
 (F:starEach [Y,e1] X.env=[(false,eval Y X.env),(false,eval e1 X.env)]) (v:starEach [e1] X.env=[(false,eval e1 X.env)]):DI fa X (.Tuple B kk tp) (.Call (.Name "zip" p) [Y,e1] [] pos) (m7 g0 g1):=by
 intro O s σ H R I ⟨μ,ρ,M,hE,hM,h⟩;obtain⟨d0,M0,c0,t0⟩:=aM h;obtain⟨d1,M1,c1,t1⟩:=aM t0;split at t1
 ·next J=>
  simp only[PY] at J;obtain⟨hq0,hq1⟩:=J;refine Call_ (fT I hg hm boot_zip (Q7 (aP (cM h0 (cM h1 eR v) (by rw[F,v]) pos O s σ H (λvs y=>∃U W u,vs=[U,W]/\Ext μ H u y/\RelM fa X.K u y M1/\Rep fa X.K u y d0 U/\Rep fa X.K u y d1 W) I ?_) λus s1 ⟨vs,y,z,r1,U,W,u,ev,x1,L,P,S⟩=>?_) (by rw[F,v]) (by rw[v];rfl)))
  ·refine{μ,ρ,M,hE,hM,?_};rw[c0];intro U y u x1 L r0;refine{u,ρ,M0,(hE.ext x1),L,?_};rw[c1];intro W H2 μ2 x2 m2 r1;exact{U,W,μ2,rfl,(x1.trans x2),m2,(r0.ext x2),r1}
  subst ev;obtain⟨a0,its0,rfl,z0⟩:=kF z L P hq0;obtain⟨a1,its1,rfl,z1⟩:=kF z L S hq1;cases r1 with
  | cons y0 r1 =>
    cases r1 with
    | cons y1 r1 =>
      cases r1;obtain rfl:=y0;obtain rfl:=y1;refine AH z0 z1 λh1 za hk=>?_;have I2:=z.kept (t':=s1.toks) hk;refine wpAny_pyIter_zip za.1 ?_;refine{s1.heap.objs.size+2+2,Hn s1.heap.objs.size 1,_,_,y,rfl,I2,Bp s1.heap.objs.size 1 [(ft d0,a0),(ft d1,a1)] rfl `d (λj b a e=>match j,e with
       |0,e=>by cases e;exact z0.lt
       |1,e=>by cases e;exact z1.lt),za,λb hb=>?_,t1 _ y u x1 L (yn P S)}
      have hb:=(d4.mp hb).1;exact z.fpOk hb (z.hok.fresh hb)
 ·exact t1.elim
noncomputable def xA (h:Addr):Obj:={cls:=.type "enumerate",data:=.fields #[.none,.bool false,.ref h,rawInt 0,.none,.none]}
set_option tactic.hygienic true in
def zP (l:Addr)(us:Array PL)(n:Nat)(dct:Option Addr)(sl:Array (Option PL)) :
 Meets (Builtin.«enumerate.__new__» {[.type "enumerate",.ref l],[]}) (λ_ R s=>s.heap.get? l=some {.type "tuple",dct,.seq us n,sl}/\
  R (.ok (.ret (.ref (s.heap.push (dU false l)).objs.size))) {s with heap:=(s.heap.push (dU false l)).push (xA s.heap.objs.size)}):=
 .of_wp λprog w A R s h=>by
  obtain⟨v,g,d,tk,os⟩:=s;obtain⟨j,h⟩:=h;have q:=sub_enumerate;have u:Heap.IsTuple (Shared.heap ⟨v,g,d,tk,os⟩) l us:={_,j,rfl,n,rfl};wp_walk using RA j
  refine wpAny_stack_any λ_=>tqb ?_;split
  ·rename_i c _ _ _ _ _;cases (c==Value.type "enumerate")<;>
   ·wp_walk using RA j,wpAny_pyIter_tuple u
    exact{_,rfl,h}
  ·wp_walk using RA j,wpAny_pyIter_tuple u
   exact{_,rfl,h}
section
variable{prog:QF}{w:Qz}{A:Ry}{E:PL->PX->Prop}{s:PX}
def CO (u:b7 b s.heap l us)
 (h:∀j,IsEnum j (s.heap.objs.size+1) s.heap.objs.size 0 .none->eJ b j s.heap.objs.size l 0->(∀c o,s.heap.get? c=some o->j.get? c=some o)->Q (.ref (s.heap.objs.size+1)) {s with heap:=j}):wpAny (model prog w) A (call (.type "enumerate") [.ref l]) Q E s:=by
 cases b with
 |true=>exact call_enumerate_list u λj e i _ k=>h j e i k
 | false =>
   obtain⟨⟨c,dct,B,sl⟩,z,y,n,hd⟩:=u;cases y;cases hd;refine callType_new F.called_enumerate `d (F.typeCall_enumerate_1 _) (F.newCall_enumerate_1 _) (λo=>F.args_object_init_2 o _) F.entry_enumerate_new (zP l us n dct sl) {z,?_}
   have v:(s.heap.push (dU false l)).objs.size=s.heap.objs.size+1:=RC ..;rw[v];have he:IsEnum ((s.heap.push (dU false l)).push (xA s.heap.objs.size)) (s.heap.objs.size+1) s.heap.objs.size 0 .none:=by
    have:=Qn (s.heap.push (dU false l)) (o:=xA s.heap.objs.size) rfl;rw[v] at this;exact this
   exact{{_,he,rfl},h _ he (eJ.new (PM _ (Qn _ rfl))) λc o x=>PM _ (PM _ x)}
def Kx (hh:A.handled=none)(y:l≠it)(us:Array PL):Draws prog w A it [it,l] us.size (λi v=>us[i]?=some v) (λi h=>eJ b h it l i/\b7 b h l us) where
 live:=λ_ _ st=>let{o,ho,_}:=st.1.obj;⟨o,ho⟩
 frame:=λ_ _ _ st hk=>{st.1.at λo e=>hk it `s o e,st.2.at λo e=>hk l `s o e}
 item:=λi s Q E J st I=>iH hh st.1 st.2 (λx F u B j=>I _ F s.toks u {B,st.2.extBut j.extBut y} j) λz=>by rw[Array.getElem?_eq_getElem J] at z;cases z
 done:=λs Q E st H=>iH hh st.1 st.2 (λx F u=>by rw[Array.getElem?_eq_none (PV _)] at u;cases u) λ_=>H
def Kw (hh:A.handled=none)(v:us[i]?=none):Draws prog w A it [it,l] i (λ_ _=>True) (λk h=>k=i/\eJ b h it l i/\b7 b h l us) where
 live:=λ_ _ st=>let{o,ho,_}:=st.2.1.obj;⟨o,ho⟩
 frame:=λ_ _ _ st hk=>{st.1,st.2.1.at λo e=>hk it `s o e,st.2.2.at λo e=>hk l `s o e}
 item:=λk s Q E u st z=>absurd st.1 (Qw u)
 done:=λs Q E st j=>iH hh st.2.1 st.2.2 (λx y e=>by rw[v] at e;cases e) λ_=>j
def MC {P:Nat->PL->Prop}{St:Nat->Heap->Prop}(D:Draws prog w A it fp n P St)(k:Nat):Draws prog w A it fp (k+n) (λj=>P (j-k)) (λj h=>k≤j/\St (j-k) h) where
 live:=λ_ _ st=>D.live _ _ st.2
 frame:=λ_ _ _ st hk=>{st.1,D.frame _ _ _ st.2 hk}
 item:=λj s Q E B st y=>D.item (j-k) s Q E (by have:=st.1;omega) st.2 λx u tk z hs=>y x u tk z {Nat.le_succ_of_le st.1,by rw[Nat.succ_sub st.1];exact hs}
 done:=λs Q E st v=>D.done s Q E (by have:=st.2;rwa [QE] at this) v
end
noncomputable def NV (K:PJ)(b:Bool)(a:Addr)(k:Nat):It:=
 {λi H=>∃xs x,iu K H b a xs/\xs[i]?=some x,λi H v h=>∃p x,H p=none/\v=.ref p/\h=upd H p (.tup [.int (k+i:Nat),x])/\∀xs,iu K H b a xs->xs[i]?=some x,λi H=>∃xs,iu K H b a xs/\xs.length≤i}
def qD {K:PJ}(b:Bool)(a L e:Addr)(k:Nat)(M:e≠L)(hna:a≠L)(hea:e≠a) :
 Turn P w K (.Tuple elts kk pos) (NV K b a k) [e,L] e (λi h=>(∃old,IsEnum h e L (k+i:Nat) old)/\eJ b h L a i) where
 mem:=`s
 obj:=λi h ⟨⟨old,he⟩,hi⟩ c B=>by
  rcases Qu.mp B with z|z
  ·subst z;exact{_,he,λv z=>by cases z}
  ·have e:c=L:=by simpa using z
   subst e;exact hi.obj
 keep:=λi h h' ⟨⟨old,he⟩,st⟩ q=>{{old,q e `s _ he},st.at λo e=>q L `s o e}
 item:=by
  intro X hP hw hK hc i S s σ H E I hf st hg;subst hP hw hK;obtain⟨xs,x,Y,hx⟩:=hg;obtain⟨⟨old,he⟩,F⟩:=st;obtain⟨J,rv,p⟩:=mO I Y;obtain⟨u,hu,ru⟩:=rv.get hx;have hi:i<J.toArray.size:=by have:=(PH.mp hu).1;simpa using this
  have R:k+i-k=i:=QE k i;refine wpAny_pyNext_enum_itemD (MC (Kx (A:=X.A.in1) (I.ok.hd hc) hna J.toArray) k) he {Rt k i,by rw[R];exact⟨F,p⟩} (Nat.add_lt_add_left hi k) M (by simp[M,hea]) λU h1 tk y ho j hT hsz hk=>{_,rfl,?_}
  rw[R] at y;replace j:=j.2;rw[show k+i+1-k=i+1 from QE k (i+1)] at j;have eu:U=u:=by
   have y:J[i]?=some U:=by simpa using y
   rw[hu] at y;exact(PQ y).symm
  subst eu;have hT0:=I.hok.fresh (PV _);have Q:=Qk he;refine wpAny_letOwnedTupleGo_enum ho λh2 he2 O=>?_;have hT2:h2.get? s.heap.objs.size=some {cls:=.type "tuple",data:=.seq #[.int (k+i:Nat) tk,U]}:=(O.2 _ (QR Q)).trans hT;refine{.ref s.heap.objs.size,upd H s.heap.objs.size (.tup [.int (k+i:Nat),x]),qC (s:=s) I hf (λc o B q=>(O.2 c (λz=>B (by simp[z]))).trans (hk c o (λz=>B (by simp[z])) (λz=>B (by simp[z])) q)) (PV _) {?_,[.int (k+i:Nat) tk,U],.cons {_,rfl} (.cons ru .nil),{_,hT2,rfl,_,rfl}},rfl,
   {_,x,hT0,rfl,rfl,λys hy=>by rw[kG I hy Y];exact hx},{⟨U,he2⟩,j.1.extBut O.extBut (Q0 M)},λc B=>?_}
  ·show 2≤sizeLine;decide
  ·have:c<s.heap.objs.size:=by
    rcases Qu.mp B with z|z
    ·subst z;exact Q
    ·have e:c=L:=by simpa using z
     subst e;obtain⟨o,e,_⟩:=F.obj;exact Qk e
   rw[aF (Qw this)];exact(hf c B).1
 done:=by
  intro X hP hw hK hc i S s σ H E I hf st hg;subst hP hw hK;obtain⟨xs,Y,hx⟩:=hg;obtain⟨⟨old,he⟩,F⟩:=st;obtain⟨J,rv,p⟩:=mO I Y;have hl:=rv.length;exact wpAny_pyNext_enum_endD (Kw (A:=X.A.in1) (I.ok.hd hc) `o) he ⟨rfl,F,p⟩ λh' eb=>{rfl,u1 I hf λc o B q=>eb c o (λz=>B (by simp[z])) q}
 self:=λ_ _ _ _ _ ⟨⟨old,he⟩,_⟩ h=>wpAny_pyIter_enum he h
section
variable{fa:Fa}{X:Cx}{a:Expr}{ga:Env->Mem->Res D}{pos p:Pos}
def qA {ad:Addr}{k:Nat}(h:Rep fa X.K μ0 H0 dd (.ref ad)):eE fa X.K μ0 H0 (λM=>(bU M dd).map (eA k)) (NV X.K (ft dd) ad k):=λY H M W x j e=>by
 dsimp only at e;cases u:bU M dd with
 |none=>rw[u] at e;cases e
 | some I =>
   rw[u] at e;have e:=PQ e;subst e;obtain⟨F,s,r⟩:=kD j (Rep.extW x h) u;refine{λi d hd=>?_,λi P=>{F,s,by rw[r.length,<- jc I k];exact P}}
   rw[ip] at hd;cases e1:I[i]? with
   |none=>rw[e1] at hd;cases hd
   | some U =>
     rw[e1] at hd;have hd:=PQ hd;subst hd;obtain⟨v,J,R⟩:=r.get e1;refine{⟨F,v,s,J⟩,λy S ⟨q,z,B,O,L,Q⟩=>?_};have:=Q F s;rw[J] at this;cases this;subst L O;refine{Ext.alloc j B,j.alloc B,q,[.int (k+i:Nat),v],rfl,.inl (.inl cw),.int (k+i:Nat),[v],rfl,rfl,v,[],rfl,R.ext (Ext.alloc j B),rfl}
def gU (ga:Env->Mem->Res D):Env->Mem->Res Walk:=λh M=>(ga h M).bind λx M=>if dj x=true then .ok (λM=>(bU M x).map (eA 0)) M else .bad
def G2 {B:List Expr}(ha:DE fa X a ga)(hg:Gl X "enumerate")(hm:X.mg "enumerate"=none)(hs:starEach [a] X.env=[(false,eval a X.env)]):DI fa X (.Tuple B kk tp) (.Call (.Name "enumerate" p) [a] [] pos) (gU ga):=by
 intro F s σ H R I ⟨Y,ρ,M,hE,hM,h⟩;obtain⟨x,M1,e,q⟩:=aM h;cases Q:dj x with
 |false=>rw[Q] at q;exact q.elim
 |true=>
 rw[Q] at q;refine Call_ (fT I hg hm boot_enumerate (Q7 (aP (cM ha eR hs pos F s σ H (λW u=>∃v j,W=[v]/\Ext Y H j u/\RelM fa X.K j u M1/\Rep fa X.K j u x v) I {Y,ρ,M,hE,hM,?_}) λus s1 ⟨W,u,J,r1,v,j,ev,S,O,U⟩=>?_) hs rfl))
 ·rw[e];exact λv u j S O r1=>⟨v,j,rfl,S,O,r1⟩
 subst ev;obtain⟨ad,its,rfl,p1⟩:=kF J O U Q;cases r1 with
 | cons r1 rr =>
   cases rr;obtain rfl:=r1;have y:=p1.lt;refine CO p1 λh1 he P hk=>?_;have I2:=J.kept (t':=s1.toks) hk;refine wpAny_pyIter_enum he ?_;refine{s1.heap.objs.size+1,[s1.heap.objs.size+1,s1.heap.objs.size],_,_,u,rfl,I2,qD (ft x) ad s1.heap.objs.size (s1.heap.objs.size+1) 0 (Nat.succ_ne_self _) (Qw y) (QR (Rj y)),{{.none,he},P},λb L=>?_,q _ u j S O (qA U)};have L:s1.heap.objs.size≤b:=by
    rcases Qu.mp L with z|z
    ·subst z;exact Nat.le_succ _
    ·have e:b=s1.heap.objs.size:=by simpa using z
     subst e;exact PV _
   exact J.fpOk L (J.hok.fresh L)
end
abbrev GE:=Env->Mem->Res D
abbrev GT:=Env->Mem->Res Bool
abbrev GA:=Env->Mem->Res (List D)
abbrev GW:=Env->Mem->Res Walk
abbrev GS:=Env->Mem->Res Fl
abbrev GB:=Env->List D->Mem->Res (List D)
abbrev Call:=Nat->List D->Mem->Res D
def aa (i:Nat):GE:=λh M=>bX M (h[i]?.getD none)
noncomputable def gC (d:D):GE:=λ_ M=>.ok d M
def ai (m:Bool)(o:nI)(a b:GE):GE:=λh M=>(a h M).bind λx M=>(b h M).bind λy M=>fO m o x y M
def av (o:jq)(a b:GE):GE:=λh M=>(a h M).bind λx M=>(b h M).bind λy M=>(bX M (bq o x y M)).bind λb M=>.ok (.bl b) M
def mj (o j:jq)(a b c:GE):GE:=λh M=>(a h M).bind λx M=>(b h M).bind λy M=>(bX M (bq o x y M)).bind λk M=>
 if k then(c h M).bind λz M=>(bX M (bq j y z M)).bind λb M=>.ok (.bl b) M else .ok (.bl false) M
def eT (a:GE):GE:=λh M=>(a h M).bind λx M=>match x with|.int i=>.ok (.int (-i)) M|_=>.bad
def dO (a b:GE):GE:=λh M=>(a h M).bind λx M=>match x with|.bl true=>b h M|.bl false=>.ok (.bl false) M|_=>.bad
def NO (a b:GE):GE:=λh M=>(a h M).bind λx M=>match x with|.bl true=>.ok (.bl true) M|.bl false=>b h M|_=>.bad
def J2 (a:GE):GE:=λh M=>(a h M).bind λx M=>match x with|.bl k=>.ok (.bl (!k)) M|_=>.bad
def gR (t:GT)(a b:GE):GE:=λh M=>(t h M).bind λk M=>if k then a h M else b h M
def aq (a b:GE):GE:=λh M=>(a h M).bind λx M=>(b h M).bind λy M=>bX M (b9 x y M)
def bK (m hl hh:Bool)(a lo hi:GE):GE:=λj M=>(a j M).bind λx M=>(lo j M).bind λl M=>(hi j M).bind λh M=>if eQ hl l&&eQ hh h then cZ m x l h M else .bad
noncomputable def bT:GA:=λ_ M=>.ok [] M
def cm (a:GE)(s:GA):GA:=λh M=>(a h M).bind λx M=>(s h M).bind λxs M=>.ok (x::xs) M
def ba (s:GA):GE:=λh M=>(s h M).bind kL
def aU (m:Bool)(s:GA):GE:=λh M=>(s h M).bind (bb m)
def ah (f:Nat)(c:Call)(s:GA):GE:=λj M=>(s j M).bind λh M=>c f h M
def ml (i:Nat)(c:Call)(s:GA):GE:=λh M=>match h[i]?.getD none with|some (.fn f)=>(s h M).bind λj M=>c f j M|_=>.bad
def aC (f:wD)(s:GA):GE:=λj M=>(s j M).bind λh M=>dP f h M
def b5 (t:Ty)(a:GE):GE:=λh M=>(a h M).bind λx M=>(bX M (gP t x)).bind λb M=>.ok (.bl b) M
def aj (a:GE):GT:=λh M=>(a h M).bind λx M=>bX M (jQ M x)
def dI (a b:GT):GT:=λh M=>(a h M).bind λk M=>if k then b h M else .ok false M
def d7 (a b:GT):GT:=λh M=>(a h M).bind λk M=>if k then .ok true M else b h M
def bQ (a:GT):GT:=λh M=>(a h M).bind λk M=>.ok (!k) M
def au (t:fN)(a:GE):GS:=λj M=>(a j M).bind λx M=>(bX M (b6 t x j)).bind λh M=>.ok (.next h) M
def eO (a b d:GE):GS:=λh M=>(d h M).bind λz M=>(a h M).bind λx M=>(b h M).bind λy M=>match x,y with
 | .cell k, .int n => match M[k]? with
   | some u => match cg u.length n with
     |some j=>.ok (.next h) (M.set k (u.set j z))
     |none=>.bad
   |none=>.bad
 |_,_=>.bad
def dz (a d:GE):GS:=λh M=>(a h M).bind λx M=>(d h M).bind λz M=>match x with
 | .cell k => match M[k]? with
   |some j=>if j.length<sz then .ok (.next h) (M.set k (j++[z])) else .bad
   |none=>.bad
 |_=>.bad
def zh (a:GE):GS:=λh M=>(a h M).bind λ_ M=>.ok (.next h) M
def az (a:GE):GS:=λh M=>(a h M).bind λx M=>.ok (.ret x) M
noncomputable def DJ:GS:=λ_ M=>.ok (.ret .non) M
def DK:GS:=λh M=>.ok (.next h) M
def wU:GS:=λ_ _=>.bad
def aN (c:GT)(a b:GS):GS:=λh M=>(c h M).bind λk M=>if k then a h M else b h M
def bY (t:fN)(w:GW)(b:GS):GS:=λh M=>(w h M).bind λw M=>cT (f6 t b) w (.next h) M
def ay:GS:=λh M=>.ok (.next h) M
noncomputable def bg (a b:GS):GS:=λh M=>(a h M).bind λfl M=>match fl with
 |.next h=>b h M
 |fl=>.ok fl M
noncomputable def notStar:Expr->Bool
 |.Starred _ _=>false
 |_=>true
def bt (h:notStar a=true):starEach (a::es) env=(false,eval a env)::starEach es env:=by
 cases a<;>first|rfl|cases h
noncomputable def dw:∀{es:List Expr},es.all notStar=true->(backTo pos (starEach es env)).any (·.1)=false
 |[],_=>rfl
 | a :: es, h => by
   simp only[QZ,PY] at h;have j:=dw (pos:=pos) (env:=env) h.2;rw[bt h.1];simpa[backTo] using j
section
variable{fa:Fa}{X:Cx}{a b d:Expr}{ga gb gd:GE}{ta tb:GT}{pos p:Pos}{es:List Expr}{gs:GA}{n:Nat}
def ID {i:Int}(h:Gl X x)(hm:X.mg x=some (.int i t))(hd:(x==("__debug__":Str))=false):DE fa X (.Name x pos) (gC (.int i)):=iY (v:=.int i) (j6 h hm ⟨t,rfl⟩ hd) λ_ _=>rfl
end
structure Df where
 params:Nat
 slots:Nat
 body:Call->GS
noncomputable def OZ:Fl->Mem->Res D
 |.ret d,M=>.ok d M
 |.next _,M=>.ok .non M
 |.exc x _,M=>.err x M
def OY:Res Fl->Res D
 |.ok fl M=>OZ fl M
 |_=>.bad
def gm (c:Call)(d:Df)(ds:List D)(M:Mem):Res D:=if ds.length=d.params then OY (d.body c (ds.map some++List.replicate (d.slots-ds.length) none) M) else .bad
noncomputable def ag (P:Nat->Option Df):Nat->Call
 |0,_,_,_=>.bad
 | n + 1, f, h, M => match P f with
   |none=>.bad
   |some d=>gm (ag P n) d h M
structure ya (K:PJ) (x qual:Str) (st:Stmt) (f:Addr) (fd:FuncData):Prop where
 ex:∃(oc:PL) (od:Option Addr) (dV kV doc pm:PL) (an:Option Addr) (cdv ct:PL) (osl:Array (Option PL)),
  fd=PySem.W.fnOf x qual (fj st) (c6 st) (bc st) dV kV doc pm an cdv ct/\K.lookup f=some {oc,od,.func fd,osl}/\PySem.W.codeIn K cdv qual=true
 kp:PySem.W.keepIn K (.ref f)=true
def wA.toD {K:PJ}{st:Stmt}(F:wA K x qual st f fd):ya K x qual st f fd:=let⟨oc,od,kV,j,pm,v,h,ct,u,r⟩:=F.ex;{{oc,od,.none,kV,j,pm,v,h,ct,u,r},F.kp}
structure yc (fa:Fa) (P:QF) (w:Qz) (K:PJ) (mg:Str->Option PL) (base:Heap) (f:Nat) (d:Df):Prop where
 ex:∃(ad:Addr) (fd:FuncData) (ps N:List Str) (st:Stmt) (x qual:Str),fa f=some ad/\ya K x qual st ad fd/\Binds K fd ps []/\((fa (500+f)).isSome=true->Binds K fd ps [.none])/\i1 N ps (bc st)/\d.params=ps.length/\d.slots=N.length/\
  ∀(call:Call) (n:Nat) (cdv:PL) (A:Ry) (outer:List Rg) (s:PX) (H:Hp) (E:XK),(∀f,gZ fa P w K mg base n f (call f))->di (2*n+5) (A.deeper (envOfC qual (bc st) s.heap.objs.size ad cdv))->
   kv fa (gp (iG P w) P w K mg base N qual (bc st) ad cdv A outer s H E) (c6 st) (d.body call)
def yJ {K:PJ}(h:aL fa K μ H ds vs):bw fa K μ H (L2.start N vs) (ds.map some++List.replicate (N.length-ds.length) none):=by
 have hl:=h.length;refine{by unfold L2.start;simp[hl],λi d e=>?_}
 by_cases j:i<ds.length
 ·rw[PU (by simpa using j),P6] at e
  cases e1:ds[i]? with
  |none=>rw[e1] at e;cases e
  | some z =>
    rw[e1] at e;cases e;obtain⟨v,u,y⟩:=h.get e1;refine{v,?_,y};unfold L2.start;rw[PU `o,P6,u]
    rfl
 ·rw[Qo `o,RY] at e
  split at e<;>cases e
def vW {K:PJ}{st:Stmt}(F:ya K x qual st f fd)(S:i1 N ps (bc st))(len:∀vs H Q E,sp vs H Q E->vs.length=ps.length)
 (j:∀(h:PL) (A:Ry) (outer:List Rg) (s:PX) (H:Hp) (vs:List V) (Q:VK) (E:XK),di k (A.deeper (envOfC qual (bc st) s.heap.objs.size f h))->sp vs H Q E->
  ∃t,kr (gp (iG P w) P w K mg base N qual (bc st) f h A outer s H E) (c6 st) t/\t {nx:=λ_ y=>Q .non y,rt:=Q} (start N vs) H):lH P w K mg base (iG P w) (k+1) f fd ps sp:=by
 obtain⟨oc,od,dV,kV,z,pm,I,h,ct,B,rfl,lk,u⟩:=F.ex;exact Mo lk u S len λA outer s H vs Q E hr v=>j h A outer s H vs Q E hr v
set_option tactic.hygienic true in
def rb {K:PJ}
 (hs:d.slots=N.length) (L:RelM fa K μ H M) (hr:aL fa K μ H ds vs) (h:fq (gm c d ds M) (bj fa K μ H Q) (EL fa K μ H E)):tF fa (gp (iG P w) P w K mg base N qual scope f cd A outer s H E) (d.body c) {nx:=λ_ u=>Q .non u,rt:=Q} (start N vs) H:=by
 unfold gm at h;split at h
 ·refine{μ,_,M,yJ hr,L,?_};rw[<- hs];cases e1:d.body c (ds.map some++List.replicate (d.slots-ds.length) none) M with
  | ok fl U =>
    rw[e1] at h;cases fl with
    | next z =>
      have v:=h;exact λB u j S Y R=>v .non u j S R rfl
    |ret d=>exact h
    | exc x z =>
      have v:=h;exact λF B u j s' a C J c p I y _ m ex O hn fl=>Cg I fl (v C J c p u j y m ex O hn)
  |err=>rw[e1] at h;exact h.elim
  |bad=>rw[e1] at h;exact h.elim
 ·exact h.elim
theorem ux {P:QF}{w:Qz}{K:PJ}(h:∀f d,Pg f=some d->yc fa P w K mg base f d):∀(n f:Nat),gZ fa P w K mg base n f (ag Pg n f)
 |0,f=>.inl λ_ _=>rfl
 | n + 1, f => by
   have U:=ux h n;cases e:Pg f with
   |none=>exact .inl λj M=>by show(match Pg f with|none=>Res.bad|some d=>gm (ag Pg n) d j M)=Res.bad;rw[e]
   | some d =>
     have eq:∀j M,ag Pg (n+1) f j M=gm (ag Pg n) d j M:=λj M=>by show(match Pg f with|none=>Res.bad|some d=>gm (ag Pg n) d j M)=_;rw[e]
     obtain⟨ad,J,ps,N,st,x,I,h1,F,O,z,S,R,hs,u⟩:=(h f d e).ex;refine .inr {ad,J,ps,h1,F.kp,O,λj M hl=>?_,?_,z}
     ·rw[eq];unfold gm;rw[if_neg (by rw[R];exact hl)]
     ·refine vW F S (λY H Q E v=>v.1) λy A outer s H Y Q E hr v=>{_,u (ag Pg n) n y A outer s H E U hr,?_};obtain⟨hl,μ,M,j,L,hr,B⟩:=v;rw[eq] at B;exact rb hs L hr B
def oD (P:RF)(e:RE)(h:Str×Addr):Prop:=∃t,e={PyData.keyHash P h.1,.str h.1 t,.ref h.2}
structure fM (K:PJ) (P:RF) (a:Addr) (kvs:List (Str×Addr)):Prop where
 ex:∃(es:Array RE) (n:Nat),K.lookup a=some {cls:=.type "dict",data:=.dict es n}/\RO (oD P) es.toList kvs
 nd:(kvs.map (·.1)).Nodup
 ns:(a==sysModules)=false
def vK (kvs:List (Str×Addr)):List (Key×PL):=kvs.map λh=>(Sum.inr h.1,.ref h.2)
theorem ud:∀{es:List RE}{kvs:List (Str×Addr)},RO (oD P) es kvs->∀e∈es,∃x t,e.key=.str x t/\e.hash=PyData.keyHash P x
 |_,_,.nil,e,h=>nomatch h
 | _, _, .cons r t, e, h => by
   rcases Qu.mp h with z|z
   ·subst z;obtain⟨t,rfl⟩:=r;exact{_,t,rfl,rfl}
   ·exact ud t e z
noncomputable def pf:∀{es:List RE}{kvs:List (Str×Addr)},RO (oD w.params) es kvs->Pairs (ke prog w) es (vK kvs)
 |_,_,.nil=>.nil
 | e :: es, h :: kvs, .cons r t => by
   obtain⟨u,rfl⟩:=r;exact Pairs.cons (jC h.1 u) rfl (pf t)
def tW (I:Inv X pins σ H s)(h:fM X.K X.w.params a kvs):s.heap.DictOf (ke X.prog X.w) a (vK kvs):=by
 obtain⟨j,n,lk,pr⟩:=h.ex;refine{_,j,n,I.kIn _ _ lk,⟨rfl,rfl,rfl⟩,rfl,λe he=>?_,pf pr,?_}
 ·obtain⟨x,t,e1,e2⟩:=ud pr e (by simpa using he)
  exact{Sum.inr x,by rw[e1];exact jC x t,e2}
 ·have e:(vK kvs).map (·.1)=(kvs.map (·.1)).map Sum.inr:=by unfold vK;simp
  rw[e];exact List.Pairwise.map _ (λa b (n:a≠b) z=>n (Sum.inr.inj z)) h.nd
def zX (kvs:List (Str×Addr))(k:Str):valueAt (vK kvs) (Sum.inr k:Key)=(kvs.lookup k).map Value.ref:=by
 induction kvs with
 |nil=>rfl
 | cons j r h =>
   unfold valueAt vK at h ⊢;rw[Q6,List.find?_cons,QU];by_cases e:j.1=k
   ·subst e;simp
   ·have e2:decide ((Sum.inr j.1:Key)=Sum.inr k)=false:=decide_eq_false λz=>e (Sum.inr.inj z);have u:=Rb.mpr (Q0 e);rw[e2,u];exact h
def eM (fa:Fa)(kvs:List (Str×Addr))(fs:List (Str×Nat)):Prop:=RO (λ(p:Str×Addr) (q:Str×Nat)=>p.1=q.1/\fa q.2=some p.2) kvs fs
theorem eM.look:∀{kvs:List (Str×Addr)}{fs:List (Str×Nat)},eM fa kvs fs->(fs.lookup k=none/\kvs.lookup k=none)\/∃f ad,fs.lookup k=some f/\kvs.lookup k=some ad/\fa f=some ad
 |_,_,.nil=>.inl ⟨rfl,rfl⟩
 | (x, a) :: r, (y, f) :: t, .cons ⟨e1, e2⟩ q => by
   subst e1;rw[QU,QU];cases e:k==x with
   |true=>exact .inr ⟨f,a,rfl,rfl,e2⟩
   |false=>exact eM.look q
def kZ (fs:List (Str×Nat))(i:GE):GE:=λh M=>(i h M).bind λd M=>match d with
 |.str k=>bX M ((fs.lookup k).map D.fn)
 |_=>.bad
def iJ (fs:List (Str×Nat))(i:GE):GE:=λh M=>(i h M).bind λd M=>match d with
 |.str k=>.ok (.bl (!(fs.lookup k).isSome)) M
 |_=>.bad
section
variable{fa:Fa}{X:Cx}{a b:Expr}{ga gb:GE}{pos p:Pos}{ad:Addr}{kvs:List (Str×Addr)}{fs:List (Str×Nat)}{x:Str}
def Cs (hd:fM X.K X.w.params ad kvs):jN X (λx y H Q=>∃k v,x=.ref ad/\y=.str k/\kvs.lookup k=some v/\Q (.ref v) H):=by
 intro z j E s P H x y v u Q I M O h hs;obtain⟨k,c,rfl,rfl,hk,q⟩:=h;cases M;obtain⟨t,rfl⟩:=O;have B:=tW I hd;have J:s.TypeIs (.ref ad) "dict":=let{o,_,_,ho,{L,_},_}:=B;⟨o,ho,L⟩
 refine tail_any J PySem.F.slot_dict_getitem.lookup (wpAny_getItem_of (k:=(Sum.inr k:Key)) (jC k t) B.mapOf (v:=.ref c) ?_ ?_) hs
 ·rw[zX,hk];rfl
 ·exact{.ref c,H,I.tok _,rfl,q}
def tq (hd:fM X.K X.w.params ad kvs):bN X (compareOp .NotIn) (λx y H Q=>∃k,x=.str k/\y=.ref ad/\Q (.bl (!(kvs.lookup k).isSome)) H):=by
 intro j s F H x y v u Q I B E h;obtain⟨k,rfl,rfl,q⟩:=h;obtain⟨t,rfl⟩:=B;cases E;have z:=tW I hd;refine wpAny_notIn_of (k:=(Sum.inr k:Key)) (jC k t) hd.ns z.mapOf ?_;rw[zX,RQ];exact{.bl _,H,I.tok _,rfl,q}
def IF (hd:fM X.K X.w.params ad kvs)(ho:eM fa kvs fs)(L:Gl X x)(hm:X.mg x=some (.ref ad))(u:(x==("__debug__":Str))=false)(J:DE fa X b gb)(hs:i0 b):DE fa X (.Subscript (.Name x p) b pos) (kZ fs gb):=
 bL (wY (Cs hd) (j6 (v:=.ref ad) L hm rfl u) J hs) λU H Q ⟨R,S,M,E,I,h⟩=>t1 E I h λd P v z y O F j r1 h1=>by
  cases d with
  | str k =>
    obtain⟨d,e,q⟩:=j8 h1;rcases ho.look with⟨e1,_⟩|⟨f,c,e1,e2,B⟩
    ·rw[e1] at e;cases e
    ·rw[e1] at e;cases e;exact{k,c,rfl,r1,e2,q (.ref c) z y O j {c,rfl,.inl B}}
  |_=>exact h1.elim
def B5 {d:D}{P:D->Mem->Prop}(h:ae (match d with|.str k=>Res.ok (.bl (!(fs.lookup k).isSome)) M1|_=>.bad) P):∃k,d=.str k/\P (.bl (!(fs.lookup k).isSome)) M1:=by
 cases d with
 |str k=>exact⟨k,rfl,h⟩
 |_=>exact h.elim
def CJ (ho:eM fa kvs fs)(k:Str):(kvs.lookup k).isSome=(fs.lookup k).isSome:=by
 rcases ho.look with⟨e1,e2⟩|⟨f,c,e1,e2,_⟩<;>rw[e1,e2]<;>rfl
def Al (ho:eM fa kvs fs)(z:L2.St)(H:Hp)(Q:VK)(h:tE fa X.K (iJ fs ga) z H Q):yH (λx y H Q=>∃k,x=.str k/\y=.ref ad/\Q (.bl (!(kvs.lookup k).isSome)) H) (tE fa X.K ga) (tC (.ref ad)) z H Q:=by
 obtain⟨O,P,M,E,I,h⟩:=h;refine t1 E I h λd L v B u J F j r1 h1=>?_;obtain⟨k,rfl,q⟩:=B5 h1;refine{k,r1,rfl,?_};rw[CJ ho];exact q (.bl _) B u J j rfl
def IE (hd:fM X.K X.w.params ad kvs)(ho:eM fa kvs fs)(z:Gl X x)(hm:X.mg x=some (.ref ad))(j:(x==("__debug__":Str))=false)(y:DE fa X a ga)(u:behindInMarks .NotIn (.Name x p)=false):DE fa X (.Compare a [.NotIn] [.Name x p] pos) (iJ fs ga):=
 bL (pV (tq hd) y (j6 (v:=.ref ad) z hm rfl j) u) λB H Q h=>Al ho B H Q h
def IP (hd:fM X.K X.w.params ad kvs)(ho:eM fa kvs fs)(J:Gl X x)(hm:X.mg x=some (.ref ad))(j:(x==("__debug__":Str))=false)(I:DE fa X a ga)(u:behindInMarks .NotIn (.Name x p)=false):DT fa X (.Compare a [.NotIn] [.Name x p] pos) (aj (iJ fs ga)):=
 j5 (pT (tq hd) I (j6 (v:=.ref ad) J hm rfl j) u) λW H Q h=>by
  refine Al ho W H _ ?_;obtain⟨S,U,M,E,F,h⟩:=h;obtain⟨z,M3,e,q⟩:=aM h;refine{S,U,M,E,F,?_};rw[e];have L:∃k,z=.bl k:=by
   obtain⟨d,Y,e1,e2⟩:=fc e;cases d<;>first|(cases e2;exact{_,rfl})|cases e2
  obtain⟨k,rfl⟩:=L;intro v B y R O P;obtain rfl:v=.bl k:=P;exact{k,rfl,q B y R O}
def mi (m:Bool)(a:GE):GE:=λh M=>(a h M).bind λx M=>match x with
 |.int n=>if -(2^62)≤n/\n<2^20 then bb m ((List.range n.toNat).map λ(k:Nat)=>D.int (k:Int)) M else .bad
 |_=>.bad
def xq:∀(n:Nat) (y:List PL),y.length=n->(∀(i:Nat) (v:PL),y[i]?=some v->∃t,v=.int (i:Int) t)->Vals ((List.range n).map λ(k:Nat)=>V.int (k:Int)) y:=by
 intro n y hl h;have z:∀(k:Nat) (y:List PL),(∀(i:Nat) (v:PL),y[i]?=some v->∃t,v=.int ((k+i:Nat):Int) t)->Vals ((List.range y.length).map λj=>V.int ((k+j:Nat):Int)) y:=by
  intro k y;induction y generalizing k with
  |nil=>intro _;exact .nil
  | cons v r B =>
    intro h;rw[RG,List.range_succ_eq_map,Q6,QO];refine .cons (h 0 v rfl) ?_;have:=B (k+1) λi u e=>by
     have:=h (i+1) u (by simpa using e)
     rw[show k+1+i=k+(i+1) by omega];exact this
    refine cast (congrArg (λf=>Vals ((List.range r.length).map f) r) ?_) this
    funext j
    congr 2
    omega
 have:=z 0 y λi v e=>by rw[Nat.zero_add];exact h i v e
 rw[hl] at this;simpa using this
def FT (m:Bool)(hc:X.calm=true)(ha:DE fa X a ga)(L:Gl X "list")(P:X.mg "list"=none)(hg:Gl X "range")(hm:X.mg "range"=none)(hs:starEach [a] X.env=[(false,eval a X.env)])
 (F:starEach [.Call (.Name "range" p2) [a] [] pos2] X.env=[(false,eval (.Call (.Name "range" p2) [a] [] pos2) X.env)]) :
 DE fa X (.Call (.Name "list" p1) [.Call (.Name "range" p2) [a] [] pos2] [] pos) (mi m ga):=by
 intro y s σ H Q I ⟨μ,ρ,M,hE,hM,h⟩;obtain⟨x,M1,e,q⟩:=aM h;have U:∀n,x=.int n->ae (if -(2^62)≤n/\n<2^20 then bb m ((List.range n.toNat).map λ(k:Nat)=>D.int (k:Int)) M1 else .bad) (bj fa X.K μ H Q)->
  wpAny (model X.prog X.w) X.A (eval (.Call (.Name "list" p1) [.Call (.Name "range" p2) [a] [] pos2] [] pos) X.env) (EP X y σ Q) X.xe s:=λn en J=>by
  subst en;by_cases c:-(2^62)≤n/\n<2^20
  ·rw[if_pos c] at J;refine Call_ (fT I L P (by decide +kernel:bootBuiltins "list"=some (.type "list")) (Q7 ?_ F rfl))
   rw[F];refine Calls.spliced_cons ?_;refine Call_ (fT I hg hm boot_range (Q7 (aP (cM ha eR hs pos2 y s σ H (λvs E=>∃j,vs=[.int n]/\Ext μ H j E/\RelM fa X.K j E M1) I {μ,ρ,M,hE,hM,?_}) λus s1 ⟨vs,E,I1,r1,j,ev,Y,W⟩=>?_) hs rfl))
   ·rw[e];intro v E j Y W r1;obtain rfl:v=.int n:=r1;exact⟨j,rfl,Y,W⟩
   subst ev;cases r1 with
   | cons r rr =>
     cases rr;obtain⟨t,rfl⟩:=r;refine call_range_1 ?_;refine Calls.spliced_nil ?_;refine call_list_range (n:=n.toNat) (I.ok.hd hc) (IsRange.new ..) (small_one `a `a `a `a) (by rw[rangeSize_one];split<;>omega) `a λh' tk B c' kp eS S=>?_
     obtain⟨R,O⟩:=S;have I2:Inv X y σ E {s1 with heap:=s1.heap.push {cls:=.type "range",data:=.fields #[.int 0 s1.toks,.int n t,.int 1 (s1.toks+1)]},toks:=s1.toks+1+1}:=I1.kept λb o e=>PM _ e
     have hv:=xq n.toNat B.toList (by simpa using R) λi v e=>by
      obtain⟨u,z⟩:=O i v (by simpa using e)
      exact{u,by rw[z];simp}
     have rl:aL fa X.K j E ((List.range n.toNat).map λ(k:Nat)=>D.int (k:Int)) ((List.range n.toNat).map λ(k:Nat)=>V.int (k:Int)):=by
      have:=aL.ints (fa:=fa) (K:=X.K) (μ:=j) (H:=E) ((List.range n.toNat).map λ(k:Nat)=>(k:Int));simpa[QO,R4] using this
     obtain⟨c1,k1⟩:=g7 W rl (j7 J Y);refine{.ref _,_,I2.laid (o:=.lst ((List.range n.toNat).map λ(k:Nat)=>V.int (k:Int))) kp (PV _) {?_,B.toList,c',hv,by simpa using eS},rfl,k1 _ (I2.hok.fresh (PV _))}
     rw[rl.length,<- dE];exact c1
  ·rw[if_neg c] at J;exact J.elim
 cases x with
 |int n=>exact U n rfl q
 |_=>exact q.elim
end
noncomputable def qp (bn N:List Str)(sc scope:Scope):Bool:=
 scope.names.all (λy=>(y.2 != .cell||scope.names.lookup y.1==some .cell)&&(y.2 != .local||scope.names.lookup y.1==some .local)&&(y.2 != .free||sc.names.lookup y.1==some .cell||sc.names.lookup y.1==some .free)) &&
 bn.length==N.length&&(bn.zip N).all λp=>(p.1==p.2&&(scope.names.lookup p.2 != some .local&&scope.names.lookup p.2 != some .cell))||scope.names.lookup p.1==none
noncomputable def oO {j v:Type}{R:j->v->Prop}:∀{l:List j}{r:List v},l.length=r.length->(∀p∈l.zip r,R p.1 p.2)->RO R l r
 |[],[],_,_=>.nil
 |a::l,b::r,h,g=>.cons (g (a,b) Qm) (oO (by simpa using h) λp z=>g p (Qc _ z))
 |[],_::_,h,_=>by cases h
 |_::_,[],h,_=>by cases h
def AE (hk:scope.kind=.function)(hs:X.env.scope=sc)(v:X.N=N)(h:qp bn N sc scope=true):fF X own bn scope:=by
 unfold qp at h;rw[PY,PY,Qh,Qh] at h;obtain⟨⟨h1,hl⟩,h2⟩:=h;refine{hk,λy j e=>?_,λy j e=>?_,λy j e=>?_,?_}
 ·have:=h1 y j;rw[e] at this;simpa using this
 ·have:=h1 y j;simp only[PY] at this;rw[e] at this;simpa using this
 ·have:=h1 y j;simp only[PY] at this;rw[e] at this;show X.env.scope.names.lookup y.1=_\/X.env.scope.names.lookup y.1=_;rw[hs];simpa using this
 ·rw[v];refine oO (by simpa using hl) λp z=>?_
  have:=h2 p z;simp only[RB,PY,beq_iff_eq,bne_iff_ne] at this;exact this
section
variable{fa:Fa}{X:Cx}{elt tg iter c t2 i2:Expr}{scope:Scope}{pos:Pos}{own bn:List Str}{t u:fN}{gw gw2:GW}{ge:GE}{gc:GT}
def kB {l:List Nat}(h:l.all (· < n)=true):∀i∈l,i<n:=λi j=>by
 have:=Qh.mp h i j;simpa using this
def y8 {l W:List Nat}(h:W.all (λi=>!l.contains i)=true):∀i∈W,i∉l:=λi j z=>by
 have:=Qh.mp h i j;simp[z] at this
variable{i:Nat}{y:Str}{py spos:Pos}
def FU {i:Int}(j:Gl X x)(hm:∃t,X.mg x=some (.int i t))(hd:(x==("__debug__":Str))=false):DE fa X (.Name x pos) (gC (.int i)):=let{_,h}:=hm;ID j h hd
def FW (h:∃ad j,X.mg x=some (.ref ad)/\fM X.K X.w.params ad j/\eM fa j fs)(B:Gl X x)(v:(x==("__debug__":Str))=false)(z:DE fa X b gb)(hs:i0 b):DE fa X (.Subscript (.Name x p) b pos) (kZ fs gb):=
 let{_,_,h1,h2,h3}:=h;IF h2 h3 B h1 v z hs
def FV (h:∃ad j,X.mg x=some (.ref ad)/\fM X.K X.w.params ad j/\eM fa j fs)(E:Gl X x)(v:(x==("__debug__":Str))=false)(B:DE fa X a ga)(z:behindInMarks .NotIn (.Name x p)=false):DE fa X (.Compare a [.NotIn] [.Name x p] pos) (iJ fs ga):=
 let{_,_,h1,h2,h3}:=h;IE h2 h3 E h1 v B z
def FY (h:∃ad j,X.mg x=some (.ref ad)/\fM X.K X.w.params ad j/\eM fa j fs)(E:Gl X x)(v:(x==("__debug__":Str))=false)(B:DE fa X a ga)(z:behindInMarks .NotIn (.Name x p)=false):DT fa X (.Compare a [.NotIn] [.Name x p] pos) (aj (iJ fs ga)):=
 let{_,_,h1,h2,h3}:=h;IP h2 h3 E h1 v B z
def FQ (h:di (n+4) X.A):Rm X:=by have:=h.un;show X.A.units+100<cLine;omega
end
section
variable{fa:Fa}{X:Cx}{a st:Expr}{ga:GE}{pos p2:Pos}
def IC (m:Bool)(x:D)(M:Mem):Res D:=match x with
 |.tup xs=>.ok (.tup xs.reverse) M
 | x => match eP M x with
   |some xs=>bb m xs.reverse M
   |none=>.bad
end
def mm {fa:Fa}{mg:Str->Option PL}(e:fa i=some f)(m:mg x=some (.ref f)):∀ad,fa i=some ad->mg x=some (.ref ad):=λad h=>by rw[e] at h;cases h;exact m
def us1 {j:Type}{p:List j->Prop}(h:∀a,p [a])(us:List j)(hl:us.length=1):p us:=by
 obtain⟨a,rfl⟩:=List.length_eq_one_iff.mp hl;exact h a
def us2 {j:Type}{p:List j->Prop}(h:∀a b,p [a,b]):∀(us:List j) (hl:us.length=2),p us
 |[a,b],_=>h a b
def us3 {j:Type}{p:List j->Prop}(h:∀a b c,p [a,b,c]):∀(us:List j) (hl:us.length=3),p us
 |[a,b,c],_=>h a b c
def us4 {j:Type}{p:List j->Prop}(h:∀a b c d,p [a,b,c,d]):∀(us:List j) (hl:us.length=4),p us
 |[a,b,c,d],_=>h a b c d
def zO {K:PJ}(X:K.In h)(G:h.Ns mainGlobals mg)(a:PySem.W.nsIn K mainGlobals x=some (some (.ref f))):mg x=some (.ref f):=Ri X G a
def Ac:RO (oD P) [] []:=.nil
def gu (h:RO (oD P) es kvs):RO (oD P) ({PyData.keyHash P x,.str x t,.ref a}::es) ((x,a)::kvs):=.cons ⟨t,rfl⟩ h
def DF (K:PJ):Sp:=λj H Q _=>∃(a:Addr) (ns:List Int),j=[.ref a]/\dh K H a (ns.map V.int)/\xW H/\ns.length≤63/\∀h,Q (.bl true) h
def JN {K:PJ}{ad:Addr}{st:Stmt}(h:∀f d,Pg f=some d->yc fa P w K mg base f d)
 (hl:∀ns:List Int,ns.length≤63->∃M,ag Pg (n+1) f [.frz (ns.map D.int)] []=.ok (.bl true) M) (e:Pg f=some d) (F:wA K x qual st ad fd) (S:i1 N [y] (bc st)) (hs:d.slots=N.length)
 (u:∀(call:Call) (n:Nat) (j:PL) (A:Ry) (outer:List Rg) (s:PX) (H:Hp) (E:XK),(∀f,gZ fa P w K mg base n f (call f))->di (2*n+5) (A.deeper (envOfC qual (bc st) s.heap.objs.size ad j))->
  kv fa (gp (iG P w) P w K mg base N qual (bc st) ad j A outer s H E) (c6 st) (d.body call)):lH P w K mg base (iG P w) (2*n+5+1) ad fd [y] (DF K):=by
 have eq:∀I M,ag Pg (n+1) f I M=gm (ag Pg n) d I M:=λI M=>by show(match Pg f with|none=>Res.bad|some d=>gm (ag Pg n) d I M)=_;rw[e]
 refine vW (wA.toD F) S (λU H Q E B=>?_) λj A outer s H U Q E hr B=>{_,u (ag Pg n) n j A outer s H E (ux h n) hr,?_}
 ·obtain⟨a,ns,rfl,_⟩:=B;rfl
 ·obtain⟨a,ns,rfl,R,O,hn,q⟩:=B;obtain⟨Y,J⟩:=hl ns hn;rw[eq] at J;have rp:aL fa K {λ_=>none,[],λ_=>none} H [.frz (ns.map D.int)] [.ref a]:=by
   refine{.ref a,[],rfl,{a,ns.map V.int,rfl,?_,aL.ints ns},rfl};rcases R with(z|⟨o,z⟩)|z
   ·rcases O a with y|⟨o,xs,y⟩
    ·rw[y] at z;cases z
    ·rw[y] at z;cases z
   ·exact .inl ⟨o,z⟩
   ·exact .inr z
  refine rb (μ:={λ_=>none,[],λ_=>none}) (M:=[]) hs {λk I z=>by simp at z,λ_ _=>rfl,λ_ _=>rfl,(λ_ _ _ z=>nomatch z),(λ_ _ _ z=>nomatch z),(λ_ _ z=>nomatch z),(λ_ z=>nomatch z)} rp ?_
  rw[J];intro v L X _ _ r;obtain rfl:v=.bl true:=r;exact q L
def vF {K:PJ}{ad:Addr}(X:K.In h)(G:h.Ns mainGlobals mg)(a:PySem.W.nsIn K mainGlobals x=some (some (.ref ad)))
 (l:K.lookup ad=some {cls:=.type "dict",data:=.dict es n}) (he:RO (oD P) es.toList j) (nd:(j.map (·.1)).Nodup) (ns:(ad==sysModules)=false) (dk:eM fa j fs):∃ad j,mg x=some (.ref ad)/\fM K P ad j/\eM fa j fs:=
 {ad,j,Ri X G a,{⟨es,n,l,he⟩,nd,ns},dk}
end LD
namespace LD
open PySem PySem.Spec PySem.Calls PyProof.Rows PySem.W
section
variable{prog:QF}{w:Qz}{A:Ry}{E:PL->PX->Prop}{s:PX}{K:Frag}{x C:Addr}{ox:Obj}{od:Option Obj}{name:Str}
noncomputable def Hv (K:Frag)(C:Addr):Bool:=findIn K (.ref C) "__getattribute__"==some (some (.builtin "BaseException.__getattribute__"))&&findIn K (.ref C) "__getattr__"==some none&&mroIn K C (.type "BaseException")==some true&&mroIn K C (.type "object")==some true &&
 findIn K (.ref C) "__class__"==some (some (.builtin "object.__class__"))&&specialIn K (.builtin "object.__class__") "__get__"==some (some (.builtin "getset_descriptor.__get__"))&&takesIn K (.builtin "object.__class__")==some true
end
end LD
namespace LD
open PySem PySem.Spec PyProof.Rows L2
noncomputable def bF (f:Nat)(c:Call)(s:GA):GE:=λj M=>match s j M with
 |.ok h M=>c f h M
 |_=>.bad
noncomputable def sh (k:D->Mem->Res Fl)(ρ:Env):Res D->Res Fl
 |.ok d M=>k d M
 |.err x M=>.ok (.exc x ρ) M
 |.bad=>.bad
def iA (a:GE):GS:=λh M=>sh (λ_ M=>.ok (.next h) M) h (a h M)
def c8 (t:fN)(a:GE):GS:=λh M=>sh (λx M=>(bX M (b6 t x h)).bind λj M=>.ok (.next j) M) h (a h M)
def wR (a:GE):GS:=λh M=>sh (λx M=>.ok (.ret x) M) h (a h M)
noncomputable def xu (t:GT)(a b:GE):GE:=λh M=>match t h M with
 |.ok k M=>if k then a h M else b h M
 |_=>.bad
noncomputable def dC (c:Nat)(s:GA):GS:=λh M=>match s h M with
 |.ok j M=>if j.length≤sz then .ok (.exc (.exc c none) h) M else .bad
 |_=>.bad
def Nr (fa:Fa)(X:Cx)(g:GE):TE:=λv H Q=>∃h j M,bw fa X.K h H v j/\RelM fa X.K h H M/\fq (g j M) (bj fa X.K h H Q) (λx u=>XW fa X h H x j u)
abbrev DX (fa:Fa)(X:Cx)(e:Expr)(g:GE):Prop:=PE X e (Nr fa X g)
section
variable{fa:Fa}{X:Cx}{a b:Expr}{ga gb:GE}{ta:GT}{pos p:Pos}{es:List Expr}{gs:GA}{n:Nat}
def x_call (f:Nat){call:Call}(C:∀f,gZ fa X.prog X.w X.K X.mg X.base n f (call f))(hr:di (2*n+4) X.A)(hex:X.ex=[])(hg:Gl X x)(hm:∀ad,fa f=some ad->X.mg x=some (.ref ad))(hs:DA fa X (a::es) gs)
 (hdb:(x==("__debug__":Str))=false) (he:notStar a=true) (hpl:es.all notStar=true):DX fa X (.Call (.Name x p) (a::es) [] pos) (bF f call gs):=by
 intro B s σ H Q I ⟨μ,ρ,M,hE,hM,h⟩;unfold bF at h;cases eg:gs ρ M with
 |err=>rw[eg] at h;exact h.elim
 |bad=>rw[eg] at h;exact h.elim
 | ok E R =>
   rw[eg] at h;have h:fq (call f E R) (bj fa X.K μ H Q) (λx P=>XW fa X μ H x ρ P):=h;rcases C f with hb|⟨ad,fd,ps,h1,h2,h3,h4,F,_⟩
   ·rw[hb] at h;exact h.elim
   ·have hl:E.length=ps.length:=by
     by_cases hl:E.length=ps.length
     ·exact hl
     ·rw[h4 E R hl] at h;exact h.elim
    refine wpAny_Call_Name_kw (iV I hg (hm ad h1) ?_ hdb);refine PySem.W.callWith_K I.ok.mod.kin h2 (aP (hs pos B s σ H (λU z=>∃j,Ext μ H j z/\RelM fa X.K j z R/\aL fa X.K j z E U) I {μ,ρ,M,hE,hM,by rw[eg];exact λU z j Y m1 r1=>⟨j,Y,m1,r1⟩}) λus s1 ⟨U,z,O,r,j,Y,m1,r1⟩=>{O.kIn,?_}) (bt he) (dw hpl)
    have hsp:DG fa X.K ps.length (call f) U z Q λCv dx J=>∃y P v C' c p,Cv=.ref C'/\Ext j z v J/\RelM fa X.K v J P/\y=.exc c p/\fa (fY c)=some C'/\uL J c dx p/\XW fa X μ H y ρ P:=by
     refine{by rw[r1.length];exact hl,j,R,E,m1,r1,?_}
     cases S:call f E R with
     |ok d M2=>rw[S] at h;exact bj.ext h Y
     |err y M2=>rw[S] at h;exact λC dx c p J v y' m ex hc hn=>{_,M2,v,C,c,p,rfl,y',m,ex,hc,hn,h}
     |bad=>rw[S] at h;exact h.elim
    have hl2:us.length=ps.length:=by rw[<- r.length,r1.length];exact hl
    have hb:=h3 s1 us O.kIn (by simpa using hl2)
    rw[Qy] at hb;refine wpAny_call (codeAny_mono (F.run X.A X.stack s1 z {us,[]} us U Q _ hr O.env0 hb r hsp) λr' s' L=>?_);cases r' with
    | error e =>
      unfold CR at L;obtain⟨a',C',dx,J,rfl,I',fl,y,P,v,C2,c,p,S,ye,m',ey,hc,hn,hw⟩:=qV O hex L;cases S;exact hw B σ J v s' a' C' dx c p I' (Y.trans ye) ((hE.ext Y).ext ye) m' ey hc hn fl
    | ok fl =>
      cases fl with
      |ret u=>exact O.after L
      |next=>exact False.elim L
      |brk=>exact False.elim L
      |cont=>exact False.elim L
def E1 (f:Nat){call:Call}(C:∀f,gZ fa X.prog X.w X.K X.mg X.base n f (call f))(hr:di (2*n+4) X.A)(hex:X.ex=[])(hg:Gl X x)(hm:∀ad,fa f=some ad->X.mg x=some (.ref ad))(hdf:(fa (500+f)).isSome=true)(hs:DE fa X a ga)
 (hdb:(x==("__debug__":Str))=false) (he:notStar a=true):DX fa X (.Call (.Name x p) [a] [] pos) (bF f call (cm ga (cm (gC .non) bT))):=by
 intro E s σ H Q I ⟨μ,ρ,M,hE,hM,h⟩;unfold bF at h;cases eg:ga ρ M with
 |err=>unfold cm at h;rw[eg] at h;exact h.elim
 |bad=>unfold cm at h;rw[eg] at h;exact h.elim
 | ok L S =>
   unfold cm at h;rw[eg] at h;have h:fq (call f [L,.non] S) (bj fa X.K μ H Q) (λx R=>XW fa X μ H x ρ R):=h;rcases C f with hb|⟨ad,fd,ps,h1,h2,h3,h4,F,hbd⟩
   ·rw[hb] at h;exact h.elim
   ·have hl:2=ps.length:=by
     by_cases hl:2=ps.length
     ·exact hl
     ·rw[h4 [L,.non] S hl] at h;exact h.elim
    refine wpAny_Call_Name_kw (iV I hg (hm ad h1) ?_ hdb);refine PySem.W.callWith_K I.ok.mod.kin h2 (aP (cM hs eR (bt he) pos E s σ H (λvs B=>∃v j,vs=[v]/\Ext μ H j B/\RelM fa X.K j B S/\Rep fa X.K j B L v) I {μ,ρ,M,hE,hM,by rw[eg];exact λv B j x1 m1 r1=>⟨v,j,rfl,x1,m1,r1⟩}) λus s1 ⟨vs,B,P,r,v0,j,ev,x1,m1,r0⟩=>{P.kIn,?_}) (bt he) (dw rfl)
    subst ev;have r1:aL fa X.K j B [L,.non] [v0,.non]:={v0,[.non],rfl,r0,.non,[],rfl,rfl,rfl};have hsp:DG fa X.K ps.length (call f) [v0,.non] B Q λCv dx J=>∃y R z C' c p,Cv=.ref C'/\Ext j B z J/\RelM fa X.K z J R/\y=.exc c p/\fa (fY c)=some C'/\uL J c dx p/\XW fa X μ H y ρ R:=by
     refine{hl,j,S,[L,.non],m1,r1,?_};cases U:call f [L,.non] S with
     |ok d M2=>rw[U] at h;exact bj.ext h x1
     |err y M2=>rw[U] at h;exact λC dx c p J z y' m ex hc hn=>{_,M2,z,C,c,p,rfl,y',m,ex,hc,hn,h}
     |bad=>rw[U] at h;exact h.elim
    have Y:=r.length.symm;have hb:=hbd hdf s1 us P.kIn (by rw[Qe,Y];exact hl)
    obtain⟨u0,rfl⟩:∃u0,us=[u0]:=List.length_eq_one_iff.mp Y;have r2:Vals [v0,.non] [u0,.none]:=by cases r with|cons a _=>exact .cons a (.cons rfl .nil)
    refine wpAny_call (codeAny_mono (F.run X.A X.stack s1 B {[u0],[]} [u0,.none] [v0,.non] Q _ hr P.env0 hb r2 hsp) λr' s' O=>?_);cases r' with
    | error e =>
      unfold CR at O;obtain⟨a',C',dx,J,rfl,I',fl,y,R,z,C2,c,p,U,ye,m',ey,hc,hn,hw⟩:=qV P hex O;cases U;exact hw E σ J z s' a' C' dx c p I' (x1.trans ye) ((hE.ext x1).ext ye) m' ey hc hn fl
    | ok fl =>
      cases fl with
      |ret u=>exact P.after O
      |next=>exact False.elim O
      |brk=>exact False.elim O
      |cont=>exact False.elim O
def Ly (S:DT fa X c ta)(P:DX fa X a ga)(R:DX fa X b gb):DX fa X (.IfExp c a b pos) (xu ta ga gb):=
 bL (tj S P R) λW H Q ⟨B,j,M,F,O,h⟩=>by
  unfold xu at h;cases u:ta j M with
  |err=>rw[u] at h;exact h.elim
  |bad=>rw[u] at h;exact h.elim
  | ok k v =>
    rw[u] at h;refine{B,j,M,F,O,?_};rw[u];intro I E z U;have go:∀g:GE,fq (g j v) (bj fa X.K B H Q) (λx J=>XW fa X B H x j J)->Nr fa X g W I Q:=λg q=>by
     refine{E,j,v,F.ext z,U,?_};cases e:g j v with
     |ok d L=>rw[e] at q;exact bj.ext q z
     |err y L=>rw[e] at q;exact XW.ext q z
     |bad=>rw[e] at q;exact q
    cases k with
    |true=>exact go ga h
    |false=>exact go gb h
def LN (I:DX fa X a ga)(hs:swapsWith a none pos.line X.env=pure false):DS fa X (.Expr a pos) (iA ga):=
 da (mQ I hs) λP O H ⟨L,z,M,u,F,h⟩=>{L,z,M,u,F,by
  unfold iA at h;cases e:ga z M with
  |ok d E=>rw[e] at h;exact λv B j y J r1=>h O B j y (u.ext y) J
  |err x E=>rw[e] at h;exact h
  |bad=>rw[e] at h;exact h.elim}
def Ip (R:DX fa X a ga)(S:PG X tg (gT fa X.K t))(hs:swapsWithSole [tg] a pos.line X.env=pure false)(U:swappedStores [tg] a X.env=pure none)(h1:(assignEach [tg] X.env).map (·.2)=[assign tg X.env]) :
 DS fa X (.Assign [tg] a pos) (c8 t ga):=
 da (lV R S hs U h1) λD σ H ⟨W,y,M,I,Q,h⟩=>{W,y,M,I,Q,by
  unfold c8 at h;cases e:ga y M with
  | ok d P =>
    rw[e] at h;obtain⟨E,M2,u,q⟩:=aM h;cases z:b6 t d y with
    |none=>rw[z] at u;cases u
    | some Y =>
      rw[z] at u;cases u;exact λv O j L J r1=>{j,y,_,d,E,I.ext L,J,r1,z,λF B=>q F O j L B J}
  |err x P=>rw[e] at h;exact h
  |bad=>rw[e] at h;exact h.elim}
def Im (z:DX fa X a ga):DS fa X (.Return (some a) pos) (wR ga):=
 da (zo z) λE F H ⟨B,j,M,v,y,h⟩=>{B,j,M,v,y,by
  unfold wR at h;cases e:ga j M with
  |ok d u=>rw[e] at h;exact h
  |err x u=>rw[e] at h;exact h
  |bad=>rw[e] at h;exact h.elim}
end
noncomputable abbrev AJ:List PL:=[.type "ValueError",.type "Exception",.type "BaseException",.type "object"]
noncomputable def Ik (K:PJ)(C:Addr)(f:ClassData->Addr->List PL->String->Bool):Bool:=match K.lookup C with
 | some {.type "type", _, .cls h, sl} => (match h.mro, sl.toList with
   |.ref j::bm,[_,_,_,_,some (.builtin n),_]=>f h j bm n
   |_,_=>false)
 |_=>false
set_option tactic.hygienic true in
def Ij {K:PJ}(X:K.In h)(q:Ik K C f=true) :
 ∃u N nm q bs hdct sn sub ab col dd k0 k1 k2 k3 k5 dl n j,f {nm,bs,.ref j::u,N,q,hdct,sn,sub,ab,col,dl} j u n=true/\h.get? C=some {.type "type",dd,.cls {nm,bs,.ref j::u,N,q,hdct,sn,sub,ab,col,dl},#[k0,k1,k2,k3,some (.builtin n),k5]}:=by
 unfold Ik at q;split at q
 ·rename_i dd y sl ho;split at q
  ·rename_i j u k0 k1 k2 k3 n k5 hm hs;obtain⟨nm,bs,B,ns,qn,hd,sn,sub,ab,col,z⟩:=y;subst hm;have v:sl=#[k0,k1,k2,k3,some (.builtin n),k5]:=by
    obtain⟨l⟩:=sl;simp only at hs;rw[hs]
   subst v;exact{_,_,_,_,_,_,_,_,_,_,_,_,_,_,_,_,_,_,_,q,X _ _ ho}
  ·cases q
 ·cases q
def CC {K:PJ}(X:K.In h)(q:PySem.W.excIn K C bmB newId=true) :
 ∃j N nm q bs hdct sn sub ab col dd k0 k1 k2 k3 k5 v,h.get? C=some (excClassObj nm q C N bs j hdct sn sub ab col dd k0 k1 k2 k3 k5 newId)/\h.Ns N v/\v "__init__"=none/\OwnTail h bmB j:=by
 obtain⟨j,ns,nm,qn,bs,hd,sn,sub,ab,col,dd,k0,k1,k2,k3,k5,dl,n,z,q,ho⟩:=Ij X q;simp only[PY,beq_iff_eq,Bool.not_eq_true'] at q;obtain⟨⟨⟨⟨⟨rfl,rfl⟩,rfl⟩,y⟩,hok⟩,u⟩:=q;exact{j,ns,nm,qn,bs,hd,sn,sub,ab,col,dd,k0,k1,k2,k3,k5,_,ho,.of_isNs (PySem.W.isNs_of_in X hok),PySem.W.nsMap_none_of_in X hok u,PySem.W.tail_of_in X y}
def zD (x:ff P w H h a o):∃ob,h.get? a=some ob:=by
 cases o with
 |lst xs=>obtain⟨_,_,_,_,e⟩:=x;exact{_,e}
 |tup xs=>obtain⟨_,_,_,ob,e,_⟩:=x;exact{_,e}
 |dK j=>obtain⟨_,_,_,_,o,_,_,e,_⟩:=x;exact{_,e}
 |dT j=>obtain⟨_,_,_,_,o,_,_,e,_⟩:=x;exact{_,e}
 |set S n=>obtain⟨o,_,_,_,e,_⟩:=x;exact{_,e}
 |ins C v fs=>obtain⟨_,_,_,e,_⟩:=x;exact{_,e}
 |own y=>exact x
 |xd fs=>obtain⟨_,⟨_,_,_,e,_⟩,_⟩:=x;exact{_,e}
 |rng lo z=>obtain⟨_,_,_,e⟩:=x;exact{_,e}
 |frz ob u=>obtain⟨e,_⟩:=x;exact{_,e}
 |tbl ps=>exact{_,x}
 |met f y=>exact{_,x}
 |ext B=>obtain⟨_,e,_⟩:=x;exact e
 |dn es=>obtain⟨_,_,o,e,_⟩:=x;exact⟨o,e⟩
def t4 (I:Inv X pins σ H s)(h:X.ex=[])(hn:s.heap.get? e=none):xX X e/\H e=none:=by
 refine{{?_,λp v z=>?_},?_}
 ·cases q:X.s₀.heap.get? e with
  |none=>rfl
  | some o =>
    obtain⟨y,j⟩:=I.base.there e o q (by rw[h];simp)
    rw[hn] at j;cases j
 ·have:=(I.pin p (QT _ v)).1;rw[z,hn] at this;cases this
 ·cases q:H e with
  |none=>rfl
  | some u =>
    obtain⟨ob,z⟩:=zD (I.hok e u q);rw[hn] at z;cases z
section
variable{fa:Fa}{X:Cx}{a b:Expr}{ga gb:GE}{ta:GT}{pos p:Pos}{es:List Expr}{gs:GA}{n:Nat}
set_option tactic.hygienic true in
def FO (c:Nat){x:Str}(hx:∃C,X.mg x=some (.ref C)/\fa (fY c)=some C/\PySem.W.excIn X.K C AJ "ValueError.__new__"=true)(L:X.ex=[])(hg:Gl X x)(hc:X.calm=true)(hs:DA fa X (a::es) gs)
 (J:(x==("__debug__":Str))=false) (he:notStar a=true) (S:es.all notStar=true):DS fa X (.Raise (some (.Call (.Name x np) (a::es) [] cpos)) none pos) (dC c gs):=by
 intro u s σ H D' I ⟨μ,ρ,M,hE,hM,h⟩;obtain⟨C,Q,O,P⟩:=hx;obtain⟨bm,N,nm,q,bs,hdct,sn,sub,ab,col,dd,k0,k1,k2,k3,k5,mN,hC,hN,R,T⟩:=CC I.ok.mod.kin P;unfold dC at h;cases z:gs ρ M with
 |err=>rw[z] at h;exact h.elim
 |bad=>rw[z] at h;exact h.elim
 | ok ds M1 =>
   rw[z] at h;dsimp only at h;split at h
   ·next hz=>
    refine wpAny_Raise_call_subT (nm:=nm) (q:=q) (N:=N) (bs:=bs) (hdct:=hdct) (sn:=sn) (sub:=sub) (ab:=ab) (col:=col) (dd:=dd) (k0:=k0) (k1:=k1) (k2:=k2) (k3:=k3) (k5:=k5) PySem.F.excBase_ValueError (T.hasType `k) (I.ok.hd hc) (dw (by simp[he,S])) R (iV I hg Q {rfl,?_} J)
    have ar:=aP (hs cpos u s σ H (λvs v=>∃j,Ext μ H j v/\RelM fa X.K j v M1/\aL fa X.K j v ds vs) I {μ,ρ,M,hE,hM,by rw[z];exact λvs v j E U r1=>⟨j,E,U,r1⟩}) (Q':=λY s2=>([]:List (Str×PL))=[]/\Y.length≤sizeLine/\s2.heap.get? C=some (excClassObj nm q C N bs bm hdct sn sub ab col dd k0 k1 k2 k3 k5 "ValueError.__new__")/\s2.heap.Ns N mN/\OwnTail s2.heap AJ bm/\∀B e,Heap.MadeExcOf s2.heap B e (.ref C) Y->X.xe (.ref e) {s2 with heap:=B}) λY s1 ⟨vs,v,y,r,j,E,U,r1⟩=>by
     refine{rfl,?_,y.bk _ _ hC,hN.keeps y.bk,T.keeps y.bk,λB e hm=>?_}
     ·rw[<- r.length,r1.length,<- dE];exact hz
     ·obtain⟨t,ht,_,_⟩:=hm.there;obtain⟨n1,n2⟩:=t4 y L hm.new;exact h u σ v j {s1 with heap:=B} e C none c none (y.kept hm.keeps) E (hE.ext E) U rfl O rfl {n1,n2,_,_,ht,rfl,rfl,rfl,.inl rfl}
    rw[bt he] at ar ⊢;exact PySem.Calls.evalArgs_plain ar
   ·exact h.elim
end
structure Lh (fa:Fa) (K:PJ):Prop where
 g:∀c C,fa (fY c)=some C->Hv K C=true/\PySem.W.mroIn K C (.type "ValueError")=some true/\PySem.W.isIn K (.ref C) C=true
 d:∀c C D,fa (fY c)=some C->fa 999=some D->PySem.W.isIn K (.ref C) D=true/\PySem.W.mroIn K C (.ref D)=some true/\PySem.W.mroIn K D (.type "BaseException")=some true/\PySem.W.typeIn K (.ref D)=some (.type "type")
 n:∀c C c' C',fa (fY c)=some C->fa (fY c')=some C'->c'≠c->PySem.W.kin_not K C C'=true
def xw (f:mJ New C dx a s.heap H)(h:Q () s):wpAny M A (setFlight (.ref a) none) Q E s:=by
 obtain⟨_,_,o,B,h1,_,_,h4,z⟩:=f;rcases z with t|⟨T,y,ts,t1,_,_,_,j,u,v⟩
 ·refine tqa (tqf h1 h4 t ?_);rw[if_neg `d]
  exact tqb h
 ·refine tqa (tqf h1 h4 t1 ?_);rw[if_pos `s]
  refine wpAny_setField j u (Ro.mp v).1 ?_;have e:=Heap.update_setField_same s.heap T y ts 3 .none j u v;show Q () {s with heap:=s.heap.update T (Obj.mapFields (·.setIfInBounds 3 .none))}
  rw[e];exact h
section
variable{X:Cx}{pins:List (Addr×Obj)}{σ:L2.St}{H:Hp}{s:PX}
noncomputable abbrev rX (X:Cx)(pn:List (Addr×Obj))(E:PL->PX->Prop):Cx:={X with pn:=pn,xe:=E}
noncomputable abbrev rY (X:Cx)(v:PL)(E:PL->PX->Prop):Cx:={X with A:=X.A.mark (some v),calm:=false,xe:=E}
def Ah (I:Inv X pins σ H s)(E:PL->PX->Prop):Inv (rX X (X.pn++pins) E) [] σ H s:=
 {⟨I.ok.mod,I.ok.kind,I.ok.glob,I.ok.blt,I.ok.above,I.ok.inj,I.ok.has,I.ok.cab,I.ok.hd,I.ok.frames,I.ok.stk,I.ok.exf,I.ok.bs,I.ok.bsz,I.ok.noex,I.ok.exfs,I.ok.funs,I.ok.frf⟩,I.os,I.bare,I.base,I.loc,I.cell,I.free,I.freeC,λp hp=>I.pin p (by simpa using hp),I.hok,I.len}
def ik (I:Inv (rX X (X.pn++pins) E) pins' σ H s):Inv X pins σ H s:=
 {⟨I.ok.mod,I.ok.kind,I.ok.glob,I.ok.blt,I.ok.above,I.ok.inj,I.ok.has,I.ok.cab,I.ok.hd,I.ok.frames,I.ok.stk,I.ok.exf,I.ok.bs,I.ok.bsz,I.ok.noex,I.ok.exfs,I.ok.funs,I.ok.frf⟩,I.os,I.bare,I.base,I.loc,I.cell,I.free,I.freeC,λp hp=>I.pin p (QT _ hp),I.hok,I.len}
def qU (I:Inv X pins σ H s)(v:PL)(E:PL->PX->Prop):Inv (rY X v E) pins σ H s:=
 {{I.ok.mod,I.ok.kind,I.ok.glob,I.ok.blt,I.ok.above,I.ok.inj,I.ok.has,I.ok.cab,(λz=>nomatch z),I.ok.frames,I.ok.stk,I.ok.exf,I.ok.bs,I.ok.bsz,I.ok.noex,I.ok.exfs,I.ok.funs,I.ok.frf},I.os,I.bare,I.base,I.loc,I.cell,I.free,I.freeC,I.pin,I.hok,I.len}
def jE (hh:X.calm=true->X.A.handled=none)(I:Inv (rY X v E) pins σ H s):Inv X pins σ H s:=
 {⟨I.ok.mod,I.ok.kind,I.ok.glob,I.ok.blt,I.ok.above,I.ok.inj,I.ok.has,I.ok.cab,hh,I.ok.frames,I.ok.stk,I.ok.exf,I.ok.bs,I.ok.bsz,I.ok.noex,I.ok.exfs,I.ok.funs,I.ok.frf⟩,I.os,I.bare,I.base,I.loc,I.cell,I.free,I.freeC,I.pin,I.hok,I.len}
end
noncomputable def Hx (K:PJ)(cl:List (Nat×Addr))(D:Addr):Bool:=PySem.W.mroIn K D (.type "BaseException")==some true&&PySem.W.typeIn K (.ref D)==some (.type "type") &&
 cl.all λq=>Hv K q.2&&PySem.W.mroIn K q.2 (.type "ValueError")==some true&&PySem.W.isIn K (.ref q.2) q.2&&PySem.W.isIn K (.ref q.2) D&&PySem.W.mroIn K q.2 (.ref D)==some true&&cl.all λr=>r.1==q.1||PySem.W.kin_not K q.2 r.2
noncomputable def ua (l cl:List (Nat×Addr))(D:Addr):Fa:=λi=>if i<999 then l.lookup i else if i=999 then some D else cl.lookup (i-1000)
set_option tactic.hygienic true in
noncomputable def lookup_mem:∀{l:List (Nat×Addr)}{c:Nat}{C:Addr},l.lookup c=some C->(c,C)∈l
 |[],_,_,h=>by cases h
 | (a, b) :: r, c, C, h => by
   rw[QU] at h;split at h
   ·next e=>cases h;rw[eq_of_beq e];exact Qm
   ·exact Qc _ (lookup_mem h)
def km {D:Addr}(h:ua l cl D (fY c)=some C):(c,C)∈cl:=by
 unfold ua fY at h;rw[if_neg `a,if_neg `a,QE] at h
 exact lookup_mem h
def Hw {K:PJ}{D:Addr}(h:Hx K cl D=true):Lh (ua l cl D) K:=by
 unfold Hx at h;simp only[PY,beq_iff_eq,Qh,RB] at h;obtain⟨⟨h1,h2⟩,h3⟩:=h;refine{λc C e=>?_,λc C v e j=>?_,λc C y u e j n=>?_}
 ·obtain⟨⟨⟨⟨⟨a1,a2⟩,a3⟩,a4⟩,a5⟩,a6⟩:=h3 _ (km e);exact⟨a1,a2,a3⟩
 ·obtain⟨⟨⟨⟨⟨a1,a2⟩,a3⟩,a4⟩,a5⟩,a6⟩:=h3 _ (km e);cases j;exact⟨a4,a5,h1,h2⟩
 ·obtain⟨⟨⟨⟨⟨a1,a2⟩,a3⟩,a4⟩,a5⟩,a6⟩:=h3 _ (km e);exact(a6 _ (km j)).elim (λz=>absurd z n) id
def fit (z:Str)(i:Int)(y:Str):Prop:=i.natAbs.log2<1920/\(z++(toString i:Str)).length≤sizeLine/\(z++(toString i:Str)++y).length≤sizeLine
section
variable{X:Cx}{a:Expr}{ta:TE}{pos p1 p2 p3:Pos}{j j2:Nat}{z y:Str}
def tF3 (z y:Str)(ta:TE):TE:=λB H Q=>z.length≤sizeLine/\ta B H λv u=>∃i,v=.int i/\fit z i y/\Q (.str (z++(toString i:Str)++y)) u
def AQ (z:Str):Str.empty++z=z:=by
 cases z with
 |mk c=>show Str.mk (#[]++c)=_;simp
def LY (P:PE X a ta):PE X (.JoinedStr [.Constant (.str z) j p1,.FormattedValue a (-1) none p2,.Constant (.str y) j2 p3] pos) (tF3 z y ta):=by
 intro B s S H Q I ⟨R,h⟩;refine JoinedStr_many (joinParts_cons (Calls.Constant_str ?_));show(Str.empty++z).length≤sizeLine/\_;rw[AQ];refine{R,joinParts_cons (FormattedValue_plain (aP (P B _ S H _ (I.tok _) h) λu s1 ⟨v,J,L,r1,i,M,⟨f1,O,F⟩,q⟩=>?_))};subst M;obtain⟨t,rfl⟩:=r1;refine formatField_int_small f1 {O,joinParts_cons (Calls.Constant_str {F,joinParts_nil ?_ F})};exact{.str _,J,L.tok _,{_,rfl},q}
end
def Li (C:Addr)(v:Option Addr)(a:Addr)(h:Heap):Prop:=∃o u B,h.get? a=some o/\o.cls=.ref C/\o.dict=v/\o.data=.fields u/\u[0]?=some (.ref B)/\u[1]?=some .none
def Kb (K:PJ)(C:Addr)(fI:Addr):Bool:=Ik K C λcd C' bm n=>C'==C&&n=="ValueError.__new__"&&!cd.hasDel&&PySem.W.tailIn K AJ bm&&PySem.W.nsOkIn K cd.ns&&PySem.W.nsIn K cd.ns "__init__"==some (some (.ref fI))
def spI (C:Addr)(fld:Str):Sp:=λh H Q _=>∃e i,h=[.ref e,.int i]/\H e=some (.ext (Li C none e))/\i.natAbs<2^64/\∀d,H d=none->d≠e->Q .non (upd (upd H d (.xd [(fld,.int i)])) e (.ext (Li C (some d) e)))
def len_app (a b:Str):(a++b).length=a.length+b.length:=by
 show(Str.append a b).length=_;unfold Str.append Str.length;simp
def J6 {i:Int}(hz:z.length≤1000)(u:y.length≤1000)(hi:i.natAbs<2^64):fit z i y:=by
 have h1:i.natAbs.log2<1920:=by
  by_cases h:i.natAbs=0
  ·rw[h];decide
  ·exact Qg ((Nat.log2_lt h).mpr hi) `a
 have h2:=PyProof.Rows.int_text_len_1921 h1;have hs:sizeLine=16777216:=dE.symm;refine{h1,?_,?_}
 ·rw[len_app];omega
 ·rw[len_app,len_app];omega
def AY (fa:Fa)(P:QF)(w:Qz)(K:PJ)(mg:Str->Option PL)(base:Heap)(c:Nat)(x:Str):Prop:=
 ∃C h j y u,mg x=some (.ref C)/\fa (fY c)=some C/\Kb K C h=true/\PySem.W.keepIn K (.ref C)=true/\K.lookup h=some u/\u.cls=.type "function"/\Binds K j ["self",y] []/\lH P w K mg base (iG P w) 1 h j ["self",y] (spI C (A5 c))
section
variable{fa:Fa}{X:Cx}{a b:Expr}{ga gb:GE}{ta:GT}{pos p np cpos:Pos}{es:List Expr}{gs:GA}{n:Nat}{x:Str}
def EK (fa:Fa)(K:PJ)(f:Str):Prop:=∀c C,fa (fY c)=some C->A5 c=f->PySem.W.hasDictIn K C=true/\PySem.W.findIn K (.ref C) f=some none
end
def inC (s:Stmt):Stmt:=match s with
 |.ClassDef _ _ _ (b::_) _ _ _ _ _ _ _=>b
 |_=>s
def nB (z y:Str)(a:GE):GE:=λh M=>(a h M).bind λd M=>match d with
 |.int i=>if z.length≤1000/\y.length≤1000/\i.natAbs<2^64 then .ok (.str (z++(toString i:Str)++y)) M else .bad
 |_=>.bad
set_option tactic.hygienic true in
def Og (O:DE fa X a ga):DE fa X (.JoinedStr [.Constant (.str z) j p1,.FormattedValue a (-1) none p2,.Constant (.str y) j2 p3] pos) (nB z y ga):=
 bL (LY O) λW H Q ⟨B,U,M,J,L,h⟩=>by
  obtain⟨R,F,I,h1⟩:=aM h;cases R with
  | int i =>
    have h1:ae (if z.length≤1000/\y.length≤1000/\i.natAbs<2^64 then .ok (.str (z++(toString i:Str)++y)) F else .bad) (bj fa X.K B H Q):=h1;split at h1
    ·next hm=>
     refine{Qf hm.1 (by rw[<- dE];decide),B,U,M,J,L,?_}
     rw[I];intro v E u S P r1;obtain rfl:v=.int i:=r1;exact{i,rfl,J6 hm.1 hm.2.1 hm.2.2,h1 (.str _) E u S P rfl}
    ·exact h1.elim
  |_=>exact h1.elim
def lN (k1 k2:Nat)(h:GS):Fl->Mem->Res Fl
 | .exc x j, M => match x with
   |.exc c _=>if c=k1\/c=k2 then(h j M).bind λfl M=>match fl with|.exc _ _=>.bad|fl=>.ok fl M else .bad
   |_=>.bad
 |fl,M=>.ok fl M
def lS (b:GS)(k1 k2:Nat)(h:GS):GS:=λj M=>(b j M).bind (lN k1 k2 h)
def wx (fa:Fa)(K:PJ)(mg:Str->Option PL)(x1 x2:Str)(k1 k2:Nat):Prop:=∃h j,mg x1=some (.ref h)/\mg x2=some (.ref j)/\∀c C,c=k1\/c=k2->fa (fY c)=some C->PySem.W.exmAny K (.ref C) [.ref h,.ref j]=some true
noncomputable def NY (K:PJ)(cl:List (Nat×Addr))(h j:Addr)(k1 k2:Nat):Bool:=cl.all λq=>!(q.1==k1||q.1==k2)||PySem.W.exmAny K (.ref q.2) [.ref h,.ref j]==some true
def HU {K:PJ}{D j u:Addr}(y:mg x1=some (.ref j))(B:mg x2=some (.ref u))(h:NY K cl j u k1 k2=true):wx (ua l cl D) K mg x1 x2 k1 k2:=by
 refine{j,u,y,B,λc C v e=>?_};have:=Qh.mp h _ (km e);rw[RB] at this;rcases this with z|z
 ·have e1:(c==k1||c==k2)=true:=by simpa using v
  rw[e1] at z;cases z
 ·exact eq_of_beq z
def OW (M:Mem)(o:Nat)(nm:Str):Option D:=if 5000≤o then(match M[o-5000]? with
 |some (.int c::es)=>((ja c.toNat).findIdx? (·==nm)).bind λi=>es[i]?
 |_=>none) else none
def eZ (nm:Str)(a:GE):GE:=λh M=>(a h M).bind λx M=>match x with
 |.fn o=>bX M (OW M o nm)
 |_=>.bad
def Ln (fa:Fa)(K:PJ):Prop:=∀c C,fa (jx c)=some C->ja c≠[]->wC K C/\∀f∈ja c,Lo K C f
def OV (M:Mem)(o:Nat)(nm:Str)(z:D):Option Mem:=if 5000≤o then(match M[o-5000]? with
 |some (.int c::es)=>((ja c.toNat).findIdx? (·==nm)).bind λi=>if i<es.length then some (M.set (o-5000) (.int c::es.set i z)) else if i=es.length then some (M.set (o-5000) (.int c::(es++[z]))) else none
 |_=>none) else none
def rP (nm:Str)(a v:GE):GS:=λh M=>(v h M).bind λz M=>(a h M).bind λx M=>match x with
 | .fn o => (match OV M o nm z with
   |some j=>.ok (.next h) j
   |none=>.bad)
 |_=>.bad
def pH (fa:Fa)(K:PJ)(m:Str)(c f:Nat):Prop:=∃C,fa (jx c)=some C/\wC K C/\(∀ad,fa f=some ad->Meth K C m ad)/\m∉ja c/\ja c≠[]
def Jr (M:Mem)(o:Nat):Option Nat:=if 5000≤o then(match M[o-5000]? with
 |some (.int c::_)=>some c.toNat
 |_=>none) else none
def h9 (c f:Nat)(call:Call)(a:GE)(s:GA):GE:=λh M=>(a h M).bind λx M=>match x with
 |.fn o=>if Jr M o=some c then(s h M).bind λj M=>call f (.fn o::j) M else .bad
 |_=>.bad
noncomputable def mV (μ:Mu)(k:Nat)(p:Addr):Mu:={μ.pub,μ.priv,λj=>if j=aI k then some p else μ.ob j}
section
variable{fa:Fa}{K:PJ}{μ:Mu}{H:Hp}{M:Mem}
def RelM.ob_ins (h:RelM fa K μ H M)(e:μ.ob (aI k)=some a):∃o,H a=some o:=by
 by_cases hk:k<M.length
 ·rcases h.at' k M[k] (by simp[hk]) with⟨b,j,h1,_⟩|⟨b,h1,h2,h3⟩
  ·rw[h.sep _ _ h1] at e;cases e
  ·rw[e] at h1;cases h1;exact let{o,z,_}:=h3.hold;⟨o,z⟩
 ·rw[h.oout k (Nat.le_of_not_lt hk)] at e;cases e
end
def OU (a:GE):GE:=λj M=>(a j M).bind λx M=>match x with
 | .cell k => match M[k]? with
   | some h => match h[h.length - 1]? with
     |some y=>.ok y (M.set k h.dropLast)
     |none=>.bad
   |none=>.bad
 |_=>.bad
end LD
namespace LD
open PySem
section
variable{prog:QF}{w:Qz}{A:Ry}{E:PL->PX->Prop}{s:PX}
abbrev TK (prog:QF)(w:Qz)(h:Heap)(ks:List Int)(a:Addr):Prop:=IsTupleKey (intKind prog w) h ks a
inductive iw (prog:QF) (w:Qz) (h:Heap):List (List Int)->List PL->Prop
 |nil:iw prog w h [] []
 |cons {ks:List Int}{a:Addr}{kss:List (List Int)}{vs:List PL}:TK prog w h ks a->iw prog w h kss vs->iw prog w h (ks::kss) (.ref a::vs)
def NK (prog:QF)(w:Qz)(h:Heap)(j:List (List Int))(a:Addr):Prop:=∃o items n,h.get? a=some o/\o.cls=.type "tuple"/\o.data=.seq items n/\iw prog w h j items.toList
noncomputable def iw.inj:∀{x y:List (List Int)}{vs:List PL},iw prog w h x vs->iw prog w h y vs->x=y
 |_,_,_,.nil,.nil=>rfl
 |_,_,_,.cons a r,.cons b t=>by rw[a.inj b,iw.inj r t]
def NK.typeIs (x:NK prog w s.heap kss a):s.TypeIs (.ref a) "tuple":=let{o,_,_,ho,h,_}:=x;⟨o,ho,h⟩
def NK.inj (z:NK prog w h x a)(B:NK prog w h y a):x=y:=by
 obtain⟨o,i,n,h1,_,h2,h3⟩:=z;obtain⟨I,F,H,j,_,u,v⟩:=B;rw[h1] at j;cases j;rw[h2] at u;cases u;exact h3.inj v
noncomputable def iw.keeps (ho:h.get? d=some o)(hd:o.data=.dict es ep)(hs:Rz d h h'):∀{j:List (List Int)}{vs:List PL},iw prog w h j vs->iw prog w h' j vs
 |_,_,.nil=>.nil
 |_,_,.cons a r=>.cons (a.keeps ho hd hs) (iw.keeps ho hd hs r)
def NK.keeps (x:NK prog w h kss a)(ho:h.get? d=some o)(hd:o.data=.dict es ep)(hs:Rz d h h'):NK prog w h' kss a:=by
 obtain⟨u,i,n,h1,h2,h3,h4⟩:=x;refine{u,i,n,(hs.2 a λz=>?_).trans h1,h2,h3,h4.keeps ho hd hs};rw[z,ho] at h1;cases h1;rw[hd] at h3;cases h3
noncomputable def tJ (prog:QF)(w:Qz)(h:List (List Int)):Int:=reduceHash (Builtin.Tuple.tupleHashOf (h.map (tupleKeyHash (intKind prog w))))
noncomputable def mU (h:List (List Int)):Nat:=(h.map λks=>ks.length+1).sum+1
def Gj (J:A.units+2<cLine)(hk:NK prog w s.heap kss a)(h:Q (tJ prog w kss) {s with toks:=s.toks+mU kss}):wpAny (model prog w) A (pyHash (.ref a)) Q E s:=by
 have y:=hk.typeIs;obtain⟨o,items,n,ho,_,hd,H⟩:=hk;first|unfold pyHashByItsType|skip
 first|refine tqa (wpAny_cRoomFor_or (.inr `a) ?_)|skip
 refine tqa (wpAny_specialOf y F.slot_tuple_hash.lookup ?_);rw[if_neg (by rw[beq_builtin_none];exact Qr)]
 refine tqa (wpAny_specialOf y F.slot_tuple_hash.lookup ?_);refine tqa (wpAny_callSpecialIfBoundUnlessNone?_slot y F.slot_tuple_hash (wpAny_call_entry F.slot_tuple_hash y F.entry_tuple_hash ?_ (F.args_tuple_hash_1 _)));show wpAny _ _ (Builtin.Tuple.tupleItemsOf (.ref a) >>= _) _ _ s;refine tqa (wpAny_tupleItemsOf ho hd ?_);refine tqa ?_;rw[<- Array.forIn_toList];refine wpAny_forIn_list _ (λrest (b:Array Int) B=>∃done left,kss=done++left/\iw prog w s.heap left rest/\b.toList=done.map (tupleKeyHash (intKind prog w))/\B={s with toks:=s.toks+(done.map λks=>ks.length+1).sum}) _ ?_ ?_ _ _ {[],kss,rfl,H,rfl,rfl}
 ·rintro x rest b B ⟨done,left,rfl,hl,z,rfl⟩;cases hl with
  | @cons k c u _ h1 j =>
    refine tqa (wpAny_pyHash_tuple ?_ h1 ?_)
    ·show A.units+1<cLine;omega
    ·first
      |exact tqb {done++[k],u,`s,j,by simp[z],by simp[RV]}
      |exact tqa (tqb (tqb {done++[k],u,`s,j,by simp[z],by simp[RV]}))
 ·rintro b B ⟨done,left,rfl,hl,z,rfl⟩;cases hl;rw[Qy] at h;show wpAny _ _ (retInt (Builtin.Tuple.tupleHashOf b.toList)) _ _ _;rw[z];refine wpAny_ret_mkInt ?_;generalize I:Builtin.Tuple.tupleHashOf (done.map (tupleKeyHash (intKind prog w)))=v;show wpAny _ _ (if (decide (-(2:Int)^63≤v)&&decide (v<2^63))=true then _ else _) Q E _;unfold tJ reduceHash at h;rw[I] at h;by_cases hr:(decide (-(2:Int)^63≤v)&&decide (v<2^63))=true
  ·rw[if_pos hr];rw[if_pos hr] at h;exact tqb (by simpa[mU,RV] using h)
  ·rw[if_neg hr];rw[if_neg hr] at h;exact tqa (wpAny_rule (tqb (by simpa[mU,RV] using h)))
def xa (hu:A.units<cLine)(hx:NK prog w s.heap x a)(hy:NK prog w s.heap y b)(h:P (.done (.ret (.bool (decide (x=y))))) s) :
 wpAny (model prog w) A (Builtin.«tuple.__eq__» {[.ref a,.ref b],[]}) P E s:=by
 have Q:=hy.typeIs;obtain⟨oa,xs,na,X,_,R,U⟩:=hx;obtain⟨ob,ys,nb,Y,_,S,W⟩:=hy;show wpAny _ _ (isInstance (.ref b) (.type "tuple") >>= _) _ _ s;refine tqa (wpAny_isInstance Q isSubtype_tuple_tuple ?_);refine tqa (wpAny_tupleItemsOf X R (tqa (wpAny_tupleItemsOf Y S (tqa ?_))));refine wpAny_forIn_list _ (λrest r L=>r.1=none/\L=s/\∃M O z B,rest=List.zip z B/\iw prog w s.heap M z/\iw prog w s.heap O B/\decide (M=O)=decide (x=y)/\(z.length==B.length)=(xs.size==ys.size)) _ ?_ ?_ _ _ {rfl,rfl,x,y,xs.toList,ys.toList,rfl,U,W,rfl,`s}
 ·rintro⟨u,v⟩ rest r L ⟨hr,rfl,M,O,z,B,J,I,H,j,F⟩;cases I with
  |nil=>simp at J
  | @cons k1 u' x2 xs2 h1 hx2 =>
    cases H with
    |nil=>simp at J
    | @cons k2 v' y2 ys2 h2 hy2 =>
      obtain⟨⟨rfl,rfl⟩,rfl⟩:=J;refine tqa (wpAny_eqBool_tuple hu h1 h2 ?_);by_cases hk:k1=k2
      ·subst hk;rw[decide_eq_true rfl];refine tqb {rfl,rfl,x2,y2,xs2,ys2,rfl,hx2,hy2,?_,by simpa using F}
       rw[<- j];by_cases hxy:x2=y2<;>simp[hxy]
      ·rw[decide_eq_false hk];rw[show decide (x=y)=false by rw[<- j];simp[hk]] at h
       exact tqa (tqb (tqb (tqb h)))
 ·rintro⟨r1,r2⟩ L ⟨hr,rfl,M,O,z,B,J,I,H,j,F⟩;subst hr;refine tqb ?_;show P (.done (.ret (.bool (xs.size==ys.size)))) L;rw[<- F,show(z.length==B.length)=decide (x=y) from ?_]
  ·exact h
  ·rw[<- j];cases I with
   |nil=>cases H<;>simp
   | cons _ _ => cases H with
     |nil=>simp
     |cons _ _=>simp at J
def Ma (z:A.units+2<cLine)(u:NK prog w s.heap x a)(v:NK prog w s.heap y b)(h:Q (decide (x=y)) s):wpAny (model prog w) A (eqBool (.ref a) (.ref b)) Q E s:=by
 unfold eqBool;try with_reducible refine tqo ?_
 by_cases j:(Value.ref a==Value.ref b)=true
 ·rw[if_pos j];obtain rfl:a=b:=by have:=eq_of_beq j;injection this
  obtain rfl:=u.inj v;exact tqa (wpAny_rule (tqb (by simpa using h)))
 ·rw[if_neg j];refine tqa (wpAny_richCompare_same_room u.typeIs v.typeIs F.slot_tuple_eq (wpAny_call_entry F.slot_tuple_eq u.typeIs F.entry_tuple_eq (xa ?_ u v {_,rfl,(λe=>nomatch e),tqp h}) (F.args_tuple_eq_2 _ _)) `a)
  show A.units+1<cLine;omega
def Bv (d:Nat)(hk:TK prog w s.heap ks a)(h:Q true s):wpAny (model prog w) A (eqIsQuiet (d+1) (.ref a)) Q E s:=by
 have B:=hk.typeIs;obtain⟨o,items,n,ho,_,hd,H⟩:=hk;unfold eqIsQuiet;refine tqa (wpAny_specialOf B F.slot_tuple_eq.lookup ?_);refine tqa (wpAny_isInstance B isSubtype_tuple_tuple ?_);refine tqa (wpAny_seqItems ho hd (tqa ?_));rw[<- Array.forIn_toList];refine wpAny_forIn_list _ (λrest r z=>r.1=none/\z=s/\∀v∈rest,carriedByValue v=true) _ ?_ ?_ _ _ ⟨rfl,rfl,H.byValue⟩
 ·rintro v rest r z ⟨hr,rfl,j⟩;rw[eqIsQuiet_byValue _ (j v Qm)];refine tqa (tqb ?_);exact tqb {rfl,rfl,λu y=>j u (Qc _ y)}
 ·rintro⟨r1,r2⟩ z ⟨hr,rfl,_⟩;subst hr;exact tqb h
def B7 (hk:NK prog w s.heap kss a)(h:Q true s):wpAny (model prog w) A (eqIsQuiet 8 (.ref a)) Q E s:=by
 have z:=hk.typeIs;obtain⟨o,items,n,ho,_,hd,B⟩:=hk;unfold eqIsQuiet;refine tqa (wpAny_specialOf z F.slot_tuple_eq.lookup ?_);refine tqa (wpAny_isInstance z isSubtype_tuple_tuple ?_);refine tqa (wpAny_seqItems ho hd (tqa ?_));rw[<- Array.forIn_toList];refine wpAny_forIn_list _ (λrest r y=>r.1=none/\y=s/\∃ks,iw prog w s.heap ks rest) _ ?_ ?_ _ _ ⟨rfl,rfl,kss,B⟩
 ·rintro v rest r y ⟨hr,rfl,ks,hl⟩;cases hl with
  | @cons k c u _ h1 j =>
    refine tqa (Bv 6 h1 ?_);exact tqb ⟨rfl,rfl,u,j⟩
 ·rintro⟨r1,r2⟩ y ⟨hr,rfl,_⟩;subst hr;exact tqb h
end
def Ju (prog:QF)(w:Qz):HeapKind prog w (List (List Int)) where
 is:=NK prog w
 hash:=tJ prog w
 draws:=mU
 room:=λA=>A.units+2<cLine
 inj:=λu v=>u.inj v
 keeps:=λx ho hd hs=>x.keeps ho hd hs
 pyHash:=λj hk h=>Gj j hk h
 eqBool:=λj u v h=>Ma j u v h
 quiet:=λhk h=>B7 hk h
end LD
namespace LD
open PySem PySem.Spec PyProof.Rows
section
variable{prog:QF}{w:Qz}{K:Type}[DecidableEq K]{knd:HeapKind prog w K}{A:Ry}{E:PL->PX->Prop}{s:PX}
def iR (knd:HeapKind prog w K)(h:Heap)(d:Addr)(xs:List (K×Addr×PL)):Prop:=
 ∃o j,h.get? d=some o/\o.ExactDict/\o.data=.dict j xs.length/\j.toList=xs.map (entryOfKey knd)/\(∀x∈xs,knd.is h x.1 x.2.1)/\(xs.map (·.1)).Nodup
def iR.of (x:iR knd h d xs):h.DictOfH knd d xs:=let⟨o,j,r⟩:=x;{o,j,_,r}
def lj (O:knd.room A)(h:knd.is s.heap k a)(hm:iR knd s.heap d xs)
 (J:∀I,iR knd I d (storedH xs k a v)->Rz d s.heap I->Q () {s with heap:=I,toks:=s.toks+knd.draws k})
 (hsz:xs.length≤sizeLine) :
 wpAny (model prog w) A (dictSet d (.ref a) v) Q E s:=by
 obtain⟨o,P,ho,L,hd,he,z,hn⟩:=hm;unfold dictSet;try with_reducible refine tqo ?_
 refine tqa (knd.pyHash O h ?_);unfold dictSetHashed;try with_reducible refine tqo ?_
 refine tqa (wpAny_dictFind_heap O h ho hd he z hn ?_ ?_)
 ·intro B;have F:=not_mem_keys_of_get B;have e:=storedH_new (atKey_none_of_get B);refine tqa (wpAny_rule (wpAny_updateDictKeys (hz:=by have e:=size_of_entries he;omega) ho hd (J _ {_,_,Rw _ ho (Obj.isFreed_of_dict (Obj.data_mapDictKeys hd _)),
   L.mapDictKeys _,(Obj.data_mapDictKeys hd _).trans (by rw[e,Qe];rfl),?_,?_,?_} (Rr ..))))
  ·rw[e];simp[he,entryOfKey]
  ·rw[e];intro x u;rcases Qs.mp u with u|u
   ·exact knd.keeps (z x u) ho hd (Rr ..)
   ·simp only[Qa] at u;subst u;exact knd.keeps h ho hd (Rr ..)
  ·rw[e];rw[Qd,Rk];refine{hn,`s,?_}
   intro x u y H;simp only[Q6,List.map_nil,Qa] at H;subst H;exact λe=>F (e ▸ u)
 ·intro j p M;have e:=storedH_old (atKey_of_get hn M);refine tqa (wpAny_rule (tqa (wpAny_updateDict ho hd (wpAny_point (J _ {_,_,Rw _ ho (Obj.isFreed_of_dict (Obj.data_mapDict hd _)),
   L.mapDict _,(Obj.data_mapDict hd _).trans (by rw[e,PK]),?_,?_,?_} (Rr ..))))))
  ·rw[e];have:=modify_map_putAt (entryOfKey knd) (λe:RE=>{e with val:=v}) k v (λ_ _=>rfl) hn M
   rw[<- he] at this;obtain⟨l⟩:=P;simpa using this
  ·rw[e];intro x u;obtain⟨y,H,rfl⟩:=PZ.mp u;unfold putAt;split<;>exact knd.keeps (z y H) ho hd (Rr ..)
  ·rw[e];rw[keys_map_putAt];exact hn
def wQ (F:knd.room A.in1)(j:knd.is s.heap k a)(hm:iR knd s.heap d xs)
 (B:∀h,iR knd h d (storedH xs k a v)->Rz d s.heap h->Q () {s with heap:=h,toks:=s.toks+knd.draws k})
 (hsz:xs.length≤sizeLine) :
 wpAny (model prog w) A (setItem (.ref d) (.ref a) v) Q E s:=by
 have u:=hm.of.typeIs;unfold setItem;try with_reducible refine tqo ?_
 refine tqa (wpAny_sequenceKey u `d ?_)
 refine tqa (wpAny_callSpecial?_slot u slot_dict_setitem
  (wpAny_call_entry slot_dict_setitem u entry_dict_setitem ?_ (args_dict_setitem _ _ _)))
 refine tqa (wpAny_notOrdered_dict u ?_);show wpAny _ _ (dictSet d (.ref a) v >>= _) _ _ s;exact tqa (lj (hsz:=hsz) F j hm λh y z=>tqb {.none,rfl,tqb (B h y z)})
end
end LD
namespace LD
open PySem PySem.Spec PyProof.Rows L2
def GI {K:PJ}(h:PySem.W.exmAny K c [d,d]=some true):PySem.W.exmOne K c d=some true:=by
 obtain⟨u,d1,e1,e2,v⟩:=PySem.W.exmAny_cons h;obtain⟨B,E,j,y,z⟩:=PySem.W.exmAny_cons e2;rw[e1] at j;cases j;cases y;cases u with
 |true=>exact e1
 |false=>subst z;cases v
section
variable{fa:Fa}{X:Cx}{pos np hp:Pos}{x1:Str}{k1:Nat}{body suite:List Stmt}{b0:Stmt}{gB gH:GS}
set_option tactic.hygienic true in
def BM (h2:wx fa X.K X.mg x1 x1 k1 k1)(hex:X.ex=[])(L:X.stack=X.env::X.outer)(hfr:X.env.frame=some X.env.locals)
 (hg:Gl X x1) (hdb:(x1==("__debug__":Str))=false) (S:∀pn E,kv fa (rX X pn E) body gB) (hh:∀v E,kv fa (rY X v E) (b0::suite) gH) :
 DS fa X (.Try body [.ExceptHandler (some (.Name x1 np)) none (b0::suite) hp] [] [] pos) (lS gB k1 k1 gH):=by
 intro J s σ H D' I ⟨μ,ρ,M,hE,hM,h⟩;obtain⟨D1,D2,m1,m2,hm⟩:=h2;obtain rfl:D1=D2:=by rw[m1] at m2;cases m2;rfl
 obtain⟨fl,M1,e,q⟩:=aM h;refine wpAny_Try_except (wpAny_mono (S (X.pn++J) (λe s₁=>wpAny (model X.prog X.w) X.A (noteFrame e X.env) (λ_ s₂=>wpAny (model X.prog X.w) X.A (setFlight e none) (λ_ s₃=>wpAny (model X.prog X.w) X.A (handleBy e X.env [.ExceptHandler (some (.Name x1 np)) none (b0::suite) hp]) (SP X J D') X.xe s₃) X.xe s₂) X.xe s₁) [] s σ H D' (Ah I _) {μ,ρ,M,hE,hM,?_}) (λf s1 z=>?_) λ_ _ z=>z)
 ·rw[e];cases fl with
  |next ρ'=>exact q
  |ret d=>exact q
  | exc y ρ1 =>
    intro pins' σ' H' μ' s' a C dx c p Q ye hE1 hM1 ey hcC hn fl;refine vn (by rw[<- L];exact Q.ok.frames) (by rw[<- L];exact Q.stack) hfr fl (λb z=>(t4 Q hex (Heap.get?_none_of_le z)).1) Q.hok (by rw[<- L];exact Q.stkFree) λh' ch P u hok R=>?_
    have O:=Ct (ik Q) (λb S=>{(P b S).1.1,(P b S).2.2,(P b S).1.2}) (by rw[L];exact u) hok
    obtain⟨nw,ha,o,vs,h1,h2,h3,h4,tr⟩:=id R;have Y:PySem.W.notCls o=true:=by unfold PySem.W.notCls;rw[h4]
    subst ey;have U:c=k1\/c=k1:=by
     by_cases z:c=k1\/c=k1
     ·exact z
     ·unfold lN at q;dsimp only at q;rw[if_neg z] at q;exact q.elim
    unfold lN at q;dsimp only at q;rw[if_pos U] at q;obtain⟨fl3,M2,e3,q3⟩:=aM q;have IA:∃od,PySem.W.InstAt h' a o C od:=by
     cases p with
     | none =>
       exact{none,h1,h2,Y,by rw[h3,hn];trivial}
     | some k =>
       obtain⟨d,rfl,hd⟩:=hn;obtain⟨mA,⟨od,es,ep,ed,_⟩,_⟩:=hok d _ hd;exact{some od,h1,h2,Y,by rw[h3];exact ed}
    obtain⟨od,IA⟩:=IA;refine wpAny_handleBy_cons (codeAny_handlers_test (iV (qU O (.ref a) X.xe) hg m1 ?_ hdb)) (by intro z;cases z)
    refine(PySem.W.exm_one O.kIn IA.type (GI (hm c C U hcC))).at ?_;refine codeAny_handlers_suite (xw R ?_);refine wpAny_mono (hh (.ref a) _ J _ σ' H' D' (qU O (.ref a) _) {μ',_,M1,hE1,hM1,?_}) (λf s5 z=>?_) λ_ _ z=>z
    ·rw[e3];cases fl3 with
     |next ρ2=>exact λσ2 H2 μ2 x2 hE2 hM2=>q3 σ2 H2 μ2 (ye.trans x2) hE2 hM2
     |ret d=>exact bj.ext q3 ye
     |exc=>exact q3.elim
    ·dsimp only;cases f with
     | next =>
       obtain⟨j,B,F,z⟩:=z;exact{_,B,jE O.ok.hd F,z}
     | ret u =>
       obtain⟨v,j,B,F,r5,z⟩:=z;exact{v,_,B,jE O.ok.hd F,r5,z}
     |brk=>obtain⟨_,B,F,z⟩:=z;exact{_,B,jE O.ok.hd F,z}
     |cont=>obtain⟨_,B,F,z⟩:=z;exact{_,B,jE O.ok.hd F,z}
 ·cases f with
  |next=>obtain⟨j,B,F,z⟩:=z;exact wpAny_execs_nil {j,B,ik F,z}
  |ret u=>obtain⟨v,j,B,F,r5,z⟩:=z;exact{v,j,B,ik F,r5,z}
  |brk=>obtain⟨j,B,F,z⟩:=z;exact{j,B,ik F,z}
  |cont=>obtain⟨j,B,F,z⟩:=z;exact{j,B,ik F,z}
end
noncomputable def jZ (c:GT)(b:GS):Nat->Env->Mem->Res Fl
 |0,_,_=>.bad
 | n + 1, h, M => (c h M).bind λk M => if k then(b h M).bind λfl M => (match fl with
   |.next h=>jZ c b n h M
   |fl=>.ok fl M) else .ok (.next h) M
def fS (c:GT)(b:GS):GS:=λh M=>jZ c b 100000 h M
section
variable{fa:Fa}{X:Cx}{c:Expr}{body:List Stmt}{gc:GT}{gb:GS}{pos:Pos}
set_option tactic.hygienic true in
def FN (hp:PassesOwn (model X.prog X.w) X.A X.env X.xe)(hc:DT fa X c gc)(hb:kv fa X body gb):DS fa X (.While c body [] pos) (fS gc gb):=
 da (BX hp hc hb) λD' σ H ⟨L,ρ,M,hE,hM,h⟩=>by
  refine{λm v y=>∃j u B,Ext L H j y/\bw fa X.K j y v u/\RelM fa X.K j y B/\ae (jZ gc gb m u B) (ku fa X L H D'),{100000,L,ρ,M,.refl,hE,hM,h},?_};rintro m σ2 H2 ⟨μ2,P,M2,R,E,U,q2⟩;cases m with
  |zero=>exact q2.elim
  | succ m =>
    obtain⟨k,M3,e3,q3⟩:=aM q2;refine{μ2,P,M2,E,U,?_};rw[e3];intro H3 O J I;have F:=E.ext J;cases k with
    |false=>exact q3 σ2 H3 O (R.trans J) F I
    | true =>
      obtain⟨fl,M4,e4,Y⟩:=aM q3;refine{λv y=>∃j u B,Ext L H j y/\bw fa X.K j y v u/\RelM fa X.K j y B/\ae (jZ gc gb m u B) (ku fa X L H D'),λv y z=>{m,Nat.lt_succ_self m,z},O,P,M3,F,I,?_};rw[e4];cases fl with
      |next Q=>exact λσ6 H6 μ6 x6 S W=>{μ6,Q,M4,(R.trans J).trans x6,S,W,Y}
      |ret d6=>exact bj.ext Y (R.trans J)
      |exc x6 Q=>exact XW.ext Y (R.trans J)
end
theorem vP {K:PJ}:∀{ds:List D}{vs:List V}{us:List PL}{ks:List Int},aL fa K μ H ds vs->Vals vs us->intsOf ds=some ks->ItemsAre (intKind prog w) ks us
 | [], vs, us, ks, h, r, e => by
   obtain rfl:vs=[]:=h;cases r;cases e;exact .nil
 | .int i :: ds, vs, us, ks, h, r, e => by
   obtain⟨v,vr,rfl,p,q⟩:=h;cases r with
   | cons r1 r2 =>
     obtain⟨k,j,e⟩:=Qi.mp e;subst e;obtain rfl:v=.int i:=p;obtain⟨t,rfl⟩:=r1;exact .cons (by simp[intKind,Value.isInt]) (vP q r2 j)
 |.non::_,_,_,_,_,_,e=>by cases e
 |.bl _::_,_,_,_,_,_,e=>by cases e
 |.str _::_,_,_,_,_,_,e=>by cases e
 |.tup _::_,_,_,_,_,_,e=>by cases e
 |.lst _::_,_,_,_,_,_,e=>by cases e
 |.frz _::_,_,_,_,_,_,e=>by cases e
 |.cell _::_,_,_,_,_,_,e=>by cases e
 |.fn _::_,_,_,_,_,_,e=>by cases e
 |.exc _ _::_,_,_,_,_,_,e=>by cases e
section
variable{fa:Fa}{X:Cx}{pins:List (Addr×Obj)}{σ:L2.St}{H:Hp}{s:PX}{μ:Mu}
def yD (I:Inv X pins σ H s)(r:Rep fa X.K μ H (.tup ds) (.ref b)):∃vs h o n,aL fa X.K μ H ds vs/\Vals vs h/\s.heap.get? b=some o/\o.cls=.type "tuple"/\o.data=.seq h.toArray n:=by
 obtain⟨a,vs,e,j,u⟩:=r;cases e;obtain⟨h,v,p,_⟩:=I.tuple j;obtain⟨o,h1,h2,n,h3⟩:=p;exact⟨vs,h,o,n,u,v,h1,h2,h3⟩
def vM (I:Inv X pins σ H s)(r:Rep fa X.K μ H d (.ref b))(e:l9 d=some ks):TK X.prog X.w s.heap ks b:=by
 cases d with
 | tup v =>
   obtain⟨y,h,o,n,j,u,h1,h2,h3⟩:=yD I r;exact{o,h.toArray,n,h1,h2,h3,by simpa using vP j u e}
 |_=>cases e
theorem tU (I:Inv X pins σ H s):∀{ds:List D}{vs:List V}{us:List PL}{j:List (List Int)},aL fa X.K μ H ds vs->Vals vs us->jz ds=some j->iw X.prog X.w s.heap j us
 | [], vs, us, j, h, r, e => by
   obtain rfl:vs=[]:=h;cases r;cases e;exact .nil
 | d :: ds, vs, us, j, h, r, e => by
   obtain⟨v,vr,rfl,p,q⟩:=h;cases r with
   | cons r1 r2 =>
     obtain⟨k,y,e⟩:=QN.mp e;obtain⟨E,u,e⟩:=Qi.mp e;subst e;cases d with
     | tup z =>
       obtain⟨a,J,rfl,B,F⟩:=id p;obtain rfl:=(r1);exact .cons (vM I p y) (tU I q r2 u)
     |_=>cases y
def Gw (I:Inv X pins σ H s)(r:Rep fa X.K μ H d (.ref b))(e:qa d=some kss):NK X.prog X.w s.heap kss b:=by
 cases d with
 | tup v =>
   obtain⟨y,h,o,n,j,u,h1,h2,h3⟩:=yD I r;exact{o,h.toArray,n,h1,h2,h3,by simpa using tU I j u e}
 |_=>cases e
end
theorem t6:∀{a b:List D}{x y:List Int},intsOf a=some x->intsOf b=some y->dA a b=decide (x=y)/\(x=y->a=b)
 |[],[],_,_,e,f=>by cases e;cases f;exact{rfl,λ_=>rfl}
 | [], .int j :: b, _, _, e, f => by
   obtain⟨_,_,rfl⟩:=Qi.mp f;cases e;exact{by simp[dA],λz=>by cases z}
 | .int i :: a, [], _, _, e, f => by
   obtain⟨_,_,rfl⟩:=Qi.mp e;cases f;exact{by simp[dA],λz=>by cases z}
 | .int i :: a, .int j :: b, _, _, e, f => by
   obtain⟨x,e1,rfl⟩:=Qi.mp e;obtain⟨y,f1,rfl⟩:=Qi.mp f;obtain⟨h1,h2⟩:=t6 e1 f1;refine{?_,λz=>?_}
   ·show(i==j&&dA a b)=_;rw[h1];by_cases z:i=j<;>simp[z]
   ·cases z;rw[h2 rfl]
 |.non::_,_,_,_,e,_=>by cases e
 |.bl _::_,_,_,_,e,_=>by cases e
 |.str _::_,_,_,_,e,_=>by cases e
 |.tup _::_,_,_,_,e,_=>by cases e
 |.lst _::_,_,_,_,e,_=>by cases e
 |.frz _::_,_,_,_,e,_=>by cases e
 |.cell _::_,_,_,_,e,_=>by cases e
 |.fn _::_,_,_,_,e,_=>by cases e
 |.exc _ _::_,_,_,_,e,_=>by cases e
 |_,.non::_,_,_,_,e=>by cases e
 |_,.bl _::_,_,_,_,e=>by cases e
 |_,.str _::_,_,_,_,e=>by cases e
 |_,.tup _::_,_,_,_,e=>by cases e
 |_,.lst _::_,_,_,_,e=>by cases e
 |_,.frz _::_,_,_,_,e=>by cases e
 |_,.cell _::_,_,_,_,e=>by cases e
 |_,.fn _::_,_,_,_,e=>by cases e
 |_,.exc _ _::_,_,_,_,e=>by cases e
def n6 (e:l9 d=some x):∃ds,d=.tup ds/\intsOf ds=some x:=by
 cases d with
 |tup ds=>exact⟨ds,rfl,e⟩
 |_=>cases e
def tV (e:l9 a=some x)(f:l9 b=some y):bW a b=decide (x=y)/\(x=y->a=b):=by
 obtain⟨h,rfl,e⟩:=n6 e;obtain⟨bs,rfl,f⟩:=n6 f;obtain⟨h1,h2⟩:=t6 e f;exact{h1,λz=>by rw[h2 z]}
theorem qP:∀{a b:List D}{x y:List (List Int)},jz a=some x->jz b=some y->dA a b=decide (x=y)/\(x=y->a=b)
 |[],[],_,_,e,f=>by cases e;cases f;exact{rfl,λ_=>rfl}
 | [], d :: b, _, _, e, f => by
   obtain⟨_,_,f⟩:=QN.mp f;obtain⟨_,_,rfl⟩:=Qi.mp f;cases e;exact{by simp[dA],λz=>by cases z}
 | d :: a, [], _, _, e, f => by
   obtain⟨_,_,e⟩:=QN.mp e;obtain⟨_,_,rfl⟩:=Qi.mp e;cases f;exact{by simp[dA],λz=>by cases z}
 | d :: a, j :: b, _, _, e, f => by
   obtain⟨k,u,e⟩:=QN.mp e;obtain⟨x,e1,rfl⟩:=Qi.mp e;obtain⟨E,h,f⟩:=QN.mp f;obtain⟨y,f1,rfl⟩:=Qi.mp f;obtain⟨v,B⟩:=tV u h;obtain⟨h1,h2⟩:=qP e1 f1;refine{?_,λz=>?_}
   ·show(bW d j&&dA a b)=_;rw[h1,v];by_cases z:k=E<;>simp[z]
   ·cases z;rw[h2 rfl,B rfl]
def Co (e:qa a=some x)(f:qa b=some y):bW a b=decide (x=y)/\(x=y->a=b):=by
 cases a with
 | tup h =>
   cases b with
   | tup bs =>
     obtain⟨h1,h2⟩:=qP e f;exact{h1,λz=>by rw[h2 z]}
   |_=>cases f
 |_=>cases e
structure KD (X:Cx) (c:Int) where
 K:Type
 dq:DecidableEq K
 knd:HeapKind X.prog X.w K
 dec:D->Option K
 hash:∀d,mW c d=(dec d).map knd.hash
 is:∀{fa:Fa}{μ:Mu}{H:Hp}{pins:List (Addr×Obj)}{σ:L2.St}{s:PX}{d:D}{b:Addr}{k:K},Inv X pins σ H s->Rep fa X.K μ H d (.ref b)->dec d=some k->knd.is s.heap k b
 beq:∀{a b:D}{x y:K},dec a=some x->dec b=some y->bW a b=decide (x=y)/\(x=y->a=b)
 ref:∀{fa:Fa}{μ:Mu}{H:Hp}{d:D}{v:V}{k:K},Rep fa X.K μ H d v->dec d=some k->∃b,v=.ref b
 room:Rm X->knd.room X.A.in1
 room0:Rm X->knd.room X.A
def KD.f (X:Cx):KD X 77 where
 K:=List Int
 dq:=inferInstance
 knd:=tupleKind (intKind X.prog X.w)
 dec:=l9
 hash:=λd=>by unfold mW;rw[if_pos rfl];rfl
 is:=λI r e=>vM I r e
 beq:=λe f=>tV e f
 ref:=λr e=>by
  obtain⟨j,rfl,_⟩:=n6 e;obtain⟨a,_,rfl,_⟩:=r;exact⟨a,rfl⟩
 room:=λh=>by show X.A.units+1<cLine;unfold Rm at h;omega
 room0:=λh=>by show X.A.units<cLine;unfold Rm at h;omega
def KD.n (X:Cx):KD X 78 where
 K:=List (List Int)
 dq:=inferInstance
 knd:=Ju X.prog X.w
 dec:=qa
 hash:=λd=>by unfold mW;rw[if_neg `d,if_pos rfl];rfl
 is:=λI r e=>Gw I r e
 beq:=λe f=>Co e f
 ref:=λ{fa μ H d v k} r e=>by
  cases d with
  | tup j =>
    obtain⟨a,_,rfl,_⟩:=r;exact⟨a,rfl⟩
  |_=>cases e
 room:=λh=>by show X.A.units+1+2<cLine;unfold Rm at h;omega
 room0:=λh=>by show X.A.units+2<cLine;unfold Rm at h;omega
noncomputable instance kdq {X:Cx}{c:Int} (kd:KD X c):DecidableEq kd.K:=kd.dq
noncomputable def lJ (p:D×D):D:=.tup [p.1,p.2]
section
variable{fa:Fa}{X:Cx}{pins:List (Addr×Obj)}{σ:L2.St}{H:Hp}{s:PX}{μ:Mu}{c:Int}{kd:KD X c}{kvs:List (D×D)}
abbrev DP (fa:Fa)(X:Cx)(μ:Mu)(H:Hp){c:Int}(kd:KD X c):List (D×D)->List (kd.K×Addr×PL)->Prop:=RO λp x=>kd.dec p.1=some x.1/\Rep fa X.K μ H p.1 (.ref x.2.1)/\∃v,RelV v x.2.2/\Rep fa X.K μ H p.2 v
theorem KD.xs (kd:KD X c):∀{kvs:List (D×D)}{es:List RE},RO (C5 fa X.K μ H c) kvs es->∃xs,es=xs.map (entryOfKey kd.knd)/\DP fa X μ H kd kvs xs
 |_,_,.nil=>{[],rfl,.nil}
 | _, _, .cons ⟨b, v, e1, e2, h, j, u⟩ r => by
   obtain⟨xs,rfl,q⟩:=KD.xs kd r;rw[kd.hash] at e2;obtain⟨k,z,y⟩:=Qi.mp e2;refine{(k,b,_)::xs,?_,.cons ⟨z,h,v,j,u⟩ q};rw[Q6]
   congr 1
   unfold entryOfKey;rw[y,<- e1]
def KD.back {xs:List (kd.K×Addr×PL)}:∀{kvs:List (D×D)},DP fa X μ H kd kvs xs->RO (C5 fa X.K μ H c) kvs (xs.map (entryOfKey kd.knd)):=by
 intro kvs h;induction h with
 |nil=>exact .nil
 |cons r _ j=>exact .cons (let⟨h1,h2,v,h3,h4⟩:=r;{_,v,rfl,by rw[kd.hash,h1];rfl,h2,h3,h4}) j
def DP.mem (h:DP fa X μ H kd kvs xs)(m:x∈xs):∃p∈kvs,kd.dec p.1=some x.1/\Rep fa X.K μ H p.1 (.ref x.2.1):=by
 induction h with
 |nil=>cases m
 | cons r _ u =>
   rcases Qu.mp m with rfl|m
   ·exact{_,Qm,r.1,r.2.1}
   ·obtain⟨p,j,q⟩:=u m;exact{p,Qc _ j,q}
def DP.nodup (h:DP fa X μ H kd kvs xs)(n:(kvs.map (·.1)).Nodup):(xs.map (·.1)).Nodup:=by
 induction h with
 |nil=>exact List.nodup_nil
 | @cons p x ps B r t u =>
   rw[Q6,QI] at n ⊢;refine{λm=>n.1 ?_,u n.2};obtain⟨y,z,j⟩:=PZ.mp m;obtain⟨q,v,e1,_⟩:=DP.mem t z;have:=(kd.beq r.1 e1).2 j.symm;rw[this];exact PZ.mpr ⟨q,v,rfl⟩
def KD.dict {xs:List (kd.K×Addr×PL)}(I:Inv X pins σ H s)(e:H a=some (.dn (xs.map (entryOfKey kd.knd))))(h:DP fa X μ H kd kvs xs)(n:(kvs.map (·.1)).Nodup):(a==sysModules)=false/\xs.length≤sizeLine/\iR kd.knd s.heap a xs:=by
 obtain⟨z,y,o,h1,h2,h3⟩:=(I.hok a _ e);refine{y,by simpa using z,o,_,h1,h2,by rw[h3,PK],`s,λx j=>?_,h.nodup n}
 obtain⟨p,_,e1,e2⟩:=h.mem j;exact kd.is I e2 e1
def DP.look (h:DP fa X μ H kd kvs xs)(hk:kd.dec k=some kk):(cV (kvs.map lJ) k=none/\atKey xs kk=none)\/∃d b v u,cV (kvs.map lJ) k=some d/\atKey xs kk=some (b,u)/\RelV v u/\Rep fa X.K μ H d v:=by
 induction h with
 |nil=>exact .inl ⟨rfl,rfl⟩
 | @cons p x ps y r t j =>
   obtain⟨h1,h2,v,h3,h4⟩:=r;have b:=(kd.beq h1 hk).1;unfold cV atKey at j ⊢;rw[Q6,List.find?_cons,List.find?_cons];rw[show bW (xy (lJ p)) k=decide (x.1=kk) from b];by_cases z:x.1=kk
   ·rw[decide_eq_true z];exact .inr ⟨p.2,x.2.1,v,x.2.2,rfl,rfl,h3,h4⟩
   ·rw[decide_eq_false z];exact j
def jS (kvs:List (D×D))(k d:D):List (D×D):=if (cV (kvs.map lJ) k).isSome then kvs.map (λp=>if bW p.1 k then(p.1,d) else p) else kvs++[(k,d)]
def IT (kvs:List (D×D))(k d:D):(jS kvs k d).map lJ=putD (kvs.map lJ) k d:=by
 unfold jS putD;split
 ·rw[QO,QO];refine Rp λp _=>?_;show lJ (if bW p.1 k then(p.1,d) else p)=if bW p.1 k then _ else _;split<;>rfl
 ·rw[Qd];rfl
def zm (kvs:List (D×D))(k d:D):(jS kvs k d).map (·.1)=if (cV (kvs.map lJ) k).isSome then kvs.map (·.1) else kvs.map (·.1)++[k]:=by
 unfold jS;split
 ·rw[QO];refine Rp λp _=>?_;show(if bW p.1 k then(p.1,d) else p).1=p.1;split<;>rfl
 ·rw[Qd];rfl
set_option tactic.hygienic true in
def DP.put (h:DP fa X μ H kd kvs xs)(hk:kd.dec k=some kk)(E:Rep fa X.K μ H k (.ref b))(j:RelV v u)(rd:Rep fa X.K μ H d v):DP fa X μ H kd (jS kvs k d) (storedH xs kk b u):=by
 have e:(cV (kvs.map lJ) k).isSome=(atKey xs kk).isSome:=by
  rcases h.look hk with⟨h1,h2⟩|⟨_,_,_,_,h1,h2,_⟩<;>rw[h1,h2]<;>rfl
 unfold jS storedH;rw[e];split
 ·next hs=>
  clear e hs;induction h with
  |nil=>exact .nil
  | @cons p x ps F r t B =>
    refine .cons ?_ B;have y:=(kd.beq r.1 hk).1;unfold putAt;dsimp only;rw[y];by_cases z:x.1=kk
    ·rw[decide_eq_true z,if_pos z,if_pos rfl];exact⟨r.1,r.2.1,v,j,rd⟩
    ·rw[decide_eq_false z,if_neg z,if_neg Qr];exact r
 ·exact Paired.snoc h ⟨hk,E,v,j,rd⟩
set_option tactic.hygienic true in
def DP.keys (h:DP fa X μ H kd kvs xs)(n:(kvs.map (·.1)).Nodup)(hk:kd.dec k=some kk):((jS kvs k d).map (·.1)).Nodup:=by
 rw[zm];split
 ·exact n
 ·next z=>
  refine List.nodup_append.mpr {n,`s,λa u b v q=>z ?_}
  obtain rfl:=Qa.mp v;subst q;obtain⟨p,y,j⟩:=PZ.mp u;rw[cV,RQ,List.find?_isSome];refine{lJ p,PZ.mpr ⟨p,y,rfl⟩,?_};show bW p.1 a=true;rw[j,(kd.beq hk hk).1];exact decide_eq_true rfl
end
def fK (a b:GE):GE:=λh M=>(a h M).bind λx M=>(b h M).bind λk M=>match x with
 |.fn o=>bX M (getD M o k)
 |_=>.bad
def lg (n:Bool)(a b:GE):GE:=λh M=>(a h M).bind λk M=>(b h M).bind λx M=>match x with
 | .fn o => (match inD M o k with
   |some r=>.ok (.bl (n != r)) M
   |none=>.bad)
 |_=>.bad
def hV (a b d:GE):GS:=λh M=>(d h M).bind λz M=>(a h M).bind λx M=>(b h M).bind λk M=>match x with
 | .fn o => (match cS M o with
   |some q=>if isKey q.1 k=true/\q.2.length<1000000 then .ok (.next h) (M.set (o-5000) (.int q.1::putD q.2 k z)) else .bad
   |none=>.bad)
 |_=>.bad
noncomputable def xv (c:Int):GE:=λ_ M=>.ok (.fn (aI M.length)) (M++[[.int c]])
structure ix (fa:Fa):Prop where
 of:∀o,5000≤o->fa o=none
 n77:fa (jx 77)=none
 n78:fa (jx 78)=none
section
variable{fa:Fa}{K:PJ}{μ:Mu}{H:Hp}{M:Mem}
def Ext.dic (h:RelM fa K μ H M)(v:H a=some (.dn es)):Ext μ H μ (upd H a (.dn es')):=by
 have ne:∀{b o},H b=some o->(∀es,o≠.dn es)->b≠a:=λg n z=>by rw[z,v] at g;cases g;exact n _ rfl
 refine{{λ_ _ q=>q,λb j g=>?_,λb j g n=>{by rw[aF (ne g (λ_ z=>by cases z))];exact g,n},λb ob u g=>by rw[aF (ne g (λ_ z=>by cases z))];exact g,λb o i g=>?_,λ_ _ q=>q},rfl,λb y=>?_}
 ·rcases g with g|⟨ob,g⟩
  ·exact .inl (by rw[aF (ne g (λ_ z=>by cases z))];exact g)
  ·exact .inr {ob,by rw[aF (ne g (λ_ z=>by cases z))];exact g}
 ·rw[aF (ne g (λ_ z=>by rcases i with⟨_,i⟩|⟨_,i⟩<;>(rw[i] at z;cases z)))];exact g
 ·obtain⟨⟨j,g⟩,_⟩:=h.pv b y;rw[aF (ne g (λ_ z=>by cases z))]
def RelM.dicW (h:RelM fa K μ H M)(e:M[k]?=some ds)(v:μ.ob (aI k)=some a)(I:H a=some (.dn es))(new:jn fa K μ (upd H a (.dn es')) a y):RelM fa K μ (upd H a (.dn es')) (M.set k y):=by
 have x:Ext μ H μ (upd H a (.dn es')):=Ext.dic h I;refine{λj B q=>?_,λj u=>h.out j (by simpa using u),λj u=>h.oout j (by simpa using u),h.inj,h.oinj,h.sep,λb E=>{let{⟨F,g⟩,_}:=h.pv b E;{F,by rw[x.pk b E];exact g},(h.pv b E).2}}
 by_cases u:j=k
 ·subst u;rw[Qj (PH.mp e).1] at q;cases q;refine .inr {a,v,?_,new};cases z:μ.pub j with
  |none=>rfl
  |some b=>rw[h.sep j b z] at v;cases v
 ·rw[PN (Q0 u)] at q;rcases h.at' j B q with⟨b,F,h1,h2,h3⟩|⟨b,h1,h2,h3⟩
  ·exact .inl {b,F,h1,by rw[aF (λz=>by rw[z,I] at h2;cases h2)];exact h2,h3.ext x}
  ·exact .inr {b,h1,h2,h3.extW x.toExtW (aF λz=>u (h.oinj _ _ a (z ▸ h1) v))}
set_option tactic.hygienic true in
def Ext.dicNew (h:RelM fa K μ H M)(u:H x=none):Ext μ H (mV μ M.length x) (upd H x (.dn [])):=by
 have e:Ext μ H μ (upd H x (.dn [])):=Ext.alloc h u;refine{{e.mu,e.tups,λb v g n=>{(e.lsts b v g n).1,n},e.frzs,e.exts,λj b z=>?_},rfl,e.pk};show(if j=aI M.length then some x else μ.ob j)=some b;split
 ·next q=>rw[q,h.oout _ (PV _)] at z;cases z
 ·exact z
set_option tactic.hygienic true in
def RelM.dicNew {c:Int}(h:RelM fa K μ H M)(u:H x=none)(J:c=77\/c=78):RelM fa K (mV μ M.length x) (upd H x (.dn [])) (M++[[.int c]]):=by
 have X:=Ext.dicNew h u;have old:∀{b o},H b=some o->(upd H x (.dn [])) b=some o:=λg=>by rw[aF (aV g u)];exact g
 have pc:∀{k b},(mV μ M.length x).ob (aI k)=some b->(k=M.length/\b=x)\/μ.ob (aI k)=some b:=λ{k b} z=>by
  have z:(if aI k=aI M.length then some x else μ.ob (aI k))=some b:=z;split at z
  ·next q=>cases z;exact .inl {Nat.add_left_cancel q,rfl}
  ·exact .inr z
 refine{λk I q=>?_,λk hk=>h.out k (by simp at hk;omega),λk hk=>?_,h.inj,λj k b e1 e2=>?_,λk b z=>?_,λb E=>{?_,(h.pv b E).2}}
 ·by_cases hk:k<M.length
  ·rw[PU hk] at q;rcases h.at' k I q with⟨b,B,h1,h2,h3⟩|⟨b,h1,h2,h3⟩
   ·exact .inl {b,B,h1,old h2,h3.ext X}
   ·exact .inr {b,X.obs _ _ h1,h2,h3.extW X.toExtW (by obtain⟨o,e,_⟩:=h3.hold;rw[old e,e])}
  ·have y:k=M.length:=by
    have:=(PH.mp q).1;simp at this;omega
   subst y;rw[Qo (PV _)] at q;simp at q;subst q;exact .inr {x,by show(if aI M.length=aI M.length then some x else _)=some x;rw[if_pos rfl],h.out _ (PV _),.inr {c,[],[],cw,J,rfl,.nil,List.nodup_nil}}
 ·show(if aI k=aI M.length then some x else μ.ob (aI k))=none;simp at hk;rw[if_neg (λz=>by have:=Nat.add_left_cancel z;omega)]
  exact h.oout k `a
 ·rcases pc e1 with⟨a1,a2⟩|a1<;>rcases pc e2 with⟨v,F⟩|v
  ·omega
  ·subst a2;obtain⟨_,z⟩:=h.ob_ins v;rw[u] at z;cases z
  ·subst F;obtain⟨_,z⟩:=h.ob_ins a1;rw[u] at z;cases z
  ·exact h.oinj j k b a1 v
 ·show(if aI k=aI M.length then some x else μ.ob (aI k))=none;have z:μ.pub k=some b:=z;rw[if_neg (λq=>by rw[Nat.add_left_cancel q,h.out _ (PV _)] at z;cases z)]
  exact h.sep k b z
 ·obtain⟨⟨B,g⟩,_⟩:=h.pv b E;exact{B,old g}
end
section
variable{fa:Fa}{X:Cx}{pins:List (Addr×Obj)}{σ:L2.St}{H:Hp}{s:PX}{μ:Mu}{M:Mem}
set_option tactic.hygienic true in
def n8 {c:Int}(h:isKey c d=true)(kd:KD X c):∃kk,kd.dec d=some kk:=by
 have e:(mW c d).isSome=true:=by
  unfold isKey at h;unfold mW;split at h
  ·next z=>rw[if_pos z,RQ];exact h
  ·next z=>
   rw[if_neg z];split at h
   ·next y=>rw[if_pos y,RQ];exact h
   ·cases h
 rw[kd.hash,RQ] at e;exact Option.isSome_iff_exists.mp e
def Mf {c:Int}(X:Cx)(h:c=77\/c=78):Nonempty (KD X c):=by
 rcases h with rfl|rfl
 ·exact{KD.f X}
 ·exact{KD.n X}
set_option tactic.hygienic true in
def pe (hd:ix fa)(I:Inv X pins σ H s)(L:RelM fa X.K μ H M)(r:Rep fa X.K μ H (.fn o) v)(e:cS M o=some q) :
 ∃(a:Addr) (kd:KD X q.1) (h:List (D×D)) (xs:List (kd.K×Addr×PL)),v=.ref a/\5000≤o/\μ.ob o=some a/\M[o-5000]?=some (.int q.1::q.2)/\H a=some (.dn (xs.map (entryOfKey kd.knd)))/\(q.1=77\/q.1=78)/\q.2=h.map lJ/\DP fa X μ H kd h xs/\(h.map (·.1)).Nodup:=by
 unfold cS at e;split at e
 ·next ho=>
  split at e
  ·next c Q B=>
   split at e
   ·next z=>
    cases e;obtain⟨a,rfl,j⟩:=r;rcases j with j|⟨_,j⟩
    ·rw[hd.of o ho] at j;cases j
    have E:aI (o-5000)=o:=Nat.add_sub_cancel' ho;rcases L.at' _ _ B with⟨b,R,h1,_⟩|⟨b,h1,h2,⟨n,C,P,fs,y,h3,h4,F,u,J⟩|⟨O,y,h,h3,h4,F,u,J⟩⟩
    ·have:=L.sep _ _ h1;rw[E,j] at this;cases this
    ·have u:=(List.cons.inj u).1;have u:=D.int.inj u;rcases z with rfl|rfl
     ·have:n=77:=`a
      rw[this,hd.n77] at h3;cases h3
     ·have:n=78:=`a
      rw[this,hd.n78] at h3;cases h3
    ·rw[E,j] at h1;cases h1;obtain⟨e1,e2⟩:=List.cons.inj F;cases D.int.inj e1;obtain⟨kd⟩:=Mf X z;obtain⟨xs,rfl,dp⟩:=kd.xs u;exact⟨a,kd,h,xs,rfl,ho,j,B,h3,z,e2,dp,J⟩
   ·cases e
  ·cases e
 ·cases e
def rDG (fa:Fa)(K:PJ):R2:=λx y H Q=>∃μ M o h d,RelM fa K μ H M/\Rep fa K μ H (.fn o) x/\Rep fa K μ H h y/\getD M o h=some d/\bj fa K μ H Q d M
set_option tactic.hygienic true in
def Mg (Y:Rm X)(hd:ix fa):jN X (rDG fa X.K):=by
 intro E B pins s σ H x y v u Q I rx ry h hs;obtain⟨μ,M,o,dy,d,P,r1,r2,e,q⟩:=h;obtain⟨qq,e1,e2⟩:=QN.mp e;split at e2
 ·next hk=>
  obtain⟨a,J,kvs,xs,rfl,ho,ha,em,W,hc,U,dp,nd⟩:=pe hd I P r1 e1;obtain⟨kk,L⟩:=n8 hk J;obtain⟨b,rfl⟩:=J.ref r2 L;obtain⟨ys,hz,O⟩:=KD.dict I W dp nd;obtain rfl:v=Value.ref a:=rx;obtain rfl:u=Value.ref b:=ry;rw[U] at e2;rcases dp.look L with⟨z,_⟩|⟨d',b',v',u',z,g,ru,rd⟩
  ·rw[z] at e2;cases e2
  ·rw[z] at e2;cases e2;have R:=O.of.typeIs;have h2:wpAny (model X.prog X.w) X.A (getItem (.ref a) (.ref b)) (EP X pins σ Q) X.xe s:=wpAny_getItem_heap (J.room Y) (J.is I r2 L) O.of g {v',H,I.tok _,ru,aS P q rd};refine tqa ?_;rw[getitemInPython_of_ne R.not_modules];refine tqa (wpAny_specialOf R PySem.F.slot_dict_getitem.lookup ?_);have j:wpAny (model X.prog X.w) X.A (subscripted B false (.ref a) (.ref b)) (λr S=>wpAny (model X.prog X.w) X.A (letTemporaryGo E (.ref a) r >>= λ_=>pure r) (EP X pins σ Q) X.xe S) X.xe s:=by
    rw[hs];exact wpAny_operating (wpAny_mono h2 (λr S h3=>tqa (wpAny_letTemporaryGo (tqb h3))) λ_ _ x=>x)
   first
    |exact tqb (tqa j)
    |exact tqa (tqb (tqa j))
    |exact tqa j
 ·cases e2
def rDI (fa:Fa)(K:PJ)(n:Bool):R2:=λx y H Q=>∃μ M o h b,RelM fa K μ H M/\Rep fa K μ H h x/\Rep fa K μ H (.fn o) y/\inD M o h=some b/\Q (.bl (n != b)) H
set_option tactic.hygienic true in
def ED (F:Rm X)(hd:ix fa)(n:Bool):bN X (compareOp (if n then .NotIn else .In)) (rDI fa X.K n):=by
 intro pins s σ H x y v u Q I S U h;obtain⟨μ,M,o,L,b,R,r1,r2,e,q⟩:=h;obtain⟨qq,e1,e2⟩:=QN.mp e;split at e2
 ·next hk=>
  obtain⟨a,j,B,xs,rfl,ho,Y,W,P,hc,O,dp,nd⟩:=pe hd I R r2 e1;obtain⟨kk,z⟩:=n8 hk j;obtain⟨c,rfl⟩:=j.ref r1 z;obtain⟨J,hz,E⟩:=KD.dict I P dp nd;obtain rfl:v=Value.ref c:=S;obtain rfl:u=Value.ref a:=U;rw[O] at e2;cases e2;have eq:(cV (B.map lJ) L).isSome=(atKey xs kk).isSome:=by
   rcases dp.look z with⟨h1,h2⟩|⟨_,_,_,_,h1,h2,_⟩<;>rw[h1,h2]<;>rfl
  rw[eq] at q;cases n with
  |false=>exact wpAny_in_heap (j.room F) (j.is I r1 z) J E.of {.bl _,H,I.tok _,rfl,by simpa using q}
  |true=>exact wpAny_notIn_heap (j.room F) (j.is I r1 z) J E.of {.bl _,H,I.tok _,rfl,by simpa using q}
 ·cases e2
def rDS (fa:Fa)(K:PJ):CZ:=λx y v H Q=>∃μ M o j d q,RelM fa K μ H M/\Rep fa K μ H (.fn o) x/\Rep fa K μ H j y/\Rep fa K μ H d v/\cS M o=some q/\isKey q.1 j=true/\q.2.length<1000000/\∀h,Ext μ H μ h->RelM fa K μ h (M.set (o-5000) (.int q.1::putD q.2 j d))->Q h
def qk (hd:ix fa)(I:Inv X pins σ H s)(Q:RelM fa X.K μ H M)(r1:Rep fa X.K μ H (.fn o) x)(r2:Rep fa X.K μ H dy y)(ry:RelV y iv)(rv:RelV v u)(r3:Rep fa X.K μ H d v)(e1:cS M o=some q)(hk:isKey q.1 dy=true)(hl:q.2.length<1000000) :
 ∃(a b:Addr) (kd:KD X q.1) (kk:kd.K) (xs:List (kd.K×Addr×PL)),x=.ref a/\iv=.ref b/\kd.knd.is s.heap kk b/\xs.length≤sizeLine/\iR kd.knd s.heap a xs/\∀J t,iR kd.knd J a (storedH xs kk b u)->Rz a s.heap J->∃O,Inv X pins σ O {s with heap:=J,toks:=t}/\Ext μ H μ O/\RelM fa X.K μ O (M.set (o-5000) (.int q.1::putD q.2 dy d)):=by
 obtain⟨a,kd,h,xs,rfl,ho,ha,Y,L,hc,E,dp,nd⟩:=pe hd I Q r1 e1;obtain⟨kk,F⟩:=n8 hk kd;obtain⟨b,rfl⟩:=kd.ref r2 F;obtain⟨ys,hz,S⟩:=KD.dict I L dp nd;obtain rfl:iv=Value.ref b:=ry;have j:=dp.put F r2 rv r3;refine{a,b,kd,kk,xs,rfl,rfl,kd.is I r2 F,hz,S,λJ t P hs=>?_};obtain⟨R,es',h1,h2,h3,h4,_,_⟩:=P;have lx:(storedH xs kk b u).length≤sizeLine:=by
  have l1:=Paired.length j;have l2:(jS h dy d).length≤h.length+1:=by
   unfold jS;split<;>simp
  have l3:h.length<1000000:=by rw[E,PK] at hl;exact hl
  rw[<- l1,sizeLine_eq];omega
 have eo:aI (o-5000)=o:=Nat.add_sub_cancel' ho;have x:=Ext.dic (es':=(storedH xs kk b u).map (entryOfKey kd.knd)) Q L;refine{upd H a (.dn ((storedH xs kk b u).map (entryOfKey kd.knd))),I.write (by rw[L];exact True.intro) (.inl rfl) (λb q hb z=>(hs.2 b hb).trans z) ⟨R,h1⟩ {by simpa using lx,ys,R,h1,h2,?_},x,?_}
 ·have B:=congrArg List.length h4;rw[PK] at B;rw[h3,<- h4,B]
 ·refine Q.dicW Y (by rw[eo];exact ha) L (.inr {q.1,_,jS h dy d,cw,hc,?_,RO.mapP (KD.back j) λp e ⟨b,v,e1,e2,E,U,W⟩=>{b,v,e1,e2,E.ext x,U,W.ext x},dp.keys nd F})
  rw[E,<- IT];rfl
def FL (P:Rm X)(hd:ix fa):C3 X (rDS fa X.K):=by
 intro pins s σ H x y v W iv u Q I rx ry rv h;obtain⟨μ,M,o,dy,d,q,L,r1,r2,Y,e1,hk,hl,k⟩:=h;obtain⟨a,b,S,kk,xs,rfl,rfl,O,R,F,z⟩:=qk hd I L r1 r2 ry rv Y e1 hk hl;obtain rfl:W=Value.ref a:=rx;refine wQ (hsz:=R) (S.room P) O F λJ j hs=>?_;obtain⟨B,E,x',U⟩:=z J _ j hs;exact{B,E,k B x' U}
end
section
variable{fa:Fa}{X:Cx}{a b d:Expr}{ga gb gd:GE}{pos:Pos}
def KP (O:Rm X)(hd:ix fa)(J:DE fa X a ga)(L:DE fa X b gb)(hs:i0 b):DE fa X (.Subscript a b pos) (fK ga gb):=
 bL (wY (Mg O hd) J L hs) λW H Q ⟨S,U,M,E,I,h⟩=>t2 E I h λx y B v u R z P F j r1 r2 h2=>by
  cases x with
  | fn o =>
    obtain⟨d,e,q⟩:=j8 h2;exact{z,B,o,y,d,j,r1,r2,e,bj.ext q P}
  |_=>exact h2.elim
def wc {x y:D}(h:ae (match y with|.fn o=>(match inD M o x with|some r=>Res.ok (D.bl (n != r)) M|none=>.bad)|_=>.bad) k):∃o r,y=.fn o/\inD M o x=some r/\k (.bl (n != r)) M:=by
 cases y with
 | fn o =>
   dsimp only at h;cases e:inD M o x with
   |none=>rw[e] at h;exact h.elim
   |some r=>rw[e] at h;exact⟨o,r,rfl,e,h⟩
 |_=>exact h.elim
def MS (n:Bool)(O:Rm X)(hd:ix fa)(J:DE fa X a ga)(L:DE fa X b gb)(hm:behindInMarks (if n then .NotIn else .In) b=false):DE fa X (.Compare a [if n then .NotIn else .In] [b] pos) (lg n ga gb):=
 bL (pV (ED O hd n) J L hm) λW H Q ⟨S,U,M,E,I,h⟩=>t2 E I h λx y B v u R z P F j r1 r2 h2=>by
  obtain⟨o,r,rfl,e,q⟩:=wc h2;exact{z,B,o,x,r,j,r1,r2,e,aS j (q.ext P) rfl}
def Kk (n:Bool)(W:Rm X)(hd:ix fa)(S:DE fa X a ga)(U:DE fa X b gb)(hm:behindInMarks (if n then .NotIn else .In) b=false):DT fa X (.Compare a [if n then .NotIn else .In] [b] pos) (aj (lg n ga gb)):=
 j5 (pT (ED W hd n) S U hm) λσ H Q ⟨μ,ρ,M,O,R,h⟩=>by
  obtain⟨z,I,e,q⟩:=aM h;have L:ae (lg n ga gb ρ M) (λd M=>d=z/\M=I):=by rw[e];exact⟨rfl,rfl⟩
  refine t2 O R L λx y F v u E B Y P j r1 r2 h2=>?_;obtain⟨o,r,rfl,e1,e2,J⟩:=wc h2;subst e2 J;exact{B,F,o,x,r,j,r1,r2,e1,n != r,rfl,q E B Y j}
set_option tactic.hygienic true in
def Io (hu:Rm X)(hk:ix fa)(W:DE fa X a ga)(Y:DE fa X b gb)(hd:DE fa X d gd)
 (R:∀v,assign (.Subscript a b p2) X.env v=(do
  let u <- holding [v] (eval a X.env)
  let J <- holding [v,u] (eval b X.env)
  standAt p2
  holding [v,u,J] (setItem u J v)
  release [v,u,J] [])) (hs:swapsWithSole [.Subscript a b p2] d pos.line X.env=pure false) (hw:swappedStores [.Subscript a b p2] d X.env=pure none) :
 DS fa X (.Assign [.Subscript a b p2] d pos) (hV ga gb gd):=
 da (lV hd (zw W Y (FL hu hk) R) hs hw) λD' σ H ⟨μ,ρ,M,S,U,h⟩=>t1 S U h λz M1 v H1 μ1 x1 B F r1 h1=>t2 B F h1 λx y L vx vy H2 j P E I rx ry h2=>by
  cases x with
  | fn o =>
    dsimp only at h2;cases e:cS L o with
    |none=>rw[e] at h2;exact h2.elim
    | some q =>
      rw[e] at h2;dsimp only at h2;split at h2
      ·next c=>
       have w:=h2;exact{j,L,o,y,z,q,I,rx,ry,r1.ext P,e,c.1,c.2,λQ O m'=>w σ Q j ((x1.trans P).trans O) (E.ext O) m'}
      ·exact h2.elim
  |_=>exact h2.elim
def KN (c:Int)(z:c=77\/c=78)(hd:ix fa):DE fa X (.Dict [] [] pos) (xv c):=by
 intro v s J H Q I ⟨B,F,M,E,j,h⟩;have y:sysModules<s.heap.objs.size:=Nat.lt_trans `d (I.mod.glob.keeps I.bk).lt
 have u:=I.hok.fresh (PV _);refine wpAny_Dict_empty {.ref s.heap.objs.size,_,I.laid (o:=.dn []) (λ_ _ q=>PM _ q) (PV _) {Rh _,Rb.mpr (Q0 (Qw y)),_,Qn _ rfl,⟨rfl,rfl,rfl⟩,rfl},rfl,?_};refine h _ _ (mV B M.length s.heap.objs.size) (Ext.dicNew j u) (j.dicNew u z) {_,rfl,.inr {hd.of _ (Rt _ _),?_}};show(if aI M.length=aI M.length then some s.heap.objs.size else _)=_;rw[if_pos rfl]
end
def tO (hd:(d==sysModules)=false) :
 MeetsIn prog w (Builtin.«dict.__len__» {[.ref d],[]}) (λ_ R s=>∃o es u,s.heap.get? d=some o/\o.data=.dict es u/\R (.ok (.ret (.int es.size s.toks))) {s with toks:=s.toks+1}):=
 .of_wp λA R s ⟨o,es,u,ho,j,h⟩=>by
  show wpAny _ _ (dictSize d >>= _) _ _ s;refine tqa (tqa (wpAny_dictEntries ho j (tqb ?_)));refine tqa (wpAny_pendingCount_other hd (wpAny_ret_mkInt ?_));rw[Nat.add_zero];exact h
def JL (hd:(d==sysModules)=false)(ho:s.heap.get? d=some o)(y:o.cls=.type "dict")(j:o.data=.dict es ep)(v:es.size<2^62)
 (h:∀t t',Q (.int es.size t) {s with toks:=t'}):wpAny (model prog w) A (call (.builtin "len") [.ref d]) Q E s:=by
 have u:s.TypeIs (.ref d) "dict":=⟨o,ho,y⟩;refine Calls.call_function_entry kind_len plain_len entry_len (args_len1 _) ?_;refine tqa (tqb ?_);refine tqa (wpAny_callSpecial?_slot u F.slot_dict_len (call_meetsIn F.slot_dict_len u F.entry_dict_len (F.args_dict_len_1 _) (tO hd) {o,es,ep,ho,j,?_}));refine tqa (tqo (tqb (tqa (wpAny_letGo ?_))));rw[if_neg `a]
 rw[if_neg `a]
 exact tqa (wpAny_mkInt (tqb {_,rfl,h _ _}))
def la (a:GE):GE:=λh M=>(a h M).bind λx M=>match x with
 | .fn o => (match cS M o with
   |some q=>.ok (.int q.2.length) M
   |none=>.bad)
 |_=>.bad
section
variable{fa:Fa}{X:Cx}{a:Expr}{ga:GE}{p pos:Pos}
def Ka (hd:ix fa):cu X (.builtin "len") (λxs H Q=>∃μ M o q v,xs=[v]/\RelM fa X.K μ H M/\Rep fa X.K μ H (.fn o) v/\cS M o=some q/\Q (.int q.2.length) H):=by
 intro j s σ H xs us Q I r h;obtain⟨μ,M,o,q,v,rfl,F,P,e,k⟩:=h;obtain⟨b,J,L,R,rfl,ho,U,S,E,W,u,dp,nd⟩:=pe hd I F P e;cases r with
 | cons r O =>
   cases O;obtain rfl:=(r);obtain⟨z,y,ob,h1,h2,h3⟩:=(I.hok b _ E);have B:(R.map (entryOfKey J.knd)).toArray.size=q.2.length:=by
    rw[u,P7,PK,PK];exact(Paired.length dp).symm
   refine JL y h1 h2.1 h3 ?_ λt Y=>{.int q.2.length,H,I.tok _,{t,by rw[B]},k}
   rw[P7];rw[sizeLine_eq] at z;omega
def KO (hd:ix fa)(I:Gl X "len")(hm:X.mg "len"=none)(F:DE fa X a ga)(he:notStar a=true):DE fa X (.Call (.Name "len" p) [a] [] pos) (la ga):=
 bL (i8 (Ka hd) I hm PySem.boot_len (cM F eR (by rw[bt he])) `d `d (by rw[bt he]) `r) λR H Q ⟨O,P,M,z,E,h⟩=>t1 z E h λx y v L u J B j r1 h1=>by
  cases x with
  | fn o =>
    dsimp only at h1;cases e:cS y o with
    |none=>rw[e] at h1;exact h1.elim
    |some q=>rw[e] at h1;exact{u,y,o,q,v,rfl,j,r1,e,aS j (bj.ext h1 J) rfl}
  |_=>exact h1.elim
end
def jG (u y:GE):Env->List D->Mem->Res (List D):=λj h M=>(u j M).bind λk M=>(y j M).bind λv M=>match h with
 | [.fn o] => (match cS M o with
   |some q=>if isKey q.1 k=true/\q.2.length<1000000 then .ok h (M.set (o-5000) (.int q.1::putD q.2 k v)) else .bad
   |none=>.bad)
 |_=>.bad
def kj (c:Int)(n:Nat)(t:fN)(u:GW)(g:GB):GE:=λj M=>(u j M).bind λw M=>(cT (cU t g (List.replicate n none++j)) w [.fn (aI M.length)] (M++[[.int c]])).bind λh M=>match h with
 |[d]=>.ok d M
 |_=>.bad
def wB (a:Addr):PA:=λj _ h=>∃o,h=[.fn o]/\5000≤o/\j.ob o=some a
def wB.stab:xV (wB a):=λ_ _ _ _ _ x ⟨o,h1,h2,h3⟩=>{o,h1,h2,x.obs _ _ h3}
def Bt (B y h j:Expr)(u:Scope)(pos:Pos)(z:PL)(d:Addr)(env:Rg) :
 compTurn (.DictComp B y [{h,j,[],0}] u pos) 0 z (.ref d) env=(standAt j.pos >>= λ_=>pyNext z >>= λr=>match r with
  |none=>pure (.done .next)
  |some v=>letOwnedTupleGo h z v >>= λ_=>assign h env v >>= λ_=>(eval B env >>= λE=>holding [E] (eval y env) >>= λF=>standAt {B.pos with endLine:=y.pos.endLine,endCol:=y.pos.endCol} >>= λ_=>holding [E,F] (dictSet d E F)) >>= λ_=>again (.compLoop (.DictComp B y [{h,j,[],0}] u pos) 0 z (.ref d) env)):=`r
section
variable{fa:Fa}{X:Cx}{a:Addr}
set_option tactic.hygienic true in
def G4 (hu:Rm X)(hd:ix fa)(hk:DE fa X kx gk)(hv:DE fa X vx gv):DB fa X (wB a) a [] (eval kx X.env >>= λY=>holding [Y] (eval vx X.env) >>= λvv=>standAt {kx.pos with endLine:=vx.pos.endLine,endCol:=vx.pos.endCol} >>= λ_=>holding [Y,vv] (dictSet a Y vv)) (jG gk gv):=by
 rintro z s O H Q μ ρ M _ I U hM hc ⟨o,rfl,ho,W⟩ h;obtain⟨k,M1,e,h⟩:=aM h;obtain⟨v,M2,e2,h⟩:=aM h;dsimp only at h;cases R:cS M2 o with
 |none=>rw[R] at h;exact h.elim
 | some q =>
   rw[R] at h;dsimp only at h;split at h
   ·next c=>
    refine tqa (aP (hk z s O H (λv y=>∃j,Ext μ H j y/\RelM fa X.K j y M1/\Rep fa X.K j y k v) I {μ,ρ,M,U,hM,?_}) λuk s1 ⟨wk,y,I1,rk,j,B,E,r1⟩=>?_)
    ·rw[e];exact λv y j B E r1=>⟨j,B,E,r1⟩
    refine tqa (tqo (aP (hv z s1 O y (λw J=>∃u,Ext j y u J/\RelM fa X.K u J M2/\Rep fa X.K u J v w) I1 {j,ρ,M1,U.ext B,E,?_}) λuv s2 ⟨wv,J,I2,rv,u,L,m2,r2⟩=>?_))
    ·rw[e2];exact λv y j B E r1=>⟨j,B,E,r1⟩
    have F:=L.obs _ _ (B.obs _ _ W);obtain⟨a',b,kd,kk,xs,ea,rfl,hi,hz,dd,S⟩:=qk hd I2 m2 {a,rfl,.inr {hd.of _ ho,F}} (r1.ext L) rk rv r2 R c.1 c.2;cases ea;refine tqa (wpAny_standAt (tqo (lj (hsz:=hz) (kd.room0 hu) hi dd λh' P hs=>?_)));obtain⟨H',I',x',m'⟩:=S h' _ P hs;exact{O,H',I',h O H' u ((B.trans L).trans x').toD (((U.ext B).ext L).ext x') m' {o,rfl,ho,x'.obs _ _ F}}
   ·exact h.elim
def uV {c:Int}{rest:List R0}(hc:c=77\/c=78)(hd:ix fa)
 (S:fF X own bn scope) (Y:X.calm=true) (hi:DI fa X tg iter gw) (B:Block fa X wB own bn scope tg t W body g) (hT:∀(it a:Addr) (env:Rg),compTurn (.DictComp kx vx ({tg,iter,ifs,0}::rest) scope pos) 0 (.ref it) (.ref a) env=(standAt iter.pos >>= λ_=>pyNext (.ref it) >>= λr=>match r with
  |none=>pure (.done .next)
  |some v=>letOwnedTupleGo tg (.ref it) v >>= λ_=>assign tg env v >>= λ_=>body a env >>= λ_=>again (.compLoop (.DictComp kx vx ({tg,iter,ifs,0}::rest) scope pos) 0 (.ref it) (.ref a) env))) (hW:∀i∈W,i∉slots t) (hn:∀i∈slots t++W,i<own.length)
 (hs:∀x,foldedSetIterable iter X.env x=pure x)
 (I:Inv X pins σ H s) (hE:bw fa X.K μ H σ ρ) (hM:RelM fa X.K μ H M) (h:ae (kj c own.length t gw g ρ M) (bj fa X.K μ H Q))
 (post:∀(a C:Addr) (s':PX) (E:Hp),Inv X pins σ E s'->Q (.ref a) E->(∃m,s'.heap.Ns C m)->(∀σ2 F s2,Inv X pins σ2 F s2->(E C=none->F C=none)->F C=none/\∀U,Rz C s2.heap U->Inv X pins σ2 F {s2 with heap:=U})->E C=none->(C≠X.env.locals/\∀x c,X.env.cells.lookup x=some c->c≠C)->compPost (model X.prog X.w) X.A X.xe use QQ (.ref a) C (.ok .next) s') :
 wpAny (model X.prog X.w) X.A (comprehension (.DictComp kx vx ({tg,iter,ifs,0}::rest) scope pos) scope X.env p0 newDict false (eval iter X.env) use) QQ X.xe s:=by
 obtain⟨w,M1,ew,q⟩:=aM h;obtain⟨acc,M2,ea,q2⟩:=aM q;obtain⟨cl,hcl,R,P⟩:=pj λy hy hf=>I.ok.has y.1 (S.free y hy hf);refine wpAny_comprehension_free rfl hs hcl S.kind S.loc ?_;refine aP (hi pins s σ H (λJ H1=>∃L,Ext μ H L H1/\RelM fa X.K L H1 M1/\eE fa X.K L H1 w J) I {μ,ρ,M,hE,hM,?_}) λv s1 h1=>aP h1 λitv s2 h2=>?_
 ·rw[ew];exact λJ H1 L x1 m1 wk=>⟨L,x1,m1,wk⟩
 obtain⟨it,fp,tn,J,F,ei,I2,T,st2,f2,μ2,x2,m2,wk⟩:=h2;subst ei;refine tqa (wpAny_alloc (tqb ?_));have j:sysModules<s2.heap.objs.size:=Nat.lt_trans `d (I2.mod.glob.keeps I2.bk).lt
 have ha:=I2.hok.fresh (PV _);have I3:Inv X pins σ (upd F s2.heap.objs.size (.dn [])) {s2 with heap:=s2.heap.push {cls:=.type "dict",data:=.dict #[]}}:=
  I2.laid (λb o e=>PM _ e) (PV _) {Rh _,Rb.mpr (Q0 (Qw j)),_,Qn _ rfl,⟨rfl,rfl,rfl⟩,rfl}
 generalize hs3:({s2 with heap:=s2.heap.push {cls:=.type "dict",data:=.dict #[]}}:PX)=s3 at I3 ⊢
 have k3:∀b o,s2.heap.get? b=some o->s3.heap.get? b=some o:=λb o e=>by rw[<- hs3];exact PM _ e
 have fo2:=T.obj _ _ st2;have f3:∀b∈fp,fC X pins (upd F s2.heap.objs.size (.dn [])) b:=λb j=>by
  obtain⟨o,e,_⟩:=fo2 b j;exact{by rw[aF (Qw (Qk e))];exact(f2 b j).1,(f2 b j).2}
 have fo3:∀b∈fp,∃o,s3.heap.get? b=some o:=λb j=>let{o,e,_}:=fo2 b j;{o,k3 b o e}
 obtain⟨CL,hce⟩:=EC S R P (s3.heap.push {cls:=.type "dict",data:=.dict #[]}) (RC ..);generalize O:cellsFrom (s3.heap.objs.size+1) scope.names cl=cl' at CL hce;refine qX ?_;rw[O];have u:(pushCells (s3.heap.push {cls:=.type "dict",data:=.dict #[]}) scope.names).Ns s3.heap.objs.size (λ_=>none):=(Heap.Ns.new s3.heap (.type "dict")).keeps (pushCells_keeps _ _);have k4:∀b o,s3.heap.get? b=some o->(pushCells (s3.heap.push {cls:=.type "dict",data:=.dict #[]}) scope.names).get? b=some o:=λb o e=>pushCells_keeps _ _ b o (PM _ e);generalize pushCells (s3.heap.push {cls:=.type "dict",data:=.dict #[]}) scope.names=h₁ at u k4 hce ⊢;clear hcl O R P cl
 rename List (Str×Addr)=>cl
 have I4:=ui (t':=s3.toks) I3 S CL f3 fo3 u k4 hce;have ok4:=I4.ok;have f4:∀b∈fp,fC (fV X own bn scope cl s3.heap.objs.size fp s3 (upd F s2.heap.objs.size (.dn []))) [] (upd F s2.heap.objs.size (.dn [])) b:=λb j=>
  {(f3 b j).1,(ok4.exf b j).1,ok4.exfs b j,.inl j,(ok4.exf b j).2,λp hp=>nomatch hp}
 have st4:=T.keep _ _ _ st2 λb j o e=>k4 b o (k3 b o e);have x3:=Ext.dicNew m2 ha;have m3:=m2.dicNew ha hc;have go:=qo wB.stab (X:=fV X own bn scope cl s3.heap.objs.size fp s3 (upd F s2.heap.objs.size (.dn []))) (acc:=[.fn (aI M1.length)]) (Q:=λ_ E=>Q (.ref s2.heap.objs.size) E) (hT it s2.heap.objs.size _) ⟨rfl,rfl⟩ rfl Y T (B.pg _ _ _ _ _) (B.db _ _ _ _ _ _) hW I4 st4 f4
  (sV own.length ((hE.ext x2).ext x3)) m3 (q9 hn) {_,rfl,Rt _ _,if_pos rfl} (qz wk x3.toExtW) (by
   rw[ea];rintro σ' E μ' z1 z2 z3 ⟨o,rfl,ho,hob⟩;have z:Ext _ _ μ' E:={z1.toExtW,z1.pr,λb j=>z1.pk b j λe=>by
    obtain⟨⟨vs,q⟩,_⟩:=m2.pv b j;rw[e,ha] at q;cases q}
   exact q2 (.ref s2.heap.objs.size) E μ' ((x2.trans x3).trans z) z3 {_,rfl,.inr {hd.of _ ho,hob}})
 have go':codeAny (model X.prog X.w) X.A (.compLoop (.DictComp kx vx ({tg,iter,ifs,0}::rest) scope pos) 0 (.ref it) (.ref s2.heap.objs.size) (compEnvC scope cl s3.heap.objs.size X.env)) (compPost (model X.prog X.w) X.A X.xe use QQ (.ref s2.heap.objs.size) s3.heap.objs.size) {s3 with heap:=h₁}:=
  codeAny_mono go λr s' ⟨er,σ',E,I',z⟩=>by
   subst er;refine post _ _ s' E (comp_back I3 f3 I') z (let{m,hn,_}:=I'.loc;⟨m,hn⟩) (λσ2 F s2' I2' hf=>{hf I'.free,λU hs''=>q8 I3 (hf I'.free) I2' hs''}) I'.free {QR I3.lt,λx c e z=>by
    obtain⟨v,q⟩:=I3.cell x c e;exact absurd q.lt (by rw[z];exact Q4 _)}
 exact codeAny_compStart_dict go' (T.self _ 0 _ _ _ st4 go')
def G7 {c:Int}{z y E j:Expr}{pos:Pos}(hc:c=77\/c=78)(hd:ix fa)
 (S:fF X own bn scope) (u:X.calm=true) (hi:DI fa X E j gw) (B:Block fa X wB own bn scope E t [] (λa env=>eval z env >>= λJ=>holding [J] (eval y env) >>= λP=>standAt {z.pos with endLine:=y.pos.endLine,endCol:=y.pos.endCol} >>= λ_=>holding [J,P] (dictSet a J P)) (jG gk gv)) (hn:∀i∈slots t++[],i<own.length)
 (hs:∀x,foldedSetIterable j X.env x=pure x):DE fa X (.DictComp z y [{E,j,[],0}] scope pos) (kj c own.length t gw (jG gk gv)):=by
 intro O s σ H Q I ⟨μ,ρ,M,W,Y,h⟩;refine uV hc hd S u hi B (λit a env=>Bt z y E j scope pos (.ref it) a env) (λ_ h=>nomatch h) hn hs I W Y h ?_;intro a C s' L R q ⟨m,hn⟩ v hf _;exact{m,hn,λU F=>{.ref a,L,(v σ L s' R id).2 U F,rfl,q}}
end
def CV (hh:A.in1.handled=none)(S:p≠I)(Y:Nat->Bool)(G:Heap->Prop)(J:∀h u,G h->(∀b o,b∉[I]->h.get? b=some o->u.get? b=some o)->G u)
 (U:∀i v (s:PX) (Q:Bool->PX->Prop) (E:PL->PX->Prop),items[i]?=some v->G s.heap->(∀t,Q (Y i) {s with toks:=t})->wpAny (model prog w) A.in1 (truthy v) Q E s):∀(k i:Nat) (s:PX),items.size-i=k->i≤items.size->(s.heap.IsListIter I p i/\s.heap.IsList p items)->G s.heap->
 (∀u tk,G u->R (.ok (.ret (.bool (((List.range items.size).drop i).any Y)))) {s with heap:=u,toks:=tk})->codeAny (model prog w) A (.builtin "any.loop" {[.ref I],[]}) R s:=by
 have W:=Walks.list (prog:=prog) (w:=w) hh I p S items;intro k;induction k with
 | zero =>
   intro i s hk hi z g L;have P:i=items.size:=`a
   subst P;refine codeAny_builtin F.entry_any_loop ?_;rw[Around.under_plainId F.plain_any_loop _];refine tqa (W.done s _ _ z λu tk j=>?_);refine tqa (wpAny_rule (tqb ?_));have:=L u tk (J _ _ g j);rw[List.drop_of_length_le `s] at this
   exact this
 | succ k ih =>
   intro i s hk hi z g L;have y:i<items.size:=`a
   have hd:(List.range items.size).drop i=i::(List.range items.size).drop (i+1):=by
    rw[List.drop_eq_getElem_cons (by simpa using y)];simp
   refine codeAny_builtin F.entry_any_loop ?_;rw[Around.under_plainId F.plain_any_loop _];refine tqa (W.item i s _ _ y z λv u tk hP B j=>?_);refine tqa (tqo (U i v _ _ _ hP (J _ _ g j) λt=>?_));refine tqa (wpAny_letGo ?_);cases hb:Y i with
   | false =>
     refine tqb {plainId_quiet F.plain_any_loop _,ih (i+1) _ `a y B (J _ _ g j) λO H M=>?_}
     have:=L O H M;rw[hd,List.any_cons,hb,Bool.false_or] at this;exact this
   | true =>
     refine tqa (wpAny_rule (tqb ?_));have:=L u t (J _ _ g j);rw[hd,List.any_cons,hb,Bool.true_or] at this;exact this
def range_any (bs:List Bool):((List.range bs.length).any λi=>(bs[i]?).getD false)=bs.any id:=by
 rw[Ra,Rv,Rv];constructor
 ·rintro⟨i,_,e⟩;cases z:bs[i]? with
  |none=>rw[z] at e;cases e
  |some b=>rw[z] at e;exact{b,Qb z,e}
 ·rintro⟨b,j,e⟩;obtain⟨i,h⟩:=RS j;exact{i,RI.mpr (PH.mp h).1,by rw[h];exact e}
def nJ (M:Mem):D->Option Bool
 |.bl b=>some b
 |d=>(eP M d).map λxs=>!xs.isEmpty
def Bu (h:nJ M d=some b):d=.bl b\/∃xs,eP M d=some xs/\b=!xs.isEmpty:=by
 cases d with
 |bl c=>cases h;exact .inl rfl
 | _ =>
   simp only[nJ] at h;obtain⟨xs,e1,e2⟩:=Qi.mp h;exact .inr ⟨xs,e1,e2.symm⟩
noncomputable def jt (M:Mem):List D->Option (List Bool)
 |[]=>some []
 |d::r=>(nJ M d).bind λb=>(jt M r).map (b::·)
theorem sm:∀{ds:List D}{bs:List Bool},jt M ds=some bs->bs.length=ds.length/\∀(i:Nat) d,ds[i]?=some d->∃b,bs[i]?=some b/\nJ M d=some b
 |[],_,h=>by cases h;exact{rfl,λ_ _ e=>by simp at e}
 | d :: ds, _, h => by
   obtain⟨b,e,h⟩:=QN.mp h;obtain⟨bs,e2,rfl⟩:=Qi.mp h;obtain⟨h1,h2⟩:=sm e2;refine{by simp[h1],λi j z=>?_}
   cases i with
   |zero=>cases z;exact⟨b,rfl,e⟩
   |succ i=>exact h2 i j z
def qf (a:GE):GE:=λj M=>(a j M).bind λx M=>match eP M x with
 | some h => (match jt M h with
   |some bs=>.ok (.bl (bs.any id)) M
   |none=>.bad)
 |none=>.bad
section
variable{fa:Fa}{X:Cx}{a:Expr}{ga:GE}{p pos:Pos}
def Ms:cu X (.builtin "any") (λxs H Q=>∃μ M ds bs p vs,xs=[.ref p]/\X.calm=true/\RelM fa X.K μ H M/\dh X.K H p vs/\aL fa X.K μ H ds vs/\jt M ds=some bs/\Q (.bl (bs.any id)) H):=by
 intro y s σ H xs us Q I r h;obtain⟨μ,M,ds,bs,p,vs,rfl,hc,hM,hq,rl,eb,q⟩:=h;obtain⟨u,rfl,rx⟩:=vals1 r;cases rx;obtain⟨j,S,pl,hz⟩:=I.list hq;obtain⟨hl,hb⟩:=sm eb;have P:=pl.lt;refine call_function_tree F.kind_any F.plain_any F.entry_any (F.args_any1 _) ?_;refine tqa (tqb ?_);refine tqa (wpAny_pyIter_list pl.isList ?_);refine tqb {plainId_quiet F.plain_any_loop _,CV (I.ok.hd hc) (Qw P) (λi=>(bs[i]?).getD false) (λh=>∀b o,s.heap.get? b=some o->h.get? b=some o) (λh h' g k b o e=>k b o (λz=>by rw[Qa.mp z] at e;exact absurd (Qk e) (Q4 _)) (g b o e)) ?_ j.toArray.size 0 _ rfl (Rh _) {{_,Qn _ rfl,rfl,rfl},pl.isList.push _} (λb o e=>PM _ e) λh' tk g=>?_}
 ·intro i v s' Q' E' e g O;have e:j[i]?=some v:=by simpa using e
  have Y:i<vs.length:=by rw[S.length];exact(PH.mp e).1
  obtain⟨d,ed,rd⟩:=rl.getV (P4 Y);obtain⟨u,W,E⟩:=S.get (P4 Y);rw[e] at W;cases W;obtain⟨b,e1,e2⟩:=hb i d ed;rw[e1] at O;have list:∀xs,eP M d=some xs->b=!xs.isEmpty->wpAny (model X.prog X.w) X.A.in1 (truthy v) Q' E' s':=λxs J L=>by
   obtain⟨a,ws,ev,hw,U⟩:=bP hM rd J;rw[ev] at E;obtain rfl:=(E);have I':Inv X y σ H {s with heap:=s'.heap,toks:=s.toks}:=I.kept g
   obtain⟨its',B,R,hz'⟩:=I'.list hw;have hlen:=B.length;have hs:=sizeLine_eq;refine wpAny_truthy_list R.isList (by simp only[P7];omega) ?_
   rw[kW B,show ws.isEmpty=xs.isEmpty by rw[Ra,List.isEmpty_iff_length_eq_zero,List.isEmpty_iff_length_eq_zero,U.length],<- L]
   exact O _
  rcases Bu e2 with rfl|⟨xs,J,L⟩
  ·rw[show vs[i]=V.bl b from rd] at E;obtain rfl:=(E);exact tqp (O _)
  ·exact list xs J L
 ·rw[List.drop_zero,P7,<- S.length,rl.length,<- hl,range_any];exact{.bl _,H,I.kept g,rfl,q}
def MX (J:X.calm=true)(L:Gl X "any")(hm:X.mg "any"=none)(I:DE fa X a ga)(he:notStar a=true):DE fa X (.Call (.Name "any" p) [a] [] pos) (qf ga):=
 bL (i8 (Ms) L hm `k (cM I eR (by rw[bt he])) `d `d (by rw[bt he]) `r) λY H Q ⟨U,W,M,B,F,h⟩=>t1 B F h λx u v S y R E j r1 h1=>by
  cases e:eP u x with
  |none=>rw[e] at h1;exact h1.elim
  | some z =>
    rw[e] at h1;dsimp only at h1;cases e2:jt u z with
    |none=>rw[e2] at h1;exact h1.elim
    | some bs =>
      rw[e2] at h1;obtain⟨a,P,rfl,O,r⟩:=bP j r1 e;exact{y,u,z,bs,a,P,rfl,J,j,O,r,e2,aS j (bj.ext h1 R) rfl}
def qe (a:GE):GE:=λh M=>(a h M).bind λx M=>match x with
 | .cell k => match M[k]? with
   |some _=>.ok .non (M.set k [])
   |none=>.bad
 |_=>.bad
def MU (L:DE fa X a ga)(u:attributeBase a "clear" X.env (eval a X.env)=eval a X.env)(y:(apos.endLine==cpos.line)=true) :
 DE fa X (.Call (.Attribute a "clear" apos) [] [] cpos) (qe ga):=
 bL (Jf PySem.F.plainAttrs_list PySem.F.slot_list_clear PySem.F.type_list_clear Cb L u y) λσ H Q ⟨W,Y,M,E,J,h⟩=>
  t1 E J h λx B v R z O I j r1 h1=>by
   cases x with
   | cell k =>
     dsimp only at h1;cases e:B[k]? with
     |none=>rw[e] at h1;exact h1.elim
     | some S =>
       rw[e] at h1;obtain⟨ad,rfl,hk⟩:=r1;obtain⟨ws,h4,U⟩:=j.at_ e hk;refine{.inl {rfl,ws,dh.of h4},ad,ws,rfl,rfl,h4,?_};have P:=Ext.write (vs:=ws) (ws:=[]) j hk;exact h1 .non _ z (O.trans P) (j.write hk rfl) rfl
   |_=>exact h1.elim
end
def vV (c:Int)(gk gv:GE):GE:=λj M=>(gk j (M++[[.int c]])).bind λk u=>(gv j u).bind λv h=>match cS h (aI M.length) with
 |some q=>if isKey q.1 k=true/\q.2.length<1000000 then .ok (.fn (aI M.length)) (h.set (aI M.length-5000) (.int q.1::putD q.2 k v)) else .bad
 |none=>.bad
section
variable{fa:Fa}{X:Cx}{kx vx:Expr}{gk gv:GE}{pos:Pos}
set_option tactic.hygienic true in
def G6 (c:Int)(hc:c=77\/c=78)(hu:Rm X)(hd:ix fa)(hk:DE fa X kx gk)(hv:DE fa X vx gv):DE fa X (.Dict [some kx] [vx] pos) (vV c gk gv):=by
 intro u s W H Q I ⟨μ,ρ,M,hE,hM,h⟩;obtain⟨k,M1,e1,h⟩:=aM h;obtain⟨v,M2,e2,h⟩:=aM h;cases L:cS M2 (aI M.length) with
 |none=>rw[L] at h;exact h.elim
 | some q =>
   rw[L] at h;dsimp only at h;split at h
   ·next cc=>
    have hb:sysModules<s.heap.objs.size:=Nat.lt_trans `d (I.mod.glob.keeps I.bk).lt
    have ha:=I.hok.fresh (PV _);have I0:Inv X u W (upd H s.heap.objs.size (.dn [])) {s with heap:=s.heap.push {cls:=.type "dict",data:=.dict #[]}}:=
     I.laid (λb o e=>PM _ e) (PV _) {Rh _,Rb.mpr (Q0 (Qw hb)),_,Qn _ rfl,⟨rfl,rfl,rfl⟩,rfl}
    have S:=Ext.dicNew hM ha;have m0:=hM.dicNew ha hc;have P:(mV μ M.length s.heap.objs.size).ob (aI M.length)=some s.heap.objs.size:=if_pos rfl;refine wpAny_Dict_any rfl rfl `s (P5 rfl) ?_
    refine tqa (aP (hk u _ W _ (λv z=>∃j,Ext (mV μ M.length s.heap.objs.size) (upd H s.heap.objs.size (.dn [])) j z/\RelM fa X.K j z M1/\Rep fa X.K j z k v) I0 {_,ρ,_,hE.ext S,m0,?_}) λuk s1 ⟨wk,z,I1,rk,j,B,n1,r1⟩=>?_)
    ·rw[e1];exact λv z j B R r1=>⟨j,B,R,r1⟩
    refine tqa (tqo (tqa (aP (hv u s1 W z (λw F=>∃y,Ext j z y F/\RelM fa X.K y F M2/\Rep fa X.K y F v w) I1 {j,ρ,M1,(hE.ext S).ext B,n1,?_}) λuv s2 ⟨wv,F,I2,rv,y,U,m2,r2⟩=>?_)))
    ·rw[e2];exact λv z j B R r1=>⟨j,B,R,r1⟩
    refine tqa (wpAny_standAt (tqb ?_));refine tqa (tqo (tqb (tqb ?_)));have E:=U.obs _ _ (B.obs _ _ P);obtain⟨a',b,kd,kk,xs,ea,rfl,hi,hz,dd,O⟩:=qk hd I2 m2 {_,rfl,.inr {hd.of _ (Rt _ _),E}} (r1.ext U) rk rv r2 L cc.1 cc.2;cases ea;unfold storeAll;rw[List.forIn_cons];refine tqa (tqa (lj (hsz:=hz) (kd.room0 hu) hi dd λh' J hs=>tqb ?_));obtain⟨Y,I',x',m'⟩:=O h' _ J hs;refine tqb {.ref s.heap.objs.size,Y,I',rfl,h _ Y y (((S.trans B).trans U).trans x') m' {_,rfl,.inr {hd.of _ (Rt _ _),x'.obs _ _ E}}}
   ·exact h.elim
end
section
variable{fa:Fa}{X:Cx}{a tg iter:Expr}{ga:GE}{gw:GW}{apos cpos:Pos}
def mP (a d:GE):GS:=λh M=>(a h M).bind λx M=>match x with
 | .cell k => sh (λz M => match M[k]? with
   |some j=>if j.length<sz then .ok (.next h) (M.set k (j++[z])) else .bad
   |none=>.bad) h (d h M)
 |_=>.bad
set_option tactic.hygienic true in
def GR (ha:DE fa X a ga)(hd:DX fa X d gd)(j:attributeBase a "append" X.env (eval a X.env)=eval a X.env)(u:(apos.endLine==cpos.line)=true)(hs:starEach [d] X.env=[(false,eval d X.env)])
 (R:swapsWith (.Call (.Attribute a "append" apos) [d] [] cpos) none pos.line X.env=pure false) :
 DS fa X (.Expr (.Call (.Attribute a "append" apos) [d] [] cpos) pos) (mP ga gd):=
 da (mQ (DN PySem.F.plainAttrs_list PySem.F.slot_list_append PySem.F.type_list_append lX ha (cM hd eR hs) j (by rw[hs];rfl) u hs `r) R) λD' σ H ⟨μ,L,M,P,hM,h⟩=>by
  obtain⟨x,M1,e1,h1⟩:=aM h;cases x with
  | cell k =>
    refine{μ,L,M,P,hM,?_};rw[e1];intro vx H1 W I v rx;obtain⟨ad,rfl,hk⟩:=rx;obtain⟨ds1,S,_,Q,_⟩:=v.mu_lt hk;refine{.inl {rfl,S,dh.of Q},W,L,M1,P.ext I,v,?_};cases e2:gd L M1 with
    |bad=>rw[e2] at h1;exact h1.elim
    | err y E =>
      rw[e2] at h1;exact XW.ext h1 I
    | ok z E =>
      rw[e2] at h1;have h2:ae (match E[k]? with|some O=>if O.length<sz then Res.ok (Fl.next L) (E.set k (O++[z])) else .bad|none=>.bad) (ku fa X μ H D'):=h1
      cases e:E[k]? with
      |none=>rw[e] at h2;exact h2.elim
      | some O =>
        rw[e] at h2;dsimp only at h2;split at h2
        ·next hz=>
         have q:=h2;intro vz H2 μ2 J B rz;obtain⟨ws,h4,h5⟩:=B.at_ e (J.mu k ad hk);refine{ad,ws,vz,rfl,rfl,h4,by rw[h5.length,<- dE];exact hz,?_}
         exact js ((P.ext I).ext J) B (J.mu k ad hk) (h5.append (.one rz)) λY H' U x' e' m'=>q Y H' U ((I.trans J).trans x') e' m'
        ·exact h2.elim
  |_=>exact h1.elim
end
end LD
namespace LD
open PySem
def ob {α β:Type}{a:Option α}{f:α->Option β}{r:β}(h:a.bind f=some r):∃x,a=some x/\f x=some r:=QN.mp h
def oi {α:Type}{c:Prop}[Decidable c]{a:Option α}{r:α}(h:(if c then a else none)=some r):c/\a=some r:=by
 split at h
 ·exact{by assumption,h}
 ·cases h
section
variable{β:Type}{r:β}{e:Expr}{st:Stmt}
def od {c:Prop}[Decidable c]{f:c->Option β}(h:(if x:c then f x else none)=some r):∃x,f x=some r:=by
 by_cases z:c
 ·rw[dif_pos z] at h;exact⟨z,h⟩
 ·rw[dif_neg z] at h;cases h
local macro_rules|`(command|#check $n:ident $a*)=>do
 let m:=a[0]!.raw;let c:Lean.TSyntax `ident:=⟨a[1]!.raw⟩;let v:Array (Lean.TSyntax `ident):=(a.extract 3 a.size).map λx=>⟨x.raw⟩;let f:=Lean.mkIdentFrom c (c.getId++`elim)
 `(noncomputable def $n {β:Type} e:=λg=>if h:e.ctorIdx=$(⟨a[2]!.raw⟩) then @$f (λ_=>Option β) e h g else none
 theorem $(⟨m⟩) {β:Type}{e}{g}{y:β}(h:$n e g=some y):∃$[$v:ident]*,e=$c $v*∧g $v*=some y:=(od h).elim λz h=>@$f (λe=>∀z,@$f (λ_=>Option β) e z g=some y→∃$[$v:ident]*,e=$c $v*∧g $v*=some y) e z (λ$v* _ h=>by exact⟨$v,*,rfl,h⟩) z h)
#check Ny zJ Expr.UnaryOp 3 a b c
#check DY tM Expr.BoolOp 0 a b c
#check Nz zK Expr.ListComp 8 a b c d
#check Jw vD Expr.IfExp 5 a b c d
#check Jz pZ Expr.Compare 15 a b c d
#check rS kK Expr.Call 16 a b c d
#check Oq Gn Expr.FormattedValue 17 a b c d
#check Oo Gm Expr.JoinedStr 18 a b
#check Ca pY Expr.Constant 19 a b c
#check DZ tN Expr.Attribute 20 a b c
#check pX iU Expr.Subscript 21 a b c
#check nName cx Expr.Name 23 a b
#check pW gr Expr.Tuple 25 a b c
#check Jv vB Expr.Slice 26 a b c d
#check sS j4 Stmt.Assign 5 a b c
#check Of FP Stmt.Raise 16 a b c
#check sTr Iu Stmt.Try 17 a b c d f
#check BN pO Stmt.Expr 24 a b
#check Ot Gp Expr.BinOp 2 a b c d
#check Om Gk Expr.List 24 a b
#check sRt Iv Stmt.Return 3 a b
#check sFr Iz Stmt.For 9 a b c d f
#check sIf Iy Stmt.If 12 a b c d
#check sPs Iw Stmt.Pass 25 a
variable{α:Type}{l:List α}
noncomputable def n0 (l:List α)(v:Option β):Option β:=if l.isEmpty=true then v else none
def eX {v:Option β}(h:n0 l v=some r):l=[]/\v=some r:=(oi h).elim λc h=>{List.isEmpty_iff.mp c,h}
noncomputable def nC (l:List α)(k:α->List α->Option β):Option β:=match l with
 |[]=>none
 |a::s=>k a s
def jy {k:α->List α->Option β}(h:nC l k=some r):∃a s,l=a::s/\k a s=some r:=by
 cases l with
 |nil=>cases h
 |cons a s=>exact⟨a,s,rfl,h⟩
def n1 (l:List α)(k:α->Option β):Option β:=nC l λa s=>n0 s (k a)
def cE {k:α->Option β}(h:n1 l k=some r):∃a,l=[a]/\k a=some r:=by
 obtain⟨a,s,rfl,h⟩:=jy h;obtain⟨rfl,h⟩:=eX h;exact⟨a,rfl,h⟩
def n2 (l:List α)(k:α->α->Option β):Option β:=nC l λa s=>n1 s (k a)
def hZ {k:α->α->Option β}(h:n2 l k=some r):∃a b,l=[a,b]/\k a b=some r:=by
 obtain⟨a,s,rfl,h⟩:=jy h;obtain⟨b,rfl,h⟩:=cE h;exact⟨a,b,rfl,h⟩
def B8 (e:Expr)(k:Str->Option β):Option β:=Ca e λc _ _=>match c with
 |.str z=>k z
 |_=>none
def vA {k:Str->Option β}(h:B8 e k=some r):∃z i p,e=.Constant (.str z) i p/\k z=some r:=by
 obtain⟨c,i,p,rfl,h⟩:=pY h;cases c with
 |str z=>exact⟨z,i,p,rfl,h⟩
 |_=>cases h
def NA (e:Expr)(k:Expr->Option β):Option β:=Oq e λa i s _=>if i=-1/\s.isNone=true then k a else none
def Jx {k:Expr->Option β}(h:NA e k=some r):∃a p,e=.FormattedValue a (-1) none p/\k a=some r:=by
 obtain⟨a,i,s,p,rfl,h⟩:=Gn h;obtain⟨⟨rfl,c⟩,k⟩:=oi h;rw[R5.mp c];exact⟨a,p,rfl,k⟩
noncomputable def nG (c:R0)(k:Expr->Expr->List Expr->Option β):Option β:=if c.is_async=0 then k c.target c.iter c.ifs else none
def rR {c:R0}{k:Expr->Expr->List Expr->Option β}(h:nG c k=some r):∃t i f,c={t,i,f,0}/\k t i f=some r:=by
 obtain⟨z,h⟩:=oi h;cases c;cases z;exact{_,_,_,rfl,h}
def nA (e:Expr)(k:Str->List Expr->Pos->Option β):Option β:=rS e λf es ks p=>nName f λx _=>n0 ks (k x es p)
def gK {k:Str->List Expr->Pos->Option β}(h:nA e k=some r):∃x q es p,e=.Call (.Name x q) es [] p/\k x es p=some r:=by
 obtain⟨f,es,ks,p,rfl,h⟩:=kK h;obtain⟨x,q,rfl,h⟩:=cx h;obtain⟨rfl,h⟩:=eX h;exact⟨x,q,es,p,rfl,h⟩
def JA (e:Expr)(k:Expr->Str->Expr->Bool->Option β):Option β:=rS e λf es ks p=>DZ f λa m q=>n0 ks (n1 es λd=>k a m d (q.endLine==p.line))
def zL {k:Expr->Str->Expr->Bool->Option β}(h:JA e k=some r):∃a m q d p,e=.Call (.Attribute a m q) [d] [] p/\k a m d (q.endLine==p.line)=some r:=by
 obtain⟨f,es,ks,p,rfl,h⟩:=kK h;obtain⟨a,m,q,rfl,h⟩:=tN h;obtain⟨rfl,h⟩:=eX h;obtain⟨d,rfl,h⟩:=cE h;exact⟨a,m,q,d,p,rfl,h⟩
def b4 {a b:Option β}(h:a.or b=some r):a=some r\/b=some r:=by
 cases a with
 |none=>exact .inr h
 |some x=>exact .inl h
end
end LD
namespace LD
open PySem PySem.Spec PyProof.Rows L2
inductive En where
 |fn (i:Nat) (r:Bool)|fnD (i:Nat)|int (i:Int)|str (z:Str)|dct (fs:List (Str×Nat))|xc (k:Nat)|xi (k:Nat)|xk (k:Nat)|de|bl|cls (c f:Nat)
structure EM (fa:Fa) (P:QF) (w:Qz) (K:PJ) (mg:Str->Option PL) (base:Heap) (T:List (Str×En)):Prop where
 fn:∀{x:Str}{i:Nat}{r:Bool},T.lookup x=some (.fn i r)->∀ad,fa i=some ad->mg x=some (.ref ad)
 fnD:∀{x:Str}{i:Nat},T.lookup x=some (.fnD i)->(∀ad,fa i=some ad->mg x=some (.ref ad))/\(fa (500+i)).isSome=true
 int:∀{x:Str}{i:Int},T.lookup x=some (.int i)->∃t,mg x=some (.int i t)
 str:∀{x:Str}{z:Str},T.lookup x=some (.str z)->∃t,mg x=some (.str z t)
 dct:∀{x:Str}{fs:List (Str×Nat)},T.lookup x=some (.dct fs)->∃ad kvs,mg x=some (.ref ad)/\fM K w.params ad kvs/\eM fa kvs fs
 xc:∀{x:Str}{k:Nat},T.lookup x=some (.xc k)->∃C,mg x=some (.ref C)/\fa (fY k)=some C/\PySem.W.excIn K C AJ "ValueError.__new__"=true/\PySem.W.keepIn K (.ref C)=true
 xi:∀{x:Str}{k:Nat},T.lookup x=some (.xi k)->AY fa P w K mg base k x/\∃D,mg x=some (.ref D)/\fa (fY k)=some D
 xk:∀{x:Str}{k:Nat},T.lookup x=some (.xk k)->∃D,mg x=some (.ref D)/\fa (fY k)=some D
 de:∀{x:Str},T.lookup x=some .de->∃D,mg x=some (.ref D)/\fa 999=some D
 bl:∀{x:Str},T.lookup x=some .bl->mg x=none
 xcs:Lh fa K
 ob:Ln fa K
 of:∀o,5000≤o->fa o=none
 od:fa (jx 77)=none/\fa (jx 78)=none
 cls:∀{x:Str}{c f:Nat},T.lookup x=some (.cls c f)->∃C,mg x=some (.ref C)/\fa (jx c)=some C/\∀ad,fa f=some ad->Mk K C ad
structure G where
 T:List (Str×En)
 tw:List (Str×Str×Nat×Nat)
 xf:List Str
 cel:List (Nat×Nat×Nat)
 txt:List (Nat×Nat×Nat)
 ms:List (Str×Nat×Nat)
 c:Call
 N:List Str
 sc:Scope
 lv:Nat
 oc:List Str:=[]
structure dY (fa:Fa) (n:Nat) (g:G) (X:Cx):Prop where
 N:X.N=g.N
 nd:g.N.Nodup
 sc:X.env.scope=g.sc
 T:EM fa X.prog X.w X.K X.mg X.base g.T
 tw:∀q∈g.tw,wx fa X.K X.mg q.1 q.2.1 q.2.2.1 q.2.2.2
 xf:∀f∈g.xf,EK fa X.K f
 ms:∀q∈g.ms,pH fa X.K q.1 q.2.1 q.2.2
 fn:g.lv≠1->∀x,X.fn x=true
 oc:∀x∈g.oc,X.fn x=true
 calm:0<g.lv->X.calm=true
 C:0<g.lv->∀f,gZ fa X.prog X.w X.K X.mg X.base n f (g.c f)
 hr:0<g.lv->di (2*n+4+1) X.A
 top:2≤g.lv->X.ex=[]/\X.stack=X.env::X.outer/\X.env.frame=some X.env.locals/\X.env.scope.kind=.function
 po:g.lv=2->PassesOwn (model X.prog X.w) X.A X.env X.xe
structure Rc where
 e:G->Expr->Option GE
 t:G->Expr->Option GT
 x:G->Expr->Option GE
 w:G->Expr->Expr->Option GW
 s:G->Stmt->Option GS
abbrev dX:=Rc->G->Expr->Option GE
abbrev EN:=Rc->G->Expr->Option GT
abbrev rC:=Rc->G->Expr->Expr->Option GW
abbrev jl:=Rc->G->Stmt->Option GS
structure iE (fa:Fa) (n:Nat) (R:Rc):Prop where
 e:∀{g:G}{X:Cx}{a:Expr}{ga:GE},dY fa n g X->R.e g a=some ga->DE fa X a ga
 t:∀{g:G}{X:Cx}{a:Expr}{ga:GT},dY fa n g X->R.t g a=some ga->DT fa X a ga
 x:∀{g:G}{X:Cx}{a:Expr}{ga:GE},dY fa n g X->R.x g a=some ga->DX fa X a ga
 w:∀{g:G}{X:Cx}{t a:Expr}{ga:GW},dY fa n g X->R.w g t a=some ga->DI fa X t a ga
 s:∀{g:G}{X:Cx}{a:Stmt}{ga:GS},dY fa n g X->R.s g a=some ga->DS fa X a ga
def SE (r:dX):Prop:=∀{fa:Fa}{n:Nat}{R:Rc},iE fa n R->∀{g:G}{X:Cx},dY fa n g X->∀{a:Expr}{h:GE},r R g a=some h->DE fa X a h
def ST (r:EN):Prop:=∀{fa:Fa}{n:Nat}{R:Rc},iE fa n R->∀{g:G}{X:Cx},dY fa n g X->∀{a:Expr}{h:GT},r R g a=some h->DT fa X a h
def SX (r:dX):Prop:=∀{fa:Fa}{n:Nat}{R:Rc},iE fa n R->∀{g:G}{X:Cx},dY fa n g X->∀{a:Expr}{h:GE},r R g a=some h->DX fa X a h
def SW (r:rC):Prop:=∀{fa:Fa}{n:Nat}{R:Rc},iE fa n R->∀{g:G}{X:Cx},dY fa n g X->∀{t a:Expr}{h:GW},r R g t a=some h->DI fa X t a h
def SS (r:jl):Prop:=∀{fa:Fa}{n:Nat}{R:Rc},iE fa n R->∀{g:G}{X:Cx},dY fa n g X->∀{a:Stmt}{h:GS},r R g a=some h->DS fa X a h
structure Rs where
 e:List dX
 t:List EN
 x:List dX
 w:List rC
 s:List jl
noncomputable def It (rs:Rs):Nat->Rc
 |0=>{λ_ _=>none,λ_ _=>none,λ_ _=>none,λ_ _ _=>none,λ_ _=>none}
 |n+1=>{λg a=>rs.e.findSome? λr=>r (It rs n) g a,λg a=>rs.t.findSome? λr=>r (It rs n) g a,λg a=>rs.x.findSome? λr=>r (It rs n) g a,λg t a=>rs.w.findSome? λr=>r (It rs n) g t a,λg a=>rs.s.findSome? λr=>r (It rs n) g a}
noncomputable def AllP {h:Type}(p:h->Prop):List h->Prop
 |[]=>True
 |a::l=>p a/\AllP p l
noncomputable def AllP.mem {j:Type}{p:j->Prop}:∀{l:List j},AllP p l->∀a∈l,p a
 |_::_,h,a,m=>(Qu.mp m).elim (λe=>e ▸ h.1) (AllP.mem h.2 a)
structure C0 (rs:Rs):Prop where
 e:AllP SE rs.e
 t:AllP ST rs.t
 x:AllP SX rs.x
 w:AllP SW rs.w
 s:AllP SS rs.s
theorem ER (h:C0 rs):∀k,iE fa n (It rs k)
 |0=>{(λ_ z=>nomatch z),(λ_ z=>nomatch z),(λ_ z=>nomatch z),(λ_ z=>nomatch z),(λ_ z=>nomatch z)}
 | k + 1 => by
   have j:=ER (n:=n) (fa:=fa) h k;refine{λo z=>?_,λo z=>?_,λo z=>?_,λo z=>?_,λo z=>?_}
   ·obtain⟨r,m,e⟩:=Rn z;exact h.e.mem r m j o e
   ·obtain⟨r,m,e⟩:=Rn z;exact h.t.mem r m j o e
   ·obtain⟨r,m,e⟩:=Rn z;exact h.x.mem r m j o e
   ·obtain⟨r,m,e⟩:=Rn z;exact h.w.mem r m j o e
   ·obtain⟨r,m,e⟩:=Rn z;exact h.s.mem r m j o e
noncomputable def NQ:Str:="__debug__"
def iF (g:G)(x:Str):Bool:=g.sc.names.lookup x==some .globalImplicit&&!(x==NQ)
def vr (g:G)(x:Str):Option Nat:=if (g.sc.names.lookup x==some .local||g.sc.names.lookup x==some .cell||g.sc.names.lookup x==some .free)&&!(x==NQ)&&!(x==("__classdict__":Str)) then g.N.findIdx? (·==x) else none
section
variable{fa:Fa}{n:Nat}{g:G}{X:Cx}{R:Rc}(o:dY fa n g X)
include o
theorem dm (h:iF g x=true):Gl X x/\(x==("__debug__":Str))=false:=by
 unfold iF at h;rw[PY,Bool.not_eq_true'] at h;exact{by show X.env.scope.names.lookup x=_;rw[o.sc];exact eq_of_beq h.1,h.2}
theorem xp (h:g.N.findIdx? (·==x)=some i):X.N[i]?=some x:=by
 obtain⟨j,h1,_⟩:=List.findIdx?_eq_some_iff_getElem.mp h;rw[o.N,P4 j,eq_of_beq h1]
theorem Dk (h:vr g x=some i):X.N[i]?=some x/\wu X.env.scope x/\(x==("__debug__":Str))=false/\(x==("__classdict__":Str))=false:=by
 obtain⟨c,h⟩:=oi h;simp only[PY,RB,Bool.not_eq_true'] at c;refine{xp o h,?_,c.1.2,c.2};rw[o.sc];rcases c.1.1 with(z|z)|z
 ·exact .inl (eq_of_beq z)
 ·exact .inr (.inl (eq_of_beq z))
 ·exact .inr (.inr (eq_of_beq z))
omit o
theorem dY.rm (o:dY fa n g X)(h:0<g.lv):Rm X:=FQ (o.hr h)
end
noncomputable def cA (f:Expr->Option GE):List Expr->Option GA
 |[]=>some bT
 |a::r=>if notStar a=true then(f a).bind λx=>(cA f r).bind λy=>some (cm x y) else none
theorem jK (hf:∀{a:Expr}{j:GE},f a=some j->DE fa X a j):∀{es:List Expr}{u:GA},cA f es=some u->DA fa X es u/\es.all notStar=true
 |[],_,h=>by cases h;exact⟨KI,rfl⟩
 | a :: r, _, h => by
   obtain⟨c,h⟩:=oi h;obtain⟨x,v,h⟩:=ob h;obtain⟨y,z,h⟩:=ob h;cases h;obtain⟨h1,h2⟩:=jK hf z;exact{G5 (hf v) h1 (bt c),by rw[QZ,c,h2];rfl}
noncomputable def uG (f:Expr->Option GE)(k:GE->GE->GE):List Expr->Option GE
 |[]=>none
 |[a]=>f a
 |a::b::r=>(f a).bind λx=>(uG f k (b::r)).bind λy=>some (k x y)
theorem wq (hf:∀{a:Expr}{j:GE},f a=some j->DE fa X a j):∀{es:List Expr}{ge:GE},uG f dO es=some ge->DE fa X (.BoolOp .And es pos) ge
 |[a],_,h=>EB (hf h)
 | a :: b :: r, _, h => by
   obtain⟨x,u,h⟩:=ob h;obtain⟨y,v,h⟩:=ob h;cases h;exact MY (hf u) (wq hf v)
theorem AN (hf:∀{a:Expr}{j:GE},f a=some j->DE fa X a j):∀{es:List Expr}{ge:GE},uG f NO es=some ge->DE fa X (.BoolOp .Or es pos) ge
 |[a],_,h=>EB (hf h)
 | a :: b :: r, _, h => by
   obtain⟨x,u,h⟩:=ob h;obtain⟨y,v,h⟩:=ob h;cases h;exact O1 (hf u) (AN hf v)
noncomputable def sy (f:Expr->Option GT)(k:GT->GT->GT):List Expr->Option GT
 |[]=>none
 |[a]=>f a
 |a::b::r=>(f a).bind λx=>(sy f k (b::r)).bind λy=>some (k x y)
theorem u6 (hf:∀{a:Expr}{j:GT},f a=some j->DT fa X a j):∀{es:List Expr}{ge:GT},sy f dI es=some ge->DW fa X (.BoolOp .And es pos) ge
 |[a],_,h=>GN (hf h)
 | a :: b :: r, _, h => by
   obtain⟨x,u,h⟩:=ob h;obtain⟨y,v,h⟩:=ob h;cases h;exact Ki (hf u) (u6 hf v)
theorem yG (hf:∀{a:Expr}{j:GT},f a=some j->DT fa X a j):∀{es:List Expr}{ge:GT},sy f d7 es=some ge->DW fa X (.BoolOp .Or es pos) ge
 |[a],_,h=>Kh (hf h)
 | a :: b :: r, _, h => by
   obtain⟨x,u,h⟩:=ob h;obtain⟨y,v,h⟩:=ob h;cases h;exact MA (hf u) (yG hf v)
def Dm:dX:=λ_ g e=>nName e λx _=>((vr g x).bind λi=>some (aa i)).or (if iF g x=true then(g.T.lookup x).bind fun
 |.int i=>some (gC (.int i))
 |.str i=>some (gC (.str i))
 |_=>none else none)
def Bd:SE Dm:=by
 intro fa n R y g X o a u h;replace h:=cx h;obtain⟨x,p,rfl,h⟩:=h;rcases b4 h with h|h
 ·obtain⟨i,e,h⟩:=ob h;cases h;obtain⟨a,b,c,d⟩:=Dk o e;exact MG a b c d
 ·obtain⟨c,h⟩:=oi h;obtain⟨j,hd⟩:=dm o c;obtain⟨t,e,h⟩:=ob h;cases t with
  |int i=>cases h;exact FU j (o.T.int e) hd
  |str i=>cases h;obtain⟨t,e⟩:=o.T.str e;exact iY (v:=.str _) (j6 j e ⟨t,rfl⟩ hd) λ_ _=>rfl
  |_=>cases h
def yz:dX:=λ_ _ e=>Ca e fun
 |.int i,_,_=>some (gC (.int i))
 |.bool i,_,_=>some (gC (.bl i))
 |.str i,_,_=>some (gC (.str i))
 |.none,_,_=>some (gC .non)
 |_,_,_=>none
def yy:SE yz:=by
 intro fa n R u g X o a j h;replace h:=pY h;obtain⟨c,i,p,rfl,h⟩:=h;cases c with
 |int i=>cases h;exact MQ
 |bool i=>cases h;exact O2
 |str i=>cases h;exact MI
 |none=>cases h;exact MM
 |_=>cases h
noncomputable def G.cl (g:G)(p:Pos):Bool:=g.cel.contains (p.line,p.col,p.endCol)
def G.tx (g:G)(p:Pos):Bool:=g.txt.contains (p.line,p.col,p.endCol)
noncomputable def EH:Operator->Option nI
 |.Add=>some .add|.Sub=>some .sub|.Mult=>some .mul|.FloorDiv=>some .fdiv|.Mod=>some .mod|.Pow=>some .pow|_=>none
def CT (h:EH q=some b):q=binOp b:=by cases q<;>cases h<;>rfl
noncomputable def gj:CmpOp->jq
 |.Eq=>.eq|.NotEq=>.ne|.Lt=>.lt|.LtE=>.le|.Gt=>.gt|.GtE=>.ge|.Is=>.isN|.IsNot=>.notN|.In=>.isin|.NotIn=>.notin
def c7 (q:CmpOp):fb (gj q)=q:=by cases q<;>rfl
def HI:dX:=λR g e=>(Ot e λa q b p=>(EH q).bind λq=>(R.e g a).bind λx=>(R.e g b).bind λy=>some (ai (g.cl p) q x y)).or
 ((Ny e λq a _ => match q with
   |.USub=>(R.e g a).bind λx=>some (eT x)
   |.Not=>(R.e g a).bind λx=>some (J2 x)
   |_=>none).or
 ((DY e λq h _ => match q with
   |.And=>uG (R.e g) dO h
   |.Or=>uG (R.e g) NO h).or
 ((Jw e λc a b _=>(R.t g c).bind λt=>(R.e g a).bind λx=>(R.e g b).bind λy=>some (gR t x y)).or
 ((pW e λh _ _=>(cA (R.e g) h).bind λs=>some (ba s)).or (Om e λh p=>(cA (R.e g) h).bind λs=>some (aU (g.cl p) s))))))
def Fc:SE HI:=by
 intro fa n R j g X o a F h;replace h:=b4 h;rcases h with h|h
 ·obtain⟨a,q,b,p,rfl,h⟩:=Gp h;obtain⟨q,B,h⟩:=ob h;obtain⟨x,u,h⟩:=ob h;obtain⟨y,v,h⟩:=ob h;cases h;rw[CT B];exact MW _ _ (j.e o u) (j.e o v)
 replace h:=b4 h;rcases h with h|h
 ·obtain⟨q,a,p,rfl,h⟩:=zJ h;cases q with
  |USub=>obtain⟨x,u,h⟩:=ob h;cases h;exact MN (j.e o u)
  |Not=>obtain⟨x,u,h⟩:=ob h;cases h;exact MK (j.e o u)
  |_=>cases h
 replace h:=b4 h;rcases h with h|h
 ·obtain⟨q,z,p,rfl,h⟩:=tM h;cases q with
  |And=>exact wq (j.e o) h
  |Or=>exact AN (j.e o) h
 replace h:=b4 h;rcases h with h|h
 ·obtain⟨c,a,b,p,rfl,h⟩:=vD h;obtain⟨t,E,h⟩:=ob h;obtain⟨x,u,h⟩:=ob h;obtain⟨y,v,h⟩:=ob h;cases h;exact MP (j.t o E) (j.e o u) (j.e o v)
 replace h:=b4 h;rcases h with h|h
 ·obtain⟨z,k,p,rfl,h⟩:=gr h;obtain⟨s,hs,h⟩:=ob h;cases h;exact MH (jK (j.e o) hs).1
 ·obtain⟨z,p,rfl,h⟩:=Gk h;obtain⟨s,hs,h⟩:=ob h;cases h;exact MO _ (jK (j.e o) hs).1
def CM (g:G)(x:Str):Option (List (Str×Nat)):=if iF g x=true then(match g.T.lookup x with|some (.dct fs)=>some fs|_=>none) else none
set_option tactic.hygienic true in
def ue (o:dY fa n g X)(h:CM g x=some fs):(∃ad j,X.mg x=some (.ref ad)/\fM X.K X.w.params ad j/\eM fa j fs)/\Gl X x/\(x==("__debug__":Str))=false:=by
 obtain⟨c,h⟩:=oi h;split at h
 ·next e=>cases h;exact{o.T.dct e,dm o c}
 ·cases h
def CQ (R:Rc)(g:G)(e:Expr):Option GE:=Jz e λa h bs _=>
 (n2 h λq r=>n2 bs λb c=>if 0<g.lv/\behindInMarks r c=false then(R.e g a).bind λy=>(R.e g b).bind λz=>(R.e g c).bind λu=>some (mj (gj q) (gj r) y z u) else none).or
 (n1 h λq=>n1 bs λb=>(if gj q=.notin then nName b λx _=>(CM g x).bind λfs=>(R.e g a).bind λy=>some (iJ fs y) else none).or
  (if 0<g.lv/\behindInMarks q b=false then(R.e g a).bind λy=>(R.e g b).bind λz=>some (av (gj q) y z) else none))
def HN:dX:=CQ
def tG (h:gj q=.notin):q=.NotIn:=(c7 q).symm.trans (congrArg fb h)
def Ff:SE HN:=by
 intro fa n R j g X o a F h;replace h:=pZ h;obtain⟨a,H,bs,p,rfl,h⟩:=h;replace h:=b4 h;rcases h with h|h
 ·replace h:=hZ h;obtain⟨q,r,rfl,h⟩:=h;obtain⟨b,d,rfl,h⟩:=hZ h;obtain⟨c,h⟩:=oi h;replace h:=ob h;obtain⟨y,v,h⟩:=h;replace h:=ob h;obtain⟨z,B,h⟩:=h;replace h:=ob h;obtain⟨u,E,h⟩:=h;cases h;have:=MV (o.rm c.1) (gj q) (gj r) (j.e o v) (j.e o B) (j.e o E) (by rw[c7,c7];exact c.2) (pos:=p)
  rw[c7,c7] at this;exact this
 replace h:=cE h;obtain⟨q,rfl,h⟩:=h;replace h:=cE h;obtain⟨b,rfl,h⟩:=h;replace h:=b4 h;rcases h with h|h
 ·replace h:=oi h;obtain⟨c,h⟩:=h;obtain⟨x,_,rfl,h⟩:=cx h;obtain⟨fs,e,h⟩:=ob h;obtain⟨y,v,h⟩:=ob h;cases h;obtain⟨d,e1,e2⟩:=ue o e;rw[tG c];exact FV d e1 e2 (j.e o v) rfl
 ·obtain⟨c,h⟩:=oi h;obtain⟨y,v,h⟩:=ob h;obtain⟨z,B,h⟩:=ob h;cases h;have:=MT (o.rm c.1) (gj q) (j.e o v) (j.e o B) (by rw[c7];exact c.2) (pos:=p)
  rw[c7] at this;exact this
noncomputable def N0:Expr->Bool
 |.Compare ..=>false
 |.BoolOp ..=>false
 |.UnaryOp ..=>false
 |.IfExp ..=>false
 |_=>true
def vT:EN:=λR g e=>((CQ R g e).bind λx=>some (aj x)).or
 ((DY e λq h _ => match q with
   |.And=>sy (R.t g) dI h
   |.Or=>sy (R.t g) d7 h).or
 ((Ny e λq a _ => match q with
   |.Not=>(R.t g a).bind λx=>some (bQ x)
   |_=>none).or (if N0 e=true then(R.e g e).bind λx=>some (aj x) else none)))
def E8 (j:iE fa n R)(o:dY fa n g X)(h:CQ R g a=some ga):DT fa X a (aj ga):=by
 replace h:=pZ h;obtain⟨a,F,bs,p,rfl,h⟩:=h;replace h:=b4 h;rcases h with h|h
 ·replace h:=hZ h;obtain⟨q,r,rfl,h⟩:=h;obtain⟨b,d,rfl,h⟩:=hZ h;obtain⟨c,h⟩:=oi h;replace h:=ob h;obtain⟨y,v,h⟩:=h;replace h:=ob h;obtain⟨z,B,h⟩:=h;replace h:=ob h;obtain⟨u,E,h⟩:=h;cases h;have:=Km (o.rm c.1) (gj q) (gj r) (j.e o v) (j.e o B) (j.e o E) (by rw[c7,c7];exact c.2) (pos:=p)
  rw[c7,c7] at this;exact this
 replace h:=cE h;obtain⟨q,rfl,h⟩:=h;replace h:=cE h;obtain⟨b,rfl,h⟩:=h;replace h:=b4 h;rcases h with h|h
 ·replace h:=oi h;obtain⟨c,h⟩:=h;obtain⟨x,_,rfl,h⟩:=cx h;obtain⟨fs,e,h⟩:=ob h;obtain⟨y,v,h⟩:=ob h;cases h;obtain⟨d,e1,e2⟩:=ue o e;rw[tG c];exact FY d e1 e2 (j.e o v) rfl
 ·obtain⟨c,h⟩:=oi h;obtain⟨y,v,h⟩:=ob h;obtain⟨z,B,h⟩:=ob h;cases h;have:=Kl (o.rm c.1) (gj q) (j.e o v) (j.e o B) (by rw[c7];exact c.2) (pos:=p)
  rw[c7] at this;exact this
def LB:ST vT:=by
 intro fa n R u g X o a y h;replace h:=b4 h;rcases h with h|h
 ·obtain⟨x,j,h⟩:=ob h;cases h;exact E8 u o j
 replace h:=b4 h;rcases h with h|h
 ·obtain⟨q,v,p,rfl,h⟩:=tM h;cases q with
  |And=>exact PW.pt (u6 (u.t o) h)
  |Or=>exact PW.pt (yG (u.t o) h)
 replace h:=b4 h;rcases h with h|h
 ·obtain⟨q,a,p,rfl,h⟩:=zJ h;cases q with
  |Not=>obtain⟨x,j,h⟩:=ob h;cases h;exact Kj (u.t o j)
  |_=>cases h
 ·obtain⟨c,h⟩:=oi h;obtain⟨x,j,h⟩:=ob h;cases h;exact CG (u.e o j) λ_=>by cases a<;>first|rfl|cases c
noncomputable def A2:jl:=λ_ _ st=>match st with
 |.Raise ..=>some wU
 |_=>none
def EW:SS A2:=λ{fa n R} _ {g X} _ {a j} h=>by
 unfold A2 at h;split at h
 ·cases h;exact Ks
 ·cases h
noncomputable def ka:Expr->Bool
 |.Slice ..=>false
 |_=>true
def nU (h:ka b=true):i0 b:=by
 intro x i;cases b<;>first|rfl|cases h
noncomputable def cO (f:Expr->Option GE):Option Expr->Option GE
 |none=>some (gC .non)
 |some a=>f a
def EE (hf:∀{a:Expr}{j:GE},f a=some j->DE fa X a j)(h:cO f q=some ge):DO fa X q q.isSome ge:=by
 cases q with
 |none=>cases h;exact GY
 |some a=>exact GX (hf h)
def HH:dX:=λR g e=>pX e λa b _=>nName a λx _=>(CM g x).bind λfs=>if ka b=true then(R.e g b).bind λy=>some (kZ fs y) else none
def Fb:SE HH:=by
 intro fa n R u g X o a v h;replace h:=iU h;obtain⟨a,b,p,rfl,h⟩:=h;replace h:=cx h;obtain⟨x,q,rfl,h⟩:=h;obtain⟨fs,e,h⟩:=ob h;obtain⟨c,h⟩:=oi h;obtain⟨y,j,h⟩:=ob h;cases h;obtain⟨d,e1,e2⟩:=ue o e;exact FW d e1 e2 (u.e o j) (nU c)
def HK:dX:=λR g e=>pX e λa b p=>(Jv b λlo h st _=>if st.isNone=true/\g.tx p=false then(R.e g a).bind λx=>(cO (R.e g) lo).bind λy=>(cO (R.e g) h).bind λz=>some (bK (g.cl p) lo.isSome h.isSome x y z) else none).or
 (if ka b=true then(R.e g a).bind λx=>(R.e g b).bind λy=>some (aq x y) else none)
def Fe:SE HK:=by
 intro fa n R j g X o a E h;replace h:=iU h;obtain⟨a,b,p,rfl,h⟩:=h;replace h:=b4 h;rcases h with h|h
 ·obtain⟨lo,F,st,p2,rfl,h⟩:=vB h;obtain⟨⟨c,_⟩,h⟩:=oi h;replace h:=ob h;obtain⟨x,u,h⟩:=h;replace h:=ob h;obtain⟨y,v,h⟩:=h;replace h:=ob h;obtain⟨z,B,h⟩:=h;cases h;rw[R5.mp c];exact MJ _ _ _ (j.e o u) (EE (j.e o) v) (EE (j.e o) B)
 ·obtain⟨c,h⟩:=oi h;obtain⟨x,u,h⟩:=ob h;obtain⟨y,v,h⟩:=ob h;cases h;exact MR (j.e o u) (j.e o v) (nU c)
noncomputable def lx (g:G)(x:Str):Option Nat:=if (g.sc.names.lookup x==some .local||(g.sc.names.lookup x==some .cell&&(g.lv != 1||g.oc.contains x)))=true then g.N.findIdx? (·==x) else none
noncomputable def D3 (g:G):List Expr->Option (List Nat)
 |[]=>some []
 |e::r=>nName e λx _=>(lx g x).bind λi=>(D3 g r).bind λl=>some (i::l)
def cG (g:G)(e:Expr):Option fN:=(nName e λx _=>(lx g x).bind λi=>some (.one i)).or (pW e λh _ _=>if 0<g.lv then((D3 g h).bind λl=>some (.tup l)).or (n2 h λa b=>nName a λx _=>pW b λbs _ _=>(lx g x).bind λi=>(D3 g bs).bind λl=>some (.two i l)) else none)
section
variable{fa:Fa}{n:Nat}{g:G}{X:Cx}{R:Rc}(o:dY fa n g X)
include o
theorem rT (h:lx g x=some i):X.N[i]?=some x/\L2.Loc X.env.scope x/\(X.fn x=true\/X.env.scope.names.lookup x=some .local):=by
 obtain⟨c,h⟩:=oi h;rw[RB,PY] at c;refine{xp o h,?_,?_}
 ·unfold L2.Loc;rw[o.sc];rcases c with z|z
  ·exact .inl (eq_of_beq z)
  ·exact .inr (eq_of_beq z.1)
 ·rcases c with z|z
  ·right;rw[o.sc];exact eq_of_beq z
  ·rcases Bool.or_eq_true_iff.mp z.2 with q|q
   ·exact .inl (o.fn (by simpa using q) x)
   ·exact .inl (o.oc x (List.contains_iff_mem.mp q))
theorem tP:∀{es:List Expr}{l:List Nat},D3 g es=some l->iO X l es
 |[],_,h=>by cases h;exact .nil
 | e :: r, _, h => by
   replace h:=cx h;obtain⟨x,p,rfl,h⟩:=h;obtain⟨i,j,h⟩:=ob h;obtain⟨l,hl,h⟩:=ob h;cases h;obtain⟨a,b,c⟩:=rT o j;exact .cons a b c (tP hl)
theorem jJ (h:cG g t=some tt):PG X t (gT fa X.K tt):=by
 replace h:=b4 h;rcases h with h|h
 ·obtain⟨x,p,rfl,h⟩:=cx h;replace h:=ob h;obtain⟨i,j,h⟩:=h;cases h;obtain⟨a,b,c⟩:=rT o j;exact G3 (o.N ▸ o.nd) a b c
 ·replace h:=gr h;obtain⟨v,k,p,rfl,h⟩:=h;replace h:=oi h;obtain⟨c,h⟩:=h;replace h:=b4 h;rcases h with h|h
  ·obtain⟨l,hl,h⟩:=ob h;cases h;exact KG (o.calm c) (o.N ▸ o.nd) (tP o hl)
  ·obtain⟨a,b,rfl,h⟩:=hZ h;replace h:=cx h;obtain⟨x,y,rfl,h⟩:=h;replace h:=gr h;obtain⟨bs,k2,p2,rfl,h⟩:=h;obtain⟨i,j,h⟩:=ob h;obtain⟨l,hl,h⟩:=ob h;cases h;obtain⟨e1,e2,u⟩:=rT o j;exact KC (o.calm c) (o.N ▸ o.nd) e1 e2 u (tP o hl)
end
def cB (nm:Str)(R:Rc)(g:G)(e:Expr):Option (List Expr×GA):=nA e λx h _=>nC h λa h=>if x=nm/\iF g x=true/\(match g.T.lookup x with|some .bl=>true|_=>false)=true/\0<g.lv then(cA (R.e g) (a::h)).bind λj=>some (a::h,j) else none
def lq {g:G}(h:(match g.T.lookup x with|some .bl=>true|_=>false)=true):g.T.lookup x=some .bl:=by
 split at h
 ·assumption
 ·cases h
def nq (B:iE fa n R)(o:dY fa n g X)(h:cB nm R g e=some (as,u)):∃p pos a es,as=a::es/\e=.Call (.Name nm p) (a::es) [] pos/\Gl X nm/\X.mg nm=none/\0<g.lv/\DA fa X (a::es) u/\notStar a=true/\es.all notStar=true:=by
 replace h:=gK h;obtain⟨x,q,es,p,rfl,h⟩:=h;replace h:=jy h;obtain⟨a,es,rfl,h⟩:=h;replace h:=oi h;obtain⟨⟨rfl,v,y,z⟩,h⟩:=h;obtain⟨u,j,h⟩:=ob h;cases h;obtain⟨d,ns⟩:=jK (B.e o) j;rw[QZ,PY] at ns;exact{_,_,_,_,rfl,rfl,(dm o v).1,o.T.bl (lq y),z,d,ns.1,ns.2}
def HJ:dX:=λR g e=>(cB "len" R g e).bind λq=>some (aC .len q.2)
def Fd:SE HJ:=λ{fa n R} v {g X} o {a z} h=>by
 obtain⟨⟨y,B⟩,u,h⟩:=ob h;cases h;obtain⟨_,_,_,_,_,rfl,j,hm,_,d,n1,n2⟩:=nq v o u;exact xD .len Mr j hm PySem.boot_len d `d `d (bt n1) (dw n2)
def HR:dX:=λR g e=>(cB "all" R g e).bind λq=>some (aC .all q.2)
def Fi:SE HR:=λ{fa n R} v {g X} o {a z} h=>by
 obtain⟨⟨y,B⟩,u,h⟩:=ob h;cases h;obtain⟨_,_,_,_,_,rfl,j,hm,lv,d,n1,n2⟩:=nq v o u;exact xD .all (Mv (o.calm lv)) j hm `k d `d `d (bt n1) (dw n2)
def HG:dX:=λR g e=>(cB "sum" R g e).bind λq=>some (aC .sum q.2)
def E9:SE HG:=λ{fa n R} v {g X} o {a z} h=>by
 obtain⟨⟨y,B⟩,u,h⟩:=ob h;cases h;obtain⟨_,_,_,_,_,rfl,j,hm,lv,d,n1,n2⟩:=nq v o u;exact xD .sum (Mq (o.calm lv)) j hm `k d `d `d (bt n1) (dw n2)
def yt:dX:=λR g e=>(cB "tuple" R g e).bind λq=>some (aC .tuple q.2)
def yr:SE yt:=λ{fa n R} v {g X} o {a z} h=>by
 obtain⟨⟨y,B⟩,u,h⟩:=ob h;cases h;obtain⟨_,_,_,_,_,rfl,j,hm,_,d,n1,n2⟩:=nq v o u;exact Ax .tuple GH j hm `k d `d `d (bt n1) (dw n2)
def Dp:dX:=λR g e=>(cB "list" R g e).bind λq=>some (aC (.list (g.cl e.pos)) q.2)
def Bf:SE Dp:=λ{fa n R} v {g X} o {a z} h=>by
 obtain⟨⟨y,B⟩,u,h⟩:=ob h;cases h;obtain⟨_,_,_,_,_,rfl,j,hm,_,d,n1,n2⟩:=nq v o u;exact Ax (.list _) (J8 _) j hm `k d `d `d (bt n1) (dw n2)
def cR (R:Rc)(g:G)(nm:Str)(e:Expr):Option (Expr×GE):=nA e λx h _=>n1 h λa=>if x=nm/\iF g x=true/\(match g.T.lookup x with|some .bl=>true|_=>false)=true/\0<g.lv/\notStar a=true then(R.e g a).bind λy=>some (a,y) else none
def pz (E:iE fa n R)(o:dY fa n g X)(h:cR R g nm e=some (a,ga)):∃p pos,e=.Call (.Name nm p) [a] [] pos/\Gl X nm/\X.mg nm=none/\0<g.lv/\DE fa X a ga/\starEach [a] X.env=[(false,eval a X.env)]:=by
 replace h:=gK h;obtain⟨x,q,F,p,rfl,h⟩:=h;replace h:=cE h;obtain⟨a,rfl,h⟩:=h;replace h:=oi h;obtain⟨⟨rfl,j,u,v,z⟩,h⟩:=h;obtain⟨y,B,h⟩:=ob h;cases h;exact{_,_,rfl,(dm o j).1,o.T.bl (lq u),v,E.e o B,bt z}
def yv:dX:=λR g e=>nA e λx h p=>n1 h λb=>if x="list"/\iF g x=true/\(match g.T.lookup x with|some .bl=>true|_=>false)=true then(cR R g "range" b).bind λq=>some (mi (g.cl p) q.2) else none
def yu:SE yv:=λ{fa n R} B {g X} o {a F} h=>by
 replace h:=gK h;obtain⟨x,q,E,p,rfl,h⟩:=h;replace h:=cE h;obtain⟨b,rfl,h⟩:=h;replace h:=oi h;obtain⟨⟨rfl,j,u⟩,h⟩:=h;obtain⟨⟨b,y⟩,z,h⟩:=ob h;cases h;obtain⟨_,_,rfl,v,hm,lv,d,hs⟩:=pz B o z;exact FT _ (o.calm lv) d (dm o j).1 (o.T.bl (lq u)) v hm hs rfl
def Bo (x:Str):Option Ty:=if x="int" then some .int else if x="bool" then some .bool else if x="str" then some .str else if x="tuple" then some .tuple else if x="list" then some .list else none
def Fj (h:Bo x=some t):bootBuiltins x=some (.type (tyName t))/\(∀c,t≠.own c)/\x≠"__name__"/\(x==("__debug__":Str))=false:=by
 unfold Bo at h;split at h
 ·subst x;cases h;exact{`k,(λ_ z=>nomatch z),`d,`d}
 split at h
 ·subst x;cases h;exact{`k,(λ_ z=>nomatch z),`d,`d}
 split at h
 ·subst x;cases h;exact{`k,(λ_ z=>nomatch z),`d,`d}
 split at h
 ·subst x;cases h;exact{`k,(λ_ z=>nomatch z),`d,`d}
 split at h
 ·subst x;cases h;exact{`k,(λ_ z=>nomatch z),`d,`d}
 ·cases h
def cI (R:Rc)(g:G)(e:Expr):Option (Str×GE):=nA e λy h _=>n2 h λa b=>nName b λx _=>if y="isinstance"/\iF g y=true/\(match g.T.lookup y with|some .bl=>true|_=>false)=true/\iF g x=true/\notStar a=true then(R.e g a).bind λz=>some (x,z) else none
def Nb (F:iE fa n R)(o:dY fa n g X)(h:cI R g e=some (x,ga)):∃p q a pos,e=.Call (.Name "isinstance" p) [a,.Name x q] [] pos/\Gl X "isinstance"/\X.mg "isinstance"=none/\Gl X x/\(x==("__debug__":Str))=false/\DE fa X a ga/\starEach [a,.Name x q] X.env=(false,eval a X.env)::starEach [.Name x q] X.env:=by
 replace h:=gK h;obtain⟨y,q,H,p,rfl,h⟩:=h;replace h:=hZ h;obtain⟨a,b,rfl,h⟩:=h;replace h:=cx h;obtain⟨x,I,rfl,h⟩:=h;replace h:=oi h;obtain⟨⟨rfl,u,v,j,B⟩,h⟩:=h;obtain⟨z,E,h⟩:=ob h;cases h;exact{_,_,_,_,rfl,(dm o u).1,o.T.bl (lq v),(dm o j).1,(dm o j).2,F.e o E,bt B}
def Dq:dX:=λR g e=>(cI R g e).bind λq=>if (match g.T.lookup q.1 with|some .bl=>true|_=>false)=true then(Bo q.1).bind λt=>some (b5 t q.2) else none
def Bg:SE Dq:=λ{fa n R} I {g X} o {a J} h=>by
 obtain⟨⟨x,z⟩,E,h⟩:=ob h;obtain⟨c,h⟩:=oi h;obtain⟨t,F,h⟩:=ob h;cases h;obtain⟨_,_,_,_,rfl,B,hm,H,hd,d,hs⟩:=Nb I o E;obtain⟨j,u,v,y⟩:=Fj F;exact KJ t u d B hm `k H (o.T.bl (lq c)) j v y hs
def Dv:dX:=λR g e=>nA e λx h _=>nC h λa h=>if 0<g.lv then(match vr g x with
 |some i=>(cA (R.e g) (a::h)).bind λj=>some (ml i g.c j)
 | none => if iF g x = true then(match g.T.lookup x with
   |some (.fn i _)=>(cA (R.e g) (a::h)).bind λj=>some (ah i g.c j)
   |_=>none) else none) else none
set_option tactic.hygienic true in
def Bm:SE Dv:=λ{fa n R} u {g X} o {a E} h=>by
 replace h:=gK h;obtain⟨x,q,z,p,rfl,h⟩:=h;replace h:=jy h;obtain⟨a,z,rfl,h⟩:=h
 ·obtain⟨lv,h⟩:=oi h;split at h
  ·next e=>
   obtain⟨B,j,h⟩:=ob h;cases h;obtain⟨d,ns⟩:=jK (u.e o) j;rw[QZ,PY] at ns;obtain⟨a,b,v,y⟩:=Dk o e;exact G8 (o.C lv) ((o.hr lv).mono (Nat.le_succ _)) a b d v y (bt ns.1) (dw ns.2)
  ·obtain⟨c,h⟩:=oi h;split at h
   ·next e=>
    obtain⟨B,j,h⟩:=ob h;cases h;obtain⟨d,ns⟩:=jK (u.e o) j;rw[QZ,PY] at ns;exact KR (o.C lv _) ((o.hr lv).mono (Nat.le_succ _)) (dm o c).1 (o.T.fn e) d (dm o c).2 (bt ns.1) (dw ns.2)
   ·cases h
def De:dX:=λR g e=>(nA e λx h _=>nC h λa h=>if 2≤g.lv/\iF g x=true then(match g.T.lookup x with
 |some (.fn i true)=>(cA (R.e g) (a::h)).bind λj=>some (bF i g.c j)
 |_=>none) else none).or (Jw e λc a b _=>(R.x g a).bind λx=>(R.x g b).bind λy=>(R.t g c).bind λt=>some (xu t x y))
set_option tactic.hygienic true in
def A4:SX De:=λ{fa n R} j {g X} o {a F} h=>by
 replace h:=b4 h;rcases h with h|h
 ·obtain⟨x,q,v,p,rfl,h⟩:=gK h;obtain⟨a,v,rfl,h⟩:=jy h;replace h:=oi h;obtain⟨⟨lv,c⟩,h⟩:=h;split at h
  ·next e=>
   replace h:=ob h;obtain⟨H,u,h⟩:=h;cases h;obtain⟨d,ns⟩:=jK (j.e o) u;rw[QZ,PY] at ns;exact x_call _ (o.C `a) ((o.hr `a).mono (Nat.le_succ _)) (o.top lv).1 (dm o c).1 (o.T.fn e) d (dm o c).2 ns.1 ns.2
  ·cases h
 ·obtain⟨c,a,b,p,rfl,h⟩:=vD h;obtain⟨x,B,h⟩:=ob h;obtain⟨y,E,h⟩:=ob h;obtain⟨t,z,h⟩:=ob h;cases h;exact Ly (j.t o z) (j.x o B) (j.x o E)
def yk:dX:=λR g e=>nA e λx h _=>n1 h λa=>if 2≤g.lv/\iF g x=true/\notStar a=true then(match g.T.lookup x with
 |some (.fnD i)=>(R.e g a).bind λy=>some (bF i g.c (cm y (cm (gC .non) bT)))
 |_=>none) else none
set_option tactic.hygienic true in
def yj:SX yk:=λ{fa n R} u {g X} o {a z} h=>by
 replace h:=gK h;obtain⟨x,q,v,p,rfl,h⟩:=h;replace h:=cE h;obtain⟨a,rfl,h⟩:=h;replace h:=oi h;obtain⟨⟨lv,c,st⟩,h⟩:=h;split at h
 ·next e=>
  replace h:=ob h;obtain⟨y,j,h⟩:=h;cases h;exact E1 _ (o.C `a) ((o.hr `a).mono (Nat.le_succ _)) (o.top lv).1 (dm o c).1 (o.T.fnD e).1 (o.T.fnD e).2 (u.e o j) (dm o c).2 st
 ·cases h
noncomputable def mT:Expr->Bool
 |.Call _ [] _ _=>false
 |_=>true
def iZ (h:mT a=true):attributeBase a m env w=w:=by
 cases a with
 | Call f j ks p =>
   cases j with
   |nil=>cases h
   |cons _ _=>cases f<;>rfl
 |_=>rfl
def Nm:dX:=λR g e=>Oo e λl _=>nC l λa l=>n2 l λb c=>B8 a λz=>NA b λb=>B8 c λy=>(R.e g b).bind λx=>some (nB z y x)
def HL:SE Nm:=λ{fa n R} u {g X} o {a v} h=>by
 replace h:=Gm h;obtain⟨l,p,rfl,h⟩:=h;replace h:=jy h;obtain⟨a,l,rfl,h⟩:=h;replace h:=hZ h;obtain⟨b,c,rfl,h⟩:=h;replace h:=vA h;obtain⟨z,_,_,rfl,h⟩:=h;replace h:=Jx h;obtain⟨b,_,rfl,h⟩:=h;replace h:=vA h;obtain⟨y,_,_,rfl,h⟩:=h;obtain⟨x,j,h⟩:=ob h;cases h;exact Og (u.e o j)
def Di:rC:=λR g _ e=>(cR R g "range" e).bind λq=>some (cW q.2)
def Bb:SW Di:=λ{z n R} v {g X} o {t a B} h=>by
 obtain⟨⟨b,y⟩,u,h⟩:=ob h;cases h;obtain⟨_,_,rfl,j,hm,_,d,hs⟩:=pz v o u;exact G1 d j hm hs
def Dj:rC:=λR g t e=>pW t λ_ _ _=>(cR R g "enumerate" e).bind λq=>some (gU q.2)
def Bc:SW Dj:=λ{z n R} v {g X} o {t a B} h=>by
 replace h:=gr h;obtain⟨_,_,_,rfl,h⟩:=h;obtain⟨⟨b,y⟩,u,h⟩:=ob h;cases h;obtain⟨_,_,rfl,j,hm,_,d,hs⟩:=pz v o u;exact G2 d j hm hs
def cN (R:Rc)(g:G)(nm:Str)(e:Expr):Option (List Expr):=nA e λx h _=>if x=nm/\iF g x=true/\(match g.T.lookup x with|some .bl=>true|_=>false)=true/\0<g.lv/\h.all notStar=true then some h else none
def EF (o:dY fa n g X)(h:cN R g nm e=some es):∃p pos,e=.Call (.Name nm p) es [] pos/\Gl X nm/\X.mg nm=none/\es.all notStar=true:=by
 replace h:=gK h;obtain⟨x,q,es,p,rfl,h⟩:=h;replace h:=oi h;obtain⟨⟨rfl,j,u,y,v⟩,h⟩:=h;cases h;exact{_,_,rfl,(dm o j).1,o.T.bl (lq u),v}
noncomputable def oG:∀{es:List Expr},es.all notStar=true->starEach es env=es.map λa=>(false,eval a env)
 |[],_=>rfl
 | a :: es, h => by
   rw[QZ,PY] at h;rw[bt h.1,oG h.2];rfl
def Dh:rC:=λR g _ e=>(cN R g "range" e).bind λh=>n2 h λa b=>(R.e g a).bind λx=>(R.e g b).bind λy=>some (kY x y)
def Ba:SW Dh:=λ{F n R} j {g X} o {t a H} h=>by
 obtain⟨E,v,k⟩:=ob h;clear h;obtain⟨_,_,rfl,u,hm,ns⟩:=EF o v;replace k:=hZ k;obtain⟨a,b,rfl,k⟩:=k;obtain⟨x,z,k⟩:=ob k;obtain⟨y,B,k⟩:=ob k;cases k;rw[QZ,PY] at ns;exact G0 (j.e o z) (j.e o B) u hm (oG (by rw[QZ,ns.1,ns.2];rfl)) (oG ns.2)
def Dg:rC:=λR g t e=>pW t λ_ _ _=>(cN R g "zip" e).bind λh=>n2 h λa b=>(R.e g a).bind λx=>(R.e g b).bind λy=>some (m7 x y)
def A9:SW Dg:=λ{F n R} j {g X} o {t a H} h=>by
 replace h:=gr h;obtain⟨_,_,_,rfl,h⟩:=h;obtain⟨E,v,k⟩:=ob h;clear h;obtain⟨_,_,rfl,u,hm,ns⟩:=EF o v;replace k:=hZ k;obtain⟨a,b,rfl,k⟩:=k;obtain⟨x,z,k⟩:=ob k;obtain⟨y,B,k⟩:=ob k;cases k;exact GZ (j.e o z) (j.e o B) u hm (oG ns) (oG (Rx.mp (QZ ▸ ns)).2)
def Hz:rC:=λR g _ e=>if g.tx e.pos=false then(R.e g e).bind λx=>some (bZ x) else none
def E4:SW Hz:=λ{v n R} u {g X} o {t a y} h=>by
 obtain⟨_,h⟩:=oi h;obtain⟨x,j,h⟩:=ob h;cases h;exact Kz (u.e o j)
noncomputable def kc:Expr->Bool
 |.Set ..=>false
 |_=>true
def vX (h:kc a=true)(x:PL):foldedSetIterable a env x=pure x:=by
 cases a<;>first|rfl|cases h
noncomputable def wZ:Expr->List Str
 |.Name x _=>[x]
 |.Tuple h _ _=>(h.map fun|.Name x _=>[x]|.Tuple bs _ _=>bs.filterMap (fun|.Name x _=>some x|_=>none)|_=>[]).flatten
 |_=>[]
noncomputable def uy (g:G)(own:List Str):List Str:=g.N.map λx=>if own.contains x then x++("%":Str) else x
noncomputable def BR (h sc:Scope):Scope:={h with names:=h.names.map λ(n,k)=>if (k==.free&&sc.kind==.function&&sc.names.lookup n==some .cell) then(n,.cell) else(n,k)}
def G.inC (g:G)(own:List Str)(h:Scope):G:={g with N:=own++uy g own,sc:=BR h g.sc,lv:=1,oc:=(h.names.filter λy=>h.names.lookup y.1==some .cell).map (·.1)}
def vj (g:G)(own:List Str)(h:Scope):Prop:=0<g.lv/\h.kind=.function/\qp (uy g own) g.N g.sc h=true/\(own++uy g own).Nodup
instance (g:G) (own:List Str) (scope:Scope):Decidable (vj g own scope):=by unfold vj;infer_instance
def xE (o:dY fa n g X)(c:vj g own scope):fF X own (uy g own) scope/\∀cl C j s H,dY fa n (g.inC own scope) (fV X own (uy g own) scope cl C j s H):=by
 obtain⟨h,u,v,B⟩:=c;refine{AE u o.sc o.N v,λcl C j s H=>{rfl,B,?_,o.T,o.tw,o.xf,o.ms,(λz=>absurd rfl z),(λx E=>by obtain⟨y,F,e⟩:=PZ.mp E;subst e;exact(R3.mp F).2),λ_=>o.calm h,λ_=>o.C h,λ_=>o.hr h,(λz=>absurd (show 2≤1 from z) `d),(λz=>nomatch z)}}
 show relabel scope X.env=BR scope g.sc;unfold relabel BR Env.kindOf;rw[o.sc]
structure Lu (fa:Fa) (X:Cx) (e:Expr) (k:Nat) (t:fN) (gw:GW) (gb:GB):Prop where
 ex:∃elt tg iter ifs rest scope pos own bn W body,e=.ListComp elt ({tg,iter,ifs,0}::rest) scope pos/\k=own.length/\fF X own bn scope/\DI fa X tg iter gw/\Block fa X (LA fa X.K) own bn scope tg t W body gb/\pG X elt tg iter ifs rest scope pos body/\(∀i∈W,i∉slots t)/\(∀i∈slots t++W,i<own.length)/\∀x,foldedSetIterable iter X.env x=pure x
def cC (R:Rc)(g:G)(e:Expr):Option (Nat×fN×GW×GB):=Nz e λB y h _=>(n1 y λc=>nG c λz j v=>let own:=wZ z
 if vj g own h/\kc j=true then(R.w g z j).bind λw=>(cG (g.inC own h) z).bind λt=>(R.e (g.inC own h) B).bind λx=>if (slots t).all (· < own.length)=true then(n0 v (some (own.length,t,w,bH x))).or (n1 v λc=>(R.t (g.inC own h) c).bind λq=>some (own.length,t,w,vU q (bH x))) else none else none).or
 (n2 y λc d=>nG c λz j v=>nG d λt2 F E=>let own:=wZ z++wZ t2
  n0 v (n0 E (if vj g own h/\kc j=true/\kc F=true then(R.w g z j).bind λw=>(cG (g.inC own h) z).bind λt=>(R.w (g.inC own h) t2 F).bind λw2=>(cG (g.inC own h) t2).bind λu=>(R.e (g.inC own h) B).bind λx=>if (slots t++slots u).all (· < own.length)=true/\(slots u).all (λi=>!(slots t).contains i)=true then some (own.length,t,w,t8 u w2 (bH x)) else none else none)))
def EG (z:iE fa n R)(o:dY fa n g X)(h:cC R g e=some (k,t,gw,gb)):Lu fa X e k t gw gb:=by
 replace h:=zK h;obtain⟨B,gens,E,p,rfl,h⟩:=h;replace h:=b4 h;rcases h with h|h
 ·replace h:=cE h;obtain⟨c,rfl,h⟩:=h;replace h:=rR h;obtain⟨tg,y,Y,rfl,h⟩:=h;replace h:=oi h;obtain⟨⟨c,J⟩,h⟩:=h;replace h:=ob h;obtain⟨w,M,h⟩:=h;replace h:=ob h;obtain⟨t,L,h⟩:=h;replace h:=ob h;obtain⟨x,P,h⟩:=h;replace h:=oi h;obtain⟨I,h⟩:=h;obtain⟨S,O⟩:=xE o c;replace h:=b4 h;rcases h with h|h
  ·obtain⟨rfl,h⟩:=eX h;cases h;exact{_,_,_,_,_,_,_,_,_,[],(λa env=>eval B env >>= λx=>call (.builtin "list.append") [.ref a,x] >>= λ_=>pure ()),rfl,rfl,S,z.w o M,{λcl C v s H=>jJ (O cl C v s H) L,λcl C v s H a=>uf (z.e (O cl C v s H) P)},(λF a env=>Bs _ _ _ [] _ _ (.ref F) (.ref a) env),(λi h=>nomatch h),(by simpa using kB I),vX J}
  ·obtain⟨d,rfl,h⟩:=cE h;obtain⟨q,hq,h⟩:=ob h;cases h;exact{_,_,_,_,_,_,_,_,_,[],(λa env=>PySem.isTrue d env (eval d env) >>= λok=>if ok=true then(eval B env >>= λx=>call (.builtin "list.append") [.ref a,x] >>= λ_=>pure ()) else pure ()),rfl,rfl,S,z.w o M,{λcl C v s H=>jJ (O cl C v s H) L,λcl C v s H a=>MF LA.stab (z.t (O cl C v s H) hq) (uf (z.e (O cl C v s H) P))},(λF a env=>turn_if _ _ _ _ _ _ (.ref F) (.ref a) env),(λi h=>nomatch h),(by simpa using kB I),vX J}
 ·replace h:=hZ h;obtain⟨c,d,rfl,h⟩:=h;replace h:=rR h;obtain⟨tg,y,Y,rfl,h⟩:=h;replace h:=rR h;obtain⟨t2,Q,ifs2,rfl,h⟩:=h;replace h:=eX h;obtain⟨rfl,h⟩:=h;replace h:=eX h;obtain⟨rfl,h⟩:=h;obtain⟨⟨c,J,U⟩,h⟩:=oi h;obtain⟨w,M,h⟩:=ob h;obtain⟨t,L,h⟩:=ob h;obtain⟨w2,W,h⟩:=ob h;obtain⟨u,hu,h⟩:=ob h;obtain⟨x,P,h⟩:=ob h;obtain⟨⟨I,c3⟩,h⟩:=oi h;cases h;obtain⟨S,O⟩:=xE o c;exact{_,_,_,_,_,_,_,_,_,slots u,(λa env=>eval Q env >>= λx=>standAt Q.pos >>= λ_=>foldedSetIterable Q env x >>= λx=>holding [x] (pyIter x) >>= λj=>runOwn (.compStart (.ListComp B [{tg,y,[],0},{t2,Q,[],0}] E p) 1 j (.ref a) env) env >>= λ_=>pure ()),rfl,rfl,S,z.w o M,{λcl C v s H=>jJ (O cl C v s H) L,λcl C v s H a=>KH rfl (o.calm c.1) (z.w (O cl C v s H) W) (jJ (O cl C v s H) hu) (z.e (O cl C v s H) P) (vX U)},(λF a env=>Bq _ _ _ _ _ _ _ (.ref F) (.ref a) env),y8 c3,kB I,vX J}
def Du:dX:=λR g e=>if 0<g.lv then(cC R g e).bind λq=>some (bI (g.cl e.pos) q.1 q.2.1 q.2.2.1 q.2.2.2) else none
def Bl:SE Du:=λ{J n R} H {g X} o {a L} h=>by
 obtain⟨lv,h⟩:=oi h;obtain⟨⟨k,t,w,b⟩,z,h⟩:=ob h;cases h;obtain⟨v,M,u,E,rest,j,F,own,I,W,body,rfl,rfl,S,y,B,T,h1,h2,h3⟩:=(EG H o z).ex;exact KQ _ S (o.calm lv) y B T h1 h2 h3
noncomputable def pw (f:Stmt->Option GS):List Stmt->Option GS
 |[]=>some ay
 |a::r=>(f a).bind λx=>(pw f r).bind λy=>some (bg x y)
noncomputable def ir (hf:∀{a:Stmt}{j:GS},f a=some j->DS fa X a j):∀{ss:List Stmt}{u:GS},pw f ss=some u->kv fa X ss u
 |[],_,h=>by cases h;exact GO
 | a :: r, _, h => by
   obtain⟨x,v,h⟩:=ob h;obtain⟨y,z,h⟩:=ob h;cases h;exact CH (hf v) (ir hf z)
noncomputable def vo:Expr->Bool
 |.ListComp ..=>false
 |.SetComp ..=>false
 |.DictComp ..=>false
 |_=>true
def vp (h:vo a=true):swapsWith a t l env=pure false:=by
 cases a<;>first|rfl|cases h
def Lc (g:G)(h a:Expr):Bool:=match a with
 |.ListComp ..=>(match h with|.Name y _=>g.sc.names.lookup y==some .cell|_=>false)
 |.Tuple ..=>(match h with|.Name ..=>true|_=>false)
 |.SetComp ..=>false
 |.DictComp ..=>(match h with|.Name y _=>g.sc.names.lookup y==some .cell|_=>false)
 |_=>true
set_option tactic.hygienic true in
def Lb (o:dY fa n g X)(c:Lc g tg a=true)(j:cG g tg=some t):swapsWithSole [tg] a l X.env=pure false/\swappedStores [tg] a X.env=pure none/\(assignEach [tg] X.env).map (·.2)=[assign tg X.env]:=by
 refine{?_,?_,?_}
 ·cases a<;>first|rfl|cases c|skip
  all_goals cases tg<;>first|cases c|skip
  all_goals
  next y p=>
  have e:=eq_of_beq c;have hk:(X.env.kindOf y==some .local)=false:=by unfold Env.kindOf;rw[o.sc,e];rfl
  show(pure (X.env.blockKind==.function&&X.env.kindOf y==some .local&&_&&_):Sem Bool)=pure false;rw[hk,Bool.and_false,Bool.false_and,Bool.false_and]
 ·replace j:=b4 j;rcases j with h|h
  ·obtain⟨_,_,rfl,_⟩:=cx h;cases a<;>first|rfl|cases c
  ·obtain⟨_,_,_,rfl,_⟩:=gr h;cases a<;>first|rfl|cases c
 ·replace j:=b4 j;rcases j with h|h
  ·obtain⟨_,_,rfl,_⟩:=cx h;rfl
  ·obtain⟨_,_,_,rfl,_⟩:=gr h;rfl
def Ht:jl:=λR g st=>sS st λts a _=>n1 ts λh=>if Lc g h a=true then(cG g h).bind λt=>((R.x g a).bind λx=>some (c8 t x)).or ((R.e g a).bind λx=>some (au t x)) else none
def EY:SS Ht:=λ{y n R} u {g X} o {a z} h=>by
 replace h:=j4 h;obtain⟨ts,a,p,rfl,h⟩:=h;replace h:=cE h;obtain⟨B,rfl,h⟩:=h;obtain⟨c,h⟩:=oi h;obtain⟨t,j,h⟩:=ob h;obtain⟨a1,a2,a3⟩:=Lb o c j;replace h:=b4 h;rcases h with h|h
 ·obtain⟨x,e,h⟩:=ob h;cases h;exact Ip (u.x o e) (jJ o j) a1 a2 a3
 ·obtain⟨x,v,h⟩:=ob h;cases h;exact Ku (u.e o v) (jJ o j) a1 a2 a3
def Dc:jl:=λR g st=>sS st λts d _=>n1 ts λt=>nName t λy v=>Nz d λu j h p=>if 2≤g.lv/\g.sc.names.lookup y=some .local/\(v.line==p.line)=true/\(h.names.any λ(n,k)=>n==y&&(k==.local||k==.cell))=false then(cC R g (.ListComp u j h p)).bind λq=>(g.N.findIdx? (·==y)).bind λi=>some (au (.one i) (bI (g.cl p) q.1 q.2.1 q.2.2.1 q.2.2.2)) else none
def A1:SS Dc:=λ{fa n R} rc {g X} o {a ga} h=>by
 replace h:=j4 h;obtain⟨ts,d,_,rfl,h⟩:=h;replace h:=cE h;obtain⟨t,rfl,h⟩:=h;replace h:=cx h;obtain⟨y,Y,rfl,h⟩:=h;replace h:=zK h;obtain⟨_,_,v,p,rfl,h⟩:=h
 ·next=>
  obtain⟨⟨lv,F,H,I⟩,h⟩:=oi h;obtain⟨⟨k,t,w,b⟩,P,h⟩:=ob h;obtain⟨i,O,h⟩:=ob h;cases h;obtain⟨L,tg,E,Q,rest,z,U,own,bn,W,body,J,rfl,S,j,B,T,h1,h2,h3⟩:=(EG rc o P).ex;cases J;have hl:X.env.scope.names.lookup y=some .local:=by rw[o.sc];exact F
  refine xB _ S (o.calm `a) j B T h1 h2 h3 (o.N ▸ o.nd) (xp o O) hl ?_
  have hk:=(o.top lv).2.2.2;have M:(X.env.blockKind==.function)=true:=by unfold Env.blockKind;rw[hk];rfl
  have u:(X.env.kindOf y==some .local)=true:=by unfold Env.kindOf;rw[hl];rfl
  show(pure (X.env.blockKind==.function&&X.env.kindOf y==some .local&&(Y.line==p.line)&&!(v.names.any λ(n,k)=>n==y&&(k==.local||k==.cell))):Sem Bool)=pure true;rw[M,u,H,I];rfl
def Hr:jl:=λR g st=>sS st λts d _=>n1 ts λt=>pX t λa b _=>if ka b=true then(R.e g a).bind λx=>(R.e g b).bind λy=>(R.e g d).bind λz=>some (eO x y z) else none
def EV:SS Hr:=λ{F n R} j {g X} o {a H} h=>by
 replace h:=j4 h;obtain⟨ts,d,_,rfl,h⟩:=h;replace h:=cE h;obtain⟨t,rfl,h⟩:=h;replace h:=iU h;obtain⟨a,b,p2,rfl,h⟩:=h
 ·next=>
  obtain⟨c,h⟩:=oi h;obtain⟨x,u,h⟩:=ob h;obtain⟨y,B,h⟩:=ob h;obtain⟨z,E,h⟩:=ob h;cases h;refine Kp (j.e o u) (j.e o B) (j.e o E) (λv=>?_) ?_ ?_ rfl
  ·cases b<;>first|rfl|cases c
  ·cases d<;>rfl
  ·cases d<;>rfl
def Hu:jl:=λR g st=>BN st λe _=>JA e λa m d q=>if m="append"/\mT a=true/\q=true/\notStar d=true then(R.e g a).bind λx=>(R.e g d).bind λy=>some (dz x y) else none
def EZ:SS Hu:=λ{F n R} j {g X} o {a H} h=>by
 replace h:=pO h;obtain⟨e,_,rfl,h⟩:=h;replace h:=zL h;obtain⟨a,m,q,d,p,rfl,h⟩:=h;replace h:=oi h;obtain⟨⟨rfl,u,v,z⟩,h⟩:=h;obtain⟨x,B,h⟩:=ob h;obtain⟨y,E,h⟩:=ob h;cases h;exact Kv (j.e o B) (j.e o E) (iZ u) v (bt z) rfl
def Hq:jl:=λR g st=>(BN st λa _=>if vo a=true then((R.x g a).bind λx=>some (iA x)).or ((R.e g a).bind λx=>some (zh x)) else none).or
 ((sRt st λq _ => match q with
   |none=>some DJ
   |some a=>((R.x g a).bind λx=>some (wR x)).or ((R.e g a).bind λx=>some (az x))).or
 ((sPs st λ_=>some DK).or
 ((sIf st λc st u _=>(R.t g c).bind λt=>(pw (R.s g) st).bind λx=>(pw (R.s g) u).bind λy=>some (aN t x y)).or
 (sFr st λh a body j _=>n0 j (if g.lv=2/\kc a=true then(R.w g h a).bind λw=>(cG g h).bind λt=>(pw (R.s g) body).bind λx=>some (bY t w x) else none)))))
def EU:SS Hq:=λ{F n R} j {g X} o {a H} h=>by
 replace h:=b4 h;rcases h with h|h
 ·obtain⟨a,p,rfl,h⟩:=pO h;obtain⟨c,h⟩:=oi h;rcases b4 h with h|h
  ·obtain⟨x,e,h⟩:=ob h;cases h;exact LN (j.x o e) (vp c)
  ·obtain⟨x,u,h⟩:=ob h;cases h;exact MB (j.e o u) (vp c)
 replace h:=b4 h;rcases h with h|h
 ·obtain⟨q,p,rfl,h⟩:=Iv h;cases q with
  |none=>cases h;exact GP
  | some a =>
    rcases b4 h with h|h
    ·obtain⟨x,e,h⟩:=ob h;cases h;exact Im (j.x o e)
    ·obtain⟨x,u,h⟩:=ob h;cases h;exact Ko (j.e o u)
 replace h:=b4 h;rcases h with h|h
 ·obtain⟨p,rfl,h⟩:=Iw h;cases h;exact GQ
 replace h:=b4 h;rcases h with h|h
 ·obtain⟨c,st,I,p,rfl,h⟩:=Iy h;obtain⟨t,v,h⟩:=ob h;obtain⟨x,u,h⟩:=ob h;obtain⟨y,B,h⟩:=ob h;cases h;exact Kq (j.t o v) (ir (j.s o) u) (ir (j.s o) B)
 ·obtain⟨J,a,body,E,p,rfl,h⟩:=Iz h;obtain⟨rfl,h⟩:=eX h;obtain⟨⟨lv,c⟩,h⟩:=oi h;obtain⟨w,z,h⟩:=ob h;obtain⟨t,v,h⟩:=ob h;obtain⟨x,u,h⟩:=ob h;cases h;exact Kr (o.po lv) (o.calm `a) (j.w o z) (jJ o v) (MD (ir (j.s o) u)) (vX c)
def yi:jl:=λR g st=>Of st λe c _=>if c.isNone=true then e.bind λe=>nA e λx h _=>nC h λa h=>if 2≤g.lv/\iF g x=true then(match g.T.lookup x with
 |some (.xc k)=>(cA (R.e g) (a::h)).bind λj=>some (dC k j)
 |_=>none) else none else none
set_option tactic.hygienic true in
def yh:SS yi:=λ{y n R} v {g X} o {a z} h=>by
 replace h:=FP h;obtain⟨e,c,_,rfl,h⟩:=h;replace h:=oi h;obtain⟨c,h⟩:=h;rw[R5.mp c];replace h:=ob h;obtain⟨e,rfl,h⟩:=h;replace h:=gK h;obtain⟨x,q,u,p,rfl,h⟩:=h;replace h:=jy h;obtain⟨a,u,rfl,h⟩:=h
 ·obtain⟨⟨lv,c⟩,k⟩:=oi h;clear h;split at k
  ·next e=>
   obtain⟨B,j,k⟩:=ob k;cases k;obtain⟨d,ns⟩:=jK (v.e o) j;rw[QZ,PY] at ns;obtain⟨C,h1,h2,h3,_⟩:=o.T.xc e;exact FO _ ⟨C,h1,h2,h3⟩ (o.top lv).1 (dm o c).1 (o.calm `a) d (dm o c).2 ns.1 ns.2
  ·cases k
def Cu (o:dY fa n g X)(lv:2≤g.lv)(pn:List (Addr×Obj))(E:PL->PX->Prop):dY fa n {g with lv:=3} (rX X pn E):={o.N,o.nd,o.sc,o.T,o.tw,o.xf,o.ms,λ_=>o.fn `a,o.oc,λ_=>o.calm `a,λ_=>o.C `a,λ_=>o.hr `a,λ_=>o.top lv,(λz=>nomatch z)}
def Cw (o:dY fa n g X)(lv:2≤g.lv)(v:PL)(E:PL->PX->Prop):dY fa n {g with lv:=0} (rY X v E):={o.N,o.nd,o.sc,o.T,o.tw,o.xf,o.ms,λ_=>o.fn `a,o.oc,(λz=>absurd (show 0<0 from z) `d),(λz=>absurd (show 0<0 from z) `d),(λz=>absurd (show 0<0 from z) `d),(λz=>absurd (show 2≤0 from z) `d),(λz=>nomatch z)}
def uZ:jl:=λR g st=>sTr st λbody hs j y _=>n0 j (n0 y (n1 hs fun
 |.ExceptHandler t nm z _=>t.bind λt=>nName t λx _=>nC z λb h=>if nm.isNone=true/\2≤g.lv/\iF g x=true then(g.tw.find? λq=>q.1==x&&q.2.1==x&&q.2.2.1==q.2.2.2).bind λq=>(pw (R.s {g with lv:=3}) body).bind λu=>(pw (R.s {g with lv:=0}) (b::h)).bind λv=>some (lS u q.2.2.1 q.2.2.1 v) else none))
def wF:SS uZ:=λ{L n R} B {g X} o {a O} h=>by
 replace h:=Iu h;obtain⟨body,hs,J,M,_,rfl,h⟩:=h;replace h:=eX h;obtain⟨rfl,h⟩:=h;replace h:=eX h;obtain⟨rfl,h⟩:=h;replace h:=cE h;obtain⟨hd,rfl,h⟩:=h;obtain⟨t,nm,P,_⟩:=hd;replace h:=ob h;obtain⟨t,rfl,h⟩:=h;replace h:=cx h;obtain⟨x,_,rfl,h⟩:=h;replace h:=jy h;obtain⟨b,j,rfl,h⟩:=h;obtain⟨⟨F,lv,c⟩,k⟩:=oi h;clear h;rw[R5.mp F];obtain⟨q,z,k⟩:=ob k;obtain⟨u,H,k⟩:=ob k;obtain⟨v,I,k⟩:=ob k;cases k;have tw:=o.tw q (List.mem_of_find?_eq_some z);have e:=List.find?_some z;rw[PY,PY] at e;rw[eq_of_beq e.1.1,eq_of_beq e.1.2,<- eq_of_beq e.2] at tw;have y:=o.top lv;exact BM tw y.1 y.2.1 y.2.2.1 (dm o c).1 (dm o c).2 (λpn E=>ir (B.s (Cu o lv pn E)) H) (λv E=>ir (B.s (Cw o lv v E)) I)
section
variable{β:Type}{e:Expr}{st:Stmt}{r:β}
noncomputable def B9 (e:Expr)(k:List (Option Expr)->List Expr->Pos->Option β):Option β:=if h:e.ctorIdx=6 then @Expr.Dict.elim (λ_=>Option β) e h k else none
def vE (h:B9 e k=some r):∃a b c,e=.Dict a b c/\k a b c=some r:=(od h).elim λz h=>@Expr.Dict.elim (λe=>∀z,@Expr.Dict.elim (λ_=>Option β) e z k=some r->∃a b c,e=.Dict a b c/\k a b c=some r) e z (λa b c _ h=>⟨a,b,c,rfl,h⟩) z h
noncomputable def Nu (e:Stmt)(k:Expr->List Stmt->List Stmt->Pos->Option β):Option β:=if h:e.ctorIdx=11 then @Stmt.While.elim (λ_=>Option β) e h k else none
def Ir (h:Nu st k=some r):∃a b c d,st=.While a b c d/\k a b c d=some r:=(od h).elim λz h=>@Stmt.While.elim (λe=>∀z,@Stmt.While.elim (λ_=>Option β) e z k=some r->∃a b c d,e=.While a b c d/\k a b c d=some r) st z (λa b c d _ h=>⟨a,b,c,d,rfl,h⟩) z h
noncomputable def NB (e:Expr)(k:Expr->Expr->List R0->Scope->Pos->Option β):Option β:=if h:e.ctorIdx=10 then @Expr.DictComp.elim (λ_=>Option β) e h k else none
def Jy (h:NB e k=some r):∃a b c d p,e=.DictComp a b c d p/\k a b c d p=some r:=(od h).elim λz h=>@Expr.DictComp.elim (λe=>∀z,@Expr.DictComp.elim (λ_=>Option β) e z k=some r->∃a b c d p,e=.DictComp a b c d p/\k a b c d p=some r) e z (λa b c d p _ h=>⟨a,b,c,d,p,rfl,h⟩) z h
end
def pb (o:dY fa n g X):ix fa:=⟨o.T.of,o.T.od.1,o.T.od.2⟩
def Dt:dX:=λR g e=>pX e λa b p=>if g.tx p=true/\ka b=true/\0<g.lv then(R.e g a).bind λx=>(R.e g b).bind λy=>some (fK x y) else none
def Bj:SE Dt:=λ{z n R} j {g X} o {a B} h=>by
 replace h:=iU h;obtain⟨a,b,p,rfl,h⟩:=h;replace h:=oi h;obtain⟨⟨_,c,lv⟩,h⟩:=h;obtain⟨x,u,h⟩:=ob h;obtain⟨y,v,h⟩:=ob h;cases h;exact KP (o.rm lv) (pb o) (j.e o u) (j.e o v) (nU c)
noncomputable def isIn (q:CmpOp):Option Bool:=match q with
 |.In=>some false
 |.NotIn=>some true
 |_=>none
def Gz (h:isIn q=some n):q=if n then .NotIn else .In:=by
 cases q<;>first|(cases h;rfl)|cases h
def K0 (R:Rc)(g:G)(e:Expr):Option GE:=Jz e λa h bs p=>n1 h λq=>n1 bs λb=>if g.tx p=true/\behindInMarks q b=false/\0<g.lv then(isIn q).bind λn=>(R.e g a).bind λx=>(R.e g b).bind λy=>some (lg n x y) else none
def He (j:iE fa n R)(o:dY fa n g X)(h:K0 R g e=some ge):DE fa X e ge/\DT fa X e (aj ge):=by
 replace h:=pZ h;obtain⟨a,z,bs,p,rfl,h⟩:=h;replace h:=cE h;obtain⟨q,rfl,h⟩:=h;replace h:=cE h;obtain⟨b,rfl,h⟩:=h;replace h:=oi h;obtain⟨⟨_,c,lv⟩,h⟩:=h;obtain⟨m,hm,h⟩:=ob h;obtain⟨x,u,h⟩:=ob h;obtain⟨y,v,h⟩:=ob h;cases h;have e:=Gz hm;subst e;exact{MS m (o.rm lv) (pb o) (j.e o u) (j.e o v) c,Kk m (o.rm lv) (pb o) (j.e o u) (j.e o v) c}
def HB:EN:=λR g e=>(K0 R g e).bind λx=>some (aj x)
def E7:ST HB:=λ{v n R} u {g X} o {a y} h=>by
 obtain⟨x,j,h⟩:=ob h;cases h;exact(He u o j).2
def C9:jl:=λR g st=>sS st λts d _=>n1 ts λt=>pX t λa b p=>if g.tx p=true/\ka b=true/\0<g.lv then(R.e g a).bind λx=>(R.e g b).bind λy=>(R.e g d).bind λz=>some (hV x y z) else none
def AZ:SS C9:=λ{F n R} j {g X} o {a H} h=>by
 replace h:=j4 h;obtain⟨ts,d,_,rfl,h⟩:=h;replace h:=cE h;obtain⟨t,rfl,h⟩:=h;replace h:=iU h;obtain⟨a,b,p2,rfl,h⟩:=h;replace h:=oi h;obtain⟨⟨_,c,lv⟩,h⟩:=h;obtain⟨x,u,h⟩:=ob h;obtain⟨y,B,h⟩:=ob h;obtain⟨z,E,h⟩:=ob h;cases h;refine Io (o.rm lv) (pb o) (j.e o u) (j.e o B) (j.e o E) (λv=>?_) ?_ ?_
 ·cases b<;>first|rfl|cases c
 ·cases d<;>rfl
 ·cases d<;>rfl
def Dr:dX:=λR g e=>B9 e λks h p=>n0 ks (n0 h (some (xv (if g.tx p=true then 78 else 77))))
def Bh:SE Dr:=λ{j n R} v {g X} o {a u} h=>by
 replace h:=vE h;obtain⟨ks,y,p,rfl,h⟩:=h;replace h:=eX h;obtain⟨rfl,h⟩:=h;replace h:=eX h;obtain⟨rfl,h⟩:=h;cases h;exact KN _ (by split<;>simp) (pb o)
def Ds:dX:=λR g e=>if g.tx e.pos=true then(cR R g "len" e).bind λq=>if notStar q.1=true then some (la q.2) else none else none
def Bi:SE Ds:=λ{z n R} v {g X} o {a B} h=>by
 obtain⟨_,h⟩:=oi h;obtain⟨⟨b,y⟩,u,h⟩:=ob h;obtain⟨c,h⟩:=oi h;cases h;obtain⟨_,_,rfl,j,hm,_,d,hs⟩:=pz v o u;exact KO (pb o) j hm d c
def yx:dX:=λR g e=>NB e λB E u h p=>n1 u λc=>nG c λz j v=>let own:=wZ z
 n0 v (if vj g own h/\kc j=true then(R.w g z j).bind λw=>(cG (g.inC own h) z).bind λt=>(R.e (g.inC own h) B).bind λx=>(R.e (g.inC own h) E).bind λy=>if (slots t).all (· < own.length)=true then some (kj (if g.tx p=true then 78 else 77) own.length t w (jG x y)) else none else none)
def yw:SE yx:=λ{Q n R} u {g X} o {a U} h=>by
 replace h:=Jy h;obtain⟨W,vx,z,v,p,rfl,h⟩:=h;replace h:=cE h;obtain⟨c,rfl,h⟩:=h;replace h:=rR h;obtain⟨Y,B,P,rfl,h⟩:=h;replace h:=eX h;obtain⟨rfl,h⟩:=h;replace h:=oi h;obtain⟨⟨c,F⟩,h⟩:=h;obtain⟨w,J,h⟩:=ob h;obtain⟨t,I,h⟩:=ob h;obtain⟨x,L,h⟩:=ob h;obtain⟨y,M,h⟩:=ob h;obtain⟨E,h⟩:=oi h;cases h;obtain⟨S,O⟩:=xE o c;exact G7 (by split<;>simp) (pb o) S (o.calm c.1) (u.w o J) {λcl C j s H=>jJ (O cl C j s H) I,λcl C j s H a=>G4 ((O cl C j s H).rm Nat.zero_lt_one) (pb o) (u.e (O cl C j s H) L) (u.e (O cl C j s H) M)} (by simpa using kB E) (vX F)
def yg:jl:=λR g st=>Nu st λc body h _=>n0 h (if g.lv=2 then(R.t g c).bind λt=>(pw (R.s g) body).bind λb=>some (fS t b) else none)
def yf:SS yg:=λ{z n R} j {g X} o {a B} h=>by
 replace h:=Ir h;obtain⟨c,body,y,p,rfl,h⟩:=h;replace h:=eX h;obtain⟨rfl,h⟩:=h;replace h:=oi h;obtain⟨lv,h⟩:=h;obtain⟨t,v,h⟩:=ob h;obtain⟨b,u,h⟩:=ob h;cases h;exact FN (o.po lv) (j.t o v) (ir (j.s o) u)
def HQ:dX:=λR g e=>(cR R g "any" e).bind λq=>if notStar q.1=true then some (qf q.2) else none
def Fh:SE HQ:=λ{z n R} v {g X} o {a B} h=>by
 obtain⟨⟨b,y⟩,u,h⟩:=ob h;obtain⟨c,h⟩:=oi h;cases h;obtain⟨_,_,rfl,j,hm,lv,d,hs⟩:=pz v o u;exact MX (o.calm lv) j hm d c
def HP:dX:=λR g e=>rS e λh j ks p=>DZ h λa m ap=>n0 ks (n0 j (if m="clear"/\mT a=true/\(ap.endLine==p.line)=true then(R.e g a).bind λx=>some (qe x) else none))
def Fg:SE HP:=λ{B n R} y {g X} o {a E} h=>by
 replace h:=kK h;obtain⟨hd,z,ks,p,rfl,h⟩:=h;replace h:=tN h;obtain⟨a,m,ap,rfl,h⟩:=h;replace h:=eX h;obtain⟨rfl,h⟩:=h;replace h:=eX h;obtain⟨rfl,h⟩:=h;replace h:=oi h;obtain⟨⟨rfl,j,u⟩,h⟩:=h;obtain⟨x,v,h⟩:=ob h;cases h;exact MU (y.e o v) (iZ j) u
def Nn:dX:=λR g e=>B9 e λks h p=>n1 ks λk=>k.bind λk=>n1 h λv=>if 0<g.lv then(R.e g k).bind λx=>(R.e g v).bind λy=>some (vV (if g.tx p=true then 78 else 77) x y) else none
def HM:SE Nn:=λ{B n R} j {g X} o {a E} h=>by
 replace h:=vE h;obtain⟨ks,F,p,rfl,h⟩:=h;replace h:=cE h;obtain⟨k,rfl,h⟩:=h;obtain⟨k,rfl,h⟩:=QN.mp h;replace h:=cE h;obtain⟨v,rfl,h⟩:=h;replace h:=oi h;obtain⟨lv,h⟩:=h;obtain⟨x,u,h⟩:=ob h;obtain⟨y,z,h⟩:=ob h;cases h;exact G6 _ (by split<;>simp) (o.rm lv) (pb o) (j.e o u) (j.e o z)
def Dd:jl:=λR g st=>BN st λe _=>JA e λa m d q=>if m="append"/\mT a=true/\q=true/\notStar d=true then(R.e g a).bind λx=>(R.x g d).bind λy=>some (mP x y) else none
def A3:SS Dd:=λ{F n R} j {g X} o {a H} h=>by
 replace h:=pO h;obtain⟨e,_,rfl,h⟩:=h;replace h:=zL h;obtain⟨a,m,q,d,p,rfl,h⟩:=h;replace h:=oi h;obtain⟨⟨rfl,u,v,z⟩,h⟩:=h;obtain⟨x,B,h⟩:=ob h;obtain⟨y,E,h⟩:=ob h;cases h;exact GR (j.e o B) (j.x o E) (iZ u) v (bt z) rfl
def pP (i:Nat)(a:GE):GS:=λh M=>match h[i]?.getD none with
 | some (.int x) => (a h M).bind λy M => (match y with
   |.int y=>.ok (.next (h.set i (some (.int (x+y))))) M
   |_=>.bad)
 |_=>.bad
def Kt {i:Nat}{x:Str}{e:Expr}{ge:GE}{p2 pos:Pos}(P:X.N.Nodup)(hi:X.N[i]?=some x)(R:Loc X.env.scope x)(he:DE fa X e ge)(hf:X.fn x=true\/X.env.scope.names.lookup x=some .local):DS fa X (.AugAssign (.Name x p2) .Add e pos) (pP i ge):=
 da (IX P hi R he J0 hf) λD Y H ⟨L,j,M,F,O,h⟩=>by
  obtain⟨a,E,y,z,e1,h⟩:∃a,j[i]?.getD none=some (.int a)/\∃y z,ge j M=.ok (.int y) z/\ku fa X L H D (.next (j.set i (some (.int (a+y))))) z:=by
   unfold pP at h;cases B:j[i]?.getD none with
   |none=>rw[B] at h;exact h.elim
   | some d =>
     rw[B] at h;cases d with
     | int a =>
       obtain⟨y,z,e1,h⟩:=aM h;cases y with
       |int y=>exact⟨a,rfl,y,z,e1,h⟩
       |_=>exact h.elim
     |_=>exact h.elim
  have B:j[i]?=some (some (.int a)):=by
   cases q:j[i]? with
   |none=>rw[q] at E;cases E
   |some o=>rw[q] at E;exact congrArg some E
  obtain⟨v,Q,S⟩:=F.at' i _ B;obtain rfl:v=.int a:=S;refine{_,Q,L,j,M,F,O,?_};rw[e1];intro u W U J I r1;obtain rfl:u=.int y:=r1;exact{a,y,rfl,rfl,h _ _ _ J ((F.ext J).set (d:=.int (a+y)) rfl) I}
def OT (to tl th:TE):TG:=λv h H Q=>to h H λo z=>tl h z λl B=>th h B λu j=>∃(p b:Addr) (xs y:List V) (a c:Int),o=.ref p/\v=.ref b/\l=.int a/\u=.int c/\j p=some (.lst xs)/\j b=some (.lst y)/\p≠b/\0≤a/\a≤c/\c≤xs.length/\xs.length+y.length≤sizeLine/\Q h (upd j p (.lst (xs.take a.toNat++y++xs.drop c.toNat)))
def I8 {o lo hi:Expr}{to tl th:TE}{p2 pos:Pos}(ho:PE X o to)(hl:PE X lo tl)(hh:PE X hi th)
 (Y:∀v,assign (.Subscript o (.Slice (some lo) (some hi) none p2) pos) X.env v=(do
  let y <- holding [v] (eval o X.env)
  let E <- holding [v,y] (eval (.Slice (some lo) (some hi) none p2) X.env)
  standAt pos
  holding [v,y,E] (setItem y E v)
  release [E,v,y] [])):PG X (.Subscript o (.Slice (some lo) (some hi) none p2) pos) (OT to tl th):=by
 intro j s z H v u Q I r h;rw[Y];refine tqa (tqo (aP (ho j s z H _ I h) λy s1 ⟨x,J,P,r1,q1⟩=>?_));refine tqa (tqo (wpAny_Slice ?_));rw[evalPart_some];refine aP (hl j s1 z J _ P q1) λvl s2 ⟨l,L,R,r2,q2⟩=>?_;rw[evalPart_some];refine aP (hh j s2 z L _ R q2) λvh F ⟨w,M,S,r3,q3⟩=>?_;rw[evalPart_none];refine tqb ?_;obtain⟨p,b,xs,ys,a,c,rfl,rfl,rfl,rfl,e1,e2,ne,W,B,hc,hz,q⟩:=q3;have U:Inv X j z M {F with heap:=F.heap.push {cls:=.type "slice",data:=.fields #[vl,vh,.none]}}:=S.kept (t':=F.toks) λb ob q=>PM _ q
 cases r1;cases r;refine tqa (wpAny_standAt (tqa (tqo (zb U e1 e2 ne (Heap.IsSliceOf.new ..) r2 r3 W B hc hz λs' O=>?_))));exact wpAny_release {z,_,O,q}
noncomputable def mx:D->Nat->Bool
 |.cell q,k=>q==k
 |_,_=>false
def AG {fa:Fa}{K:PJ}{μ:Mu}{H:Hp}{M:Mem}{z:D}{es:List D}{k:Nat}{p b:Addr}(h:RelM fa K μ H M)(hz:Rep fa K μ H z (.ref b))(hk:μ.pub k=some p)(c:mx z k=false)(e:fy M z=some es):p≠b:=by
 cases z with
 | lst u =>
   obtain⟨a,v,e1,s,_⟩:=hz;cases e1;exact λe=>s.2 (e ▸ .inl ⟨k,hk⟩)
 | cell q =>
   obtain⟨a,e1,j⟩:=hz;cases e1;intro e;subst e;rw[h.inj _ _ _ j hk] at c;exact absurd (show(k==k)=false from c) `s
 |_=>cases e
def sQ (a lo hi d:GE):GS:=λu M=>(d u M).bind λz M=>(a u M).bind λx M=>(lo u M).bind λl M=>(hi u M).bind λh M=>match x,l,h with
 | .cell k, .int i, .int j => (match M[k]?, fy M z with
   |some v,some y=>if mx z k=false/\0≤i/\i≤j/\j≤v.length/\v.length+y.length≤sz then .ok (.next u) (M.set k (v.take i.toNat++y++v.drop j.toNat)) else .bad
   |_,_=>.bad)
 |_,_,_=>.bad
set_option tactic.hygienic true in
def Kn {a lo hi d:Expr}{ga gl gh gd:GE}{p2 B pos:Pos}(ha:DE fa X a ga)(hl:DE fa X lo gl)(hh:DE fa X hi gh)(hd:DE fa X d gd)
 (h0:∀v,assign (.Subscript a (.Slice (some lo) (some hi) none p2) B) X.env v=(do
  let P <- holding [v] (eval a X.env)
  let iv <- holding [v,P] (eval (.Slice (some lo) (some hi) none p2) X.env)
  standAt B
  holding [v,P,iv] (setItem P iv v)
  release [iv,v,P] [])) (hs:swapsWithSole [.Subscript a (.Slice (some lo) (some hi) none p2) B] d pos.line X.env=pure false) (hw:swappedStores [.Subscript a (.Slice (some lo) (some hi) none p2) B] d X.env=pure none)
 (h1:(assignEach [.Subscript a (.Slice (some lo) (some hi) none p2) B] X.env).map (·.2)=[assign (.Subscript a (.Slice (some lo) (some hi) none p2) B) X.env]) :
 DS fa X (.Assign [.Subscript a (.Slice (some lo) (some hi) none p2) B] d pos) (sQ ga gl gh gd):=
 da (lV hd (I8 ha hl hh h0) hs hw h1) λD' σ H ⟨μ,ρ,M,hE,hM,h⟩=>t1 hE hM h λz M1 vz H1 μ1 x1 Q U rz h1=>t1 Q U h1 λx M2 vx H2 μ2 x2 R W rx h2=>t2 R W h2 λl h J vl vh H3 μ3 x3 S u rl rh h3=>by
  obtain⟨I,k,i,j,y,rfl,rfl,rfl,L,cz,F,c0,c1,c2,c3,q⟩:∃I k i j y,x=.cell k/\l=.int i/\h=.int j/\fy J z=some I/\mx z k=false/\J[k]?=some y/\0≤i/\i≤j/\j≤y.length/\y.length+I.length≤sz/\ku fa X μ H D' (.next ρ) (J.set k (y.take i.toNat++I++y.drop j.toNat)):=by
   cases x with
   | cell k =>
     cases l with
     | int i =>
       cases h with
       | int j =>
         dsimp only at h3;cases F:J[k]? with
         |none=>rw[F] at h3;exact h3.elim
         | some y =>
           cases L:fy J z with
           |none=>rw[F,L] at h3;exact h3.elim
           | some I =>
             rw[F,L] at h3;dsimp only at h3;split at h3
             ·next c=>exact⟨I,k,i,j,y,rfl,rfl,rfl,rfl,c.1,F,c.2.1,c.2.2.1,c.2.2.2.1,c.2.2.2.2,h3⟩
             ·exact h3.elim
       |_=>exact h3.elim
     |_=>exact h3.elim
   |_=>exact h3.elim
  obtain⟨p,rfl,hk⟩:=rx.ext x3;have O:=(rz.ext x2).ext x3;obtain⟨b,ys,rfl,hb,ry⟩:=hD u O L;obtain⟨xs,Y,E⟩:=u.at_ F hk;have lx:=E.length;have ly:=ry.length;refine{p,b,xs,ys,i,j,rfl,rfl,rl,rh,Y,hb,AG u O hk cz L,c0,c1,by rw[lx];exact c2,by rw[lx,ly,<- dE];exact c3,?_}
  exact js S u hk (((E.take i.toNat).append ry).append (E.drop j.toNat)) λσ' H' μ' x' e' m'=>q σ' H' μ' (((x1.trans x2).trans x3).trans x') e' m'
noncomputable def CF (h:Addr):Obj:={cls:=.type "enumerate",data:=.fields #[.none,.bool false,.ref h,rawInt 1,.none,.none]}
set_option tactic.hygienic true in
def zQ (l:Addr)(us:Array PL)(n:Nat)(dct:Option Addr)(sl:Array (Option PL))(t:Tok) :
 Meets (Builtin.«enumerate.__new__» {[.type "enumerate",.ref l],[("start",.int 1 t)]}) (λ_ R s=>s.heap.get? l=some {.type "list",dct,.seq us n,sl}/\
  R (.ok (.ret (.ref (s.heap.push (dU true l)).objs.size))) {s with heap:=(s.heap.push (dU true l)).push (CF s.heap.objs.size)}):=
 .of_wp λprog w A R s h=>by
  obtain⟨v,g,d,tk,os⟩:=s;obtain⟨j,h⟩:=h;have q:=sub_enumerate;have u:Heap.IsList (Shared.heap ⟨v,g,d,tk,os⟩) l us:={_,j,rfl,n,rfl};wp_walk using RA j
  refine wpAny_stack_any λ_=>tqb ?_;split
  ·rename_i c _ _ _ _ _;cases (c==Value.type "enumerate")<;>
   ·wp_walk using RA j,wpAny_pyIter_list u
    exact{_,rfl,h}
  ·wp_walk using RA j,wpAny_pyIter_list u
   exact{_,rfl,h}
section
variable{prog:QF}{w:Qz}{A:Ry}{E:PL->PX->Prop}{s:PX}
def LF {T y:String}{B:Builtin}{u:List PL}{v:List (Str×PL)}{S:PySem.Spec}{Q:PL->PX->Prop}(j:TypeCalled T y "object.__init__")(J:checkTypeCall T ⟨u,v⟩=pure ())(z:checkBuiltinCall y {.type T::u,v}=pure ())(en:entryFor table y=some B)
 (I:∀o,argsOk "object.__init__" {o::u,v}) (hi:∀o s1,s1.TypeIs o T->∀(A:Ry) (Q:Fin->PX->Prop) E,Q (.done (.ret .none)) s1->wpAny (model prog w) A (Builtin.«object.__init__» {o::u,v}) Q E s1) (g:Meets (B {.type T::u,v}) S)
 (h:S A.in1 (wants (λo s1=>s1.TypeIs o T/\Q o s1) E) s):wpAny (model prog w) A (call (.type T) u v) Q E s:=by
 have⟨c,tl,L⟩:=j.mro;have e1:=j.made;have e2:=j.sub;have M:=j.notType;have O:=j.canCreate;refine wpAny_call (codeAny_of_tree (show wpAny _ _ (callAny (.type T) _) _ _ _ from tqb {Code.quiet_builtin _ `k,codeAny_builtin F.entry_type_call ?_}))
 rw[Around.under_plain (weight_type_call_type T u v) (units_type_call_type T u v)]
 repeat (any_goals (first|assumption|wp_step))
 refine codeAny_mono (codeAny_call_builtin j.plain en (wpAny_of_eq z (g prog w A.in1 _ s h))) λr s1 hr=>?_;cases r with
 |error e=>exact hr
 | ok fl =>
   cases fl with
   | ret o =>
     have W:=hr.1;have P:=j.init.lookup;have U:=j.init.bind o
     repeat (any_goals (first|assumption|wp_step))
     refine codeAny_mono (codeAny_call_builtin (R:=wants (λr s2=>r=.none/\s2=s1) λ_ _=>False) j.init.plain F.entry_object_init (j.init.check _ _ _ _ _ _ _ _ hr.1 (I o) (hi o s1 hr.1 _ _ _ ⟨rfl,rfl⟩))) λr2 s2 h2=>?_;cases r2 with
     |error e=>exact h2.elim
     | ok H =>
       cases H with
       | ret r =>
         obtain⟨rfl,rfl⟩:=h2;have Y:=hr.2
         repeat (any_goals (first|assumption|wp_step))
       |_=>exact h2.elim
   |_=>exact hr.elim
def CP {t:Tok}(v:b7 true s.heap l us)
 (h:∀j,IsEnum j (s.heap.objs.size+1) s.heap.objs.size 1 .none->eJ true j s.heap.objs.size l 0->(∀c o,s.heap.get? c=some o->j.get? c=some o)->Q (.ref (s.heap.objs.size+1)) {s with heap:=j}):wpAny (model prog w) A (call (.type "enumerate") [.ref l] [("start",.int 1 t)]) Q E s:=by
 obtain⟨⟨c,dct,B,sl⟩,z,y,n,hd⟩:=v;cases y;cases hd;refine LF F.called_enumerate (by kernel_rfl) (by kernel_rfl) F.entry_enumerate_new (λo=>?_) (λo s1 J A Q E L=>?_) (zQ l us n dct sl t) {z,?_}
 ·unfold argsOk;kernel_rfl
 ·have H:=F.called_enumerate.init.lookup;have I:=F.called_enumerate.made
  repeat (any_goals (first|assumption|wp_step))
 have u:(s.heap.push (dU true l)).objs.size=s.heap.objs.size+1:=RC ..;rw[u];have he:IsEnum ((s.heap.push (dU true l)).push (CF s.heap.objs.size)) (s.heap.objs.size+1) s.heap.objs.size 1 .none:=by
  have:=Qn (s.heap.push (dU true l)) (o:=CF s.heap.objs.size) rfl;rw[u] at this;exact this
 exact{{_,he,rfl},h _ he (eJ.new (PM _ (Qn _ rfl))) λc o x=>PM _ (PM _ x)}
end
def M8 {u:Model}{A:Ry}{E:PL->PX->Prop}{s:PX}{env:Rg}{pos:Pos}{T:String}{e:Expr}{j:List Keyword}{Q:PL->PX->Prop}
 (h:wpAny u A (PySem.spliced (backTo pos (starEach [e] env))) (λvs s1=>wpAny u A (PySem.evalAll ((backToKw pos (keywordEach j env)).map (·.2))) (λus s2=>wpAny u A (PySem.call (.type T) vs (((backToKw pos (keywordEach j env)).filterMap (·.1)).zip us)) Q E s2) E s1) E s)
 (hs:starEach [e] env=[(false,eval e env)]) (v:(backToKw pos (keywordEach j env)).all (·.1.isSome)=true) (y:(backToKw pos (keywordEach j env)).any (·.1.isNone)=false) :
 wpAny u A (callWith pos (.type T) [] (backTo pos (starEach [e] env)) (backToKw pos (keywordEach j env))) Q E s:=by
 rw[hs] at h ⊢;unfold callWith;refine tqa (tqo (wpAny_mono (evalArgs_kwB (f:=.type T) (x:=eval e env) (rest:=[]) (Q:=λa s1=>wpAny u A (PySem.call (.type T) a.pos a.kw) Q E s1) v h) (λa s1 h1=>tqa (wpAny_standAt ?_)) λ_ _ x=>x));simp only[show(backTo pos [(false,eval e env)]).any (·.1)=false from rfl,y,Bool.or_false];exact tqa (tqb (tqa (wpAny_mono h1 (λr s2 hr=>tqa (tqo (wpAny_point (tqb hr)))) λ_ _ x=>x)))
section
variable{fa:Fa}{X:Cx}{a:Expr}{ga:Env->Mem->Res D}{pos p kp cp:Pos}{ci:Nat}
def t9 (ga:Env->Mem->Res D):Env->Mem->Res Walk:=λh M=>(ga h M).bind λx M=>if dj x=true/\ft x=true then .ok (λM=>(bU M x).map (eA 1)) M else .bad
def KA {F:List Expr}(ha:DE fa X a ga)(hg:Gl X "enumerate")(hm:X.mg "enumerate"=none)(hs:starEach [a] X.env=[(false,eval a X.env)]):DI fa X (.Tuple F kk tp) (.Call (.Name "enumerate" p) [a] [{some "start",.Constant (.int 1) ci cp,kp}] pos) (t9 ga):=by
 intro u s σ H R I ⟨μ,ρ,M,hE,hM,h⟩;obtain⟨x,M1,e,q⟩:=aM h;by_cases J:dj x=true/\ft x=true
 case neg=>rw[if_neg J] at q;exact q.elim
 rw[if_pos J] at q;have hA:=cM ha eR hs pos u s σ H (λY y=>∃v j,Y=[v]/\Ext μ H j y/\RelM fa X.K j y M1/\Rep fa X.K j y x v) I {μ,ρ,M,hE,hM,by rw[e];exact λv y j U Q r1=>⟨v,j,rfl,U,Q,r1⟩}
 refine wpAny_Call_Name_kw (fT I hg hm boot_enumerate ?_);refine M8 (aP hA λus s1 ⟨Y,y,I1,r1,v,j,ev,U,Q,W⟩=>?_) hs rfl rfl;subst ev;cases r1 with
 | cons r1 rr =>
   cases rr;refine kws_cons (aP (zy u s1 σ y (λv' L=>v'=.int 1/\L=y) I1 ⟨rfl,rfl⟩) λnv s2 ⟨nx,L,O,r2,en,eh⟩=>kws_nil ?_);subst en eh;obtain⟨t,rfl⟩:=r2;obtain⟨ad,its,rfl,p1⟩:=kF O Q W J.1;obtain rfl:=r1;have B:=p1.lt;rw[J.2] at p1;refine CP p1 λh1 he S hk=>?_;have I3:=O.kept (t':=s2.toks) hk;refine wpAny_pyIter_enum he ?_;refine{s2.heap.objs.size+1,[s2.heap.objs.size+1,s2.heap.objs.size],_,_,L,rfl,I3,qD (ft x) ad s2.heap.objs.size (s2.heap.objs.size+1) 1 (Nat.succ_ne_self _) (Qw B) (QR (Rj B)),{{.none,he},J.2 ▸ S},λb P=>?_,q _ L j U Q (qA W)};have P:s2.heap.objs.size≤b:=by
    rcases Qu.mp P with z|z
    ·subst z;exact Nat.le_succ _
    ·have e:b=s2.heap.objs.size:=by simpa using z
     subst e;exact PV _
   exact O.fpOk P (O.hok.fresh P)
end
variable{β:Type}{r:β}
noncomputable def Nv (e:Stmt)(k:Expr->Operator->Expr->Pos->Option β):Option β:=if h:e.ctorIdx=7 then @Stmt.AugAssign.elim (λ_=>Option β) e h k else none
def IB {st:Stmt}{k:Expr->Operator->Expr->Pos->Option β}(h:Nv st k=some r):∃a b c d,st=.AugAssign a b c d/\k a b c d=some r:=(od h).elim λz h=>@Stmt.AugAssign.elim (λe=>∀z,@Stmt.AugAssign.elim (λ_=>Option β) e z k=some r->∃a b c d,e=.AugAssign a b c d/\k a b c d=some r) st z (λa b c d _ h=>⟨a,b,c,d,rfl,h⟩) z h
def Hs:jl:=λR g st=>Nv st λt h a _=>nName t λx _=>if h=.Add then(lx g x).bind λi=>(R.e g a).bind λy=>some (pP i y) else none
def EX:SS Hs:=λ{fa n R} v {g X} o {a ga} h=>by
 obtain⟨t,z,a,p,rfl,h⟩:=IB h;obtain⟨x,q,rfl,h⟩:=cx h;obtain⟨rfl,h⟩:=oi h;obtain⟨i,j,h⟩:=ob h;obtain⟨y,u,h⟩:=ob h;cases h;obtain⟨h1,h2,h3⟩:=rT o j;exact Kt (o.N ▸ o.nd) h1 h2 (v.e o u) h3
def Ho:jl:=λR g st=>sS st λts d _=>n1 ts λt=>pX t λa b _=>Jv b λlo h st _=>if st.isNone=true then lo.bind λlo=>h.bind λh=>(R.e g a).bind λx=>(R.e g lo).bind λy=>(R.e g h).bind λz=>(R.e g d).bind λw=>some (sQ x y z w) else none
def ET:SS Ho:=λ{fa n R} j {g X} o {a ga} h=>by
 obtain⟨ts,d,J,rfl,h⟩:=j4 h;obtain⟨t,rfl,h⟩:=cE h;obtain⟨a,b,p,rfl,h⟩:=iU h;obtain⟨lo,u,st,p2,rfl,h⟩:=vB h;obtain⟨c,h⟩:=oi h;cases lo with
 |none=>cases h
 |some lo=>
 cases u with
 |none=>cases h
 |some u=>
 cases st with
 |some s=>cases c
 |none=>
 obtain⟨x,F,h⟩:=ob (show Option.bind _ _=_ from h);obtain⟨y,H,h⟩:=ob h;obtain⟨z,I,h⟩:=ob h;obtain⟨w,B,h⟩:=ob h;cases h;exact Kn (j.e o F) (j.e o H) (j.e o I) (j.e o B) (λv=>rfl) (by cases d<;>rfl) (by cases d<;>rfl) rfl
def HA:rC:=λR g t e=>pW t λ_ _ _=>rS e λh j ks _=>nName h λx _=>n1 j λa=>n1 ks λk=>Ca k.value λc _ _=>if x="enumerate"/\iF g x=true/\(match g.T.lookup x with|some .bl=>true|_=>false)=true/\0<g.lv/\notStar a=true/\k.arg=some ("start":Str)/\c=.int 1 then(R.e g a).bind λy=>some (t9 y) else none
def E5:SW HA:=λ{fa n R} F {g X} o {t a ga} h=>by
 obtain⟨_,_,_,rfl,h⟩:=gr h;obtain⟨hd,H,ks,p,rfl,h⟩:=kK h;obtain⟨x,q,rfl,h⟩:=cx h;obtain⟨a,rfl,h⟩:=cE h;obtain⟨⟨I,J,kp⟩,rfl,h⟩:=cE h;obtain⟨c,i,cp,rfl,h⟩:=pY h;obtain⟨⟨e1,u,v,lv,z,e2,j⟩,h⟩:=oi h;obtain⟨y,B,h⟩:=ob h;cases h;dsimp only at e2 j;subst e1 e2 j;exact KA (F.e o B) (dm o u).1 (o.T.bl (lq v)) (bt z)
end LD
namespace LD
open PySem PySem.Spec PyProof.Rows L2
noncomputable def minD:List D->Mem->Res D
 |[.int a,.int b],M=>.ok (.int (if b<a then b else a)) M
 |_,_=>.bad
def m8 (s:GA):GE:=λj M=>(s j M).bind λh M=>minD h M
section
variable{fa:Fa}{X:Cx}{a:Expr}{es:List Expr}{gs:GA}{p pos:Pos}
set_option tactic.hygienic true in
def J7 (B:X.calm=true):cu X (.builtin "min") (λvs H Q=>∃μ M ds,RelM fa X.K μ H M/\aL fa X.K μ H ds vs/\ae (minD ds M) (bj fa X.K μ H Q)):=by
 intro y s S H xs R Q I r h;obtain⟨μ,M,ds,z,J,h⟩:=h;unfold minD at h;split at h
 ·next i j=>
  obtain⟨L,r1,rfl,h1,O,r2,rfl,h3,h4⟩:=J;obtain rfl:r2=[]:=h4;obtain rfl:L=.int i:=h1;obtain rfl:O=.int j:=h3;cases r with
  | cons E v =>
    cases v with
    | cons v F =>
      cases F;obtain⟨t,rfl⟩:=E;obtain⟨u,rfl⟩:=v;refine min_two_ints (I.ok.hd B) λP tk hk=>?_;refine{.int (if j<i then j else i),H,I.kept hk,?_,aS z h rfl};split
      ·exact⟨u,rfl⟩
      ·exact⟨t,rfl⟩
 ·exact h.elim
end
def Dn:dX:=λR g e=>(cB "min" R g e).bind λq=>some (m8 q.2)
def Be:SE Dn:=λ{fa n R} J {g X} o {a S} h=>by
 obtain⟨⟨P,gs⟩,I,h⟩:=ob h;cases h;obtain⟨_,_,_,_,_,rfl,F,hm,lv,d,n1,n2⟩:=nq J o I;exact bL (i8 (J7 (o.calm lv)) F hm `k d `d `d (bt n1) (dw n2)) λσ H Q ⟨W,Y,M,z,E,h⟩=>sC z E h λy v U O u L B j r1 h1=>{u,v,y,j,r1,j7 h1 L}
structure Ent where
 i:Nat
 x:Str
 st:Stmt
 ps:Nat
 N:List Str
 f:Addr
 pm:Str×Tok
 b:Call->GS
 r:Bool:=false
 q:Option Str:=none
 df:Addr:=0
noncomputable def Ent.qn (e:Ent):Str:=e.q.getD e.x
structure mG where
 T:List (Str×En)
 tw:List (Str×Str×Nat×Nat)
 xf:List Str
 dl:List (Str×List (Str×Nat))
 il:List (Str×Nat)
 cel:List (Nat×Nat×Nat)
 txt:List (Nat×Nat×Nat)
 ms:List (Str×Nat×Nat)
 rs:Rs
 tb:List Ent
def mG.g (t:mG)(e:Ent)(c:Call):G:={t.T,t.tw,t.xf,t.cel,t.txt,t.ms,c,e.N,bc e.st,2,[]}
noncomputable def mG.Pg (t:mG)(i:Nat):Option Df:=(t.tb.find? (·.i==i)).map λe=>⟨e.ps,e.N.length,e.b⟩
def mG.rd (t:mG)(c:Call)(e:Ent):Option GS:=pw ((It t.rs 60).s (t.g e c)) (c6 e.st)
def CD (e:Ent):Bool:=decide ((bc e.st).kind=.function)&&!(bc e.st).isCoroutine&&!(bc e.st).isGenerator&&decide e.N.Nodup&&((e.N.take e.ps).length==e.ps)&&((e.N.take e.ps).all λx=>(bc e.st).names.lookup x==some .local||(bc e.st).names.lookup x==some .cell)&&((bc e.st).names.all (·.2 != .free))
def pa (h:CD e=true):i1 e.N (e.N.take e.ps) (bc e.st)/\(e.N.take e.ps).length=e.ps:=by
 unfold CD at h;simp only[PY,decide_eq_true_eq,Bool.not_eq_true',Qh,RB,beq_iff_eq,bne_iff_ne] at h;obtain⟨⟨⟨⟨⟨⟨h1,h2⟩,h3⟩,h4⟩,j⟩,u⟩,v⟩:=h;exact{{h1,h2,h3,h4,by rw[j],u,v},j}
noncomputable def Ent.dV (e:Ent):PL:=if e.df=0 then .none else .ref e.df
def Kc (e:Ent):Option Obj:=some {.type "function",none,.func (PySem.W.fnOf e.x e.qn (fj e.st) (c6 e.st) (bc e.st) e.dV .none .none (.str e.pm.1 e.pm.2) none (.ref (e.f-1)) .none),#[]}
def lY {j u:Type}{f g:j->u}{l:List j}(h:l.map f=l.map g){a:j}(m:a∈l):f a=g a:=List.map_inj_left.mp h a m
def oo (e:Ent)(us:List PL)(kV j pm:PL)(u:Option Addr)(h ct:PL):Sem (List (Str×PL)):=bindArgs (PySem.W.fnOf e.x e.qn (fj e.st) (c6 e.st) (bc e.st) e.dV kV j pm u h ct) {us,[]}
def mK (tb:List Ent)(k:Nat)(us:List PL):Prop:=∀(kV j pm:PL) (u:Option Addr) (h ct:PL),(tb.filter λe=>e.ps==k&&e.df==0).map (λe=>oo e us kV j pm u h ct)=(tb.filter λe=>e.ps==k&&e.df==0).map λe=>pure ((e.N.take e.ps).zip us)
structure xU (t:mG):Prop where
 rs:C0 t.rs
 rd:∀c,t.tb.map (t.rd c)=t.tb.map λe=>some (e.b c)
 sc:t.tb.all CD=true
 ar:t.tb.all (λe=>e.ps==0||e.ps==1||e.ps==2||e.ps==3||e.ps==4||e.ps==6||e.ps==5)=true
 a0:mK t.tb 0 []
 a1:∀a,mK t.tb 1 [a]
 a2:∀a b,mK t.tb 2 [a,b]
 a3:∀a b c,mK t.tb 3 [a,b,c]
 a4:∀a b c d,mK t.tb 4 [a,b,c,d]
 a6:∀a b c d e f,mK t.tb 6 [a,b,c,d,e,f]
 a5:∀a b c d e,mK t.tb 5 [a,b,c,d,e]
 ad:AllP (λe=>e.ps=2/\∀(a b kV doc pm:PL) (an:Option Addr) (cdv ct:PL),∃k k1,oo e [a,b] kV doc pm an cdv ct=seqItems? (.ref e.df) >>= k/\k (some #[.none])=pure ((e.N.take e.ps).zip [a,b])/\oo e [a] kV doc pm an cdv ct=seqItems? (.ref e.df) >>= k1/\k1 (some #[.none])=pure ((e.N.take e.ps).zip [a,.none])) (t.tb.filter λe=>!(e.df==0))
structure AW (K:PJ) (tb:List Ent):Prop where
 ns:(tb.filter (·.q.isNone)).map (λe=>PySem.W.nsIn K mainGlobals e.x)=(tb.filter (·.q.isNone)).map λe=>some (some (.ref e.f))
 lk:tb.map (λe=>K.lookup e.f)=tb.map Kc
 dk:tb.all (λe=>e.df==0||(match K.lookup e.df with|some {_,_,.seq its _,_}=>its==#[.none]|_=>false))=true
 ck:tb.all (λe=>PySem.W.codeIn K (.ref (e.f-1)) e.qn&&PySem.W.keepIn K (.ref e.f))=true
def HY {K:PJ}{tb:List Ent}(k:AW K tb)(m:e∈tb):ya K e.x e.qn e.st e.f (PySem.W.fnOf e.x e.qn (fj e.st) (c6 e.st) (bc e.st) e.dV .none .none (.str e.pm.1 e.pm.2) none (.ref (e.f-1)) .none):=by
 have c:=Qh.mp k.ck e m;rw[PY] at c;exact{{_,_,_,_,_,_,_,_,_,_,rfl,lY k.lk m,c.1},c.2}
def Fo {K:PJ}{h:Heap}(k:AW K tb)(X:K.In h)(G:h.Ns mainGlobals mg)(m:e∈tb)(u:e.q.isNone=true)(hd:e.df=0):mg e.x=some (.ref e.f)/\∃j,wA K e.x e.qn e.st e.f j:=by
 have c:=Qh.mp k.ck e m;rw[PY] at c;have l:=lY k.lk m;unfold Kc Ent.dV at l;rw[if_pos hd] at l;exact{Ri X G (lY k.ns (R3.mpr ⟨m,u⟩)),_,J5 l c.1 c.2}
def us6 {j:Type}{p:List j->Prop}(h:∀a b c d e f,p [a,b,c,d,e,f]):∀(us:List j) (hl:us.length=6),p us
 |[a,b,c,d,e,f],_=>h a b c d e f
def us5 {j:Type}{p:List j->Prop}(h:∀a b c d e,p [a,b,c,d,e]):∀(us:List j) (hl:us.length=5),p us
 |[a,b,c,d,e],_=>h a b c d e
def Bx {t:mG}(T:xU t){e:Ent}(m:e∈t.tb)(H:e.df=0)(kV B pm:PL)(E:Option Addr)(j ct:PL):∀us:List PL,us.length=(e.N.take e.ps).length->oo e us kV B pm E j ct=pure ((e.N.take e.ps).zip us):=by
 have hl:=(pa (Qh.mp T.sc e m)).2;have a:=Qh.mp T.ar e m;have f:∀{k:Nat}{us:List PL},e.ps=k->mK t.tb k us->oo e us kV B pm E j ct=pure ((e.N.take e.ps).zip us):=λ{k us} hk F=>lY (F kV B pm E j ct) (R3.mpr {m,by rw[hk,H];simp})
 rw[hl];simp only[RB,beq_iff_eq] at a;rcases a with(((((a|a)|a)|a)|a)|a)|a
 ·rw[a];exact λus h=>by rw[RX.mp h];exact a ▸ f a T.a0
 ·rw[a];exact us1 λx=>a ▸ f a (T.a1 x)
 ·rw[a];exact us2 λx y=>a ▸ f a (T.a2 x y)
 ·rw[a];exact us3 λx y z=>a ▸ f a (T.a3 x y z)
 ·rw[a];exact us4 λx y z u=>a ▸ f a (T.a4 x y z u)
 ·rw[a];exact us6 λx y z u v w=>a ▸ f a (T.a6 x y z u v w)
 ·rw[a];exact us5 λx y z u v=>a ▸ f a (T.a5 x y z u v)
section
variable{fa:Fa}{P:QF}{w:Qz}{K:PJ}{mg:Str->Option PL}{base:Heap}{t:mG}
def su (T:xU t)(TO:EM fa P w K mg base t.T)(tw:∀q∈t.tw,wx fa K mg q.1 q.2.1 q.2.2.1 q.2.2.2)(xf:∀f∈t.xf,EK fa K f)(ms:∀q∈t.ms,pH fa K q.1 q.2.1 q.2.2){e:Ent}(m:e∈t.tb){ad:Addr}(call:Call)(n:Nat)(j:PL)(A:Ry)(outer:List Rg)(s:PX)(H:Hp)(E:XK)
 (C:∀f,gZ fa P w K mg base n f (call f)) (hr:di (2*n+5) (A.deeper (envOfC e.qn (bc e.st) s.heap.objs.size ad j))):kv fa (gp (iG P w) P w K mg base e.N e.qn (bc e.st) ad j A outer s H E) (c6 e.st) (e.b call):=by
 have S:=(pa (Qh.mp T.sc e m)).1;exact ir ((ER T.rs 60).s (g:=t.g e call) (X:=gp (iG P w) P w K mg base e.N e.qn (bc e.st) ad j A outer s H E) {rfl,S.nd,rfl,TO,tw,xf,ms,λ_ _=>rfl,(λ_ h=>nomatch h),λ_=>rfl,λ_=>C,λ_=>hr,λ_=>⟨rfl,rfl,rfl,S.kind⟩,λ_=>PassesOwn.leaving}) (lY (T.rd call) m)
set_option tactic.hygienic true in
def yE (k:AW K tb)(m:en∈tb)(h:en.df≠0)(X:K.In s.heap)(e1:oo en us .none .none (.str en.pm.1 en.pm.2) none (.ref (en.f-1)) .none=seqItems? (.ref en.df) >>= kk)(e2:kk (some #[.none])=pure out) :
 BindsTo s (PySem.W.fnOf en.x en.qn (fj en.st) (c6 en.st) (bc en.st) en.dV .none .none (.str en.pm.1 en.pm.2) none (.ref (en.f-1)) .none) {us,[]} out:=by
 have dk:=Qh.mp k.dk en m;rw[RB] at dk;rcases dk with dk|dk
 ·exact absurd (eq_of_beq dk) h
 split at dk
 ·next lk=>
  have q:=eq_of_beq dk;subst q;exact BindsTo.of_defaults (by show en.dV=_;unfold Ent.dV;rw[if_neg h]) (X _ _ lk) rfl (by show oo en us _ _ _ _ _ _=seqItems? en.dV >>= _;unfold Ent.dV;rw[if_neg h];exact e1) e2
 ·cases dk
def Bw (T:xU t)(k:AW K t.tb)(X:K.In h)(G:h.Ns mainGlobals mg)(TO:EM fa P w K mg base t.T)(tw:∀q∈t.tw,wx fa K mg q.1 q.2.1 q.2.2.1 q.2.2.2)(xf:∀f∈t.xf,EK fa K f)(ms:∀q∈t.ms,pH fa K q.1 q.2.1 q.2.2)(hf:t.tb.all (λe=>fa e.i==some e.f&&(!(fa (500+e.i)).isSome||!(e.df==0)))=true) :
 ∀f d,t.Pg f=some d->yc fa P w K mg base f d:=by
 intro f d e;obtain⟨en,he,rfl⟩:=Qi.mp e;have m:=List.mem_of_find?_eq_some he;have J:en.i=f:=by have:=List.find?_some he;simpa using this
 have F:=HY k m;obtain⟨S,hl⟩:=pa (Qh.mp T.sc en m);have u:=Qh.mp hf en m;rw[PY,RB] at u;have M:fa f=some en.f:=by rw[<- J];exact eq_of_beq u.1
 have B:Binds K (PySem.W.fnOf en.x en.qn (fj en.st) (c6 en.st) (bc en.st) en.dV .none .none (.str en.pm.1 en.pm.2) none (.ref (en.f-1)) .none) (en.N.take en.ps) []:=by
  by_cases v:en.df=0
  ·exact .all (Bx T m v _ _ _ _ _ _)
  ·intro s I X j;obtain⟨h2,hk⟩:=T.ad.mem en (R3.mpr {m,by simpa using v})
   rw[Qy] at j ⊢;rw[hl,h2] at j
   match I,j with
   | [a, b], _ =>
     obtain⟨kk,_,e1,e2,_⟩:=hk a b .none .none (.str en.pm.1 en.pm.2) none (.ref (en.f-1)) .none;exact yE k m v X e1 e2
 have L:(fa (500+f)).isSome=true->Binds K (PySem.W.fnOf en.x en.qn (fj en.st) (c6 en.st) (bc en.st) en.dV .none .none (.str en.pm.1 en.pm.2) none (.ref (en.f-1)) .none) (en.N.take en.ps) [.none]:=λhs s I X j=>by
  have v:en.df≠0:=by
   rcases u.2 with z|z
   ·rw[J,hs] at z;cases z
   ·simpa using z
  obtain⟨h2,hk⟩:=T.ad.mem en (R3.mpr {m,by simpa using v})
  rw[hl,h2,Qe] at j
  match I,j with
  | [a], _ =>
    obtain⟨_,kk,_,_,e1,e2⟩:=hk a .none .none .none (.str en.pm.1 en.pm.2) none (.ref (en.f-1)) .none;exact yE k m v X e1 e2
 exact{en.f,_,en.N.take en.ps,en.N,en.st,en.x,en.qn,M,F,B,L,S,hl.symm,rfl,λcall n y A outer s H E C hr=>su T TO tw xf ms m call n y A outer s H E C hr}
noncomputable def Kd (K:PJ)(fa:Fa)(t:mG)(p:Str×En):Bool:=match p.2 with
 |.fn i _=>(match PySem.W.nsIn K mainGlobals p.1 with|some (some (.ref a))=>fa i==some a|_=>false)
 |.fnD i=>(match PySem.W.nsIn K mainGlobals p.1 with|some (some (.ref a))=>fa i==some a&&(fa (500+i)).isSome|_=>false)
 |.int i=>(match PySem.W.nsIn K mainGlobals p.1 with|some (some (.int j _))=>i==j|_=>false)
 |.str i=>(match PySem.W.nsIn K mainGlobals p.1 with|some (some (.str j _))=>i==j|_=>false)
 |.xc k=>(match PySem.W.nsIn K mainGlobals p.1 with|some (some (.ref a))=>fa (fY k)==some a&&PySem.W.excIn K a AJ "ValueError.__new__"&&PySem.W.keepIn K (.ref a)|_=>false)
 |.xi k=>(match PySem.W.nsIn K mainGlobals p.1 with|some (some (.ref a))=>fa (fY k)==some a&&t.il.contains (p.1,k)|_=>false)
 |.xk k=>(match PySem.W.nsIn K mainGlobals p.1 with|some (some (.ref a))=>fa (fY k)==some a|_=>false)
 |.de=>(match PySem.W.nsIn K mainGlobals p.1 with|some (some (.ref a))=>fa 999==some a|_=>false)
 |.bl=>(match PySem.W.nsIn K mainGlobals p.1 with|some none=>true|_=>false)
 |.dct fs=>t.dl.contains (p.1,fs)
 |.cls c f=>(match PySem.W.nsIn K mainGlobals p.1 with|some (some (.ref a))=>fa (jx c)==some a&&PySem.W.makesIn K a&&PySem.W.keepIn K (.ref a)&&(match fa f with|some ad=>PySem.W.findIn K (.ref a) "__init__"==some (some (.ref ad))&&PySem.W.isFn K (.ref ad)|none=>true)|_=>false)
set_option tactic.hygienic true in
def Fn (X:K.In h)(G:h.Ns mainGlobals mg)(I:t.T.all (Kd K fa t)=true)(J:Lh fa K)(z:Ln fa K)(E:∀o,5000≤o->fa o=none)(B:fa (jx 77)=none/\fa (jx 78)=none)(hd:AllP (λq=>∃ad j,mg q.1=some (.ref ad)/\fM K w.params ad j/\eM fa j q.2) t.dl)(hi:AllP (λq=>AY fa P w K mg base q.2 q.1) t.il):EM fa P w K mg base t.T:=by
 have F:∀{x:Str}{e:En},t.T.lookup x=some e->Kd K fa t (x,e)=true:=λ{x e} l=>Qh.mp I _ (mem_of_lookup l);refine{λ{x i r} l ad v=>?_,λ{x i} l=>?_,λ{x i} l=>?_,λ{x i} l=>?_,λ{x fs} l=>?_,λ{x k} l=>?_,λ{x k} l=>?_,λ{x k} l=>?_,λ{x} l=>?_,λ{x} l=>?_,J,z,E,B,λ{x c f} l=>?_};all_goals have b:=F l;unfold Kd at b;dsimp only at b
 ·split at b
  ·next e=>have b:=eq_of_beq b;rw[v] at b;cases b;exact Ri X G e
  ·cases b
 ·split at b
  ·next e=>rw[PY] at b;exact{λad v=>by have H:=eq_of_beq b.1;rw[v] at H;cases H;exact Ri X G e,b.2}
  ·cases b
 ·split at b
  ·next e=>have b:=eq_of_beq b;subst b;exact{_,Ri X G e}
  ·cases b
 ·split at b
  ·next e=>have b:=eq_of_beq b;subst b;exact{_,Ri X G e}
  ·cases b
 ·exact hd.mem (x,fs) (List.contains_iff_mem.mp b)
 ·split at b
  ·next e=>simp only[PY] at b;exact{_,Ri X G e,eq_of_beq b.1.1,b.1.2,b.2}
  ·cases b
 ·split at b
  ·next e=>rw[PY] at b;exact{hi.mem (x,k) (List.contains_iff_mem.mp b.2),_,Ri X G e,eq_of_beq b.1}
  ·cases b
 ·split at b
  ·next e=>exact{_,Ri X G e,eq_of_beq b}
  ·cases b
 ·split at b
  ·next e=>exact{_,Ri X G e,eq_of_beq b}
  ·cases b
 ·split at b
  ·next e=>exact PySem.W.mg_none_of X G e
  ·cases b
 ·split at b
  ·next a e=>
   simp only[PY] at b;refine{a,Ri X G e,eq_of_beq b.1.1.1,λad y=>?_};have u:=b.2;rw[y] at u;simp only[PY] at u;exact{b.1.1.2,eq_of_beq u.1,u.2,b.1.2}
  ·cases b
end
noncomputable def xH (K:PJ)(C:Addr):Bool:=PySem.W.plainGet K C Str.empty&&PySem.W.hasDictIn K C&&PySem.W.plainOver K C&&PySem.W.findIn K (.ref C) "__setattr__"==some (some (.builtin "object.__setattr__"))
def AF {K:PJ}(h:xH K C=true):wC K C:=by
 unfold xH at h;simp only[PY] at h;exact{h.1.1.1,h.1.1.2,h.1.2,eq_of_beq h.2}
def Jt (K:PJ)(fa:Fa):Bool:=match fa (jx 40) with
 |some C=>xH K C&&(ja 40).all λf=>PySem.W.findIn K (.ref C) f==some none
 |none=>true
def Js {K:PJ}(h:Jt K fa=true):Ln fa K:=λc C e ne=>by
 have j:c=40:=by
  unfold ja at ne;split at ne
  ·rfl
  ·exact absurd rfl ne
 subst j;unfold Jt at h;rw[e] at h;simp only[PY,Qh] at h;exact{AF h.1,λf m=>eq_of_beq (h.2 f m)}
def JF (K:PJ)(fa:Fa)(q:Str×Nat×Nat):Bool:=match fa (jx q.2.1) with
 | some C => xH K C && (match fa q.2.2 with
   |some ad=>PySem.W.findIn K (.ref C) q.1==some (some (.ref ad))&&PySem.W.isFn K (.ref ad)&&PySem.W.keepIn K (.ref ad)
   |none=>true)&&!(ja q.2.1).contains q.1&&!(ja q.2.1).isEmpty
 |none=>false
def JE {K:PJ}{l:List (Str×Nat×Nat)}(h:l.all (JF K fa)=true):∀q∈l,pH fa K q.1 q.2.1 q.2.2:=λq m=>by
 have h:=Qh.mp h q m;unfold JF at h;cases e:fa (jx q.2.1) with
 |none=>rw[e] at h;cases h
 | some C =>
   rw[e] at h;simp only[PY,Bool.not_eq_true'] at h;refine{C,e,AF h.1.1.1,λad j=>?_,λz=>?_,λz=>?_}
   ·have b:=h.1.1.2;rw[j] at b;simp only[PY] at b;exact{eq_of_beq b.1.1,b.1.2,b.2}
   ·have:=List.contains_iff_mem.mpr z;rw[h.1.2] at this;cases this
   ·rw[z] at h;exact absurd h.2 `d
def CB {D:Addr}(h:cl.all (λq=>decide (q.1<4000))=true):∀o,5000≤o->ua l cl D o=none:=λo ho=>by
 unfold ua;rw[if_neg `a,if_neg `a]
 cases e:cl.lookup (o-1000) with
 |none=>rfl
 | some C =>
   have:=of_decide_eq_true (Qh.mp h _ (lookup_mem e));omega
end LD
section
local macro_rules|`(#[$a,*])=>do return<-a.getElems.foldrM (β:=Lean.Term) (λx r=>`(LD.cm $x $r)) (<-`(LD.bT))
local macro_rules|`(#v[$a,*])=>do return<-a.getElems.foldrM (β:=Lean.Term) (λx r=>`(LD.bg $x $r)) (<-`(LD.ay))
namespace LD
open PySem
abbrev gI (n:Int):GE:=gC (.int n)
abbrev gS (x:Str):GE:=gC (.str x)
abbrev gN:GE:=gC .non
abbrev Ey:GE:=gC (.bl true)
abbrev J4:GE:=gC (.bl false)
abbrev rF:GS:=bg (az J4) ay
noncomputable def eF:List (Str×Nat):=[("turn",7),("join",8),("move",9),("put",10)]
def cH:List (Str×Nat):=[("turn",20),("join",21),("move",22),("put",23)]
def ji (c:Call):GS:=#v[aN (d7 (aj (b5 .bool (aa 0))) (bQ (aj (b5 .int (aa 0))))) rF ay,az (mj .le .le (aa 1) (aa 0) (aa 2))]
def my (c:Call):GS:=#v[az (ah 0 c #[aa 1,gI 0,ai false .sub (aa 0) (gI 1)])]
def lF (c:Call):GS:=#v[az (ah 0 c #[aa 1,gI 0,ai false .sub (aa 0) (gI 1)])]
def mE (c:Call):GS:=#v[az (ah 0 c #[aa 0,gI 1,gI 3])]
def iB (c:Call):GS:=#v[az (dO (b5 .tuple (aa 1)) (av .eq (aC .len #[aa 1]) (aa 0)))]
def lE (c:Call):GS:=#v[az (dO (ah 4 c #[aa 0,aa 1]) (aC .all #[bI false 1 (.one 0) (bZ (aa 1)) (bH (ah 1 c #[aa 1,aa 0]))]))]
def fP (c:Call):GS:=#v[az (dO (ah 4 c #[aa 0,aa 1]) (aC .all #[bI false 1 (.one 0) (bZ (aa 1)) (bH (ah 5 c #[aa 1,aa 0]))]))]
def mz (c:Call):GS:=#v[aN (aj (av .ne (aC .len #[aa 2]) (gI 3))) rF ay,au (.tup [3,4,5]) (aa 2),az (dO (ah 2 c #[aa 1,aa 3]) (dO (ah 5 c #[aa 0,aa 4]) (ah 3 c #[aa 5])))]
def mC (c:Call):GS:=#v[aN (aj (av .ne (aC .len #[aa 2]) (gI 4))) rF ay,au (.tup [3,4,5,6]) (aa 2),aN (d7 (bQ (aj (ah 2 c #[aa 1,aa 3]))) (bQ (aj (ah 2 c #[aa 1,aa 4])))) rF ay,az (dO (ah 6 c #[aa 0,aa 5]) (ah 3 c #[aa 6]))]
def mB (c:Call):GS:=#v[aN (aj (av .ne (aC .len #[aa 2]) (gI 3))) rF ay,au (.tup [3,4,5]) (aa 2),az (dO (ah 2 c #[aa 1,aa 3]) (dO (ah 2 c #[aa 1,aa 4]) (ah 3 c #[aa 5])))]
def oz (c:Call):GS:=#v[aN (aj (av .ne (aC .len #[aa 2]) (gI 3))) rF ay,au (.tup [3,4,5]) (aa 2),az (dO (ah 2 c #[aa 1,aa 3]) (dO (ah 1 c #[aa 0,aa 4]) (ah 3 c #[aa 5])))]
def mD (c:Call):GS:=#v[aN (d7 (bQ (aj (b5 .tuple (aa 2)))) (bQ (aj (aa 2)))) rF ay,au (.one 3) (aq (aa 2) (gI 0)),aN (d7 (bQ (aj (b5 .str (aa 3)))) (aj (iJ eF (aa 3)))) rF ay,au (.one 4) (kZ eF (aa 3)),az (ml 4 c #[aa 0,aa 1,bK false true false (aa 2) (gI 1) gN])]
def jh (c:Call):GS:=#v[aN (bQ (aj (ah 4 c #[gI 3,aa 0]))) rF ay,au (.tup [1,2,3]) (aa 0),aN (d7 (bQ (aj (ah 0 c #[aa 1,gI 2,gI 4]))) (bQ (aj (ah 0 c #[aa 2,gI 1,gI 2])))) rF ay,aN (d7 (bQ (aj (b5 .tuple (aa 3)))) (bQ (aj (mj .le .le (gI 1) (aC .len #[aa 3]) (gI 6))))) rF ay,az (aC .all #[bI false 1 (.one 0) (bZ (aa 3)) (bH (ah 11 c #[aa 2,aa 3,aa 0]))])]
def hJ (c:Call):GS:=#v[aN (bQ (aj (ah 12 c #[aa 0]))) #v[dC 3 #[gS "this is no machine"]] ay]
def dg (c:Call):GS:=#v[iA (bF 13 c #[aa 0]),au (.tup [1,2,3]) (aa 0),au (.one 4) (aU false #[ba bT]),bY (.one 5) (cW (aa 2)) #v[au (.one 4) (bI false 2 (.one 0) (bZ (aa 4)) (t8 (.one 1) (cW (aa 3)) (bH (ai false .add (aa 0) (ba #[aa 1])))))],az (aa 4)]
def gq (c:Call):GS:=#v[az (ah 0 c #[aa 1,gI 0,ai false .sub (aC .len #[aq (aa 0) (gI 2)]) (gI 1)])]
def hI (c:Call):GS:=#v[aN (bQ (aj (b5 .list (aa 1)))) #v[wU] ay,bY (.tup [2,3]) (gU (aa 1)) #v[aN (bQ (aj (ah 16 c #[aa 0,aa 3]))) #v[wU] ay]]
def lC (c:Call):GS:=#v[iA (bF 13 c #[aa 0]),iA (bF 17 c #[aa 0,aa 1]),aN (aj (av .gt (aC .len #[aa 1]) (gI 40))) #v[dC 4 #[nB "a row has at most " " deeds" (gI 40)]] ay]
def lr (c:Call):GS:=#v[au (.tup [2,3,4,5]) (aa 0),az (aq (aa 4) (aq (aa 1) (aa 3)))]
def lD (c:Call):GS:=#v[au (.tup [2,3,4,5,6]) (aa 0),az (aq (aq (aa 5) (aq (aa 1) (aa 3))) (aq (aa 1) (aa 4)))]
def nr (c:Call):GS:=#v[au (.tup [2,3,4,5]) (aa 0),az (aq (aa 1) (aa 4))]
def lu (c:Call):GS:=#v[au (.tup [2,3,4,5]) (aa 0),az (aa 4)]
def pB (c:Call):GS:=#v[au (.one 2) (kZ cH (aq (aa 0) (gI 0))),au (.one 3) (aq (aa 0) (gI 1)),az (ai false .add (ai false .add (bK false false true (aa 1) gN (aa 3)) (ba #[ml 2 c #[aa 0,aa 1]])) (bK false true false (aa 1) (ai false .add (aa 3) (gI 1)) gN))]
def qu (c:Call):GS:=#v[au (.one 3) (aU true #[aa 2]),bY (.one 4) (bZ (aa 1)) #v[dz (aa 3) (ah 24 c #[aq (aq (aa 0) (gI 2)) (aa 4),aq (aa 3) (eT (gI 1))])],az (aa 3)]
def lL (c:Call):GS:=#v[aN (aj (av .ge (aa 0) (ai false .pow (gI 10) (gI 18)))) #v[az (aa 0)] ay,au (.one 2) (aU false #[gI 2147483629,gI 2147483587,gI 2147483579,gI 2147483563,gI 2147483549,gI 2147483543,gI 2147483497,gI 2147483489]),au (.one 2) (ai false .add (aa 2) (aU false #[gI 2147483477,gI 2147483423,gI 2147483399,gI 2147483353,gI 2147483323])),au (.one 3) (ai false .mod (ai false .pow (ai false .add (ai false .add (ai false .mul (ai false .mod (aa 0) (gI 1000000007)) (ai false .add (ai false .mul (gI 2) (aa 1)) (gI 69069))) (ai false .mul (aa 1) (gI 40503))) (gI 977)) (gI 3)) (aq (aa 2) (ai false .mod (aa 1) (gI 13)))),au (.one 4) (ai false .mod (ai false .pow (ai false .add (ai false .add (ai false .mul (aa 3) (ai false .add (aa 1) (gI 3))) (ai false .mod (aa 0) (gI 65537))) (gI 5)) (gI 5)) (aq (aa 2) (ai false .mod (ai false .add (aa 1) (gI 5)) (gI 13)))),au (.one 5) (ai false .mod (ai false .pow (ai false .add (ai false .add (aa 4) (ai false .mod (aa 3) (gI 1009))) (aa 1)) (gI 3)) (aq (aa 2) (ai false .mod (ai false .add (aa 1) (gI 7)) (gI 13)))),az (ai false .add (ai false .mul (ai false .add (ai false .mul (aa 3) (gI 2147483647)) (aa 4)) (gI 2147483647)) (aa 5))]
def jV (c:Call):GS:=#v[au (.one 1) (aC (.list true) #[bK false false true (aa 0) gN (gI 12)]),bY (.tup [2,3]) (gU (bK false true true (aa 0) (gI 12) (gI 63))) #v[eO (aa 1) (ai false .mod (aa 2) (gI 12)) (ai false .add (aq (aa 1) (ai false .mod (aa 2) (gI 12))) (aa 3))],az (aU true #[aa 1,gI 0,gI 0])]
def jW (c:Call):GS:=#v[eO (aa 0) (gI 2) (gI 0),az (aa 0)]
def nH (c:Call):GS:=#v[aN (aj (av .lt (aq (aa 0) (gI 2)) (aa 1))) #v[au (.one 2) (aq (aa 0) (gI 1)),au (.one 3) (gI 0),aN (aj (av .lt (aa 2) (aC .len #[aq (aa 0) (gI 0)]))) #v[au (.one 3) (aq (aq (aa 0) (gI 0)) (aa 2))] #v[aN (aj (av .gt (aC .len #[aq (aa 0) (gI 0)]) (gI 0))) #v[au (.one 3) (ai false .mod (aq (aq (aa 0) (gI 0)) (ai false .mod (ai false .add (ai false .mul (aa 2) (gI 5)) (gI 3)) (aC .len #[aq (aa 0) (gI 0)]))) (ai false .add (ai false .pow (gI 10) (gI 17)) (aa 2)))] ay],eO (aa 0) (gI 1) (ai false .add (aa 2) (gI 1)),eO (aa 0) (gI 2) (ah 28 c #[aa 3,aa 2])] ay,au (.one 4) (ai false .mod (aq (aa 0) (gI 2)) (aa 1)),eO (aa 0) (gI 2) (ai false .fdiv (aq (aa 0) (gI 2)) (aa 1)),az (aa 4)]
def iM (c:Call):GS:=#v[au (.one 2) (ah 31 c #[aa 0,gI 6]),au (.one 3) (ah 31 c #[aa 0,aa 1]),au (.one 4) (ah 31 c #[aa 0,aa 1]),aN (aj (av .lt (aa 2) (gI 2))) #v[az (aC .tuple #[bI false 1 (.one 0) (cW (aa 1)) (bH (ah 31 c #[aa 1,aa 2]))])] ay,aN (aj (av .eq (aa 2) (gI 2))) #v[az (aC .tuple #[bI false 1 (.one 0) (cW (aa 1)) (bH (ai false .mod (ai false .add (ai false .add (aa 0) (gI 1)) (aa 4)) (aa 2)))])] ay,aN (aj (av .eq (aa 2) (gI 3))) #v[az (aC .tuple #[bI false 1 (.one 0) (cW (aa 1)) (bH (gR (aj (av .eq (aa 0) (aa 4))) (aa 5) (aa 0)))])] ay,aN (aj (av .eq (aa 2) (gI 4))) #v[az (ai false .mul (ba #[aa 3]) (aa 1))] ay,au (.one 5) (mi true (aa 1)),eO (aa 5) (aa 3) (aa 4),eO (aa 5) (aa 4) (aa 3),az (aC .tuple #[aa 5])]
def ic (c:Call):GS:=#v[au (.one 3) (ah 31 c #[aa 0,gI 8]),au (.one 4) (ai false .add (gI 1) (ah 31 c #[aa 0,gI 3])),au (.one 5) (ah 31 c #[aa 0,aa 2]),au (.one 6) (ah 31 c #[aa 0,aa 2]),aN (aj (av .lt (aa 3) (gI 3))) #v[az (ba #[gS "turn",aa 5,ah 32 c #[aa 0,aa 1],aa 4])] ay,aN (aj (av .lt (aa 3) (gI 5))) #v[az (ba #[gS "move",aa 5,gR (aj (av .eq (aa 3) (gI 3))) (ai false .mod (ai false .add (aa 5) (gI 1)) (aa 2)) (aa 6),aa 4])] ay,aN (aj (av .eq (aa 3) (gI 5))) #v[az (ba #[gS "put",aa 5,ah 31 c #[aa 0,aa 1],aa 4])] ay,az (ba #[gS "join",aa 5,aa 6,aC .tuple #[bI false 1 (.one 0) (cW (aa 1)) (bH (ah 32 c #[aa 1,aa 2]))],aa 4])]
def fL (c:Call):GS:=#v[au (.one 1) (ai false .add (gI 2) (ah 31 c #[aa 0,ai false .sub (aa 1) (gI 1)])),au (.one 2) (ai false .add (gI 1) (ah 31 c #[aa 0,aa 2])),au (.one 4) (aU true bT),bY (.one 5) (cW (ai false .add (gI 1) (ah 31 c #[aa 0,aa 3]))) #v[au (.one 6) (ah 31 c #[aa 0,gI 5]),au (.one 7) (ah 33 c #[aa 0,aa 1,aa 2]),aN (dI (aj (av .eq (aa 6) (gI 0))) (aj (av .ne (aa 4) (aU false bT)))) #v[au (.one 7) (ai false .add (bK false false true (aq (aa 4) (ah 31 c #[aa 0,aC .len #[aa 4]])) gN (eT (gI 1))) (ba #[aq (aa 7) (eT (gI 1))]))] ay,dz (aa 4) (aa 7)],az (ba #[aa 1,aa 2,aC .tuple #[aa 4]])]
def gW (c:Call):GS:=#v[au (.one 3) (ah 31 c #[aa 0,gI 4]),au (.one 4) (gR (aj (av .eq (aa 3) (gI 0))) (aa 2) (ah 31 c #[aa 0,ai false .add (aa 2) (gI 1)])),au (.one 5) (bI false 1 (.one 0) (cW (aa 4)) (bH (ah 31 c #[aa 1,aC .len #[aq (aa 2) (gI 2)]]))),aN (aj (av .eq (aa 3) (gI 1))) #v[au (.one 5) (bK false false true (ai false .mul (bK false false true (aa 5) gN (gI 2)) (aa 4)) gN (aa 4))] ay,az (aa 5)]
def ib (c:Call):GS:=#v[aN (aj (av .isN (aa 1) gN)) #v[az (av .isN (aa 0) gN)] ay,aN (d7 (aj (b5 .bool (aa 1))) (aj (b5 .bool (aa 0)))) #v[az (dO (b5 .bool (aa 1)) (dO (b5 .bool (aa 0)) (av .eq (aa 0) (aa 1))))] ay,aN (aj (b5 .int (aa 1))) #v[az (dO (b5 .int (aa 0)) (av .eq (aa 0) (aa 1)))] ay,aN (aj (b5 .str (aa 1))) #v[az (dO (b5 .str (aa 0)) (av .eq (aa 0) (aa 1)))] ay,aN (d7 (aj (av .ne (b5 .tuple (aa 1)) (b5 .tuple (aa 0)))) (aj (av .ne (b5 .list (aa 1)) (b5 .list (aa 0))))) rF ay,aN (aj (av .ne (aC .len #[aa 0]) (aC .len #[aa 1]))) rF ay,az (av .notin J4 (bI false 2 (.tup [0,1]) (m7 (aa 0) (aa 1)) (bH (ah 40 c #[aa 0,aa 1]))))]
def jj (c:Call):GS:=#v[au (.one 2) (aC (.list true) #[aa 1]),au (.one 3) (aq (aa 1) (aq (aa 0) (gI 1))),aN (aj (av .eq (aq (aa 0) (gI 0)) (gS "turn"))) #v[eO (aa 2) (aq (aa 0) (gI 1)) (aq (aq (aa 0) (gI 2)) (aa 3))] ay,aN (aj (av .eq (aq (aa 0) (gI 0)) (gS "join"))) #v[eO (aa 2) (aq (aa 0) (gI 1)) (aq (aq (aq (aa 0) (gI 3)) (aa 3)) (aq (aa 1) (aq (aa 0) (gI 2))))] ay,aN (aj (av .eq (aq (aa 0) (gI 0)) (gS "move"))) #v[eO (aa 2) (aq (aa 0) (gI 1)) (aq (aa 1) (aq (aa 0) (gI 2)))] ay,aN (aj (av .eq (aq (aa 0) (gI 0)) (gS "put"))) #v[eO (aa 2) (aq (aa 0) (gI 1)) (aq (aa 0) (gI 2))] ay,az (aC .tuple #[aa 2])]
def iC (c:Call):GS:=#v[aN (aj (av .eq (aq (aa 0) (gI 1)) (gI 1))) #v[az (bI false 1 (.one 0) (cW (aq (aa 0) (gI 0))) (bH (ba #[aa 0])))] ay,az (bI false 1 (.one 0) (cW (ai false .mul (aq (aa 0) (gI 0)) (aq (aa 0) (gI 0)))) (bH (ba #[ai false .fdiv (aa 0) (aq (aa 1) (gI 0)),ai false .mod (aa 0) (aq (aa 1) (gI 0))])))]
def eI (c:Call):GS:=#v[au (.one 2) (aU true bT),bY (.one 3) (bZ (ah 42 c #[aa 0])) #v[bY (.one 4) (bZ (aa 1)) #v[au (.one 3) (ah 41 c #[aq (aq (aa 0) (gI 2)) (aa 4),aa 3])],dz (aa 2) (aa 3)],az (aC .tuple #[aa 2])]
def rL (c:Call):GS:=#v[az (aC .sum #[bI false 1 (.one 0) (bZ (aa 1)) (bH (aq (aq (aq (aa 1) (gI 2)) (aa 0)) (eT (gI 1))))])]
def gY (c:Call):GS:=#v[az (dO (b5 .int (aa 0)) (J2 (b5 .bool (aa 0))))]
def mF (c:Call):GS:=#v[az (dO (ah 67 c #[aa 0]) (mj .le .le (aa 1) (aa 0) (aa 2)))]
def cL (c:Call):GS:=#v[az (aC .sum #[bI false 1 (.one 0) (bZ (aa 1)) (bH (aq (aq (aq (aa 1) (gI 2)) (aa 0)) (eT (gI 1))))])]
def pD (c:Call):GS:=#v[iA (bF 18 c #[aa 1,aa 2]),rP "machine" (aa 0) (aa 1),rP "standing" (aa 0) (aC (.list false) #[aa 2]),rP "earlier" (aa 0) (aU true bT)]
def xM (c:Call):GS:=#v[az (aC (.list true) #[eZ "standing" (aa 0)])]
def uX (c:Call):GS:=#v[az (ah 47 c #[eZ "machine" (aa 0),eZ "standing" (aa 0)])]
def oA (c:Call):GS:=#v[az (ah 46 c #[eZ "machine" (aa 0),eZ "standing" (aa 0)])]
def xN (c:Call):GS:=#v[aN (bQ (aj (ah 0 c #[aa 1,gI 0,aC .len #[eZ "standing" (aa 0)]]))) #v[dC 9 #[gS "no deed can be put in there"]] ay,aN (bQ (aj (ah 16 c #[eZ "machine" (aa 0),aa 2]))) #v[dC 10 #[gS "the machine has no such deed"]] ay,aN (aj (av .ge (aC .len #[eZ "standing" (aa 0)]) (gI 40))) #v[dC 4 #[nB "a row has at most " " deeds" (gI 40)]] ay,az (h9 40 136 c (aa 0) #[ai false .add (ai false .add (bK false false true (eZ "standing" (aa 0)) gN (aa 1)) (aU false #[aa 2])) (bK false true false (eZ "standing" (aa 0)) (aa 1) gN)])]
def xO (c:Call):GS:=#v[aN (bQ (aj (ah 0 c #[aa 1,gI 0,ai false .sub (aC .len #[eZ "standing" (aa 0)]) (gI 1)]))) #v[dC 9 #[gS "no deed stands there"]] ay,az (h9 40 136 c (aa 0) #[ai false .add (bK false false true (eZ "standing" (aa 0)) gN (aa 1)) (bK false true false (eZ "standing" (aa 0)) (ai false .add (aa 1) (gI 1)) gN)])]
def uY (c:Call):GS:=#v[aN (bQ (aj (eZ "earlier" (aa 0)))) #v[dC 11 #[gS "no change stands"]] ay,az (h9 40 137 c (aa 0) #[OU (eZ "earlier" (aa 0))])]
def rO (c:Call):GS:=#v[dz (eZ "earlier" (aa 0)) (eZ "standing" (aa 0)),az (h9 40 137 c (aa 0) #[aa 1])]
def uW (c:Call):GS:=#v[c8 (.one 2) (bF 48 c #[eZ "machine" (aa 0),eZ "standing" (aa 0),aa 1]),rP "standing" (aa 0) (aa 1),az (aa 2)]
def rN (c:Call):GS:=#v[au (.one 3) (ah 31 c #[aa 0,gI 4]),au (.one 4) (aq (aa 2) (eT (gI 1))),au (.one 5) (ah 31 c #[aa 0,ai false .add (aC .len #[aa 4]) (gI 1)]),au (.one 6) (ah 31 c #[aa 0,aC .len #[aq (aa 1) (gI 2)]]),aN (dI (aj (av .eq (aa 3) (gI 0))) (aj (av .gt (aC .len #[aa 2]) (gI 1)))) #v[az (ba #[bK false false true (aa 2) gN (eT (gI 1)),ba bT])] ay,aN (dI (d7 (aj (av .eq (aa 3) (gI 1))) (aj (av .eq (aC .len #[aa 4]) (gI 40)))) (aj (av .ne (aa 4) (aU false bT)))) #v[au (.one 5) (ai false .mod (aa 5) (aC .len #[aa 4])),az (ba #[ai false .add (aa 2) (aU false #[ai false .add (bK false false true (aa 4) gN (aa 5)) (bK false true false (aa 4) (ai false .add (aa 5) (gI 1)) gN)]),ba #[aa 5]])] ay,az (ba #[ai false .add (aa 2) (aU false #[ai false .add (ai false .add (bK false false true (aa 4) gN (aa 5)) (aU false #[aa 6])) (bK false true false (aa 4) (aa 5) gN)]),ba #[aa 5,aa 6]])]
def AM (c:Call):GS:=#v[aN (aj (av .eq (aC .len #[aa 1]) (gI 2))) #v[az (h9 40 133 c (aa 0) #[aq (aa 1) (gI 0),aq (aa 1) (gI 1)])] ay,az (gR (aj (av .eq (aa 1) (ba bT))) (h9 40 135 c (aa 0) bT) (h9 40 134 c (aa 0) #[aq (aa 1) (gI 0)]))]
def lM (c:Call):GS:=#v[bY (.tup [3,4,5]) (Mm (ah 42 c #[aa 0]) (ah 44 c #[aa 0,aa 1]) (ah 44 c #[aa 0,aa 2])) #v[aN (aj (av .ne (aa 4) (aa 5))) #v[az (aa 3)] ay],az gN]
def rM (c:Call):GS:=#v[az (aU false #[aU false #[gI 0,gI 1,gI 2],aU false #[gI 0,gI 2,gI 1],aU false #[gI 1,gI 0,gI 2],aU false #[gI 1,gI 2,gI 0],aU false #[gI 2,gI 0,gI 1],aU false #[gI 2,gI 1,gI 0]])]
def pC (c:Call):GS:=#v[bY (.one 4) (bZ (ai false .add (aq (ah 141 c bT) (aa 3)) (aU false #[gI 0,gI 1,gI 2]))) #v[aN (aj (av .eq (aa 4) (gI 0))) #v[au (.one 5) (h9 40 130 c (aa 0) bT),aN (bQ (aj (ah 40 c #[aa 5,aa 2]))) rF ay,dz (aa 5) (gI 0)] ay,aN (dI (aj (av .eq (aa 4) (gI 1))) (bQ (aj (ah 40 c #[h9 40 131 c (aa 0) bT,ah 89 c #[aa 1,aa 2]])))) rF ay,aN (dI (aj (av .eq (aa 4) (gI 2))) (bQ (aj (ah 40 c #[h9 40 132 c (aa 0) bT,ah 44 c #[aa 1,aa 2]])))) rF ay],az Ey]
def dG (c:Call):GS:=#v[c8 (.one 1) (bF 15 c #[aa 0]),az (bI false 1 (.one 0) (bZ (aq (aa 0) (gI 2))) (bH (ba #[aq (aa 0) (eT (gI 1)),kj 77 1 (.one 0) (bZ (aa 2)) (jG (aa 0) (ah 24 c #[aa 1,aa 0]))])))]
def dQ (c:Call):GS:=#v[az (aC .tuple #[bI false 1 (.one 0) (bZ (aa 1)) (bH (fK (aa 1) (aa 0)))])]
def dB (c:Call):GS:=#v[az (aC .tuple #[bI false 1 (.one 0) (bZ (aa 1)) (bH (ah 41 c #[aq (aq (aa 1) (gI 2)) (aa 3),aa 0]))])]
def tS (c:Call):GS:=#v[fS (aj (av .le (aC .len #[aa 3]) (ai false .add (aa 4) (aq (aa 7) (eT (gI 1)))))) #v[dz (aa 3) (aU true bT)],dz (aq (aa 3) (ai false .add (aa 4) (aq (aa 7) (eT (gI 1))))) (ah 158 c #[aa 0,aa 5,aa 6])]
def Mc (c:Call):GS:=#v[hV (aa 2) (aa 5) (aa 4),aN (aj (av .gt (la (aa 2)) (gI 255))) #v[az gN] ay,bY (.tup [6,7]) (gU (aq (aa 0) (gI 2))) (tS c)]
def zW (c:Call):GS:=#v[aN (aj (lg true (aa 5) (aa 2))) (Mc c) ay]
def zV (c:Call):GS:=#v[bY (.one 5) (bZ (aq (aa 3) (aa 4))) (zW c),au (.one 4) (ai false .add (aa 4) (gI 1))]
def fB (c:Call):GS:=#v[au (.one 2) (xv 78),au (.one 3) (aU true #[aU true #[aC .tuple #[ah 42 c #[aa 0]]]]),au (.one 4) (gI 0),fS (dI (aj (av .lt (aa 4) (aC .len #[aa 3]))) (aj (av .le (aa 4) (aa 1)))) (zV c),az (aa 2)]
def fo (c:Call):GS:=#v[au (.one 2) (aq (aU false #[ba #[gI 3,gI 1,gI 6],ba #[gI 2,gI 2,gI 3],ba #[gI 3,gI 1,gI 4],ba #[gI 2,gI 2,gI 2],ba #[gI 4,gI 1,gI 2]]) (ai false .mod (aa 1) (gI 5))),az (ah 34 c #[aa 0,aq (aa 2) (gI 0),aq (aa 2) (gI 1),aq (aa 2) (gI 2)])]
def fu (c:Call):GS:=#v[au (.one 1) (aU false #[ba #[gI 1,gI 2,gI 3,gI 0],ba #[gI 1,gI 0,gI 2,gI 3],ba #[gI 0,gI 0,gI 2,gI 3]]),au (.one 2) (ah 31 c #[aa 0,gI 3]),au (.one 3) (bI false 1 (.one 0) (bZ (ai false .add (bK false true false (aa 1) (aa 2) gN) (bK false false true (aa 1) gN (aa 2)))) (bH (ba #[gS "turn",gI 0,aa 0,ai false .add (gI 1) (ah 31 c #[aa 1,gI 3])]))),az (ba #[gI 4,gI 1,aC .tuple #[aa 3]])]
def gV (c:Call):GS:=#v[au (.one 3) (aC .len #[aa 1]),au (.one 4) (aU true bT),bY (.two 5 [6,7]) (gU (aa 0)) #v[au (.one 8) (gR (aj (av .le (aa 6) (aa 3))) (aq (aa 1) (ai false .sub (aa 3) (aa 6))) (aU false bT)),bY (.one 9) (bZ (aa 8)) #v[au (.one 10) (ah 152 c #[aa 7,aa 9]),aN (aj (lg true (aa 10) (aa 2))) #v[hV (aa 2) (aa 10) (ba #[aa 3,ai true .add (aq (fK (aa 2) (aa 9)) (gI 1)) (aU false #[aa 5])]),dz (aa 4) (aa 10),aN (aj (av .gt (la (aa 2)) (gI 255))) #v[dC 8 #[nB "rows have more than " " behaviours" (gI 255)]] ay] ay]],az (aa 4)]
def jg (c:Call):GS:=#v[c8 (.one 2) (bF 151 c #[aa 0]),au (.one 3) (aC .tuple #[ah 15 c #[aa 0]]),au (.one 4) (vV 78 (aa 3) (ba #[gI 0,aU true bT])),au (.one 5) (aU true #[aU false #[aa 3]]),fS (dI (aj (qf (bK false true false (aa 5) (eT (gI 3)) gN))) (d7 (aj (av .isN (aa 1) gN)) (aj (av .le (aC .len #[aa 5]) (aa 1))))) #v[mP (aa 5) (bF 165 c #[aa 2,aa 5,aa 4])],az (aa 4)]
def d5 (c:Call):GS:=#v[aN (bQ (aj (b5 .list (aa 1)))) rF ay,az (av .eq (bI false 1 (.one 0) (bZ (aa 1)) (vU (bQ (aj (ah 68 c #[aa 0,gI 0,ai false .sub (aC .len #[aq (aa 1) (gI 2)]) (gI 1)]))) (bH (gI 1)))) (aU false bT))]
def dt (c:Call):GS:=#v[iA (bF 18 c #[aa 0,aa 1]),aN (aj (av .gt (aC .len #[aa 1]) (gI 12))) #v[dC 4 #[nB "a row that is mended has at most " " deeds" (gI 12)]] ay,aN (bQ (aj (ah 0 c #[aa 2,gI 1,gI 6]))) #v[dC 7 #[nB "windows are at most 1 to " " deeds long" (gI 6)]] ay]
def dD (c:Call):GS:=#v[au (.one 1) (aU false #[ba #[gS "turn",gI 0,ba #[gI 1,gI 2,gI 3,gI 0],gI 1],ba #[gS "turn",gI 0,ba #[gI 2,gI 3,gI 0,gI 1],gI 3]]),au (.one 2) (ah 31 c #[aa 0,gI 2]),au (.one 3) (ai false .add (gI 7) (ah 31 c #[aa 0,gI 6])),au (.one 4) (ai true .mul (aU false #[ai false .sub (gI 1) (aa 2)]) (aa 3)),bY (.one 5) (cW (ah 31 c #[aa 0,gI 3])) #v[eO (aa 4) (ah 31 c #[aa 0,aa 3]) (aa 2)],az (ba #[ba #[gI 4,gI 1,aC .tuple #[ai false .add (bK false true false (aa 1) (aa 2) gN) (bK false false true (aa 1) gN (aa 2))]],aa 4])]
def chG (c:Call):GS:=#v[au (.tup [7,8]) (aq (aa 0) (aa 6)),pP 4 (aa 7),au (.one 2) (ah 152 c #[aa 8,aa 2]),au (.tup [9,10]) (fK (aa 1) (aa 2)),aN (aj (av .lt (aa 9) (aa 4))) #v[az (ba #[aa 5,aC (.list true) #[aa 10]])] ay]
def cj (c:Call):GS:=#v[au (.one 4) (gI 0),bY (.tup [5,6]) (t9 (aa 3)) (chG c),az gN]
def nsG (c:Call):GS:=#v[au (.one 7) (ah 217 c #[aa 4,aa 1,aa 5,bK false true true (aa 2) (aa 6) (ai false .add (aa 6) (aa 3))]),aN (aj (av .notN (aa 7) gN)) #v[au (.tup [8,9]) (aa 7),az (ba #[aa 6,aa 8,aa 9])] ay]
def eV (c:Call):GS:=#v[c8 (.one 4) (bF 151 c #[aa 0]),au (.one 5) (aC .tuple #[ah 15 c #[aa 0]]),bY (.one 6) (cW (aC .len #[aa 2])) (nsG c),az gN]
def NC (c:Call):GS:=#v[au (.tup [7,8,9]) (aa 6),sQ (aa 4) (aa 7) (ai false .add (aa 7) (aa 8)) (aa 9),dz (aa 5) (aa 6),c8 (.one 6) (bF 218 c #[aa 0,aa 3,aa 4,aa 2])]
def fZ (c:Call):GS:=#v[iA (bF 196 c #[aa 0,aa 1,aa 2]),c8 (.one 3) (bF 166 c #[aa 0,gN]),au (.one 4) (aC (.list true) #[aa 1]),au (.one 5) (aU true bT),c8 (.one 6) (bF 218 c #[aa 0,aa 3,aa 4,aa 2]),fS (aj (av .notN (aa 6) gN)) (NC c),az (ba #[aa 4,aa 5])]
def eB (c:Call):GS:=#v[au (.one 3) gN,lS #v[c8 (.one 3) (bF 219 c #[aa 0,aa 1,aa 2])] 8 8 #v[au (.one 3) (gS "many")],az (aa 3)]
def dH (c:Call):GS:=#v[aN (d7 (bQ (aj (b5 .tuple (aa 3)))) (d7 (aj (av .ne (aC .len #[aa 3]) (gI 3))) (bQ (aj (ah 171 c #[aa 0,aq (aa 3) (gI 2)]))))) #v[az gN] ay,au (.tup [4,5,6]) (aa 3),aN (d7 (bQ (aj (ah 68 c #[aa 5,gI 1,aa 2]))) (bQ (aj (ah 68 c #[aa 4,gI 0,ai false .sub (aC .len #[aa 1]) (aa 5)])))) #v[az gN] ay,au (.one 7) (bK false true true (aa 1) (aa 4) (ai false .add (aa 4) (aa 5))),aN (aj (av .ge (ah 89 c #[aa 0,aa 6]) (ah 89 c #[aa 0,aa 7]))) #v[az gN] ay,aN (aj (av .ne (ah 44 c #[aa 0,aa 6]) (ah 44 c #[aa 0,aa 7]))) #v[az gN] ay,az (ai false .add (ai false .add (bK false false true (aa 1) gN (aa 4)) (aa 6)) (bK false true false (aa 1) (ai false .add (aa 4) (aa 5)) gN))]
def fi (c:Call):GS:=#v[bY (.one 4) (cW (aC .len #[aa 2])) #v[bY (.one 5) (kY (gI 1) (ai false .add (m8 #[aa 3,ai false .sub (aC .len #[aa 2]) (aa 4)]) (gI 1))) #v[au (.one 6) (bK false true true (aa 2) (aa 4) (ai false .add (aa 4) (aa 5))),aN (aj (av .lt (fK (aa 1) (ah 44 c #[aa 0,aa 6])) (ah 89 c #[aa 0,aa 6]))) rF ay]],az Ey]
def eC (c:Call):GS:=#v[aN (aj (av .isN (aa 1) gN)) #v[az (av .eq (aa 4) (gS "many"))] ay,aN (d7 (bQ (aj (b5 .tuple (aa 4)))) (d7 (aj (av .ne (aC .len #[aa 4]) (gI 2))) (bQ (aj (b5 .list (aq (aa 4) (gI 1))))))) rF ay,au (.one 5) (aC (.list false) #[aa 2]),bY (.one 6) (bZ (aq (aa 4) (gI 1))) #v[au (.one 5) (ah 221 c #[aa 0,aa 5,aa 3,aa 6]),aN (aj (av .isN (aa 5) gN)) rF ay],az (dO (ah 40 c #[aq (aa 4) (gI 0),aa 5]) (ah 222 c #[aa 0,aa 1,aa 5,aa 3]))]
def gX (c:Call):GS:=#v[au (.one 1) (ai false .add (aU false #[aq (aa 0) (gI 0)]) (bI false 1 (.one 0) (bZ (aq (aa 0) (gI 1))) (bH (aq (aa 0) (gI 2))))),au (.one 2) (bI false 1 (.one 0) (bZ (aa 1)) (bH (aC (.list true) #[aa 0]))),bY (.one 3) (cW (aC .len #[aa 1])) #v[dz (aq (aa 1) (aa 3)) (gI 9),dz (aq (aa 2) (aa 3)) (gI 9),aN (aj (av .ne (aa 1) (aa 2))) rF ay],zh (qe (aq (aa 0) (gI 1))),az (av .eq (aa 1) (aa 2))]
def uJ (c:Call):GS:=#v[au (.one 10) (ah 220 c #[aa 3,aa 8,aa 7]),aN (d7 (aj (av .ne (aa 8) (aa 5))) (bQ (aj (ah 223 c #[aa 3,aa 6,aa 5,aa 7,aa 10])))) rF ay,aN (d7 (dI (aj (av .ne (aa 10) (gS "many"))) (bQ (aj (ah 224 c #[aa 10])))) (aj (av .ne (aa 8) (aa 5)))) rF ay]
def wV (c:Call):GS:=#v[au (.one 7) (ai false .add (gI 1) (ah 31 c #[aa 1,gI 6])),au (.one 8) (aC (.list false) #[aa 5]),bY (.one 9) (cW (gI 2)) (uJ c)]
def Ap (c:Call):GS:=#v[au (.one 3) (ah 161 c #[aa 1]),au (.one 6) (ah 159 c #[aa 3,ai false .pow (gI 10) (gI 9)]),au (.one 4) (aU false #[ah 35 c #[aa 1,aa 3,gI 12]])]
def sT (c:Call):GS:=#v[au (.one 6) (ah 159 c #[aa 3,ai false .pow (gI 10) (gI 9)]),aN (dI (aj (av .eq (aa 2) (gI 4))) (aj (av .eq (ah 31 c #[aa 1,gI 3]) (gI 0)))) (Ap c) ay,bY (.one 5) (bZ (aa 4)) (wV c)]
def sk (c:Call):GS:=bg (au (.one 3) (ah 160 c #[ah 30 c #[aa 1],aa 2])) (bg (au (.one 4) (aU false #[ah 35 c #[aa 1,aa 3,gI 12],ah 35 c #[aa 1,aa 3,gI 7]])) (bg (aN (dI (aj (av .eq (aa 2) (gI 2))) (aj (av .eq (ah 31 c #[aa 1,gI 3]) (gI 0)))) #v[au (.tup [3,5]) (ah 210 c #[aa 1]),au (.one 4) (aU false #[aa 5])] ay) (sT c)))
def nu (c:Call):GS:=#v[au (.one 1) (ah 29 c #[aa 0]),bY (.one 2) (cW (gI 5)) (sk c),az Ey]
@[simp] theorem aZ {h j:Type}{r:Res h}{f:h->Mem->Res j}{k:j->Mem->Prop}:ae (r.bind f) k↔ae r λa M=>ae (f a M) k:=by cases r<;>rfl
@[simp] theorem aW {h:Type}{a:h}{k:h->Mem->Prop}:ae (.ok a M) k↔k a M:=Q8
@[simp] theorem Ql {h:Type}{k:h->Mem->Prop}:ae (.bad:Res h) k↔False:=Q8
@[simp] theorem gG {h:Type}{M:Mem}{o:Option h}{k:h->Mem->Prop}:ae (bX M o) k↔∃a,o=some a/\k a M:=by cases o<;>simp[bX]
def d9 {j:Type}{r:Res j}{k:j->Mem->Prop}:ae r k↔∃a M,r=.ok a M/\k a M:=by
 cases r with
 |ok a M=>exact{λh=>⟨a,M,rfl,h⟩,λ⟨_,_,e,h⟩=>by cases e;exact h}
 |err=>simp[ae]
 |bad=>simp[ae]
def qs (j:ak 64 (view M x)=true)(z:ak 64 (view M y)=true)(h:bW (view M x) (view M y)=v):bq .eq x y M=some v:=by
 have e:lK (view M x) (view M y)=some v:=by unfold lK;rw[j,z,h];simp
 show jI M x y=_;unfold jI;rw[e]
def nj (j:ak 64 (view M x)=true)(z:ak 64 (view M y)=true)(h:bW (view M x) (view M y)=v):bq .ne x y M=some (!v):=by
 show(bq .eq x y M).map (!·)=_;rw[qs j z h];rfl
section
variable{ρ:Env}{M:Mem}{a b d lo hi:GE}{s:GA}{t u:GT}{k:D->Mem->Prop}{c:Call}
@[simp] theorem bp {i:Nat}:ae (aa i ρ M) k↔∃d,ρ[i]?.getD none=some d/\k d M:=by simp[aa]
@[simp] theorem dW {d:D}:ae (gC d ρ M) k↔k d M:=Q8
@[simp] theorem iL {m:Bool}{o:nI}:ae (ai m o a b ρ M) k↔ae (a ρ M) λx M=>ae (b ρ M) λy M=>ae (fO m o x y M) k:=by simp[ai]
@[simp] theorem gg {o:jq}:ae (av o a b ρ M) k↔ae (a ρ M) λx M=>ae (b ρ M) λy M=>∃v,bq o x y M=some v/\k (.bl v) M:=by simp[av]
@[simp] theorem QK {o h:jq}:ae (mj o h a b d ρ M) k↔ae (a ρ M) λx M=>ae (b ρ M) λy M=>∃v,bq o x y M=some v/\if v=true then ae (d ρ M) λz M=>∃v,bq h y z M=some v/\k (.bl v) M else k (.bl false) M:=by
 simp only[mj,aZ,gG];refine iff_of_eq ?_
 congr 1;funext x M;congr 1;funext y M;refine propext (exists_congr λv=>and_congr_right λ_=>?_)
 cases v<;>simp
@[simp] theorem rZ:ae (eT a ρ M) k↔ae (a ρ M) λx M=>∃i,x=.int i/\k (.int (-i)) M:=by
 simp only[eT,aZ];refine iff_of_eq ?_;congr 1;funext x M;cases x<;>simp
set_option tactic.hygienic true in
@[simp] theorem Mz:ae (dO a b ρ M) k↔ae (a ρ M) λx M=>∃v,x=.bl v/\if v=true then ae (b ρ M) k else k (.bl false) M:=by
 simp only[dO,aZ];refine iff_of_eq ?_;congr 1;funext x M;cases x<;>simp;rename_i v;cases v<;>simp
@[simp] theorem My:ae (gR t a b ρ M) k↔ae (t ρ M) λv M=>if v=true then ae (a ρ M) k else ae (b ρ M) k:=by
 simp only[gR,aZ];refine iff_of_eq ?_;congr 1;funext v M;cases v<;>simp
@[simp] theorem ia:ae (aq a b ρ M) k↔ae (a ρ M) λx M=>ae (b ρ M) λy M=>∃d,b9 x y M=some d/\k d M:=by simp[aq]
@[simp] theorem iK {m hl hh:Bool}:ae (bK m hl hh a lo hi ρ M) k↔ae (a ρ M) λx M=>ae (lo ρ M) λl M=>ae (hi ρ M) λh M=>eQ hl l=true/\eQ hh h=true/\ae (cZ m x l h M) k:=by
 simp only[bK,aZ];refine iff_of_eq ?_
 congr 1;funext x M;congr 1;funext l M;congr 1;funext h M
 cases eQ hl l<;>cases eQ hh h<;>simp
@[simp] theorem cJ {k:List D->Mem->Prop}:ae (bT ρ M) k↔k [] M:=Q8
@[simp] theorem bR {k:List D->Mem->Prop}:ae (cm a s ρ M) k↔ae (a ρ M) λx M=>ae (s ρ M) λxs M=>k (x::xs) M:=by simp[cm]
@[simp] theorem f9:ae (ba s ρ M) k↔ae (s ρ M) λxs M=>xs.length≤sz/\k (.tup xs) M:=by
 simp only[ba,aZ];refine iff_of_eq ?_;congr 1;funext xs M;unfold kL;split<;>simp[*]
def tu {m:Bool}{xs:List D}:ae (bb m xs M) k↔xs.length≤sz/\if m=true then k (.cell M.length) (M++[xs]) else k (.lst xs) M:=by
 unfold bb;cases m<;>split<;>simp[*]
@[simp] theorem b3 {xs:List D}:ae (bb false xs M) k↔xs.length≤sz/\k (.lst xs) M:=by simp[tu]
@[simp] theorem mS {xs:List D}:ae (bb true xs M) k↔xs.length≤sz/\k (.cell M.length) (M++[xs]):=by simp[tu]
@[simp] theorem EA {m:Bool}:ae (aU m s ρ M) k↔ae (s ρ M) λxs M=>ae (bb m xs M) k:=by simp[aU]
@[simp] theorem As {f:Nat}:ae (ah f c s ρ M) k↔ae (s ρ M) λds M=>ae (c f ds M) k:=by simp[ah]
@[simp] theorem GL {i:Nat}:ae (ml i c s ρ M) k↔∃f,ρ[i]?.getD none=some (.fn f)/\ae (s ρ M) λds M=>ae (c f ds M) k:=by
 unfold ml;cases e:ρ[i]?.getD none with
 |none=>simp
 |some d=>cases d<;>simp
@[simp] theorem cX {f:wD}:ae (aC f s ρ M) k↔ae (s ρ M) λds M=>ae (dP f ds M) k:=by simp[aC]
@[simp] theorem QC {t:Ty}:ae (b5 t a ρ M) k↔ae (a ρ M) λx M=>∃v,gP t x=some v/\k (.bl v) M:=by simp[b5]
@[simp] theorem Kf {fs:List (Str×Nat)}:ae (kZ fs a ρ M) k↔ae (a ρ M) λx M=>∃y f,x=.str y/\fs.lookup y=some f/\k (.fn f) M:=by
 simp only[kZ,aZ];refine iff_of_eq ?_;congr 1;funext x M;cases x<;>simp;exact{λ⟨_,⟨f,h,e⟩,q⟩=>{f,h,e ▸ q},λ⟨f,h,q⟩=>{_,⟨f,h,rfl⟩,q}}
@[simp] theorem QD {fs:List (Str×Nat)}:ae (iJ fs a ρ M) k↔ae (a ρ M) λx M=>∃y,x=.str y/\k (.bl (!(fs.lookup y).isSome)) M:=by
 simp only[iJ,aZ];refine iff_of_eq ?_;congr 1;funext x M;cases x<;>simp
set_option tactic.hygienic true in
@[simp] theorem GJ {m:Bool}:ae (mi m a ρ M) k↔ae (a ρ M) λx M=>∃n,x=.int n/\(-(2^62)≤n/\n<2^20)/\ae (bb m ((List.range n.toNat).map λ(k:Nat)=>D.int (k:Int)) M) k:=by
 simp only[mi,aZ];refine iff_of_eq ?_;congr 1;funext x M;cases x<;>simp;rename_i n;split<;>simp[*]
variable{kb:Bool->Mem->Prop}
@[simp] theorem hU:ae (aj a ρ M) kb↔ae (a ρ M) λx M=>∃v,jQ M x=some v/\kb v M:=by simp[aj]
@[simp] theorem LG:ae (dI t u ρ M) kb↔ae (t ρ M) λv M=>if v=true then ae (u ρ M) kb else kb false M:=by
 simp only[dI,aZ];refine iff_of_eq ?_;congr 1;funext v M;cases v<;>simp
@[simp] theorem HZ:ae (d7 t u ρ M) kb↔ae (t ρ M) λv M=>if v=true then kb true M else ae (u ρ M) kb:=by
 simp only[d7,aZ];refine iff_of_eq ?_;congr 1;funext v M;cases v<;>simp
@[simp] theorem Dy:ae (bQ t ρ M) kb↔ae (t ρ M) λv M=>kb (!v) M:=by simp[bQ]
variable{kf:Fl->Mem->Prop}{sa sb:GS}
def gA (b:GS)(k:Fl->Mem->Prop):Fl->Mem->Prop
 |.next ρ,M=>ae (b ρ M) k
 |.ret d,M=>k (.ret d) M
 |.exc x ρ,M=>k (.exc x ρ) M
@[simp] theorem N2 {b:GS}{x:D}:gA b kf (.exc x ρ) M↔kf (.exc x ρ) M:=Q8
@[simp] theorem aX {b:GS}:gA b kf (.next ρ) M↔ae (b ρ M) kf:=Q8
@[simp] theorem N1 {b:GS}{d:D}:gA b kf (.ret d) M↔kf (.ret d) M:=Q8
@[simp] theorem ax:ae (bg sa sb ρ M) kf↔ae (sa ρ M) (gA sb kf):=by
 simp only[bg,aZ];refine iff_of_eq ?_;congr 1;funext fl M;cases fl<;>rfl
@[simp] theorem fx:ae (ay ρ M) kf↔kf (.next ρ) M:=Q8
@[simp] theorem lQ {i:Nat}:ae (au (.one i) a ρ M) kf↔ae (a ρ M) λx M=>kf (.next (ρ.set i (some x))) M:=by simp[au,b6]
@[simp] theorem P9 {l:List Nat}:ae (au (.tup l) a ρ M) kf↔ae (a ρ M) λx M=>∃ds ρ1,x=.tup ds/\cf l ds ρ=some ρ1/\kf (.next ρ1) M:=by
 simp only[au,aZ,gG,aW];refine iff_of_eq ?_;congr 1;funext x M;cases x<;>simp[b6]
@[simp] theorem j0:ae (eO a b d ρ M) kf↔ae (d ρ M) λz M=>ae (a ρ M) λx M=>ae (b ρ M) λy M=>∃j n ds i,x=.cell j/\y=.int n/\M[j]?=some ds/\cg ds.length n=some i/\kf (.next ρ) (M.set j (ds.set i z)):=by
 simp only[eO,aZ];refine iff_of_eq ?_
 congr 1;funext z M;congr 1;funext x M;congr 1;funext y M
 cases x with
 | cell j =>
   cases y with
   | int n =>
     cases e:M[j]? with
     |none=>simp[e]
     | some ds =>
       cases e2:cg ds.length n with
       |none=>simp[e,e2]
       |some i=>simp[e,e2]
   |_=>simp
 |_=>simp
set_option tactic.hygienic true in
@[simp] theorem Iq:ae (dz a d ρ M) kf↔ae (a ρ M) λx M=>ae (d ρ M) λz M=>∃j ds,x=.cell j/\M[j]?=some ds/\ds.length<sz/\kf (.next ρ) (M.set j (ds++[z])):=by
 simp only[dz,aZ];refine iff_of_eq ?_
 congr 1;funext x M;congr 1;funext z M
 cases x<;>simp;rename_i j;cases e:M[j]? with
 |none=>simp
 |some ds=>by_cases h:ds.length<sz<;>simp[h]
@[simp] theorem dJ:ae (az a ρ M) kf↔ae (a ρ M) λx M=>kf (.ret x) M:=by simp[az]
@[simp] theorem Pk:ae (DJ ρ M) kf↔kf (.ret .non) M:=Q8
@[simp] theorem Pm:ae (DK ρ M) kf↔kf (.next ρ) M:=Q8
@[simp] theorem P8:ae (wU ρ M) kf↔False:=Q8
@[simp] theorem j3:ae (aN t sa sb ρ M) kf↔ae (t ρ M) λv M=>if v=true then ae (sa ρ M) kf else ae (sb ρ M) kf:=by
 simp only[aN,aZ];refine iff_of_eq ?_;congr 1;funext v M;cases v<;>simp
variable{kw:Walk->Mem->Prop}
set_option tactic.hygienic true in
@[simp] theorem fg:ae (cW a ρ M) kw↔ae (a ρ M) λx M=>∃n,x=.int n/\(-(2^62)≤n/\n<2^62)/\kw (λ_=>some ((List.range n.toNat).map λ(k:Nat)=>D.int (k:Int))) M:=by
 simp only[cW,aZ];refine iff_of_eq ?_;congr 1;funext x M;cases x<;>simp;rename_i n;split<;>simp[*]
@[simp] theorem f5:ae (bZ a ρ M) kw↔ae (a ρ M) λx M=>dj x=true/\kw (λM=>bU M x) M:=by
 simp only[bZ,aZ];refine iff_of_eq ?_;congr 1;funext x M;cases x<;>simp[dj]<;>rfl
@[simp] theorem yp:ae (gU a ρ M) kw↔ae (a ρ M) λx M=>dj x=true/\kw (λM=>(bU M x).map (eA 0)) M:=by
 simp only[gU,aZ];refine iff_of_eq ?_;congr 1;funext x M;split<;>simp[*]
@[simp] theorem Pz:ae (m7 a b ρ M) kw↔ae (a ρ M) λx M=>ae (b ρ M) λy M=>(dj x&&dj y)=true/\kw (oE x y) M:=by
 simp only[m7,aZ];refine iff_of_eq ?_;congr 1;funext x M;congr 1;funext y M;split<;>simp[*]
def mq (k:D->Mem->Prop):Fl->Mem->Prop
 |.ret d,M=>k d M
 |.next _,M=>k .non M
 |.exc _ _,_=>False
@[simp] theorem Pw {d:D}:mq k (.ret d) M↔k d M:=Q8
@[simp] theorem OX:mq k (.next ρ) M↔k .non M:=Q8
def aH {d:Df}{ds:List D}(e:P f=some d)(hl:ds.length=d.params)(h:ae (d.body (ag P n) (ds.map some++List.replicate (d.slots-ds.length) none) M) (mq k)):ae (ag P (n+1) f ds M) k:=by
 show ae (match P f with|none=>Res.bad|some d=>gm (ag P n) d ds M) k
 rw[e];show ae (gm (ag P n) d ds M) k;unfold gm;rw[if_pos hl];revert h;cases d.body (ag P n) (ds.map some++List.replicate (d.slots-ds.length) none) M with
 |ok fl M=>cases fl<;>exact id
 |err=>exact id
 |bad=>exact id
@[simp] theorem tv {h:Type}{a:h}{k:h->Mem->Prop}{j:D->Mem->Prop}:fq (.ok a M) k j↔k a M:=Q8
@[simp] theorem Pp {h:Type}{x:D}{k:h->Mem->Prop}:fq (.err x M:Res h) k kx↔kx x M:=Q8
def xx (k h:D->Mem->Prop):Fl->Mem->Prop
 |.ret d,M=>k d M
 |.next _,M=>k .non M
 |.exc x _,M=>h x M
def ow {d:Df}{j:D->Mem->Prop}(e:P f=some d)(hl:ds.length=d.params)(h:ae (d.body (ag P n) (ds.map some++List.replicate (d.slots-ds.length) none) M) (xx k j)):fq (ag P (n+1) f ds M) k j:=by
 show fq (match P f with|none=>Res.bad|some d=>gm (ag P n) d ds M) k j
 rw[e];show fq (gm (ag P n) d ds M) k j;unfold gm;rw[if_pos hl];revert h;cases d.body (ag P n) (ds.map some++List.replicate (d.slots-ds.length) none) M with
 |ok fl M=>cases fl<;>exact id
 |err=>exact id
 |bad=>exact id
@[simp] theorem QA {d:D}{h:D->Mem->Prop}:xx k h (.ret d) M↔k d M:=Q8
@[simp] theorem Pu {h:D->Mem->Prop}:xx k h (.next ρ) M↔k .non M:=Q8
@[simp] theorem QB:xx k kx (.exc x ρ) M↔kx x M:=Q8
@[simp] theorem Pe {f:Nat}:fq (bF f c s ρ M) k kx↔ae (s ρ M) λds M=>fq (c f ds M) k kx:=by
 unfold bF;cases s ρ M<;>rfl
@[simp] theorem zg:ae (iA a ρ M) kf↔fq (a ρ M) (λ_ M=>kf (.next ρ) M) (λx M=>kf (.exc x ρ) M):=by
 unfold iA;cases a ρ M<;>rfl
@[simp] theorem va {i:Nat}:ae (c8 (.one i) a ρ M) kf↔fq (a ρ M) (λx M=>kf (.next (ρ.set i (some x))) M) (λx M=>kf (.exc x ρ) M):=by
 unfold c8;cases a ρ M<;>rfl
@[simp] theorem BK {i:Nat}:ae (dC i s ρ M) kf↔ae (s ρ M) λds M=>ds.length≤sz/\kf (.exc (.exc i none) ρ) M:=by
 unfold dC;cases s ρ M with
 |ok ds j=>by_cases h:ds.length≤sz<;>simp[h]
 |err=>exact Q8
 |bad=>exact Q8
def KW (k1 k2:Nat)(h:GS)(kf:Fl->Mem->Prop):Fl->Mem->Prop
 |.exc x ρ,M=>∃c p,x=.exc c p/\(c=k1\/c=k2)/\ae (h ρ M) (λfl M=>match fl with|.exc _ _=>False|fl=>kf fl M)
 |fl,M=>kf fl M
set_option tactic.hygienic true in
@[simp] theorem BL {k1 k2:Nat}{h:GS}:ae (lS sa k1 k2 h ρ M) kf↔ae (sa ρ M) (KW k1 k2 h kf):=by
 simp only[lS,aZ];refine iff_of_eq ?_;congr 1;funext fl M;cases fl with
 | exc x ρ =>
   cases x with
   | exc c p =>
     by_cases j:c=k1\/c=k2
     ·have e:lN k1 k2 h (.exc (.exc c p) ρ) M=(h ρ M).bind λfl M=>match fl with|.exc _ _=>.bad|fl=>.ok fl M:=if_pos j
      rw[e];simp only[aZ];refine propext {λz=>{c,p,rfl,j,aO z λfl M q=>?_},λ⟨_,_,e,_,z⟩=>?_}
      ·cases fl with
       |exc=>exact q.elim
       |next=>exact q
       |ret=>exact q
      ·refine aO z λfl M q=>?_;cases fl with
       |exc=>exact q.elim
       |next=>exact q
       |ret=>exact q
     ·have e:lN k1 k2 h (.exc (.exc c p) ρ) M=.bad:=if_neg j;rw[e];exact propext {λz=>z.elim,λ⟨_,_,e,z,_⟩=>by cases e;exact absurd z j}
   |_=>exact propext {λz=>z.elim,λ⟨_,_,e,_⟩=>by cases e}
 |next ρ=>rfl
 |ret d=>rfl
def fw {v:Type}{f:v->D->Mem->Res v}{w:Walk}{ds:List D}{a:v}{k:v->Mem->Prop}(I:Nat->v->Mem->Prop)(E:∀i a M,I i a M->w M=some ds)(B:I 0 a M)
 (hs:∀i d a M,ds[i]?=some d->I i a M->ae (f a d M) (I (i+1))) (hk:∀a M,I ds.length a M->k a M):ae (cT f w a M) k:=by
 have z:∀(m i:Nat) (a:v) (M:Mem),ds.length-i<m->i≤ds.length->I i a M->ae (f7 f w m i a M) k:=by
  intro m;induction m with
  |zero=>intro i a M h;exact absurd h (Q5 _)
  | succ m L =>
    intro i a M h hi y;show ae (match w M with|none=>Res.bad|some ds=>match ds[i]? with|none=>Res.ok a M|some d=>(f a d M).bind (f7 f w m (i+1))) k
    rw[E i a M y];dsimp only;by_cases j:i<ds.length
    ·rw[P4 j];simp only[aZ];exact aO (hs i ds[i] a M (P4 j) y) λH F J=>L (i+1) H F `a j J
    ·have e:i=ds.length:=`a
     subst e;rw[List.getElem?_eq_none (PV _)];exact hk a M y
 unfold cT;rw[E 0 a M B];exact z _ 0 a M `s (Rh _) B
def c5 {t:fN}{w:Walk}{v:GS}{ds:List D}(I:Nat->Env->Mem->Prop)(z:∀i ρ M,I i ρ M->w M=some ds)(y:I 0 ρ M)
 (hs:∀i d ρ M,ds[i]?=some d->I i ρ M->∃ρ1,b6 t d ρ=some ρ1/\ae (v ρ1 M) λfl M=>∃ρ',fl=.next ρ'/\I (i+1) ρ' M) (hk:∀ρ M,I ds.length ρ M->kf (.next ρ) M):ae (cT (f6 t v) w (.next ρ) M) kf:=by
 refine fw (λi fl M=>∃ρ,fl=.next ρ/\I i ρ M) (λi fl M ⟨ρ,_,h⟩=>z i ρ M h) ⟨ρ,rfl,y⟩ ?_ ?_
 ·rintro i d fl M hd ⟨ρ,rfl,j⟩;obtain⟨ρ1,e,h⟩:=hs i d ρ M hd j;simp only[f6,aZ,gG,e];exact⟨ρ1,rfl,h⟩
 ·rintro fl M ⟨ρ,rfl,j⟩;exact hk ρ M j
@[simp] theorem dM {j:fN}{w:GW}{h:GS}:ae (bY j w h ρ M) kf↔ae (w ρ M) λw M=>ae (cT (f6 j h) w (.next ρ) M) kf:=by simp[bY]
@[simp] theorem fh {m:Bool}{n:Nat}{h:fN}{w:GW}{g:GB}:ae (bI m n h w g ρ M) k↔ae (w ρ M) λw M=>ae (cT (cU h g (List.replicate n none++ρ)) w [] M) λacc M=>ae (bb m acc M) k:=by simp[bI]
variable{kl:List D->Mem->Prop}
@[simp] theorem EJ {ge:GE}{acc:List D}:ae (bH ge ρ acc M) kl↔ae (ge ρ M) λx M=>acc.length<sz/\kl (acc++[x]) M:=by
 simp only[bH,aZ];refine iff_of_eq ?_;congr 1;funext x M;split<;>simp[*]
def comp_map {v:fN}{w:Walk}{ge:GE}{ds:List D}{j:Env}(I:Nat->List D->Mem->Prop)(hz:ds.length≤sz)(B:∀i acc M,I i acc M->w M=some ds)(y:I 0 [] M)
 (hs:∀i d acc M,ds[i]?=some d->acc.length=i->I i acc M->∃ρ1,b6 v d j=some ρ1/\ae (ge ρ1 M) λx M=>I (i+1) (acc++[x]) M) (hk:∀acc M,acc.length=ds.length->I ds.length acc M->kl acc M) :
 ae (cT (cU v (bH ge) j) w [] M) kl:=by
 refine fw (λi acc M=>acc.length=i/\I i acc M) (λi acc M h=>B i acc M h.2) ⟨rfl,y⟩ ?_ (λacc M h=>hk acc M h.1 h.2);rintro i d acc M hd ⟨hl,z⟩;obtain⟨ρ1,e,h⟩:=hs i d acc M hd hl z;have hi:i<ds.length:=(PH.mp hd).1;simp only[cU,aZ,gG,e,EJ];exact{ρ1,rfl,aO h λx M h=>{`a,by simp[hl],h}}
end
def bS {M:Mem}(j:t ρ M=.ok false M)(h:ae (rest ρ M) k):ae (bg (aN t A ay) rest ρ M) k:=by
 simp only[ax,j3];rw[j];exact h
def Gy {k:Fl->Mem->Prop}(j:t ρ M=.ok true M)(he:e ρ M=.ok v M)(h:k (.ret v) M):ae (bg (aN t #v[az e] ay) rest ρ M) k:=by
 simp only[ax,j3,dJ];rw[j];show ae (e ρ M) _;rw[he];exact h
def cP {v:D}(he:e ρ M=.ok v M)(h:k (.ret v) M):ae (#v[az e] ρ M) k:=by
 simp only[ax,dJ];rw[he];exact h
structure HasB0 (P:Nat->Option Df):Prop where
 is_between:P 0=some {3,3,ji}
 is_word:P 1=some {2,2,my}
 is_place:P 2=some {2,2,lF}
 is_cost:P 3=some {1,1,mE}
 is_tuple_of:P 4=some {2,2,iB}
 is_table:P 5=some {2,2,lE}
 is_double_table:P 6=some {2,2,fP}
 is_turn:P 7=some {3,6,mz}
 is_join:P 8=some {3,7,mC}
 is_move:P 9=some {3,6,mB}
 is_put:P 10=some {3,6,oz}
 is_deed:P 11=some {3,5,mD}
 is_machine:P 12=some {1,4,jh}
 need_machine:P 13=some {1,1,hJ}
structure HasM0 (P:Nat->Option Df):Prop extends HasB0 P where
 is_deed_number:P 16=some {2,2,gq}
 need_numbers:P 17=some {2,4,hI}
 need_row:P 18=some {2,2,lC}
structure HasM (P:Nat->Option Df):Prop extends HasM0 P where
 turned:P 20=some {2,6,lr}
 joined:P 21=some {2,7,lD}
 moved:P 22=some {2,6,nr}
 put_in:P 23=some {2,6,lu}
 done:P 24=some {2,4,pB}
 all_standing:P 25=some {3,5,qu}
structure HasP0 (P:Nat->Option Df):Prop where
 law_spread:P 28=some {2,6,lL}
 law_open:P 29=some {1,4,jV}
 law_anew:P 30=some {1,1,jW}
 law_take:P 31=some {2,5,nH}
structure HasP (P:Nat->Option Df):Prop extends HasP0 P where
 law_tab:P 32=some {2,6,iM}
 law_deed:P 33=some {3,7,ic}
 law_machine:P 34=some {4,8,fL}
instance coeHasB0 {P:Nat->Option Df}:Coe (HasM0 P) (HasB0 P):=⟨HasM0.toHasB0⟩
instance coeHasBM {P:Nat->Option Df}:Coe (HasM P) (HasB0 P):={λh=>h.toHasM0.toHasB0}
structure iP (P:Nat->Option Df):Prop where
 turned:P 20=some {2,6,lr}
 joined:P 21=some {2,7,lD}
 moved:P 22=some {2,6,nr}
 put_in:P 23=some {2,6,lu}
 done:P 24=some {2,4,pB}
def HasM.r {P:Nat->Option Df}(h:HasM P):iP P:=⟨h.turned,h.joined,h.moved,h.put_in,h.done⟩
instance coeHasR0 {P:Nat->Option Df}:Coe (HasM P) (iP P):=⟨HasM.r⟩
instance coeHasM {P:Nat->Option Df}:Coe (HasM P) (HasM0 P):=⟨HasM.toHasM0⟩
instance coeHasP {P:Nat->Option Df}:Coe (HasP P) (HasP0 P):=⟨HasP.toHasP0⟩
@[simp] theorem QJ {d:Option D}{r:Env}:(d::r)[0]?.getD none=d:=rfl
section
variable{M:Mem}{k:D->Mem->Prop}
def j9 {j:Type}{c:Prop}[Decidable c]{r:Res j}{k:j->Mem->Prop}:ae (if c then r else .bad) k↔c/\ae r k:=by split<;>simp[*]
@[simp] theorem pE {m:Bool}{i j:Int}:ae (fO m .add (.int i) (.int j) M) k↔k (.int (i+j)) M:=Q8
@[simp] theorem H9 {m:Bool}{i j:Int}:ae (fO m .sub (.int i) (.int j) M) k↔k (.int (i-j)) M:=Q8
@[simp] theorem Qp {m:Bool}{i j:Int}:ae (fO m .mul (.int i) (.int j) M) k↔((-(2^64)<i/\i<2^64)\/(-(2^64)<j/\j<2^64))/\k (.int (i*j)) M:=j9
@[simp] theorem Qq {m:Bool}{i j:Int}:ae (fO m .mod (.int i) (.int j) M) k↔0<j/\k (.int (i % j)) M:=j9
@[simp] theorem Px {m:Bool}{i j:Int}:ae (fO m .fdiv (.int i) (.int j) M) k↔(0<j/\j<1073741824)/\k (.int (i / j)) M:=j9
@[simp] theorem AU {m:Bool}{x y:List D}:ae (fO m .add (.tup x) (.tup y) M) k↔(x++y).length≤sz/\k (.tup (x++y)) M:=by
 show ae (kL _ _) k↔_;unfold kL;exact j9
@[simp] theorem QG {m:Bool}{x y:List D}:ae (fO m .add (.lst x) (.lst y) M) k↔ae (bb m (x++y) M) k:=Q8
@[simp] theorem PB {i j:Int}:bq .lt (.int i) (.int j) M=some (decide (i<j)):=rfl
@[simp] theorem PC {i j:Int}:bq .le (.int i) (.int j) M=some (decide (i≤j)):=rfl
@[simp] theorem PD {i j:Int}:bq .gt (.int i) (.int j) M=some (decide (j<i)):=rfl
@[simp] theorem PF {i j:Int}:bq .ge (.int i) (.int j) M=some (decide (j≤i)):=rfl
@[simp] theorem QM {i j:Int}:bq .eq (.int i) (.int j) M=some (i==j):=rfl
@[simp] theorem QL {i j:Int}:bq .ne (.int i) (.int j) M=some (!(i==j)):=rfl
@[simp] theorem PR {b:Bool}:jQ M (.bl b)=some b:=rfl
@[simp] theorem Pf {ds:List D}:jQ M (.tup ds)=some (!ds.isEmpty):=rfl
@[simp] theorem Ph {ds:List D}:jQ M (.lst ds)=some (!ds.isEmpty):=rfl
@[simp] theorem Pq {ds:List D}:ae (dP .len [.tup ds] M) k↔k (.int ds.length) M:=Q8
@[simp] theorem Pr {ds:List D}:ae (dP .len [.lst ds] M) k↔k (.int ds.length) M:=Q8
@[simp] theorem Py {ds:List D}:ae (dP .all [.lst ds] M) k↔∃bs,boolsOf ds=some bs/\k (.bl (bs.all id)) M:=by
 show ae (match boolsOf ds with|some bs=>_|none=>_) k↔_
 cases boolsOf ds<;>simp
@[simp] theorem Pj {ds:List D}:ae (dP .sum [.lst ds] M) k↔∃bs,intsOf ds=some bs/\k (.int bs.sum) M:=by
 show ae (match intsOf ds with|some bs=>_|none=>_) k↔_
 cases intsOf ds<;>simp
@[simp] theorem Nq {ds:List D}:ae (dP .tuple [.lst ds] M) k↔k (.tup ds) M:=Q8
@[simp] theorem wJ {j:Nat}:ae (dP .tuple [.cell j] M) k↔∃ds,M[j]?=some ds/\k (.tup ds) M:=by
 show ae (match M[j]? with|some xs=>_|none=>_) k↔_
 cases M[j]?<;>simp
@[simp] theorem Ce {m:Bool}{ds:List D}:ae (dP (.list m) [.lst ds] M) k↔ae (bb m ds M) k:=Q8
@[simp] theorem iX {ds:List D}{i:Int}:b9 (.tup ds) (.int i) M=(cg ds.length i).bind λj=>ds[j]?:=rfl
@[simp] theorem Pt {ds:List D}{i:Int}:b9 (.lst ds) (.int i) M=(cg ds.length i).bind λj=>ds[j]?:=rfl
@[simp] theorem OQ {j:Nat}{i:Int}:b9 (.cell j) (.int i) M=(M[j]?).bind λds=>(cg ds.length i).bind λj=>ds[j]?:=rfl
def dN {n i:Nat}(h:i<n):cg n (i:Int)=some i:=by
 unfold cg;rw[if_pos (Int.natCast_nonneg i),if_pos (by exact_mod_cast h)];rfl
end
def eW {j:Type}{r:Res j}{d:j}{M:Mem}(h:ae r λx M'=>x=d/\M'=M):r=.ok d M:=by
 obtain⟨a,M',e,rfl,rfl⟩:=d9.mp h;exact e
def ao {r:Res D}{d:D}{M:Mem}(h:ae r λx M'=>x=d/\M'=M):r=.ok d M:=by
 obtain⟨a,M',e,rfl,rfl⟩:=d9.mp h;exact e
section
variable{P:Nat->Option Df}(h:HasB0 P){M:Mem}
include h
theorem fG (n:Nat)(t lo hi:Int):ag P (n+1) 0 [.int t,.int lo,.int hi] M=.ok (.bl (decide (lo≤t)&&decide (t≤hi))) M:=by
 refine ao (aH h.is_between rfl ?_);simp[ji,gP];by_cases h1:lo≤t<;>simp[h1]<;>omega
end
def fA {z:fN}{w:Walk}{ge:GE}{ds:List D}{u:Env}{M:Mem}{y:List D->Mem->Prop}(f:D->D)(hz:ds.length≤sz)(B:w M=some ds)(hs:∀d∈ds,∃ρ1,b6 z d u=some ρ1/\ge ρ1 M=.ok (f d) M)(hk:y (ds.map f) M) :
 ae (cT (cU z (bH ge) u) w [] M) y:=by
 refine comp_map (λi j v=>v=M/\j=(ds.take i).map f) hz (λi j v h=>by rw[h.1];exact B) ⟨rfl,rfl⟩ ?_ ?_
 ·rintro i d j v hd _ ⟨rfl,rfl⟩;obtain⟨ρ1,e1,e2⟩:=hs d (Qb hd);refine{ρ1,e1,?_};rw[e2];refine{rfl,?_};have E:i<ds.length:=(PH.mp hd).1;rw[Q1,hd];simp
 ·rintro j v _ ⟨rfl,rfl⟩;simpa using hk
def xK {ds:List D}(h:∀d∈ds,d=.bl true):∃bs,boolsOf ds=some bs/\bs.all id=true:=by
 induction ds with
 |nil=>exact{[],rfl,rfl}
 | cons d r j =>
   obtain⟨bs,e,q⟩:=j λd hd=>h d (Qc _ hd);obtain rfl:=h d Qm;exact{true::bs,by simp[boolsOf,e],by simpa using q}
def oC {u:fN}{ge:GE}{w:Walk}{ds:List D}{j:Env}{M:Mem}(hz:ds.length≤sz)(v:w M=some ds)(he:∀d∈ds,∃ρ1,b6 u d j=some ρ1/\ge ρ1 M=.ok (.bl true) M) :
 ae (cT (cU u (bH ge) j) w [] M) λacc M'=>acc.length≤sz/\∃bs,boolsOf acc=some bs/\¬ false∈bs/\M'=M:=by
 refine fA (λ_=>.bl true) hz v he ?_;obtain⟨bs,y,B⟩:=xK (ds:=ds.map λ_=>D.bl true) `s
 refine{by simpa using hz,bs,y,λz=>?_,rfl}
 have:=Qh.mp B false z;cases this
abbrev nD (n:Nat):D:=.int (n:Int)
def aw (l:List Nat):D:=.tup (l.map nD)
inductive aR where
 |turn (at_:Nat) (tab:List Nat) (cost:Nat)
 |join (at_ other:Nat) (tab:List (List Nat)) (cost:Nat)
 |move (at_ other cost:Nat)
 |put (at_ word cost:Nat)
def aR.d:aR->D
 |.turn a t c=>.tup [.str "turn",nD a,aw t,nD c]
 |.join a o t c=>.tup [.str "join",nD a,nD o,.tup (t.map aw),nD c]
 |.move a o c=>.tup [.str "move",nD a,nD o,nD c]
 |.put a w c=>.tup [.str "put",nD a,nD w,nD c]
noncomputable def aR.cost:aR->Nat
 |.turn _ _ c=>c
 |.join _ _ _ c=>c
 |.move _ _ c=>c
 |.put _ _ c=>c
structure aK where
 words:Nat
 places:Nat
 deeds:List aR
noncomputable def aK.d (m:aK):D:=.tup [nD m.words,nD m.places,.tup (m.deeds.map aR.d)]
def fe (w:Nat)(t:List Nat):Prop:=t.length=w/\∀x∈t,x<w
def fE (c:Nat):Prop:=1≤c/\c≤3
def bJ (w p:Nat):aR->Prop
 |.turn a t c=>a<p/\fe w t/\fE c
 |.join a o t c=>a<p/\o<p/\(t.length=w/\∀x∈t,fe w x)/\fE c
 |.move a o c=>a<p/\o<p/\fE c
 |.put a x c=>a<p/\x<w/\fE c
structure aJ (m:aK):Prop where
 w2:2≤m.words
 w4:m.words≤4
 p1:1≤m.places
 p2:m.places≤2
 d1:1≤m.deeds.length
 d6:m.deeds.length≤6
 ok:∀d∈m.deeds,bJ m.words m.places d
def aD {n:Nat}(h:n≤100000):n≤sz:=Qf h `d
section
variable{P:Nat->Option Df}(h:HasB0 P){M:Mem}
include h
theorem u7 (n:Nat){w t:Nat}(j:t<w):ag P (n+2) 1 [nD w,nD t] M=.ok (.bl true) M:=by
 refine ao (aH h.is_word rfl ?_);simp[my,fG h];omega
theorem g9 (n:Nat){w t:Nat}(j:t<w):ag P (n+2) 2 [nD w,nD t] M=.ok (.bl true) M:=by
 refine ao (aH h.is_place rfl ?_);simp[lF,fG h];omega
theorem kA (n:Nat){c:Nat}(j:fE c):ag P (n+2) 3 [nD c] M=.ok (.bl true) M:=by
 unfold fE at j;refine ao (aH h.is_cost rfl ?_);simp[mE,fG h];omega
theorem nM (n:Nat){w:Nat}{ds:List D}(j:ds.length=w):ag P (n+1) 4 [nD w,.tup ds] M=.ok (.bl true) M:=by
 refine ao (aH h.is_tuple_of rfl ?_);simp[iB,gP,j]
theorem sF (n:Nat){w:Nat}{t:List Nat}(v:w≤4)(j:fe w t):ag P (n+3) 5 [nD w,aw t] M=.ok (.bl true) M:=by
 refine ao (aH h.is_table rfl ?_);have e:ag P (n+2) 4 [nD w,aw t] M=.ok (.bl true) M:=nM h (n+1) (by simpa using j.1)
 simp[lE,e];refine{rfl,oC (aD (by simp[j.1];omega)) rfl λd hd=>?_}
 obtain⟨x,u,rfl⟩:=PZ.mp hd;refine{_,rfl,ao ?_};simp[u7 h n (j.2 x u)]
theorem y3 (n:Nat){w:Nat}{t:List (List Nat)}(u:w≤4)(j:t.length=w/\∀x∈t,fe w x):ag P (n+4) 6 [nD w,.tup (t.map aw)] M=.ok (.bl true) M:=by
 refine ao (aH h.is_double_table rfl ?_);have e:ag P (n+3) 4 [nD w,.tup (t.map aw)] M=.ok (.bl true) M:=nM h (n+2) (by simpa using j.1)
 simp[fP,e];refine{rfl,oC (aD (by simp[j.1];omega)) rfl λd hd=>?_}
 obtain⟨x,v,rfl⟩:=PZ.mp hd;refine{_,rfl,ao ?_};simp[sF h n u (j.2 x v)]
theorem Fq (n:Nat){w p a c:Nat}{t:List Nat}(j:w≤4)(hd:bJ w p (.turn a t c)):ag P (n+4) 7 [nD w,nD p,.tup [nD a,aw t,nD c]] M=.ok (.bl true) M:=by
 obtain⟨h1,h2,h3⟩:=hd;refine ao (aH h.is_turn rfl ?_);simp[mz,cf,g9 h (n+1) h1,sF h n j h2,kA h (n+1) h3]
theorem Fx (n:Nat){w p a o c:Nat}{t:List (List Nat)}(j:w≤4)(hd:bJ w p (.join a o t c)):ag P (n+5) 8 [nD w,nD p,.tup [nD a,nD o,.tup (t.map aw),nD c]] M=.ok (.bl true) M:=by
 obtain⟨h1,h2,h3,h4⟩:=hd;refine ao (aH h.is_join rfl ?_);simp[mC,cf,g9 h (n+2) h1,g9 h (n+2) h2,y3 h n j h3,kA h (n+2) h4]
theorem Fv (n:Nat){w p a o c:Nat}(hd:bJ w p (.move a o c)):ag P (n+3) 9 [nD w,nD p,.tup [nD a,nD o,nD c]] M=.ok (.bl true) M:=by
 obtain⟨h1,h2,h3⟩:=hd;refine ao (aH h.is_move rfl ?_);simp[mB,cf,g9 h n h1,g9 h n h2,kA h n h3]
theorem Ft (n:Nat){w p a x c:Nat}(hd:bJ w p (.put a x c)):ag P (n+3) 10 [nD w,nD p,.tup [nD a,nD x,nD c]] M=.ok (.bl true) M:=by
 obtain⟨h1,h2,h3⟩:=hd;refine ao (aH h.is_put rfl ?_);simp[oz,cf,g9 h n h1,u7 h n h2,kA h n h3]
end
def Ox:eF.lookup (Str.ofString "turn")=some 7:=`k
def Ow:eF.lookup (Str.ofString "join")=some 8:=`k
def Ov:eF.lookup (Str.ofString "move")=some 9:=`k
def Ou:eF.lookup (Str.ofString "put")=some 10:=`k
section
variable{P:Nat->Option Df}(h:HasB0 P){M:Mem}
include h
theorem r6 (n:Nat){w p f:Nat}{s:Str}{ds:List D}(lk:eF.lookup s=some f)(q:ag P (n+5) f [nD w,nD p,.tup ds] M=.ok (.bl true) M):ag P (n+6) 11 [nD w,nD p,.tup (.str s::ds)] M=.ok (.bl true) M:=by
 refine ao (aH h.is_deed rfl ?_);simp[-List.lookup_isSome_iff,mD,gP,cg,lk,cZ,aQ,eQ,cut,q]
theorem FC (n:Nat){w p:Nat}{d:aR}(j:w≤4)(hd:bJ w p d):ag P (n+6) 11 [nD w,nD p,d.d] M=.ok (.bl true) M:=by
 cases d with
 |turn a t c=>exact r6 h n Ox (Fq h (n+1) j hd)
 |join a o t c=>exact r6 h n Ow (Fx h n j hd)
 |move a o c=>exact r6 h n Ov (Fv h (n+2) hd)
 |put a x c=>exact r6 h n Ou (Ft h (n+2) hd)
theorem Fw (n:Nat){m:aK}(hm:aJ m):ag P (n+7) 12 [m.d] M=.ok (.bl true) M:=by
 refine ao (aH h.is_machine rfl ?_);have e:ag P (n+6) 4 [.int 3,.tup [nD m.words,nD m.places,.tup (m.deeds.map aR.d)]] M=.ok (.bl true) M:=nM h (n+5) rfl;have l1:=hm.d1;have y:=hm.d6;have j:(decide ((2:Int)≤(m.words:Int))&&decide ((m.words:Int)≤4))=true:=by have:=hm.w2;have:=hm.w4;simp;omega
 have u:(decide ((1:Int)≤(m.places:Int))&&decide ((m.places:Int)≤2))=true:=by have:=hm.p1;have:=hm.p2;simp;omega
 simp only[PY,decide_eq_true_eq] at j u;simp[jh,aK.d,e,cf,fG h,j,u,gP];refine{`a,`a,rfl,oC (aD `o) rfl λd hd=>?_}
 obtain⟨x,v,rfl⟩:=PZ.mp hd;refine{_,rfl,ao ?_};simp[FC h n hm.w4 (hm.ok x v)]
end
section
variable{ρ:Env}{M:Mem}{a b:GE}{s:GA}{k:D->Mem->Prop}{kf:Fl->Mem->Prop}{t u:GT}{A rest:GS}
def bx {t rest:GS}{ρ':Env}(e:t ρ M=.ok (.next ρ') M)(h:ae (rest ρ' M) kf):ae (bg t rest ρ M) kf:=by
 simp only[ax];rw[e];exact h
def af {x:D}{xs:List D}(h:a ρ M=.ok x M)(es:s ρ M=.ok xs M):cm a s ρ M=.ok (x::xs) M:=by
 unfold cm;rw[h];show(s ρ M).bind _=_;rw[es];rfl
def lZ {xs:List D}(es:s ρ M=.ok xs M)(hl:xs.length≤100):aU false s ρ M=.ok (.lst xs) M:=by
 unfold aU;rw[es];show(if xs.length≤sz then(if false=true then _ else Res.ok (D.lst xs) M) else .bad)=_;rw[if_pos (aD `a)]
 rfl
def AV {xs ys:List D}(h:a ρ M=.ok (.lst xs) M)(j:b ρ M=.ok (.lst ys) M)(hl:(xs++ys).length≤100):ai false .add a b ρ M=.ok (.lst (xs++ys)) M:=by
 unfold ai;rw[h];show(b ρ M).bind _=_;rw[j];show(if (xs++ys).length≤sz then(if false=true then _ else Res.ok (D.lst (xs++ys)) M) else .bad)=_;rw[if_pos (aD `a)]
 rfl
def bM {i:Nat}{x:D}(e:a ρ M=.ok x M):au (.one i) a ρ M=.ok (.next (ρ.set i (some x))) M:=by
 unfold au;rw[e];rfl
def aE {j:Nat}{x:D}(h:ρ[j]?.getD none=some x):aa j ρ M=.ok x M:=by
 unfold aa;rw[h];rfl
def bh {f:Nat}{c:Call}{xs:List D}(e:s ρ M=.ok xs M):ah f c s ρ M=c f xs M:=by
 unfold ah;rw[e];rfl
def c4 {i:Nat}(h:ae (a ρ M) k)(hk:∀x M',k x M'->ae (rest (ρ.set i (some x)) M') kf):ae (bg (au (.one i) a) rest ρ M) kf:=by
 obtain⟨x,M',e,q⟩:=d9.mp h;simp only[ax];unfold au;rw[e];exact hk x M' q
def tY (j:t ρ M=.ok true M)(h:ae (A ρ M) (gA rest kf)):ae (bg (aN t A ay) rest ρ M) kf:=by
 simp only[ax,j3];rw[j];exact h
def b8 {b:Bool}(h:t ρ M=.ok b M)(h1:b=true->ae (A ρ M) (gA rest kf))(h2:b=false->ae (rest ρ M) kf):ae (bg (aN t A ay) rest ρ M) kf:=by
 cases b with
 |true=>exact tY h (h1 rfl)
 |false=>exact bS h (h2 rfl)
def gJ {b:Bool}(h:t ρ M=.ok b M):bQ t ρ M=.ok (!b) M:=by
 unfold bQ;rw[h];rfl
def bO {b:Bool}(h:a ρ M=.ok (.bl b) M):aj a ρ M=.ok b M:=by
 unfold aj;rw[h];rfl
def oQ (h1:t ρ M=.ok false M)(h2:u ρ M=.ok false M):d7 t u ρ M=.ok false M:=by
 unfold d7;rw[h1];exact h2
def L3 {x y:Bool}(h1:t ρ M=.ok x M)(h2:u ρ M=.ok y M):d7 t u ρ M=.ok (x||y) M:=by
 unfold d7;rw[h1];cases x with
 |true=>rfl
 |false=>exact h2
def Lf {b:Bool}(h1:t ρ M=.ok b M)(h2:b=true->u ρ M=.ok false M):dI t u ρ M=.ok false M:=by
 unfold dI;rw[h1];cases b with
 |true=>exact h2 rfl
 |false=>rfl
def qw {x y:Bool}(h1:t ρ M=.ok x M)(h2:u ρ M=.ok y M):dI t u ρ M=.ok (x&&y) M:=by
 unfold dI;rw[h1];cases x with
 |true=>exact h2
 |false=>rfl
def AS {x y:Bool}(h1:a ρ M=.ok (.bl x) M)(h2:x=true->b ρ M=.ok (.bl y) M):dO a b ρ M=.ok (.bl (x&&y)) M:=by
 unfold dO;rw[h1];cases x with
 |true=>exact h2 rfl
 |false=>rfl
def iW {k:Bool}{x:D}(h:t ρ M=.ok k M)(h1:k=true->a ρ M=.ok x M)(h2:k=false->b ρ M=.ok x M):gR t a b ρ M=.ok x M:=by
 unfold gR;rw[h];cases k with
 |true=>exact h1 rfl
 |false=>exact h2 rfl
def KU {l h i:Int}{c:GE}(h1:a ρ M=.ok (.int l) M)(h2:b ρ M=.ok (.int i) M)(h3:c ρ M=.ok (.int h) M):mj .le .le a b c ρ M=.ok (.bl (decide (l≤i)&&decide (i≤h))) M:=by
 unfold mj;rw[h1];show(b ρ M).bind _=_;rw[h2];show(if decide (l≤i)=true then _ else _)=_;cases decide (l≤i) with
 | true =>
   show(c ρ M).bind _=_;rw[h3];rfl
 |false=>rfl
end
def mZ {t:GT}{A rest:GS}{ρ:Env}{M:Mem}{k:Fl->Mem->Prop}{R:Mem->Prop}(j:ae (t ρ M) λb M'=>b=false/\R M')(h:∀M',R M'->ae (rest ρ M') k):ae (bg (aN t A ay) rest ρ M) k:=by
 simp only[ax,j3];obtain⟨b,M',e,rfl,r⟩:=d9.mp j;rw[e];exact h M' r
structure Sub (M M':Mem):Prop where
 len:M.length≤M'.length
 at':∀k,k<M.length->M'[k]?=M[k]?
def Sub.refl:Sub M M:={PV _,λ_ _=>rfl}
def Sub.trans (a:Sub M M1)(b:Sub M1 M2):Sub M M2:={Qf a.len b.len,λk hk=>(b.at' k (Qg hk a.len)).trans (a.at' k hk)}
def Sub.app:Sub M (M++X):={`s,λk hk=>PU hk}
def Sub.get {k:Nat}(h:Sub M M')(e:M[k]?=some ds):M'[k]?=some ds:=by rw[h.at' k (PH.mp e).1];exact e
def Sub.setq (h:Sub M M')(j:M.length≤q):Sub M (M'.set q ds):={by simpa using h.len,λk hk=>by rw[PN `a];exact h.at' k hk}
def xF (f:D->D)(hz:acc0.length+ds.length≤sz)(v:w M=some ds)(hs:∀d∈ds,∃ρ1,b6 tg d ρ0=some ρ1/\ge ρ1 M=.ok (f d) M)(hk:kl (acc0++ds.map f) M) :
 ae (cT (cU tg (bH ge) ρ0) w acc0 M) kl:=by
 refine fw (λi j u=>u=M/\j=acc0++(ds.take i).map f) (λi j u h=>by rw[h.1];exact v) {rfl,`s} ?_ ?_
 ·rintro i d j u hd ⟨rfl,rfl⟩;obtain⟨ρ1,e1,e2⟩:=hs d (Qb hd);have y:i<ds.length:=(PH.mp hd).1;simp only[cU,aZ,gG,e1,EJ];refine{ρ1,rfl,?_};rw[e2];refine{by simp;omega,rfl,?_}
  rw[Q1,hd];simp
 ·rintro j u ⟨rfl,rfl⟩;simpa using hk
theorem qh {j u:Type}(f:j->List u)(n:Nat):∀(ds:List j),(∀d∈ds,(f d).length≤n)->(ds.flatMap f).length≤ds.length*n
 |[],_=>`s
 | d :: r, h => by
   have h1:=h d Qm;have h2:=qh f n r λd hd=>h d (Qc _ hd);simp only[List.flatMap_cons,Qe,RG,Nat.succ_mul];omega
def xG (j:D->List D)(f:D->D->D)(n:Nat)(hn:∀d∈ds,(j d).length≤n)(hz:ds.length*n≤sz)(H:w M=some ds)
 (hs:∀d∈ds,∃ρ1,b6 t d ρ0=some ρ1/\∃w2,gw2 ρ1 M=.ok w2 M/\w2 M=some (j d)/\∀e∈j d,∃y,b6 u e ρ1=some y/\ge y M=.ok (f d e) M) (hk:kl (ds.flatMap λd=>(j d).map (f d)) M) :
 ae (cT (cU t (t8 u gw2 (bH ge)) ρ0) w [] M) kl:=by
 refine fw (λi v z=>z=M/\v=(ds.take i).flatMap λd=>(j d).map (f d)) (λi v z h=>by rw[h.1];exact H) {rfl,`s} ?_ ?_
 ·rintro i d v z hd ⟨rfl,rfl⟩;obtain⟨ρ1,e1,w2,e2,E,F⟩:=hs d (Qb hd);simp only[cU,aZ,gG,e1,t8];refine{ρ1,rfl,?_};rw[e2];have B:(ds.take (i+1)).flatMap (λd=>(j d).map (f d))=(ds.take i).flatMap (λd=>(j d).map (f d))++(j d).map (f d):=by
   rw[Q1,hd];simp
  have l1:=qh (λd=>(j d).map (f d)) n (ds.take (i+1)) (λd hd=>by simpa using hn d (QS hd))
  rw[B] at l1;simp only[Qe,PK,QY] at l1;refine xF (f d) ?_ E F ⟨rfl,B.symm⟩;have:(min (i+1) ds.length)*n≤ds.length*n:=Nat.mul_le_mul_right _ (Nat.min_le_right _ _);omega
 ·rintro v z ⟨rfl,rfl⟩;simpa using hk
noncomputable def qi (w:Nat)(l:List (List Nat)):List (List Nat):=l.flatMap λs=>(List.range w).map λx=>s++[x]
noncomputable def dr (w:Nat):Nat->List (List Nat)
 |0=>[[]]
 |p+1=>qi w (dr w p)
def bz (m:aK):List (List Nat):=dr m.words m.places
def dR (m:aK)(s:List Nat):Prop:=s.length=m.places/\∀x∈s,x<m.words
def uE:∀s∈dr w p,s.length=p/\∀x∈s,x<w:=by
 induction p with
 |zero=>intro s hs;simp[dr] at hs;subst hs;simp
 | succ p v =>
   intro s hs;simp only[dr,qi,List.mem_flatMap,PZ,RI] at hs;obtain⟨t,j,x,B,rfl⟩:=hs;obtain⟨h1,h2⟩:=v t j;refine{by simp[h1],λy u=>?_}
   rcases Qs.mp u with z|z
   ·exact h2 y z
   ·simp at z;omega
def qt:∀s∈bz m,dR m s:=uE
theorem jL (j:w≤4):∀p≤2,(dr w p).length≤4^p
 |0,_=>by simp[dr]
 | p + 1, u => by
   have:=jL j p `a
   have l:=qh (λs:List Nat=>(List.range w).map λx=>s++[x]) 4 (dr w p) (λd hd=>by simpa using j)
   calc _≤(dr w p).length*4:=l
    _≤4^p*4:=Nat.mul_le_mul_right _ this
    _=4^(p+1):=by rw[Nat.pow_succ]
def jf (hm:aJ m):(bz m).length≤16:=by
 have h:=jL hm.w4 m.places hm.p2;have h1:=hm.p1;have h2:=hm.p2;have:m.places=1\/m.places=2:=`a
 rcases this with e|e<;>rw[e] at h<;>unfold bz<;>rw[e]<;>omega
theorem rq:∀(p:Nat) (s:List Nat),s.length=p->(∀x∈s,x<w)->s∈dr w p
 | 0, s, hl, _ => by
   obtain rfl:=RX.mp hl;simp[dr]
 | p + 1, s, hl, j => by
   have ne:s≠[]:=by intro e;subst e;cases hl
   have u:=List.dropLast_concat_getLast ne;show s∈qi w (dr w p);unfold qi;rw[List.mem_flatMap];refine{s.dropLast,rq p _ (by simp[hl]) (λx h=>j x (List.dropLast_subset _ h)),?_}
   rw[PZ];exact{s.getLast ne,RI.mpr (j _ (List.getLast_mem ne)),u}
def CU (hm:aJ m)(h:dR m s):s∈bz m:=rq _ s h.1 h.2
noncomputable def d3:aR->List Nat->Nat
 |.turn a t _,s=>t.getD (s.getD a 0) 0
 |.join a o t _,s=>(t.getD (s.getD a 0) []).getD (s.getD o 0) 0
 |.move _ o _,s=>s.getD o 0
 |.put _ x _,_=>x
def aR.at':aR->Nat
 |.turn a _ _=>a
 |.join a _ _ _=>a
 |.move a _ _=>a
 |.put a _ _=>a
def bV (d:aR)(s:List Nat):List Nat:=s.take d.at'++[d3 d s]++s.drop (d.at'+1)
def getD_mem {j:Type}{l:List j}{d:j}(h:i<l.length):l.getD i d∈l:=by
 rw[Rl,P4 h];exact List.getElem_mem h
def xb {m:aK}(hd:bJ m.words m.places d)(hs:dR m s):d3 d s<m.words:=by
 obtain⟨hl,j⟩:=hs;cases d with
 | turn a t c =>
   obtain⟨h1,h2,h3⟩:=hd;have:=j _ (getD_mem (d:=0) (show a<s.length by omega))
   exact h2.2 _ (getD_mem (by rw[h2.1];exact this))
 | join a o t c =>
   obtain⟨h1,h2,h3,h4⟩:=hd;have a1:=j _ (getD_mem (d:=0) (show a<s.length by omega))
   have a2:=j _ (getD_mem (d:=0) (show o<s.length by omega))
   have a3:=h3.2 _ (getD_mem (d:=[]) (show s.getD a 0<t.length by rw[h3.1];exact a1))
   exact a3.2 _ (getD_mem (by rw[a3.1];exact a2))
 |move a o c=>exact j _ (getD_mem (by obtain⟨h1,h2,h3⟩:=hd;omega))
 |put a x c=>exact hd.2.1
def r9 (hd:bJ w p d):d.at'<p:=by cases d<;>exact hd.1
def qY (hd:bJ m.words m.places d)(hs:dR m s):dR m (bV d s):=by
 have h1:=r9 hd;have h2:=xb hd hs;obtain⟨hl,j⟩:=hs;refine{by simp[bV];omega,λx hm=>?_}
 simp only[bV,Qs,Qa] at hm;rcases hm with(z|z)|z
 ·exact j x (QS z)
 ·omega
 ·exact j x (List.mem_of_mem_drop z)
def ie (m:aK)(r:List Nat):Prop:=r.length≤40/\∀i∈r,i<m.deeds.length
noncomputable def cb (m:aK)(i:Nat):aR:=m.deeds.getD i (.put 0 0 1)
noncomputable def gn (m:aK):List Nat->List Nat->List Nat
 |[],s=>s
 |i::r,s=>gn m r (bV (cb m i) s)
def gD {m:aK}(hm:aJ m){i:Nat}(hi:i<m.deeds.length):bJ m.words m.places (cb m i):=hm.ok _ (getD_mem hi)
noncomputable def v9 (hm:aJ m):∀{r:List Nat}{s:List Nat},(∀i∈r,i<m.deeds.length)->dR m s->dR m (gn m r s)
 |[],s,_,h=>h
 |i::r,s,hr,h=>v9 (r:=r) hm (λj u=>hr j (Qc _ u)) (qY (gD hm (hr i Qm)) h)
noncomputable def oq:∀(a b s:List Nat),gn m (a++b) s=gn m b (gn m a s)
 |[],b,s=>rfl
 |i::a,b,s=>oq a b _
def By {s:List Nat}(hi:i<s.length):(cg (s.map nD).length (i:Int)).bind (λj=>(s.map nD)[j]?)=some (nD (s.getD i 0)):=by
 rw[dN (by simpa using hi)]
 simp[Rl,hi]
def bC (r:List Nat):D:=.lst (r.map nD)
noncomputable def aY (m:aK)(r:List Nat):Nat:=(r.map λi=>(cb m i).cost).sum
def Cc {i:Nat}(hi:i<m.deeds.length):((cg (m.deeds.map aR.d).length (i:Int)).bind λj=>(m.deeds.map aR.d)[j]?)=some (cb m i).d:=by
 rw[dN (by simpa using hi)]
 simp[cb,Rl,hi]
def JI {m:aK}:b9 m.d (.int 2) M=some (.tup (m.deeds.map aR.d)):=rfl
def og (hi:i<m.deeds.length):b9 (.tup (m.deeds.map aR.d)) (nD i) M=some (cb m i).d:=Cc hi
def jF {d:aR}:b9 d.d (.int (-1)) M=some (nD d.cost):=by cases d<;>rfl
def gQ {s:List Nat}(hi:i<s.length):b9 (aw s) (nD i) M=some (nD (s.getD i 0)):=By hi
def Ak {t:List (List Nat)}(hi:i<t.length):b9 (.tup (t.map aw)) (nD i) M=some (aw (t.getD i [])):=by
 show(cg (t.map aw).length (i:Int)).bind (λj=>(t.map aw)[j]?)=_;rw[dN (by simpa using hi)]
 simp[Rl,hi]
def bu (M:Mem)(x:D)(r:List Nat):Prop:=x=.lst (r.map nD)\/∃q,x=.cell q/\M[q]?=some (r.map nD)
def bu.l:bu M (.lst (r.map nD)) r:=.inl rfl
def bu.c (h:M[q]?=some (r.map nD)):bu M (.cell q) r:=.inr ⟨q,rfl,h⟩
def bu.sub {M M':Mem}(h:bu M x r)(s:Sub M M'):bu M' x r:=h.elim .inl λ⟨q,e,g⟩=>.inr {q,e,s.get g}
def bu.seq (h:bu M x r):bU M x=some (r.map nD):=by
 rcases h with rfl|⟨q,rfl,e⟩
 ·rfl
 ·exact e
def bu.rd (h:bu M x r):eP M x=some (r.map nD):=by
 rcases h with rfl|⟨q,rfl,e⟩
 ·rfl
 ·exact e
def bu.is (h:bu M x r):dj x=true/\ft x=true/\gP .list x=some true:=by
 rcases h with rfl|⟨q,rfl,e⟩<;>exact⟨rfl,rfl,rfl⟩
def bu.len (h:bu M x r):ae (dP .len [x] M) k↔k (.int r.length) M:=by
 rcases h with rfl|⟨q,rfl,e⟩
 ·show k (.int (r.map nD).length) M↔_;simp
 ·show ae (match M[q]? with|some xs=>_|none=>_) k↔_
  rw[e];simp
def bu.list (h:bu M x r):ae (dP (.list m) [x] M) k↔ae (bb m (r.map nD) M) k:=by
 rcases h with rfl|⟨q,rfl,e⟩
 ·exact Q8
 ·show ae (match M[q]? with|some xs=>_|none=>_) k↔_
  rw[e]
def bu.non (h:bu M x r):rW x=false:=by
 rcases h with rfl|⟨q,rfl,e⟩<;>rfl
def bu.vw (h:bu M x r):view M x=.lst (r.map nD):=by
 rcases h with rfl|⟨q,rfl,e⟩
 ·rfl
 ·simp[view,e]
noncomputable def t5 (f:Nat->Nat):∀(r:List Nat),∃bs,intsOf (r.map λi=>nD (f i))=some bs/\bs.sum=(((r.map f).sum:Nat):Int)
 |[]=>{[],rfl,rfl}
 | i :: r => by
   obtain⟨bs,e1,e2⟩:=t5 f r;exact{(f i:Int)::bs,by simp[intsOf,e1],by simp[e2]}
section
variable{P:Nat->Option Df}(h:HasB0 P){M:Mem}
include h
theorem sG (n:Nat)(hm:aJ m):ag P (n+8) 13 [m.d] M=.ok .non M:=by
 refine ao (aH h.need_machine rfl ?_);simp[hJ,Fw h n hm]
theorem pM (h15:P 15=some {1,6,dg})(n:Nat)(hm:aJ m):ag P (n+9) 15 [m.d] M=.ok (.lst ((bz m).map aw)) M:=by
 refine ao (aH h15 rfl ?_);have w4:=hm.w4;have p2:=hm.p2;simp[dg,sG h n hm];simp[aK.d,cf];refine{`d,`a,?_}
 refine c5 (λi u j=>j=M/\∃a,u=[some m.d,some (nD m.words),some (nD m.places),some (.tup (m.deeds.map aR.d)),some (.lst ((dr m.words i).map aw)),a]) (λ_ _ _ _=>rfl) {rfl,none,by simp[aK.d,dr,aw]} ?_ ?_
 ·rintro i d u j hd ⟨rfl,a,rfl⟩;have y:i<m.places:=by
   have:=(PH.mp hd).1;simpa using this
  refine{_,rfl,?_};simp[dj];refine xG (λ_=>(List.range m.words).map λ(k:Nat)=>D.int (k:Int)) (λd e=>match d,e with|.tup x,e=>.tup (x++[e])|_,_=>.non) 4 (by simpa using λ_ _=>w4) ?_ rfl ?_ ?_
  ·have:=jL w4 i `a
   have:(4:Nat)^i≤4^2:=Nat.pow_le_pow_right `d `a
   simp only[PK];exact aD `a
  ·intro d hd;obtain⟨s,hs,rfl⟩:=PZ.mp hd;have{l1,_}:=uE s hs;refine{_,rfl,(λ_=>some ((List.range m.words).map λ(k:Nat)=>D.int (k:Int))),eW ?_,rfl,λe he=>{_,rfl,ao ?_}}
   ·simp;omega
   ·simp[aw,sz];omega
  ·have v:((dr m.words i).map aw).flatMap (λd=>((List.range m.words).map λ(k:Nat)=>D.int (k:Int)).map (λe=>match d,e with|.tup x,e=>D.tup (x++[e])|_,_=>.non))=(dr m.words (i+1)).map aw:=by
    simp only[dr,qi,List.flatMap_map,List.map_flatMap,QO]
    congr 1
    funext s
    simp[aw,R4]
   rw[v];refine{?_,rfl,rfl};have:=jL w4 (i+1) `a
   have:(4:Nat)^(i+1)≤4^2:=Nat.pow_le_pow_right `d `a
   simp only[PK];exact aD `a
 ·rintro u j ⟨rfl,a,rfl⟩;simp[bz]
end
section
variable{P:Nat->Option Df}(h:HasM0 P){M:Mem}
include h
theorem FA (n:Nat){m:aK}(hi:i<m.deeds.length):ag P (n+2) 16 [m.d,nD i] M=.ok (.bl true) M:=by
 refine ao (aH h.is_deed_number rfl ?_);simp[gq,aK.d,cg,fG h.toHasB0];omega
theorem wL (n:Nat){m:aK}(v:bu M x r)(hr:∀i∈r,i<m.deeds.length):ag P (n+3) 17 [m.d,x] M=.ok .non M:=by
 refine ao (aH h.need_numbers rfl ?_);obtain⟨y,z,B⟩:=v.is;simp[hI,y,z,B];refine c5 (λi u j=>j=M/\∃a b,u=[some m.d,some x,a,b]) (λ_ _ _ e=>by rw[e.1,v.seq];rfl) ⟨rfl,none,none,rfl⟩ ?_ ?_
 ·rintro i d u j hd ⟨rfl,a,b,rfl⟩;rw[ip] at hd;rw[P6] at hd;cases e:r[i]? with
  |none=>rw[e] at hd;cases hd
  | some x =>
    rw[e] at hd;simp at hd;subst hd;refine{_,rfl,?_};simp[FA h n (hr x (Qb e))]
 ·rintro u j ⟨rfl,a,b,rfl⟩;simp
theorem yS (n:Nat)(j:bu M x r)(hm:aJ m)(hr:ie m r):ag P (n+9) 18 [m.d,x] M=.ok .non M:=by
 have e:=wL h (n+5) j hr.2;refine ao (aH h.need_row rfl ?_);simp[lC,sG h.toHasB0 n hm,e];rw[j.len];have:=hr.1;simp;omega
end
section
variable{P:Nat->Option Df}(h:iP P){M:Mem}
include h
theorem yM (n:Nat){m:aK}(hd:bJ m.words m.places (.turn a t c))(hs:dR m s):ag P (n+1) 20 [(aR.turn a t c).d,aw s] M=.ok (nD (d3 (.turn a t c) s)) M:=by
 obtain⟨h1,h2,h3⟩:=hd;have a1:a<s.length:=by rw[hs.1];exact h1
 have a2:s.getD a 0<t.length:=by rw[h2.1];exact hs.2 _ (getD_mem a1)
 refine ao (aH h.turned rfl ?_);simp[-iX,-List.getD_eq_getElem?_getD,lr,aR.d,cf,gQ a1,gQ a2,d3]
theorem yY (n:Nat){a o c:Nat}(hd:bJ m.words m.places (.join a o t c))(hs:dR m s):ag P (n+1) 21 [(aR.join a o t c).d,aw s] M=.ok (nD (d3 (.join a o t c) s)) M:=by
 obtain⟨h1,h2,h3,h4⟩:=hd;have a1:a<s.length:=by rw[hs.1];exact h1
 have a2:o<s.length:=by rw[hs.1];exact h2
 have a3:s.getD a 0<t.length:=by rw[h3.1];exact hs.2 _ (getD_mem a1)
 have a4:s.getD o 0<(t.getD (s.getD a 0) []).length:=by rw[(h3.2 _ (getD_mem a3)).1];exact hs.2 _ (getD_mem a2)
 refine ao (aH h.joined rfl ?_);simp[-iX,-List.getD_eq_getElem?_getD,lD,aR.d,cf,gQ a1,gQ a2,Ak a3,gQ a4,d3]
theorem BC (n:Nat)(hd:bJ m.words m.places (.move a o c))(hs:dR m s):ag P (n+1) 22 [(aR.move a o c).d,aw s] M=.ok (nD (d3 (.move a o c) s)) M:=by
 obtain⟨h1,h2,h3⟩:=hd;have a2:o<s.length:=by rw[hs.1];exact h2
 refine ao (aH h.moved rfl ?_);simp[-iX,-List.getD_eq_getElem?_getD,nr,aR.d,cf,gQ a2,d3]
theorem BA (n:Nat):ag P (n+1) 23 [(aR.put a x c).d,aw s] M=.ok (nD (d3 (.put a x c) s)) M:=by
 refine ao (aH h.put_in rfl ?_);simp[lu,aR.d,cf,d3]
end
def OB:cH.lookup (Str.ofString "turn")=some 20:=`k
def OA:cH.lookup (Str.ofString "join")=some 21:=`k
def Oz:cH.lookup (Str.ofString "move")=some 22:=`k
def Oy:cH.lookup (Str.ofString "put")=some 23:=`k
def Ig {a:Nat}(j:a≤s.length):ae (cZ false (aw s) .non (.int a) M) k↔k (aw (s.take a)) M:=by
 simp only[cZ,aw,aQ,cut];rw[if_neg `a]
 simp;rw[RL (by simpa using j)]
def FH {a:Nat}(j:a≤s.length):ae (cZ false (aw s) (.int a) .non M) k↔k (aw (s.drop a)) M:=by
 simp only[cZ,aw,aQ,cut];rw[if_neg `a]
 simp;rw[RL (by simpa using j),Qt `s]
section
variable{P:Nat->Option Df}(h:iP P){M:Mem}
include h
theorem Fz (n:Nat){d:aR}(hm:aJ m)(hd:bJ m.words m.places d)(hs:dR m s):ag P (n+2) 24 [d.d,aw s] M=.ok (aw (bV d s)) M:=by
 have a0:=r9 hd;have l0:=hs.1;have p2:=hm.p2;have j:∀f,ag P (n+1) f [d.d,aw s] M=.ok (nD (d3 d s)) M->b9 d.d (.int 1) M=some (nD d.at')->(∀k:D->Mem->Prop,(∃y,b9 d.d (.int 0) M=some (.str y)/\cH.lookup y=some f))->ag P (n+2) 24 [d.d,aw s] M=.ok (aw (bV d s)) M:=λf e1 e2 u=>by
  obtain⟨y,u,v⟩:=u λ_ _=>True;refine ao (aH h.done rfl ?_);simp only[pB,ax,lQ,Kf,ia,bp,dW,aX,dJ,iL,iK,f9,bR,cJ,GL];simp[-iX,e1,e2,u,v,eQ];rw[Ig `a,e1]
  have z:(d.at':Int)+1=((d.at'+1:Nat):Int):=`a
  rw[z];simp only[aW,aw,AU];refine{`d,?_,?_}
  ·simp;exact aD `a
  ·rw[show D.tup (s.map nD)=aw s from rfl,FH `a]
   simp only[aw,AU];refine{?_,?_,trivial}
   ·simp;exact aD `a
   ·simp[bV]
 cases d with
 |turn a t c=>exact j 20 (yM h n hd hs) rfl λ_=>{_,rfl,OB}
 |join a o t c=>exact j 21 (yY h n hd hs) rfl λ_=>{_,rfl,OA}
 |move a o c=>exact j 22 (BC h n hd hs) rfl λ_=>{_,rfl,Oz}
 |put a x c=>exact j 23 (BA h n) rfl λ_=>{_,rfl,Oy}
end
@[simp] theorem tR:ae (dP .len [.cell j] M) k↔∃ds,M[j]?=some ds/\k (.int ds.length) M:=by
 show ae (match M[j]? with|some xs=>_|none=>_) k↔_
 cases M[j]?<;>simp
structure aG (M:Mem) (p B:Nat):Prop where
 ex:∃(c:Nat) (cells:List Int) (at_ st:Int),M[p]?=some [.cell c,.int at_,.int st]/\M[c]?=some (cells.map D.int)/\c<p/\0≤at_/\at_≤B/\0≤st
structure aT (p:Nat) (M M':Mem):Prop where
 len:M.length≤M'.length
 at':∀k,k<M.length->k≠p->M'[k]?=M[k]?
def aT.refl:aT p M M:={PV _,λ_ _ _=>rfl}
def aT.trans (a:aT p M M1)(b:aT p M1 M2):aT p M M2:={Qf a.len b.len,λk hk n=>(b.at' k (Qg hk a.len) n).trans (a.at' k hk n)}
def aT.set:aT p M (M.set p ds):={`s,λk _ n=>PN (Q0 n)}
def aT.app:aT p M (M++X):={`s,λk hk _=>PU hk}
def aT.get (h:aT p M M')(e:M[k]?=some ds)(n:k≠p):M'[k]?=some ds:=by rw[h.at' k (PH.mp e).1 n];exact e
def aG.lt (h:aG M p B):p<M.length:=by obtain⟨_,_,_,_,e,_⟩:=h.ex;exact(PH.mp e).1
def aG.app (h:aG M p B):aG (M++X) p B:=by
 obtain⟨c,j,a,st,e1,e2,r⟩:=h.ex;exact{c,j,a,st,by rw[PU (PH.mp e1).1];exact e1,by rw[PU (PH.mp e2).1];exact e2,r}
def aG.mono (h:aG M p B)(E:B≤B'):aG M p B':=by
 obtain⟨c,j,a,st,e1,e2,u,v,z,y⟩:=h.ex;exact{c,j,a,st,e1,e2,u,v,`a,y}
def aG.setq (h:aG M p B)(E:p<q):aG (M.set q ds) p B:=by
 obtain⟨c,j,a,st,e1,e2,u,v,y,z⟩:=h.ex;exact{c,j,a,st,by rw[PN `a];exact e1,by rw[PN `a];exact e2,u,v,y,z}
def aT.setq (h:aT p M M')(j:M.length≤q):aT p M (M'.set q ds):={by simpa using h.len,λk hk n=>by rw[PN `a];exact h.at' k hk n}
def zM {a b A B:Int}(h1:0≤a)(h2:a≤A)(h3:0≤b)(h4:b≤B):0≤a*b/\a*b≤A*B:=
 {Int.mul_nonneg h1 h3,Int.mul_le_mul h2 h4 h3 (Int.le_trans h1 h2)}
noncomputable def mR:List Int:=[2147483629,2147483587,2147483579,2147483563,2147483549,2147483543,2147483497,2147483489,2147483477,2147483423,2147483399,2147483353,2147483323]
def iT:List D:=mR.map D.int
def zp:∀q∈mR,0<q/\q<2147483648:=`d
def nQ (j:Int)(M:Mem):∃q:Int,b9 (.lst iT) (.int (j % 13)) M=some (.int q)/\0<q/\q<2147483648:=by
 have h1:0≤j % 13:=RN _ `d
 have h2:j % 13<13:=RJ _ `d
 generalize j % 13=i at h1 h2;obtain⟨k,rfl⟩:=RZ h1;have hk:=Int.ofNat_lt.mp h2;refine{mR[k],?_,zp _ (List.getElem_mem hk)};show(cg iT.length (k:Int)).bind (λj=>iT[j]?)=_;rw[dN (n:=iT.length) hk];show(mR.map D.int)[k]?=_;rw[P6,P4 hk];rfl
section
variable{P:Nat->Option Df}(h:HasP0 P){M:Mem}
include h
omit h in
theorem fQ {x y:Int}(j:a ρ M=.ok (.int x) M)(u:b ρ M=.ok (.int y) M):ai m .add a b ρ M=.ok (.int (x+y)) M:=by
 unfold ai;rw[j];show(b ρ M).bind _=_;rw[u];rfl
omit h in
theorem nY {x y:Int}(j:a ρ M=.ok (.int x) M)(u:b ρ M=.ok (.int y) M)(c:(-(2^64)<x/\x<2^64)\/(-(2^64)<y/\y<2^64)):ai m .mul a b ρ M=.ok (.int (x*y)) M:=by
 unfold ai;rw[j];show(b ρ M).bind _=_;rw[u];exact if_pos c
omit h in
theorem jT {x y:Int}(j:a ρ M=.ok (.int x) M)(u:b ρ M=.ok (.int y) M)(c:0<y):ai m .mod a b ρ M=.ok (.int (x % y)) M:=by
 unfold ai;rw[j];show(b ρ M).bind _=_;rw[u];exact if_pos c
omit h in
theorem wW {x y:Int}(j:a ρ M=.ok (.int x) M)(u:b ρ M=.ok (.int y) M)(c:0≤y/\y≤1000000)(d:x.natAbs<2^64):ai m .pow a b ρ M=.ok (.int (x^y.toNat)) M:=by
 unfold ai;rw[j];show(b ρ M).bind _=_;rw[u];exact if_pos ⟨c.1,c.2,d⟩
omit h in
theorem nR {x q:Int}(hi:ρ[i]?.getD none=some (.lst iT))(j:a ρ M=.ok (.int x) M)(e:b9 (.lst iT) (.int (x % 13)) M=some (.int q)):aq (aa i) (ai false .mod a (gI 13)) ρ M=.ok (.int q) M:=by
 unfold aq;rw[aE hi];show(ai false .mod a _ ρ M).bind _=_;rw[jT j rfl `d];show bX M _=_;rw[e];rfl
theorem yP {x a:Int}(n:Nat)(R:0≤a)(h1:a≤1000000):ae (ag P (n+1) 28 [.int x,.int a] M) λd M'=>M'=M/\∃v:Int,d=.int v/\0≤v:=by
 refine aH h.law_spread rfl ?_;refine b8 rfl (λe=>?_) λe=>?_
 ·exact{rfl,x,rfl,Int.le_trans `d (of_decide_eq_true e)}
 clear e;refine bx (bM rfl) (bx (bM rfl) ?_);obtain⟨S,e1,p1,p2⟩:=nQ a M;obtain⟨U,e2,u,_⟩:=nQ (a+5) M;obtain⟨q3,Q,J,_⟩:=nQ (a+7) M;have y:∀{z c:Int},0≤z->z≤c->c<2^64->z.natAbs<2^64:=λX Y L=>`a
 have lt:∀{z c:Int},0≤z->z≤c->c<2^64->-(2^64)<z/\z<2^64:=λX Y L=>`a
 have r1:=RN x (show(1000000007:Int)≠0 by decide)
 have r2:=RJ x (show(0:Int)<1000000007 by decide)
 obtain⟨m1,m2⟩:=zM r1 (Int.le_of_lt r2) (show 0≤2*a+69069 by omega) (show 2*a+69069≤2069069 by omega)
 refine bx (bM (jT (wW (fQ (fQ (nY (jT (aE rfl) rfl `d) (fQ (nY rfl (aE rfl) (.inl `d)) rfl) (.inl (lt r1 (Int.le_of_lt r2) `d))) (nY (aE rfl) rfl (.inl (lt R h1 `d)))) rfl) rfl `d (y (c:=10000000000000000000) `a `a `d)) (nR rfl (aE rfl) e1) p1)) ?_
 generalize (x % 1000000007*(2*a+69069)+a*40503+977)^(3:Int).toNat=B;have j:=RN B (Int.ne_of_gt p1);have F:=RJ B p1;generalize B % S=one at j F;have H:=Int.le_of_lt (Int.lt_trans F p2);obtain⟨m3,m4⟩:=zM j H (show 0≤a+3 by omega) (show a+3≤1000003 by omega)
 refine bx (bM (jT (wW (fQ (fQ (nY (aE rfl) (fQ (aE rfl) rfl) (.inl (lt j H `d))) (jT (aE rfl) rfl `d)) rfl) rfl `d (y (c:=10000000000000000000) `a `a `d)) (nR rfl (fQ (aE rfl) rfl) e2) u)) ?_
 generalize (one*(a+3)+x % 65537+5)^(5:Int).toNat=E;have I:=RN E (Int.ne_of_gt u);have O:=RJ E u;generalize E % U=two at I O;refine bx (bM (jT (wW (fQ (fQ (aE rfl) (jT (aE rfl) rfl `d)) (aE rfl)) rfl `d (y (c:=10000000000) `a `a `d)) (nR rfl (fQ (aE rfl) rfl) Q) J)) ?_
 generalize (two+one % 1009+a)^(3:Int).toNat=W;have d1:=RN W (Int.ne_of_gt J);refine cP (fQ (nY (fQ (nY (aE rfl) rfl (.inr `d)) (aE rfl)) rfl (.inr `d)) (aE rfl)) {rfl,_,rfl,?_}
 exact Int.add_nonneg (Int.mul_nonneg (Int.add_nonneg (Int.mul_nonneg j `d) I) `d) d1
omit h in
theorem OP:cg 3 2=some 2:=rfl
omit h in
theorem qc {l:List Int}{i:Int}(u:0≤i)(h1:i<l.length):∃x,((cg l.length i).bind λj=>Option.map D.int l[j]?)=some (.int x):=by
 obtain⟨k,rfl⟩:=RZ u;have hk:k<l.length:=`a
 refine{l[k],?_};rw[dN hk];simp[hk]
def nK:GS:=#v[au (.one 4) (ai false .mod (aq (aa 0) (gI 2)) (aa 1)),eO (aa 0) (gI 2) (ai false .fdiv (aq (aa 0) (gI 2)) (aa 1)),az (aa 4)]
def u3 (c:Call):GS:=#v[eO (aa 0) (gI 1) (ai false .add (aa 2) (gI 1)),eO (aa 0) (gI 2) (ah 28 c #[aa 3,aa 2])]
omit h in
theorem Mp {x y:Int}(j:a ρ M=.ok (.int x) M)(u:b ρ M=.ok (.int y) M)(c:0<y/\y<1073741824):ai m .fdiv a b ρ M=.ok (.int (x / y)) M:=by
 unfold ai;rw[j];show(b ρ M).bind _=_;rw[u];exact if_pos c
omit h in
theorem bG (j:a ρ M=.ok x M)(u:b ρ M=.ok y M)(e:b9 x y M=some d):aq a b ρ M=.ok d M:=by
 unfold aq;rw[j];show(b ρ M).bind _=_;rw[u];show bX M _=_;rw[e];rfl
omit h in
theorem JY (e:M[p]?=some [c0,c1,c2]):b9 (.cell p) (.int 0) M=some c0/\b9 (.cell p) (.int 1) M=some c1/\b9 (.cell p) (.int 2) M=some c2:=by
 refine{?_,?_,?_}<;>(show(M[p]?).bind _=_;rw[e];rfl)
omit h in
theorem sY {n:Int}(hd:d ρ M=.ok z M')(u:a ρ M'=.ok (.cell p) M')(v:b ρ M'=.ok (.int n) M')(e:M'[p]?=some ds)(hi:cg ds.length n=some i)(h:ae (rest ρ (M'.set p (ds.set i z))) kf):ae (bg (eO a b d) rest ρ M) kf:=by
 simp only[ax];unfold eO;rw[hd];show ae ((a ρ M').bind _) _;rw[u];show ae ((b ρ M').bind _) _;rw[v];show ae (match M'[p]? with|some ds=>(match cg ds.length n with|some j=>Res.ok (Fl.next ρ) (M'.set p (ds.set j z))|none=>.bad)|none=>.bad) _
 rw[e];show ae (match cg ds.length n with|some j=>Res.ok (Fl.next ρ) (M'.set p (ds.set j z))|none=>.bad) _
 rw[hi];exact h
omit h in
theorem JZ (j:t ρ M=.ok b M)(h1:b=true->ae (A ρ M) (gA rest kf))(h2:b=false->ae (B ρ M) (gA rest kf)):ae (bg (aN t A B) rest ρ M) kf:=by
 simp only[ax,j3];rw[j];cases b with
 |true=>exact h1 rfl
 |false=>exact h2 rfl
omit h in
theorem qF {j:List Int}{a st:Int}(e1:M1[p]?=some [.cell c,.int a,.int st])(e2:M1[c]?=some (j.map D.int))(lt:c<p)(a0:0≤a)(u:a≤(B+1:Nat))(H:0≤st)(k:aT p M M1)
 (z:0<many) (h1:many≤10000000):ae (nK [some (.cell p),some (nD many),x,y,none] M1) (mq λd M'=>∃v:Nat,d=nD v/\v<many/\aG M' p (B+1)/\aT p M M'):=by
 have E:p<M1.length:=(PH.mp e1).1;have b0:=Int.ofNat_lt.mpr z;have r1:=RN st (Int.ne_of_gt b0);have r2:=RJ st b0;refine bx (bM (jT (bG (aE rfl) rfl (JY e1).2.2) (aE rfl) b0)) (sY (Mp (bG (aE rfl) rfl (JY e1).2.2) (aE rfl) {b0,`a}) (aE rfl) rfl e1 rfl (cP (aE rfl) ?_))
 obtain⟨v,F⟩:=RZ r1;refine{v,congrArg D.int F,`a,{c,j,a,st / many,Qj E,?_,lt,a0,u,Int.ediv_nonneg H (Int.le_of_lt b0)},k.trans aT.set}
 rw[PN (QR lt)];exact e2
theorem u9 (n:Nat){p B many:Nat}(R:aG M p B)(hB:B≤1000000)(I:0<many)(h1:many≤10000000):ae (ag P (n+2) 31 [.cell p,nD many] M) λd M'=>∃v:Nat,d=nD v/\v<many/\aG M' p (B+1)/\aT p M M':=by
 obtain⟨c,u,a,st,e1,e2,lt,a0,Y,W⟩:=R.ex;have z:p<M.length:=(PH.mp e1).1;obtain⟨H,S,U⟩:=JY e1;refine aH h.law_take rfl ?_;show ae (bg (aN _ (bg _ (bg _ (bg _ (u3 (ag P (n+1)))))) _) nK [some (.cell p),some (nD many),none,none,none] M) _;have y:∀(x:Int),ae (u3 (ag P (n+1)) [some (.cell p),some (nD many),some (.int a),some (.int x),none] M) (gA nK (mq λd M'=>∃v:Nat,d=nD v/\v<many/\aG M' p (B+1)/\aT p M M')):=by
  intro x;refine sY (fQ (aE rfl) rfl) (aE rfl) rfl e1 rfl ?_;obtain⟨_,_,Q,rfl,v,rfl,X⟩:=d9.mp (yP h n a0 `a)
  refine sY ((bh (af (aE rfl) (af (aE rfl) rfl))).trans Q) (aE rfl) rfl (Qj z) rfl ?_;have ne:=QR lt;exact qF (Qj (by rw[RM];exact z)) (by rw[PN ne,PN ne];exact e2) lt `a `a X (aT.set.trans aT.set) I h1
 have len:aC .len #[aq (aa 0) (gI 0)] [some (.cell p),some (nD many),some (.int a),some (.int 0),none] M=.ok (.int (u.length:Nat)) M:=by
  refine ao ?_;simp only[cX];rw[af (bG (aE rfl) rfl H) rfl,aW];exact tR.mpr {_,e2,by rw[PK],rfl}
 refine b8 (b:=decide (st<(many:Int))) (bO (ao ?_)) (λJ=>?_) λJ=>?_
 ·simp only[gg];rw[bG (aE rfl) rfl U,aW,aE rfl,aW];exact{_,rfl,rfl,rfl}
 ·refine bx (bM (bG (aE rfl) rfl S)) (bx (bM rfl) ?_);show ae (bg _ _ [some (.cell p),some (nD many),some (.int a),some (.int 0),none] M) _;have E:∀{i:Int}{x:D},((cg u.length i).bind λj=>Option.map D.int u[j]?)=some x->b9 (.cell c) (.int i) M=some x:=λ{i x} ex=>by
   show(M[c]?).bind _=_;rw[e2];show((cg (u.map D.int).length i).bind λj=>(u.map D.int)[j]?)=_;simp only[PK,P6];exact ex
  refine JZ (b:=decide (a<(u.length:Int))) (bO (ao ?_)) (λL=>?_) λ_=>?_
  ·simp only[gg];rw[aE rfl,aW,len,aW];exact{_,rfl,rfl,rfl}
  ·obtain⟨x,ex⟩:=qc a0 (of_decide_eq_true L);exact bx (bM (bG (bG (aE rfl) rfl H) (aE rfl) (E ex))) (y x)
  ·refine b8 (b:=decide ((0:Int)<(u.length:Int))) (bO (ao ?_)) (λO=>?_) λ_=>y 0
   ·simp only[gg,dW];rw[len,aW];exact{_,rfl,rfl,rfl}
   ·have F:=of_decide_eq_true O;obtain⟨x,ex⟩:=qc (RN (a*5+3) (Int.ne_of_gt F)) (RJ _ F);exact bx (bM (jT (bG (bG (aE rfl) rfl H) (jT (fQ (nY (aE rfl) rfl (.inr `d)) rfl) len F) (E ex)) (fQ rfl (aE rfl)) (Int.lt_of_lt_of_le `d (Int.le_add_of_nonneg_right a0)))) (y _)
 ·exact qF e1 e2 lt a0 `a W .refl I h1
end
noncomputable def aR.withC:aR->Nat->aR
 |.turn a t _,c=>.turn a t c
 |.join a o t _,c=>.join a o t c
 |.move a o _,c=>.move a o c
 |.put a x _,c=>.put a x c
def A6 {w p c:Nat}{d:aR}(h:bJ w p d)(u:fE c):bJ w p (d.withC c):=by
 cases d with
 |turn=>exact⟨h.1,h.2.1,u⟩
 |join=>exact⟨h.1,h.2.1,h.2.2.1,u⟩
 |move=>exact⟨h.1,h.2.1,u⟩
 |put=>exact⟨h.1,h.2.1,u⟩
def wh {w p:Nat}{d:aR}(h:bJ w p d):fE d.cost:=by
 cases d with
 |turn=>exact h.2.2
 |join=>exact h.2.2.2
 |move=>exact h.2.2
 |put=>exact h.2.2
def CK {d:aR}{c:Nat}{M:Mem}{k:D->Mem->Prop}(hk:k (d.withC c).d M):ae (cZ false d.d .non (.int (-1)) M) λx M=>ae (fO false .add x (.tup [nD c]) M) k:=by
 cases d<;>(simp[aR.d,cZ,aQ,cut];exact{`d,hk})
def Bz (n:Nat)(d:aR):ak (n+3) d.d=true:=by
 have v:∀(n:Nat) (l:List Nat),(l.map nD).all (ak n)=true:=λn l=>by
  rw[Qh];intro x u;obtain⟨i,_,rfl⟩:=PZ.mp u;cases n<;>rfl
 cases d with
 |turn a t c=>simp[aR.d,ak,aw,nD];decide +kernel
 |join a o t c=>simp[aR.d,ak,nD,aw];decide +kernel
 |move a o c=>simp[aR.d,ak,nD];decide +kernel
 |put a x c=>simp[aR.d,ak,nD];decide +kernel
def ne_nil {M:Mem}{q:Nat}{ds:List aR}(e:M[q]?=some (ds.map aR.d)):bq .ne (.cell q) (.lst []) M=some (!ds.isEmpty):=by
 have hp:(ds.map aR.d).all (ak 63)=true:=by
  rw[Qh];intro x v;obtain⟨d,_,rfl⟩:=PZ.mp v;exact Bz 60 d
 have u:view M (.cell q)=.lst (ds.map aR.d):=by simp[view,e]
 have h1:=hp;refine nj (by rw[u];exact h1) rfl ?_
 rw[u];cases ds<;>rfl
@[simp] theorem JB {m:Bool}{x:List D}{j:Int}{M:Mem}{k:D->Mem->Prop}:ae (fO m .mul (.tup x) (.int j) M) k↔(x.length*j.toNat≤sz/\-(2^63)≤j/\j<2^63)/\k (.tup (List.replicate j.toNat x).flatten) M:=j9
@[simp] theorem JC {m:Bool}{x:List D}{j:Int}{M:Mem}{k:D->Mem->Prop}:ae (fO m .mul (.lst x) (.int j) M) k↔(x.length*j.toNat≤sz/\-(2^63)≤j/\j<2^63)/\ae (bb m (List.replicate j.toNat x).flatten M) k:=j9
def sL {xs:List D}{a:Nat}{M:Mem}{k:D->Mem->Prop}:ae (cZ false (.lst xs) .non (.int a) M) k↔(xs.take a).length≤sz/\k (.lst (xs.take a)) M:=by
 have e:cut xs 0 (min a xs.length)=xs.take a:=by
  unfold cut;rcases Nat.le_total a xs.length with h|h
  ·rw[RL h];simp
  ·rw[Nat.min_eq_right h];simp[Qt h]
 show ae (match aQ xs.length 0 D.non,aQ xs.length xs.length (.int a) with|some l,some h=>bb false (cut xs l h) M|_,_=>.bad) k↔_
 have e2:aQ xs.length xs.length (.int a)=some (min a xs.length):=by
  show some _=_;rw[if_neg `a];simp
 rw[e2];show ae (bb false (cut xs 0 (min a xs.length)) M) k↔_;rw[e,b3]
def BH {xs:List D}{a:Nat}{M:Mem}{k:D->Mem->Prop}:ae (cZ false (.lst xs) (.int a) .non M) k↔(xs.drop a).length≤sz/\k (.lst (xs.drop a)) M:=by
 have e:cut xs (min a xs.length) xs.length=xs.drop a:=by
  unfold cut;rcases Nat.le_total a xs.length with h|h
  ·rw[RL h,Qt `s]
  ·rw[Nat.min_eq_right h];simp[List.drop_eq_nil_of_le h]
 show ae (match aQ xs.length 0 (.int a),aQ xs.length xs.length D.non with|some l,some h=>bb false (cut xs l h) M|_,_=>.bad) k↔_
 have e2:aQ xs.length 0 (.int a)=some (min a xs.length):=by
  show some _=_;rw[if_neg `a];simp
 rw[e2];show ae (bb false (cut xs (min a xs.length) xs.length) M) k↔_;rw[e,b3]
def uh {w:Nat}{ge:GE}{ρ:Env}{M:Mem}{u:List D->Mem->Prop}(f:Nat->Nat)(v:w≤100)(hf:∀k,k<w->ge (some (.int (k:Int))::ρ) M=.ok (nD (f k)) M)(hk:u (((List.range w).map f).map nD) M) :
 ae (cT (cU (.one 0) (bH ge) (none::ρ)) (λ_=>some ((List.range w).map λ(k:Nat)=>D.int (k:Int))) [] M) u:=by
 refine fA (λd=>match d with|.int i=>nD (f i.toNat)|_=>.non) (aD `o) rfl (λd hd=>?_) ?_
 ·obtain⟨k,hk,rfl⟩:=PZ.mp hd;exact{_,rfl,hf k (RI.mp hk)}
 ·simpa[R4] using hk
def u5 {w:Nat}{f:Nat->Nat}(hf:∀k,k<w->f k<w):fe w ((List.range w).map f):={`s,λx u=>by
 obtain⟨k,hk,rfl⟩:=PZ.mp u;exact hf k (RI.mp hk)}
section
variable{P:Nat->Option Df}(h:HasP0 P){M:Mem}
include h
theorem FE (n:Nat){p B:Nat}(hp:aG M p B):ae (ag P (n+1) 30 [.cell p] M) λd M'=>d=.cell p/\aG M' p B/\aT p M M':=by
 obtain⟨c,u,a,st,e1,e2,lt,a0,y,z⟩:=hp.ex;have ne:=Qw lt;have v:p<M.length:=(PH.mp e1).1;refine aH h.law_anew rfl ?_;simp[jW,e1,OP];refine{{c,u,a,0,by simp[v],?_,lt,a0,y,`a},aT.set}
 rw[PN (Q0 ne)];exact e2
theorem tk (n:Nat){p B many:Nat}{k:D->Mem->Prop}(hp:aG M p B)(hB:B≤1000000)(h0:0<many)(h1:many≤10000000)(hk:∀(v:Nat) (M':Mem),v<many->aG M' p (B+1)->aT p M M'->k (nD v) M'):ae (ag P (n+2) 31 [.cell p,nD many] M) k:=
 aO (u9 h n hp hB h0 h1) λd M' ⟨v,e,z,y,u⟩=>by subst e;exact hk v M' z y u
end
def bd {B c k m:Nat}(h:B≤c)(e:c+k≤m):B+k≤m:=Qf (Nat.add_le_add_right h k) e
def xn {B k m:Nat}(e:k≤m):B+k≤B+m:=Nat.add_le_add_left e B
def xj {ρ:Env}{M:Mem}{j v c:Nat}(h:ρ[j]?.getD none=some (nD v)):(aj (av .lt (aa j) (gC (.int (c:Int)))):GT) ρ M=.ok (decide (v<c)) M:=by
 refine eW ?_;simp only[hU,gg,bp,dW];refine{_,h,_,rfl,_,rfl,?_,trivial};simp
def jH {ρ:Env}{M:Mem}{j v c:Nat}(h:ρ[j]?.getD none=some (nD v)):(aj (av .eq (aa j) (gC (.int (c:Int)))):GT) ρ M=.ok ((v:Int)==(c:Int)) M:=by
 refine eW ?_;simp only[hU,gg,bp,dW];exact{_,h,_,rfl,_,rfl,rfl,trivial}
section
variable{ρ:Env}{M:Mem}{g a:GE}{rest:GS}{kf:Fl->Mem->Prop}
section
variable{P:Nat->Option Df}(hp_:HasP0 P)(n:Nat){i j p B many:Nat}(hj:ρ[j]?.getD none=some (.cell p))(hg:g ρ M=.ok (nD many) M)(hp:aG M p B)(hB:B≤1000000)(h0:0<many)(h1:many≤10000000)
include hp_ hj hg hp hB h0 h1
theorem eU:ae (ah 31 (ag P (n+2)) #[aa j,g] ρ M) λd M'=>∃v:Nat,d=nD v/\v<many/\aG M' p (B+1)/\aT p M M':=by
 rw[bh (af (aE hj) (af hg rfl))];exact u9 hp_ n hp hB h0 h1
theorem fR (hk:∀(v:Nat) (M':Mem),v<many->aG M' p (B+1)->aT p M M'->ae (rest (ρ.set i (some (nD v))) M') kf):ae (bg (au (.one i) (ah 31 (ag P (n+2)) #[aa j,g])) rest ρ M) kf:=by
 refine c4 (eU hp_ n hj hg hp hB h0 h1) ?_;rintro x M' ⟨v,rfl,a,b,c⟩;exact hk v M' a b c
end
end
section
variable{ρ:Env}{M:Mem}{k:D->Mem->Prop}
def cF {e:GE}{K:Fl->Mem->Prop}(h:ae (e ρ M) λx M=>K (.ret x) M):ae (#v[az e] ρ M) K:=by
 simp only[ax,dJ];exact h
def zN {e:GE}{j v w:Nat}(he:e ρ M=.ok (nD v) M)(hj:ρ[j]?.getD none=some (nD w))(u:0<w):ai false .mod e (aa j) ρ M=.ok (nD (v % w)) M:=by
 unfold ai;rw[he];show(aa j ρ M).bind _=_;rw[aE hj];show(if (0:Int)<(w:Int) then Res.ok (D.int ((v:Int) % (w:Int))) M else .bad)=_;rw[if_pos `a]
 rfl
def qx {e f:GE}{v w:Nat}(he:e ρ M=.ok (nD v) M)(hf:f ρ M=.ok (nD w) M):ai false .add e f ρ M=.ok (nD (v+w)) M:=by
 unfold ai;rw[he];show(f ρ M).bind _=_;rw[hf];rfl
def Ia {e:GE}{v c:Nat}(he:e ρ M=.ok (nD v) M)(u:c≤v):ai false .sub e (gC (.int (c:Int))) ρ M=.ok (nD (v-c)) M:=by
 unfold ai;rw[he];show Res.ok (D.int ((v:Int)-(c:Int))) M=_;rw[<- Int.ofNat_sub u]
end
section
variable{P:Nat->Option Df}(h:HasP P){M:Mem}
include h
theorem yN (n:Nat){p B w:Nat}(hp:aG M p B)(hB:B≤900000)(w2:2≤w)(w4:w≤4):ae (ag P (n+3) 32 [.cell p,nD w] M) λd M'=>∃t,d=aw t/\fe w t/\aG M' p (B+7)/\aT p M M':=by
 have R:0<w:=Qg `d w2
 have X:w≤10000000:=Qf w4 (P5 rfl);refine aH h.law_tab rfl ?_;show ae (iM (ag P (n+2)) [some (.cell p),some (nD w),none,none,none,none] M) _;unfold iM;refine fR h n rfl rfl hp (Qf hB `d) `d `d λkind M1 hk p1 k1=>?_
 refine fR h n rfl rfl p1 (bd hB `d) R X λu M2 W p2 k2=>?_
 refine fR h n rfl rfl p2 (bd (k:=2) hB `d) R X λE O ho Y k3=>?_
 have Q:=(k1.trans k2).trans k3;have J:∀(l:List Nat) (M':Mem),fe w l->aG M' p (B+7)->aT p M M'->(l.map nD).length≤sz/\∃t,D.tup (l.map nD)=aw t/\fe w t/\aG M' p (B+7)/\aT p M M':=λl M' hl F H=>{aD (by rw[PK,hl.1];omega),l,rfl,hl,F,H}
 have S:aG O p (B+7):=Y.mono (xn (k:=3) `d)
 show ae (bg _ _ [some (.cell p),some (nD w),some (nD kind),some (nD u),some (nD E),none] O) _;refine b8 (xj rfl) (λ_=>?_) λ_=>?_
 ·simp only[ax,dJ,cX,bR,cJ,fh,fg,bp];refine{_,rfl,_,rfl,{`a,`a},?_}
  refine comp_map (λi I M'=>∃t:List Nat,I=t.map nD/\(∀x∈t,x<w)/\aG M' p (B+3+i)/\aT p M M') (aD `o) (λ_ _ _ _=>rfl) {[],rfl,(λ_ L=>nomatch L),Y,Q} ?_ ?_
  ·rintro i d I M' hd _ ⟨t,rfl,U,F,H⟩;have hi:i<w:=by
    have:=(PH.mp hd).1;simpa using this
   refine{_,rfl,aO (eU h n rfl rfl F `a R X) ?_}
   rintro _ M4 ⟨v,rfl,hv,p4,k4⟩;refine{t++[v],by rw[Qd];rfl,λx L=>?_,p4,H.trans k4}
   rcases Qs.mp L with z|z
   ·exact U x z
   ·rw[Qa.mp z];exact hv
  ·rintro I M' hl ⟨t,rfl,U,F,H⟩;simp only[PK,QP] at hl F;exact b3.mpr (J t M' ⟨hl,U⟩ (F.mono `a) H)
 refine b8 (jH rfl) (λ_=>?_) λ_=>?_
 ·simp only[ax,dJ,cX,bR,cJ,fh,fg,bp];refine{_,rfl,_,rfl,{`a,`a},?_}
  exact uh (λk=>(k+1+u) % w) `a (λk hk=>zN (qx (qx (aE rfl) rfl) (aE rfl)) rfl R) (b3.mpr (J _ O (u5 λk _=>Nat.mod_lt _ R) S Q))
 refine b8 (jH rfl) (λ_=>?_) λ_=>?_
 ·simp only[ax,dJ,cX,bR,cJ,fh,fg,bp];refine{_,rfl,_,rfl,{`a,`a},?_}
  refine uh (λk=>if k=u then E else k) `a (λk hk=>?_) (b3.mpr (J _ O (u5 λk hk=>by split<;>assumption) S Q))
  have e:(aj (av .eq (aa 0) (aa 4)):GT) [some (.int (k:Int)),some (.cell p),some (nD w),some (nD kind),some (nD u),some (nD E),none] O=.ok ((k:Int)==(u:Int)) O:=rfl;by_cases ck:k=u
  ·rw[if_pos ck];exact iW (k:=true) (e.trans (by rw[ck,beq_self_eq_true])) (λ_=>rfl) (λz=>nomatch z)
  ·rw[if_neg ck];exact iW (k:=false) (e.trans (by rw[Rb.mpr `a])) (λz=>nomatch z) (λ_=>rfl)
 refine b8 (jH rfl) (λ_=>cF ?_) λ_=>?_
 ·simp only[iL,f9,bR,cJ,bp];refine{_,rfl,aD (n:=1) `d,_,rfl,JB.mpr {{aD `o,`a,`a},List.replicate w u,?_,{RK,λx L=>by rw[List.eq_of_mem_replicate L];exact W},S,Q}}
  simp[aw,nD]
 ·simp only[ax,lQ,GJ,bp,j0,dJ,cX,bR,cJ,aX];simp;refine{`a,aD `a,u,dN W,E,dN ho,((List.range w).set u E).set E u,?_,{`s,λx L=>?_},S.app,Q.trans aT.app}
  ·simp[aw,nD,List.map_set]
  ·rcases List.mem_or_eq_of_mem_set L with z|rfl
   ·rcases List.mem_or_eq_of_mem_set z with y|rfl
    ·exact RI.mp y
    ·exact ho
   ·exact W
theorem BE (n:Nat){p B w pl:Nat}(hp:aG M p B)(hB:B≤800000)(w2:2≤w)(w4:w≤4)(p1:1≤pl)(p2:pl≤2):ae (ag P (n+4) 33 [.cell p,nD w,nD pl] M) λd M'=>∃e:aR,d=e.d/\bJ w pl e/\aG M' p (B+40)/\aT p M M':=by
 have X:pl≤10000000:=Qf p2 (P5 rfl);refine aH h.law_deed rfl ?_;show ae (ic (ag P (n+3)) [some (.cell p),some (nD w),some (nD pl),none,none,none,none] M) _;unfold ic;refine fR h (n+1) rfl rfl hp (Qf hB `d) `d `d λkind Y hk q1 k1=>?_
 refine c4 (k:=λd M'=>∃v:Nat,d=nD (1+v)/\v<3/\aG M' p (B+2)/\aT p Y M') ?_ ?_
 ·rw[iL];simp only[dW];refine aO (eU h (n+1) rfl rfl q1 (bd hB `d) `d `d) ?_
  rintro _ M2 ⟨v,rfl,J,q,kk⟩;exact pE.mpr {v,by show D.int (1+(v:Int))=D.int ((1+v:Nat):Int);rw[Int.natCast_add];rfl,J,q,kk}
 rintro _ M2 ⟨price,rfl,hc,q2,k2⟩;refine fR h (n+1) rfl rfl q2 (bd hB `d) p1 X λat_ M3 O q3 k3=>?_
 refine fR h (n+1) rfl rfl q3 (bd (k:=3) hB `d) p1 X λu F ho Q U=>?_
 have L:=((k1.trans k2).trans k3).trans U;have co:fE (1+price):={`a,`a}
 have W:aG F p (B+40):=Q.mono (xn (k:=4) `d)
 show ae (bg _ _ [some (.cell p),some (nD w),some (nD pl),some (nD kind),some (nD (1+price)),some (nD at_),some (nD u)] F) _;refine b8 (xj rfl) (λ_=>cF ?_) λ_=>?_
 ·simp only[f9,bR,cJ,dW,bp,As];refine{_,rfl,_,rfl,_,rfl,aO (yN h n Q (bd (k:=4) hB `d) w2 w4) λd M' ⟨t,e,I,y,E⟩=>{_,rfl,aD (n:=4) `d,.turn at_ t (1+price),?_,⟨O,I,co⟩,y.mono (xn (k:=11) `d),L.trans E}}
  subst e;rfl
 refine b8 (xj rfl) (λ_=>cF ?_) λ_=>?_
 ·obtain⟨o,eo,R⟩:∃o:Nat,gR (aj (av .eq (aa 3) (gI 3))) (ai false .mod (ai false .add (aa 5) (gI 1)) (aa 2)) (aa 6) [some (.cell p),some (nD w),some (nD pl),some (nD kind),some (nD (1+price)),some (nD at_),some (nD u)] F=.ok (nD o) F/\o<pl:=by
   have e:(aj (av .eq (aa 3) (gI 3)):GT) [some (.cell p),some (nD w),some (nD pl),some (nD kind),some (nD (1+price)),some (nD at_),some (nD u)] F=.ok ((kind:Int)==3) F:=jH rfl;cases q:(kind:Int)==3 with
   |true=>rw[q] at e;exact{(at_+1) % pl,iW e (λ_=>zN (qx (aE rfl) rfl) rfl p1) (λz=>nomatch z),Nat.mod_lt _ p1}
   |false=>rw[q] at e;exact{u,iW e (λz=>nomatch z) (λ_=>aE rfl),ho}
  simp only[f9,bR,cJ,dW,bp];refine{_,rfl,?_};rw[eo,aW];exact{_,rfl,aD (n:=4) `d,.move at_ o (1+price),rfl,⟨O,R,co⟩,W,L}
 refine b8 (jH rfl) (λ_=>cF ?_) λ_=>?_
 ·simp only[f9,bR,cJ,dW];show ae (ag P (n+3) 31 [.cell p,nD w] F) _;refine tk h (n+1) Q (bd (k:=4) hB `d) (Qg `d w2) (Qf w4 (P5 rfl)) λv M5 J q5 k5=>?_
  exact{aD (n:=4) `d,.put at_ v (1+price),rfl,⟨O,J,co⟩,q5.mono (xn (k:=5) `d),L.trans k5}
 ·simp only[ax,dJ,f9,bR,cJ,dW,cX,fh,fg,bp];refine{_,rfl,_,rfl,_,rfl,_,rfl,{`a,`a},?_}
  refine comp_map (λi H M'=>∃t:List (List Nat),H=t.map aw/\(∀x∈t,fe w x)/\aG M' p (B+4+i*7)/\aT p M M') (aD `o) (λ_ _ _ _=>rfl) {[],rfl,(λ_ S=>nomatch S),Q,L} ?_ ?_
  ·rintro i d H M' hd _ ⟨t,rfl,I,y,E⟩;have hi:i<w:=by
    have:=(PH.mp hd).1;simpa using this
   refine{_,rfl,?_};rw[bh (af (aE rfl) (af (aE rfl) rfl))];refine aO (yN h n y `a w2 w4) ?_
   rintro _ F ⟨v,rfl,J,p4,U⟩;refine{t++[v],by rw[Qd];rfl,λx S=>?_,p4.mono `a,E.trans U}
   rcases Qs.mp S with z|z
   ·exact I x z
   ·rw[Qa.mp z];exact J
  ·rintro H M' hl ⟨t,rfl,I,y,E⟩;simp only[PK,QP] at hl y;exact b3.mpr {aD (by rw[PK];omega),_,rfl,aD (n:=5) `d,.join at_ u t (1+price),rfl,{O,ho,⟨hl,I⟩,co},y.mono `a,E}
theorem wN (n:Nat){p B W Pl mo:Nat}(hp:aG M p B)(hB:B≤700000)(W2:2≤W)(W4:W≤4)(P1:1≤Pl)(P2:Pl≤2)(m1:1≤mo)(m6:mo≤6):ae (ag P (n+5) 34 [.cell p,nD W,nD Pl,nD mo] M) λd M'=>∃m:aK,d=m.d/\aJ m/\m.words≤W/\m.places≤Pl/\m.deeds.length≤mo/\aG M' p (B+300)/\aT p M M':=by
 refine aH h.law_machine rfl ?_;show ae (fL (ag P (n+4)) [some (.cell p),some (nD W),some (nD Pl),some (nD mo),none,none,none,none] M) _;unfold fL;have plus:∀{ρ:Env}{M:Mem}{g:GE}{B c many:Nat}{rest:GS}{K:Fl->Mem->Prop}{i:Nat},ρ[0]?.getD none=some (.cell p)->g ρ M=.ok (nD many) M->aG M p B->B≤1000000->0<many->many≤10000000->(∀(v:Nat) (M':Mem),v<many->aG M' p (B+1)->aT p M M'->ae (rest (ρ.set i (some (nD (c+v)))) M') K)->ae (bg (au (.one i) (ai false .add (gC (.int (c:Int))) (ah 31 (ag P (n+4)) #[aa 0,g]))) rest ρ M) K:=by
  intro ρ M g B c many rest K i e0 eg hp hB h0 h1 hk;refine c4 (k:=λd M'=>∃v:Nat,d=nD (c+v)/\v<many/\aG M' p (B+1)/\aT p M M') ?_ ?_
  ·rw[iL];simp only[dW];refine aO (eU h (n+2) e0 eg hp hB h0 h1) ?_;rintro _ M2 ⟨v,rfl,hv,q,kk⟩;exact pE.mpr {v,by show D.int ((c:Int)+(v:Int))=D.int ((c+v:Nat):Int);rw[Int.natCast_add],hv,q,kk}
  ·rintro _ M' ⟨v,rfl,a,b,c⟩;exact hk v M' a b c
 refine plus rfl (Ia (c:=1) (aE rfl) `a) hp (Qf hB `d) `a `a λw M1 hw q1 k1=>?_
 refine plus rfl (aE rfl) q1 (bd hB `d) P1 (Qf P2 (P5 rfl)) λpl M2 hpl q2 k2=>?_
 have pl2:=q2.lt;have K2:=k1.trans k2;have ML:=K2.len;have w2:2≤2+w:=Rt _ _;have w4:2+w≤4:=`a
 have l1:1≤1+pl:=Rt _ _;have l2:1+pl≤2:=`a
 generalize hW:2+w=w' at w2 w4;generalize hP:1+pl=p' at l1 l2;refine c4 (k:=λd M'=>d=.cell M2.length/\M'=M2++[[]]) ?_ ?_
 ·simp only[EA,cJ];exact mS.mpr {Rh _,rfl,rfl}
 rintro _ _ ⟨rfl,rfl⟩;show ae (bg _ _ [some (.cell p),some (nD w'),some (nD p'),some (nD mo),some (.cell M2.length),none,none,none] (M2++[[]])) _;simp only[ax,dM,fg,iL,dW];refine aO (eU h (n+2) rfl rfl q2.app (bd (k:=2) hB `d) m1 (Qf m6 (P5 rfl))) ?_
 rintro _ M3 ⟨many,rfl,hmany,q3,k3⟩;have e3:=k3.get (List.getElem?_concat_length) `a
 have K3:=K2.trans (aT.app.trans k3);generalize hq:M2.length=q at *;refine pE.mpr {_,rfl,{`a,`a},?_}
 rw[show(1+(many:Int)).toNat=1+many by omega]
 refine c5 (λi ρ M'=>∃ds:List aR,M'[q]?=some (ds.map aR.d)/\ds.length=i/\(∀d∈ds,bJ w' p' d)/\aG M' p (B+3+i*45)/\aT p M M'/\∃a b c,ρ=[some (.cell p),some (nD w'),some (nD p'),some (nD mo),some (.cell q),a,b,c])
  (λ_ _ _ _=>rfl) {[],e3,rfl,(λ_ hd=>nomatch hd),q3,K3,none,none,none,rfl} ?_ ?_
 ·rintro i d ρ M' hd ⟨ds,e4,hl,hds,q4,K4,a,b,c,rfl⟩;have hi:i<1+many:=by
   have:=(PH.mp hd).1;simpa using this
  have hi6:i≤5:=`a
  have hB4:B+3+i*45≤700228:=`a
  have hqM:=ML;have hpq:=pl2;refine{_,rfl,?_};refine fR h (n+2) rfl rfl q4 (Qf hB4 `d) `d `d λagain M5 ha q5 k5=>?_
  have e5:=k5.get e4 (QR hpq);refine c4 (k:=λd M'=>∃e:aR,d=e.d/\bJ w' p' e/\aG M' p (B+3+i*45+41)/\aT p M5 M') ?_ ?_
  ·rw[bh (af (aE rfl) (af (aE rfl) (af (aE rfl) rfl)))];exact aO (BE h n q5 (bd hB4 `d) w2 w4 l1 l2) λd M' ⟨e,a,b,c,d⟩=>⟨e,a,b,c,d⟩
  rintro _ M6 ⟨e,rfl,he,q6,k6⟩;have e6:=k6.get e5 (QR hpq);have K6:=(K4.trans k5).trans k6;have hsm:(ds.map aR.d).length<sz:=RH (show(ds.map aR.d).length≤50 by rw[PK,hl];omega) `d
  have fin:∀(e:aR) (M'':Mem) (x5 x6:Option D),bJ w' p' e->M''[q]?=some (ds.map aR.d)->aG M'' p (B+3+(i+1)*45)->aT p M M''->
   ae (#v[dz (aa 4) (aa 7)] [some (.cell p),some (nD w'),some (nD p'),some (nD mo),some (.cell q),x5,x6,some e.d] M'') λfl M'=>∃ρ',fl=.next ρ'/\∃ds:List aR,M'[q]?=some (ds.map aR.d)/\ds.length=i+1/\(∀d∈ds,bJ w' p' d)/\aG M' p (B+3+(i+1)*45)/\aT p M M'/\∃a b c,ρ'=[some (.cell p),some (nD w'),some (nD p'),some (nD mo),some (.cell q),a,b,c]:=by
   intro e M'' x5 x6 he e7 q7 K7;simp only[ax,Iq,bp];refine{_,rfl,_,rfl,q,ds.map aR.d,rfl,e7,hsm,_,rfl,ds++[e],?_,by rw[Qe,hl];rfl,λd hd=>?_,q7.setq hpq,K7.setq hqM,_,_,_,rfl}
   ·rw[Qj (PH.mp e7).1,Qd];rfl
   ·rcases Qs.mp hd with z|z
    ·exact hds d z
    ·rw[Qa.mp z];exact he
  show ae (bg _ _ [some (.cell p),some (nD w'),some (nD p'),some (nD mo),some (.cell q),some d,some (nD again),some e.d] M6) _;have en:(aj (av .ne (aa 4) (aU false bT)):GT) [some (.cell p),some (nD w'),some (nD p'),some (nD mo),some (.cell q),some d,some (nD again),some e.d] M6=.ok (!ds.isEmpty) M6:=by
   refine bO ?_;unfold av;show(bX M6 (bq .ne (.cell q) (.lst []) M6)).bind _=_;rw[ne_nil e6];rfl
  refine b8 (qw (jH rfl) en) (λcc=>?_) λ_=>fin e M6 _ _ he e6 (q6.mono `a) K6
  have hpos:0<ds.length:=by
   rw[PY] at cc;cases ds with
   |nil=>exact absurd cc.2 `d
   |cons _ _=>exact Nat.succ_pos _
  simp only[ax,lQ,iL,iK,ia,f9,bR,cJ,rZ,dW];have el:aC .len #[aa 4] [some (.cell p),some (nD w'),some (nD p'),some (nD mo),some (.cell q),some d,some (nD again),some e.d] M6=.ok (nD ds.length) M6:=by
   refine ao ?_;simp only[cX,bR,cJ,bp];exact{_,rfl,tR.mpr {_,e6,by rw[PK],rfl}}
  show ae (ah 31 (ag P (n+4)) #[aa 0,aC .len #[aa 4]] [some (.cell p),some (nD w'),some (nD p'),some (nD mo),some (.cell q),some d,some (nD again),some e.d] M6) _;refine aO (eU h (n+2) rfl el q6 (bd hB4 `d) hpos `a) ?_
  rintro _ M7 ⟨v,rfl,hv,q7,k7⟩;have e7:=k7.get e6 (QR hpq);refine{(ds.getD v e).d,?_,1,rfl,rfl,rfl,?_}
  ·show(M7[q]?).bind (λds=>(cg ds.length (v:Int)).bind λj=>ds[j]?)=_;rw[e7];show(cg (ds.map aR.d).length (v:Int)).bind (λj=>(ds.map aR.d)[j]?)=_;rw[dN (by rw[PK];exact hv)]
   simp[Rl,hv]
  ·refine aO (CK ?_) λx1 M3 hx=>{1,rfl,nD e.cost,jF,aD (n:=1) `d,hx}
   exact fin _ M7 _ _ (A6 (hds _ (getD_mem hv)) (wh he)) e7 (q7.mono `a) (K6.trans k7)
 ·rintro ρ M' ⟨ds,e4,hl,hds,q4,K4,a,b,c,rfl⟩;simp only[PK,QP] at hl q4;refine cF ?_;simp only[f9,bR,cJ,cX,bp];refine{_,rfl,_,rfl,_,rfl,wJ.mpr {_,e4,aD (n:=3) `d,⟨w',p',ds⟩,rfl,{w2,w4,l1,l2,?_,?_,hds},?_,?_,?_,q4.mono `a,K4}}
  ·show 1≤ds.length;omega
  ·show ds.length≤6;omega
  ·show w'≤W;omega
  ·show p'≤Pl;omega
  ·show ds.length≤mo;omega
omit h in
theorem Gu {g:GE}{ρ:Env}{l:List aR}(e:g ρ M=.ok (.tup (l.map aR.d)) M):aC .len #[g] ρ M=.ok (nD l.length) M:=by
 refine ao ?_;simp only[cX];rw[af e rfl,aW];exact{congrArg (λ(n:Nat)=>D.int n) (PK _),rfl}
theorem pL (h35:P 35=some {3,6,gW})(n:Nat){p B mo:Nat}{m:aK}(hm:aJ m)(hp:aG M p B)(hB:B≤700000)(O:mo≤40):ae (ag P (n+3) 35 [.cell p,m.d,nD mo] M) λd M'=>∃r:List Nat,d=.lst (r.map nD)/\ie m r/\r.length≤mo/\aG M' p (B+50)/\aT p M M':=by
 refine aH h35 rfl ?_;show ae (gW (ag P (n+2)) [some (.cell p),some m.d,some (nD mo),none,none,none] M) _;unfold gW;refine fR h n rfl rfl hp `a `d `d λkind J _ Y k1=>?_
 refine c4 (k:=λd M'=>∃v:Nat,d=nD v/\v≤mo/\aG M' p (B+2)/\aT p M M') ?_ ?_
 ·show ae (gR _ _ _ [some (.cell p),some m.d,some (nD mo),some (nD kind),none,none] J) _;have t0:(aj (av .eq (aa 3) (gI 0)):GT) [some (.cell p),some m.d,some (nD mo),some (nD kind),none,none] J=.ok ((kind:Int)==((0:Nat):Int)) J:=jH rfl;rw[My,t0,aW];split
  ·exact{mo,rfl,PV _,Y.mono `a,k1}
  ·refine aO (eU h n (many:=mo+1) rfl rfl Y `a (Nat.succ_pos _) `a) λd M' ⟨v,e,Q,a,b⟩=>{v,e,Nat.le_of_lt_succ Q,a,k1.trans b}
 intro x M2 R;show ae (bg _ _ [some (.cell p),some m.d,some (nD mo),some (nD kind),some x,none] M2) _;obtain⟨many,ex,F,q2,k2⟩:=R;rw[ex];clear ex;simp only[ax,lQ,fh,fg,bp];have S:=Qf F O;refine{_,rfl,_,rfl,{Int.le_trans `d (Int.natCast_nonneg _),Int.lt_of_le_of_lt (Int.ofNat_le.mpr S) `d},?_}
 rw[RU];refine comp_map (λi y M'=>∃t:List Nat,y=t.map nD/\(∀x∈t,x<m.deeds.length)/\aG M' p (B+2+i)/\aT p M M') (aD (by rw[PK,QP];omega)) (λ_ _ _ _=>rfl) {[],rfl,(λ_ z=>nomatch z),q2,k2} ?_ ?_
 ·rintro i d y M' hd _ ⟨t,rfl,I,u,E⟩;have W:i<many:=by
   have:=(PH.mp hd).1
   rwa [PK,QP] at this
  refine{_,rfl,?_};refine aO (eU h n rfl (Gu (bG (aE rfl) rfl JI)) u `a hm.d1 (by have:=hm.d6;omega)) ?_
  rintro _ U ⟨v,rfl,Q,p4,k4⟩;refine{t++[v],by rw[Qd];rfl,λx R=>?_,p4,E.trans k4}
  rcases Qs.mp R with z|z
  ·exact I x z
  ·rw[Qa.mp z];exact Q
 ·rintro y M' hl ⟨t,rfl,I,u,E⟩;rw[PK,PK,QP] at hl;rw[PK,QP] at u;have q3:=u.mono (show B+2+many≤B+50 by omega)
  have X:=E;have hl:=Nat.le_of_eq hl;refine b3.mpr {aD (by rw[PK];omega),?_}
  show ae (bg _ _ [some (.cell p),some m.d,some (nD mo),some (nD kind),some (nD many),some (.lst (t.map nD))] M') _;refine b8 (jH rfl) (λ_=>?_) λ_=>cP (aE rfl) {t,rfl,{`a,I},`a,q3,X}
  refine c4 (k:=λd U=>U=M'/\d=.lst ((((List.replicate many (t.take 2)).flatten).take many).map nD)) ?_ ?_
  ·have l2:((t.map nD).take 2).length≤2:=by rw[QY];exact Nat.min_le_left _ _
   simp only[iK,iL,bp,dW];refine{_,rfl,rfl,rfl,(sL (a:=2)).mpr {aD `a,_,rfl,JC.mpr {{?_,`a,`a},b3.mpr {?_,?_}}}}
   ·exact Qf (Nat.mul_le_mul l2 (show many≤40 by omega)) `d
   ·rw[RU,List.length_flatten,List.map_replicate,List.sum_replicate_nat];exact Qf (Nat.mul_le_mul (show many≤40 by omega) l2) `d
   ·refine{_,rfl,rfl,rfl,sL.mpr {aD (by rw[QY];exact Qf (Nat.min_le_left _ _) `a),rfl,?_}}
    rw[RU,List.map_take,List.map_flatten,List.map_replicate,List.map_take]
  rintro _ _ ⟨rfl,rfl⟩;have lm:(((List.replicate many (t.take 2)).flatten).take many).length≤many:=by rw[QY];exact Nat.min_le_left _ _
  refine fx.mpr (aX.mpr (cP (aE rfl) {_,rfl,{`a,λi W=>?_},`a,q3,X}))
  obtain⟨l,L,H⟩:=List.mem_flatten.mp (QS W);rw[(List.mem_replicate.mp L).2] at H;exact I i (QS H)
end
def FI {a b:Nat}:ae (cZ false (.frz xs) (.int a) (.int b) M) k↔(cut xs (min a xs.length) (min b xs.length)).length≤sz/\k (.lst (cut xs (min a xs.length) (min b xs.length))) M:=by
 show ae (match aQ xs.length 0 (.int a),aQ xs.length xs.length (.int b) with|some l,some h=>bb false (cut xs l h) M|_,_=>.bad) k↔_
 have e1:aQ xs.length 0 (.int a)=some (min a xs.length):=by
  show some _=_;rw[if_neg `a];simp
 have e2:aQ xs.length xs.length (.int b)=some (min b xs.length):=by
  show some _=_;rw[if_neg `a];simp
 rw[e1,e2];exact b3
def BG {b:Nat}:ae (cZ false (.frz xs) .non (.int b) M) k↔(cut xs 0 (min b xs.length)).length≤sz/\k (.lst (cut xs 0 (min b xs.length))) M:=by
 show ae (match aQ xs.length 0 D.non,aQ xs.length xs.length (.int b) with|some l,some h=>bb false (cut xs l h) M|_,_=>.bad) k↔_
 have e2:aQ xs.length xs.length (.int b)=some (min b xs.length):=by
  show some _=_;rw[if_neg `a];simp
 rw[e2];exact b3
def wg {j u:Type}(f:j->u)(l:List j)(a b:Nat):cut (l.map f) a b=(cut l a b).map f:=by simp[cut,List.map_take,List.map_drop]
def ql {j:Type}(l:List j)(a b:Nat):(cut l a b).length≤l.length:=by simp[cut];omega
section
variable{P:Nat->Option Df}(h:HasP0 P){M:Mem}
include h
theorem Fu (n:Nat){ns:List Int}(hn:ns.length≤63):ae (ag P (n+1) 29 [.frz (ns.map D.int)] []) λd M'=>d=.cell 1/\aG M' 1 0:=by
 refine aH h.law_open rfl ?_;simp[jV,eQ];refine(BG).mpr {?_,?_}
 ·exact aD (Qf (ql _ _ _) `o)
 simp only[Ce,mS];refine{aD (Qf (ql _ _ _) `o),(FI).mpr {aD (Qf (ql _ _ _) `o),rfl,?_}}
 rw[wg,wg];simp only[PK,List.length_nil,List.nil_append];have j:min 63 ns.length=ns.length:=`a
 rw[j];refine c5 (λi v M'=>∃l:List Int,M'=[l.map D.int]/\l.length=min 12 ns.length/\∃a b,v=[some (.frz (ns.map D.int)),some (.cell 0),a,b]) (λ_ _ _ _=>rfl) {cut ns 0 (min 12 ns.length),rfl,by simp[cut],none,none,rfl} ?_ ?_
 ·rintro i d v M' hd ⟨l,rfl,hl,a,b,rfl⟩;rw[ip,P6] at hd;cases e:(cut ns (min 12 ns.length) ns.length)[i]? with
  |none=>rw[e] at hd;cases hd
  | some x =>
    rw[e] at hd;have hd:=PQ hd;subst hd;have B:=(PH.mp e).1;have E:12<ns.length:=by
     by_cases c:12<ns.length
     ·exact c
     ·have:min 12 ns.length=ns.length:=`a
      rw[this] at B;simp[cut] at B
    have u:l.length=12:=`a
    have r1:=RN (i:Int) (show(12:Int)≠0 by decide)
    have r2:=RJ (i:Int) (show(0:Int)<12 by decide)
    obtain⟨y,z⟩:=qc r1 (by rw[u];exact r2)
    obtain⟨k,F⟩:∃k:Nat,(i:Int) % 12=(k:Int):={((i:Int) % 12).toNat,`a}
    refine{_,rfl,?_};simp;rw[F] at z ⊢;have hk:k<l.length:=`a
    refine{_,z,?_};refine{l.map D.int,rfl,k,?_,l.set k (y+x),?_,by simp[hl]}
    ·simpa using dN hk
    ·simp[List.map_set]
 ·rintro v M' ⟨l,rfl,hl,a,b,rfl⟩;simp;exact{`d,{0,l,0,0,rfl,rfl,`d,`d,`d,`d}}
end
abbrev bo:=List (List Nat)
def bD (b:bo):D:=.tup (b.map aw)
def bf (m:aK)(i:Nat)(b:bo):bo:=b.map (bV (cb m i))
def cst (m:aK)(i:Nat):Nat:=(cb m i).cost
inductive jm (m:aK):Nat->bo->Prop
 |start:jm m 0 (bz m)
 |step {q:Nat}{b:bo}{i:Nat}:jm m q b->i<m.deeds.length->jm m (q+cst m i) (bf m i b)
def bB (m:aK)(q:Nat)(b:bo):Prop:=jm m q b/\∀q'<q,¬ jm m q' b
section
variable{m:aK}{q q' p:Nat}{b:bo}
def fW (hm:aJ m)(hi:i<m.deeds.length):1≤cst m i/\cst m i≤3:=wh (gD hm hi)
def vd (h:jm m q b):(q=0/\b=bz m)\/∃i j,i<m.deeds.length/\cst m i≤q/\jm m (q-cst m i) j/\b=bf m i j:=by
 cases h with
 |start=>exact .inl ⟨rfl,rfl⟩
 | @step q b i h u=>exact .inr {i,b,u,Nat.le_add_left _ _,by rw[Nat.add_sub_cancel];exact h,rfl}
def sW (hm:aJ m)(h:jm m q b):b.length=(bz m).length/\∀s∈b,dR m s:=by
 induction h with
 |start=>exact⟨rfl,qt⟩
 | step _ u j =>
   refine{by unfold bf;rw[PK];exact j.1,λs hs=>?_}
   obtain⟨t,v,rfl⟩:=PZ.mp hs;exact qY (gD hm u) (j.2 t v)
def l7:∀{q:Nat},jm m q b->∃q',q'≤q/\bB m q' b:=by
 intro q;induction q using Nat.strongRecOn with
 | ind q j =>
   intro h;by_cases z:∃q',q'<q/\jm m q' b
   ·obtain⟨q',h1,h2⟩:=z;obtain⟨r,h3,h4⟩:=j q' h1 h2;exact{r,Qf h3 (RR h1),h4}
   ·exact{q,PV _,h,λq' h1 h2=>z ⟨q',h1,h2⟩}
def xl (h:bB m q b)(j:bB m q' b):q=q':=by
 rcases Nat.lt_trichotomy q q' with z|z|z
 ·exact absurd h.1 (j.2 q z)
 ·exact z
 ·exact absurd j.1 (h.2 q' z)
def gM (hm:aJ m):bB m 0 b↔b=bz m:=by
 constructor
 ·intro h;rcases vd h.1 with⟨_,e⟩|⟨i,u,j,v,_⟩
  ·exact e
  ·have:=(fW hm j).1;omega
 ·rintro rfl;exact{.start,λq' h=>absurd h (Q5 _)}
def gO (hm:aJ m)(E:0<p):bB m p b↔(∃i j,i<m.deeds.length/\cst m i≤p/\bB m (p-cst m i) j/\b=bf m i j)/\∀q<p,¬ bB m q b:=by
 constructor
 ·intro h;refine{?_,λq y z=>h.2 q y z.1};rcases vd h.1 with⟨e,_⟩|⟨i,j,u,v,h1,rfl⟩
  ·omega
  ·refine{i,j,u,v,?_,rfl};obtain⟨r,hr,hl⟩:=l7 h1;have h2:¬ r+cst m i<p:=λz=>h.2 _ z (.step hl.1 u);have e:r=p-cst m i:=`a
   rw[<- e];exact hl
 ·rintro⟨⟨i,j,u,v,h1,rfl⟩,h2⟩;refine{by have:=jm.step h1.1 u;rwa [Nat.sub_add_cancel v] at this,λq' B z=>?_}
  obtain⟨r,hr,hl⟩:=l7 z;exact h2 r `a hl
def xm (hm:aJ m)(B:0<p)(h:∀q,q<p->p≤q+3->∀b,¬ bB m q b):∀q,p≤q->∀b,¬ bB m q b:=by
 intro q;induction q using Nat.strongRecOn with
 | ind q v =>
   intro E b hl;obtain⟨⟨i,j,u,y,h1,_⟩,_⟩:=(gO hm `a).mp hl
   have c:=fW hm u;by_cases z:p≤q-cst m i
   ·exact v _ `a z j h1
   ·exact h _ `a `a j h1
noncomputable def zI {j u:Type}{f:j->u}:∀{l:List j},(l.map f).Nodup->l.Nodup
 |[],_=>.nil
 | a :: l, h => by
   rw[Q6,QI] at h;exact List.nodup_cons.mpr {λz=>h.1 (Qv z),zI h.2}
theorem len_sub {v:Type}[DecidableEq v]:∀{l l':List v},l.Nodup->(∀x∈l,x∈l')->l.length≤l'.length
 |[],_,_,_=>Rh _
 | a :: l, l', h, s => by
   have j:=s a Qm;have h1:=len_sub (QI.mp h).2 λx u=>by
    have ne:x≠a:=λe=>(QI.mp h).1 (by rw[<- e];exact u)
    exact(List.mem_erase_of_ne ne).mpr (s x (Qc _ u))
   rw[List.length_erase_of_mem j] at h1;have h2:=List.length_pos_of_mem j;rw[RG];omega
structure cv (m:aK) (p:Nat) (l:List (bo×Nat)):Prop where
 nd:(l.map (·.1)).Nodup
 sound:∀x∈l,bB m x.2 x.1/\x.2<p
 all:∀q b,q<p->bB m q b->(b,q)∈l
def jX (m:aK)(p:Nat):Prop:=∃l:List (bo×Nat),(l.map (·.1)).Nodup/\(∀x∈l,bB m x.2 x.1/\x.2<p)/\255<l.length
def cv.mono (h:cv m p l)(u:p≤q)(he:∀k b,p≤k->k<q->¬ bB m k b):cv m q l:=
 {h.nd,λx j=>{(h.sound x j).1,Qg (h.sound x j).2 u},λk b hk hl=>by
  by_cases z:k<p
  ·exact h.all k b z hl
  ·exact absurd hl (he k b `a hk)}
end
def Sub.keep (h:Sub M M'):aT p M M':={h.len,λk hk _=>h.at' k hk}
def Sub.pen (h:Sub M M')(u:aG M p B):aG M' p B:=by
 obtain⟨c,j,a,st,e1,e2,r⟩:=u.ex;exact{c,j,a,st,h.get e1,h.get e2,r}
noncomputable def AK:∀l:List Nat,dA (l.map nD) (l.map nD)=true
 |[]=>rfl
 | i :: l => by
   show(bW (nD i) (nD i)&&dA (l.map nD) (l.map nD))=true;rw[AK l];simp[nD,Nc]
def Hh (l:List Nat):bW (aw l) (aw l)=true:=AK l
def BS (n:Nat)(l:List Nat):ak (n+1) (aw l)=true:=by
 show(l.map nD).all (ak n)=true;rw[Qh];intro x j;obtain⟨i,_,rfl⟩:=PZ.mp j;cases n<;>rfl
def qN (n:Nat)(l:List (List Nat)):(l.map aw).all (ak (n+1))=true:=by
 rw[Qh];intro x j;obtain⟨i,_,rfl⟩:=PZ.mp j;exact BS n i
def mw (a b:List Nat):aY m (a++b)=aY m a+aY m b:=by simp[aY]
structure HasB (P:Nat->Option Df):Prop where
 after:P 41=some {2,4,jj}
 begins:P 42=some {1,1,iC}
structure xZ (P:Nat->Option Df):Prop where
 same:P 40=some {2,2,ib}
noncomputable def qy:∀ds:List D,iy ds ds=ds.map λd=>.tup [d,d]
 |[]=>rfl
 |d::r=>by simp[iy,qy r]
def w9 {ds:List D}:bq .notin (.bl false) (.lst (ds.map λ_=>.bl true)) M=some true:=by
 show(oY (.bl false) (ds.map λ_=>.bl true)).map (!·)=_;unfold oY;rw[if_pos]
 ·have:(ds.map λ_=>D.bl true).any (λy=>bW y (.bl false))=false:=by
   rw[List.any_eq_false];intro x j;obtain⟨_,_,rfl⟩:=PZ.mp j;exact Qr
  rw[this];rfl
 ·simp[ak]
@[simp] theorem Cd:ae (dP (.list m) [.tup ds] M) k↔ae (bb m ds M) k:=Q8
def cQ (e:lK (.str x) (.str y)=some b)(M:Mem):bq .eq (.str x) (.str y) M=some b:=by
 show jI M (.str x) (.str y)=some b;unfold jI;rw[show lK (view M (.str x)) (view M (.str y))=some b from e]
def xC (hd:bJ m.words m.places d)(hs:dR m s):bV d s=s.set d.at' (d3 d s):=by
 have a0:=r9 hd;rw[List.set_eq_take_append_cons_drop,if_pos (by rw[hs.1];exact a0)]
 simp[bV]
def dZ (u:ρ[0]?=some (some D0))(j:b9 D0 (.int 0) M=some (.str nm))(c:bq .eq (.str nm) (.str w) M=some false)(h:ae (rest ρ M) k):ae (bg (aN (aj (av .eq (aq (aa 0) (gI 0)) (gC (.str w)))) A ay) rest ρ M) k:=by
 simp[u,j,c,h]
def mM (u:ρ[0]?=some (some D0))(j:b9 D0 (.int 0) M=some (.str nm))(c:bq .eq (.str nm) (.str w) M=some true)(h:ae (A ρ M) (gA rest k)):ae (bg (aN (aj (av .eq (aq (aa 0) (gI 0)) (gC (.str w)))) A ay) rest ρ M) k:=by
 simp[u,j,c,h]
def sP (c:Call):GS:=#v[aN (aj (av .ne (aC .len #[aa 0]) (aC .len #[aa 1]))) rF ay,az (av .notin J4 (bI false 2 (.tup [0,1]) (m7 (aa 0) (aa 1)) (bH (ah 40 c #[aa 0,aa 1]))))]
section
variable{P:Nat->Option Df}(h:xZ P){M:Mem}
include h
theorem yR (n:Nat)(i:Nat):ag P (n+1) 40 [nD i,nD i] M=.ok (.bl true) M:=by
 refine ao (aH h.same rfl ?_);show ae (ib (ag P n) [some (nD i),some (nD i)] M) _;exact bS rfl (bS rfl (Gy rfl (v:=.bl ((i:Int)==(i:Int))) rfl {`s,rfl}))
theorem ze (n:Nat)(j:bU M x=some ds)(u:bU M y=some ds)(hz:ds.length≤sz)(hs:∀d∈ds,ag P n 40 [d,d] M=.ok (.bl true) M)(hk:kl (ds.map λ_=>.bl true) M) :
 ae (cT (cU (.tup [0,1]) (bH (ah 40 (ag P n) #[aa 0,aa 1])) (none::none::ρ)) (oE x y) [] M) kl:=by
 refine fA (ds:=ds.map λd=>.tup [d,d]) (λ_=>.bl true) (by simpa using hz) ?_ ?_ ?_
 ·simp[oE,j,u,qy]
 ·intro d hd;obtain⟨e,he,rfl⟩:=PZ.mp hd;refine{_,rfl,?_};refine ao ?_;simp;rw[hs e he];exact⟨rfl,rfl⟩
 ·simpa[R4] using hk
theorem BJ (n:Nat)(j:bU M x=some ds)(u:bU M y=some ds)(lx:dP .len [x] M=.ok (.int ds.length) M)(v:dP .len [y] M=.ok (.int ds.length) M)(z:dj x=true)(B:dj y=true)(hz:ds.length≤sz)(hs:∀d∈ds,ag P n 40 [d,d] M=.ok (.bl true) M) :
 ae (sP (ag P n) [some x,some y] M) (mq λd M'=>d=.bl true/\M'=M):=by
 simp[sP,lx,v,z,B];exact ze h n j u hz hs {by simpa using hz,w9,rfl}
theorem yQ (n:Nat)(j:bu M x r)(u:bu M y r)(hz:r.length≤100000):ag P (n+2) 40 [x,y] M=.ok (.bl true) M:=by
 refine ao (aH h.same rfl ?_);show ae (ib (ag P (n+1)) [some x,some y] M) _;have l:∀{z:D},bu M z r->dP .len [z] M=.ok (.int (r.map nD).length) M:=λhz=>ao (hz.len.mpr {by rw[PK],rfl})
 have z:=BJ h (n+1) j.seq u.seq (l j) (l u) j.is.1 u.is.1 (aD `o) λd hd=>by obtain⟨i,_,rfl⟩:=PZ.mp hd;exact yR h n i
 rcases j with rfl|⟨q,rfl,e⟩<;>rcases u with rfl|⟨B,rfl,v⟩<;>exact bS rfl (bS rfl (bS rfl (bS rfl (bS rfl z))))
end
section
variable{P:Nat->Option Df}(h:HasB P){M:Mem}
include h
set_option maxHeartbeats 2000000 in
theorem iN (n:Nat)(ha:a<s.length)(hz:s.length≤100)(j:∀M,b9 D0 (.int 0) M=some (.str nm))(e1:∀M,b9 D0 (.int 1) M=some (nD a))
 (I E F H:Bool) (U:∀M,bq .eq (.str nm) (.str "turn") M=some I) (O:∀M,bq .eq (.str nm) (.str "join") M=some E) (Q:∀M,bq .eq (.str nm) (.str "move") M=some F) (R:∀M,bq .eq (.str nm) (.str "put") M=some H)
 (hb:(I=true/\E=false/\F=false/\H=false/\∀M,∃t,b9 D0 (.int 2) M=some t/\b9 t (nD (s.getD a 0)) M=some (nD v))
  \/(I=false/\E=true/\F=false/\H=false/\∀M,∃t u o,b9 D0 (.int 3) M=some t/\b9 t (nD (s.getD a 0)) M=some u/\b9 D0 (.int 2) M=some (nD o)/\o<s.length/\b9 u (nD (s.getD o 0)) M=some (nD v))
  \/(I=false/\E=false/\F=true/\H=false/\∀M,∃o,b9 D0 (.int 2) M=some (nD o)/\o<s.length/\v=s.getD o 0)
  \/(I=false/\E=false/\F=false/\H=true/\∀M,b9 D0 (.int 2) M=some (nD v))) :
 ag P (n+1) 41 [D0,aw s] M=.ok (aw (s.set a v)) (M++[(s.set a v).map nD]):=by
 refine ao (aH h.after rfl ?_);have S:∀M i,i<s.length->b9 (aw s) (nD i) M=some (nD (s.getD i 0)):=λM i hi=>gQ hi;have T:ae (dP (.list true) [aw s] M) (λx L=>x=.cell M.length/\L=M++[s.map nD]):=by
  show ae (dP (.list true) [.tup (s.map nD)] M) _;rw[Cd,mS];exact{aD `o,rfl,rfl}
 simp only[jj,ax,lQ,cX,ia,dW,bR,cJ,bp,Q6,List.map_nil,List.cons_append,List.nil_append,List.getElem?_cons_zero,List.getElem?_cons_succ,Option.getD_some,Option.some.injEq,exists_eq_left',aX];refine aO T λx L hx=>?_;obtain⟨rfl,rfl⟩:=hx;have q:=S (M++[s.map nD]) a ha;refine{_,rfl,_,rfl,_,e1 _,_,q,?_};have y:∀ρ:Env,ρ[2]?=some (some (.cell M.length))->ae (#v[az (aC .tuple #[aa 2])] ρ ((M++[s.map nD]).set M.length ((s.map nD).set a (nD v)))) (mq λx L=>x=aw (s.set a v)/\L=M++[(s.set a v).map nD]):=λρ Y=>by
  simp[Y];simp[aw,List.map_set]
 have W:(M++[s.map nD])[M.length]?=some (s.map nD):=`s
 have X:cg (s.map nD).length (a:Int)=some a:=dN (by simpa using ha)
 rcases hb with⟨rfl,rfl,rfl,rfl,z⟩|⟨rfl,rfl,rfl,rfl,z⟩|⟨rfl,rfl,rfl,rfl,z⟩|⟨rfl,rfl,rfl,rfl,z⟩
 ·obtain⟨t,B,J⟩:=z (M++[s.map nD]);refine ax.mp (mM rfl (j _) (U _) ?_);simp only[ax,j0,ia,bp,dW];refine{_,rfl,_,B,_,rfl,_,J,_,rfl,_,rfl,_,e1 _,_,_,_,_,rfl,rfl,W,X,?_};exact dZ rfl (j _) (O _) (dZ rfl (j _) (Q _) (dZ rfl (j _) (R _) (y _ rfl)))
 ·obtain⟨t,u,o,B,J,v3,v4,v5⟩:=z (M++[s.map nD]);refine ax.mp (dZ rfl (j _) (U _) (mM rfl (j _) (O _) ?_));simp only[ax,j0,ia,bp,dW];refine{_,rfl,_,B,_,rfl,_,J,_,rfl,_,rfl,_,v3,_,S _ _ v4,_,v5,_,rfl,_,rfl,_,e1 _,_,_,_,_,rfl,rfl,W,X,?_};exact dZ rfl (j _) (Q _) (dZ rfl (j _) (R _) (y _ rfl))
 ·obtain⟨o,B,J,v3⟩:=z (M++[s.map nD]);subst v3;refine ax.mp (dZ rfl (j _) (U _) (dZ rfl (j _) (O _) (mM rfl (j _) (Q _) ?_)));simp only[ax,j0,ia,bp,dW];refine{_,rfl,_,rfl,_,B,_,S _ _ J,_,rfl,_,rfl,_,e1 _,_,_,_,_,rfl,rfl,W,X,?_};exact dZ rfl (j _) (R _) (y _ rfl)
 ·have B:=z (M++[s.map nD]);refine ax.mp (dZ rfl (j _) (U _) (dZ rfl (j _) (O _) (dZ rfl (j _) (Q _) (mM rfl (j _) (R _) ?_))));simp only[ax,j0,ia,bp,dW];refine{_,rfl,_,B,_,rfl,_,rfl,_,e1 _,_,_,_,_,rfl,rfl,W,X,?_};exact y [some D0,some (aw s),some (.cell M.length),some (nD (s.getD a 0))] rfl
theorem sI (n:Nat)(hm:aJ m)(hd:bJ m.words m.places d)(hs:dR m s):ag P (n+1) 41 [d.d,aw s] M=.ok (aw (bV d s)) (M++[(bV d s).map nD]):=by
 rw[xC hd hs];have l0:=hs.1;have p2:=hm.p2;have g:∀i,i<m.places->s.getD i 0<m.words:=λi u=>hs.2 _ (getD_mem `a)
 have a0:=r9 hd;have j:d.at'<s.length:=`a
 cases d with
 |turn a t c=>exact iN h n j `a (λ_=>rfl) (λ_=>rfl) true false false false (cQ `k) (cQ `k) (cQ `k) (cQ `k) (.inl {rfl,rfl,rfl,rfl,λM=>{aw t,rfl,gQ (by rw[hd.2.1.1];exact g _ hd.1)}})
 | join a o t c =>
   refine iN h n j `a (λ_=>rfl) (λ_=>rfl) false true false false (cQ `k) (cQ `k) (cQ `k) (cQ `k) (.inr (.inl {rfl,rfl,rfl,rfl,λM=>{.tup (t.map aw),aw (t.getD (s.getD a 0) []),o,rfl,Ak (by rw[hd.2.2.1.1];exact g _ hd.1),rfl,by rw[l0];exact hd.2.1,gQ ?_}}))
   rw[(hd.2.2.1.2 _ (getD_mem (by rw[hd.2.2.1.1];exact g _ hd.1))).1]
   exact g _ hd.2.1
 |move a o c=>exact iN h n j `a (λ_=>rfl) (λ_=>rfl) false false true false (cQ `k) (cQ `k) (cQ `k) (cQ `k) (.inr (.inr (.inl {rfl,rfl,rfl,rfl,λM=>{o,rfl,by rw[l0];exact hd.2.1,rfl}})))
 |put a x c=>exact iN h n j `a (λ_=>rfl) (λ_=>rfl) false false false true (cQ `k) (cQ `k) (cQ `k) (cQ `k) (.inr (.inr (.inr {rfl,rfl,rfl,rfl,λM=>rfl})))
theorem qH (n:Nat)(hm:aJ m):ag P (n+1) 42 [m.d] M=.ok (.lst ((bz m).map aw)) M:=by
 refine ao (aH h.begins rfl ?_);simp[iC];have p1:=hm.p1;have p2:=hm.p2;have w2:=hm.w2;have w4:=hm.w4;refine{_,rfl,?_};have F:m.places=1\/m.places=2:=`a
 have z:m.words=2\/m.words=3\/m.words=4:=`a
 rcases F with u|u
 ·refine .inr {by rw[u];rfl,_,rfl,_,rfl,`a,?_}
  refine fA (ds:=(List.range m.words).map λ(k:Nat)=>D.int (k:Int)) (λd=>.tup [d]) (aD `o) `s (λd hd=>{_,rfl,ao (by simp;exact aD `a)}) {aD `o,?_,rfl}
  unfold bz;rw[u];rcases z with e|e|e<;>rw[e]<;>rfl
 ·refine .inl {by rw[u];rfl,_,rfl,_,rfl,?_}
  simp;refine{`a,?_}
  have B:((m.words:Int)*(m.words:Int)).toNat=m.words*m.words:=by rw[<- Int.natCast_mul];rfl
  have H:=Nat.mul_le_mul w4 w4;rw[B];refine{{by rw[<- Int.natCast_mul];omega,by rw[<- Int.natCast_mul];omega},?_}
  have y:∀k:Nat,(ba #[ai false nI.fdiv (aa 0) (aq (aa 1) (gC (D.int 0))),ai false nI.mod (aa 0) (aq (aa 1) (gC (D.int 0)))]) [some (nD k),some m.d] M=.ok (aw [k / m.words,k % m.words]) M:=by
   intro k;refine ao ?_;simp;refine{_,rfl,?_};simp;refine{`a,_,rfl,?_}
   simp;exact{`a,aD `a,rfl}
  refine comp_map (λi j v=>v=M/\j=((List.range (m.words*m.words)).take i).map λk=>aw [k / m.words,k % m.words]) (aD (by simpa using by omega)) (λ_ _ _ _=>rfl) ⟨rfl,rfl⟩ ?_ ?_
  ·rintro i d j v hd _ ⟨rfl,rfl⟩;have E:=(PH.mp hd).1;simp at E;have:d=nD i:=by
    rw[P6,List.getElem?_range `a] at hd
    exact(PQ hd).symm
   subst this;refine{_,rfl,?_};rw[show List.set [none,some m.d] 0 (some (nD i))=[some (nD i),some m.d] from rfl,y i];refine{rfl,?_};rw[Q1,List.getElem?_range `a]
   simp
  ·rintro j v _ ⟨rfl,rfl⟩;simp;refine{aD `a,?_}
   unfold bz;rw[u];rcases z with e|e|e<;>rw[e]<;>rfl
end
section
variable{ρ:Env}{M:Mem}{a b d:GE}{k:D->Mem->Prop}{kw:Walk->Mem->Prop}{kf:Fl->Mem->Prop}
@[simp] theorem Po:ae (IC m (.lst xs) M) k↔ae (bb m xs.reverse M) k:=Q8
@[simp] theorem Pn:ae (IC m (.tup xs) M) k↔k (.tup xs.reverse) M:=Q8
def vY (I:Nat->Env->Mem->Prop)(R:D->Mem->Prop)(B:∀i ρ M,I i ρ M->w M=some ds)(v:∀d M,R d M->w M=some ds)(z:I 0 ρ M)
 (hs:∀i d ρ M,ds[i]?=some d->I i ρ M->∃ρ1,b6 t d ρ=some ρ1/\ae (gb ρ1 M) λfl M=>(∃ρ',fl=.next ρ'/\I (i+1) ρ' M)\/∃d,fl=.ret d/\R d M) (hk:∀ρ M,I ds.length ρ M->kf (.next ρ) M) (hr:∀d M,R d M->kf (.ret d) M) :
 ae (cT (f6 t gb) w (.next ρ) M) kf:=by
 refine fw (λi fl M=>(∃ρ,fl=.next ρ/\I i ρ M)\/∃d,fl=.ret d/\R d M) (λi fl M h=>h.elim (λ⟨ρ,_,h⟩=>B i ρ M h) λ⟨d,_,h⟩=>v d M h) (.inl ⟨ρ,rfl,z⟩) ?_ ?_
 ·rintro i d fl M hd (⟨ρ,rfl,j⟩|⟨y,rfl,u⟩)
  ·obtain⟨ρ1,e,h⟩:=hs i d ρ M hd j;simp only[f6,aZ,gG,e];exact⟨ρ1,rfl,h⟩
  ·exact .inr ⟨y,rfl,u⟩
 ·rintro fl M (⟨ρ,rfl,j⟩|⟨d,rfl,u⟩)
  ·exact hk ρ M j
  ·exact hr d M u
end
def K8 (i j:Nat):bW (nD i) (nD j)=decide (i=j):=by
 show((i:Int)==(j:Int))=_;rw[Ra];simp;omega
noncomputable def pA:∀l r:List Nat,dA (l.map nD) (r.map nD)=decide (l=r)
 |[],[]=>rfl
 |[],_::_=>rfl
 |_::_,[]=>rfl
 | i :: l, j :: r => by
   show(bW (nD i) (nD j)&&dA (l.map nD) (r.map nD))=_;rw[K8,pA l r,Ra];simp
def uD (l r:List Nat):bW (aw l) (aw r)=decide (l=r):=pA l r
noncomputable def uC:∀l r:List (List Nat),dA (l.map aw) (r.map aw)=decide (l=r)
 |[],[]=>rfl
 |[],_::_=>rfl
 |_::_,[]=>rfl
 | i :: l, j :: r => by
   show(bW (aw i) (aw j)&&dA (l.map aw) (r.map aw))=_;rw[uD,uC l r,Ra];simp
def nP (n:Nat)(l:List Nat):ak (n+1) (.lst (l.map nD))=true:=by
 show(l.map nD).all (ak n)=true;rw[Qh];intro x j;obtain⟨i,_,rfl⟩:=PZ.mp j;cases n<;>rfl
def AI {l r:List (List Nat)}:bq .ne (.tup (l.map aw)) (.tup (r.map aw)) M=some (!decide (l=r)):=nj (qN 62 l) (qN 62 r) (uC l r)
def ends (m:aK)(r:List Nat):List (List Nat):=(bz m).map (gn m r)
section
variable{P:Nat->Option Df}(h:HasB P){M:Mem}
include h
theorem jR (he:P 44=some {2,5,eI})(n:Nat)(H:bu M x r)(hm:aJ m)(hr:∀i∈r,i<m.deeds.length):ae (ag P (n+2) 44 [m.d,x] M) λd M'=>d=.tup ((ends m r).map aw)/\Sub M M':=by
 have U:=qH h n (M:=M++[[]]) hm;have bl:=jf hm;refine aH he rfl ?_;simp[eI,U];refine{rfl,?_};generalize R:M.length=q;refine c5 (λi ρ M'=>M'[q]?=some (((bz m).take i).map λs=>aw (gn m r s))/\Sub M M'/\q<M'.length/\∃Q y,ρ=[some m.d,some x,some (.cell q),Q,y]) (λ_ _ _ _=>rfl) {by subst R;simp,Sub.app,by subst R;simp,none,none,rfl} ?_ ?_
 ·rintro i d ρ M' hd ⟨E,I,B,Q,y,rfl⟩;rw[P6] at hd;cases e:(bz m)[i]? with
  |none=>rw[e] at hd;cases hd
  | some s =>
    rw[e] at hd;cases PQ hd;have hs:=qt s (Qb e);refine{_,rfl,?_};simp[H.is];refine c5 (λj ρ v=>v[q]?=some (((bz m).take i).map λs=>aw (gn m r s))/\Sub M v/\q<v.length/\∃y,ρ=[some m.d,some x,some (.cell q),some (aw (gn m (r.take j) s)),y]) (λ_ _ _ e=>(H.sub e.2.1).seq) ⟨E,I,B,y,rfl⟩ ?_ ?_
    ·rintro j X ρ v z ⟨L,J,u,W,rfl⟩;rw[P6] at z;cases F:r[j]? with
     |none=>rw[F] at z;cases z
     | some k =>
       rw[F] at z;cases PQ z;have hk:=hr k (Qb F);have O:dR m (gn m (r.take j) s):=v9 hm (λx H=>hr x (QS H)) hs;have S:=sI h n (M:=v) hm (gD hm hk) O;refine{_,rfl,?_};simp[-iX,JI,og hk,S];exact{by rw[PU u,L,List.map_take],J.trans Sub.app,`a,by rw[Q1,F];simp[oq,gn]}
    ·rintro ρ v ⟨L,J,u,W,rfl⟩;simp[L];exact{RH (show _≤50 by omega) `d,by rw[Qj u,Q1];simp[e],J.setq `a,u}
 ·rintro ρ M' ⟨E,I,B,Q,y,rfl⟩;rw[PK,List.take_length] at E;simp[E,ends,R4,I]
end
noncomputable def n9:∀s:List Nat,intsOf (s.map nD)=some (s.map λ(n:Nat)=>(n:Int))
 |[]=>rfl
 |a::s=>by show(intsOf (s.map nD)).map _=_;rw[n9 s];rfl
def vL (s:List Nat):isKey 77 (aw s)=true:=by
 show(intsOf (s.map nD)).isSome=true;rw[n9];rfl
noncomputable def Ab:∀b:bo,jz (b.map aw)=some (b.map λs=>s.map λ(n:Nat)=>(n:Int))
 |[]=>rfl
 | s :: b => by
   show((intsOf (s.map nD)).bind λk=>(jz (b.map aw)).map (k::·))=_;rw[n9,Ab b];rfl
def kU (b:bo):isKey 78 (bD b)=true:=by
 show(jz (b.map aw)).isSome=true;rw[Ab];rfl
def EI (a b:bo):bW (bD a) (bD b)=decide (a=b):=uC a b
section
variable{ρ:Env}{M:Mem}{a b:GE}{k:D->Mem->Prop}
def iq {c:Int}(e:M[j]?=some (.int c::es))(h:c=77\/c=78):cS M (aI j)=some (c,es):=by
 unfold cS;rw[if_pos (show 5000≤aI j from Rt _ _),show aI j-5000=j from QE _ _,e];exact if_pos h
def kS {h:Type}(f g:h->D)(l:List h)(x:D):cV (l.map λy=>.tup [f y,g y]) x=(l.find? λy=>bW (f y) x).map g:=by
 unfold cV;rw[List.find?_map,Option.map_map];rfl
def t7 {x:D}{o:Nat}{y d:D}(h:a ρ M=.ok (.fn o) M)(u:b ρ M=.ok y M)(e:getD M o y=some d):fK a b ρ M=.ok d M:=by
 unfold fK;rw[h];show(b ρ M).bind _=_;rw[u];show bX M (getD M o y)=_;rw[e];rfl
end
def ee (m:aK)(d:aR):List D:=.int 77::(bz m).map λs=>.tup [aw s,aw (bV d s)]
section
variable{P:Nat->Option Df}{M:Mem}{m:aK}{d:aR}{j:Nat}
def n4 (e:M[j]?=some (ee m d))(hm:aJ m)(hs:dR m s):getD M (aI j) (aw s)=some (aw (bV d s)):=by
 unfold getD;rw[iq e (.inl rfl)];show(if isKey 77 (aw s)=true then cV ((bz m).map λs=>.tup [aw s,aw (bV d s)]) (aw s) else none)=_;rw[if_pos (vL s),kS aw λs=>aw (bV d s)];have e2:((bz m).find? λy=>bW (aw y) (aw s))=some s:=by
  cases h:(bz m).find? λy=>bW (aw y) (aw s) with
  |none=>exact absurd (Hh s) (List.find?_eq_none.mp h s (CU hm hs))
  | some y =>
    have:=List.find?_some h;rw[uD] at this;rw[of_decide_eq_true this]
 rw[e2];rfl
def yX (h152:P 152=some {2,2,dQ})(n:Nat)(e:M[j]?=some (ee m d))(hm:aJ m)(hl:b.length≤16)(h:∀s∈b,dR m s):ag P (n+1) 152 [.fn (aI j),bD b] M=.ok (bD (b.map (bV d))) M:=by
 refine ao (aH h152 rfl ?_);simp only[dQ,ax,dJ,cX,bR,fh,cJ,f5,bp];refine{_,rfl,rfl,?_};refine fA (λx=>(getD M (aI j) x).getD .non) (aD `o) rfl ?_ ?_
 ·intro x u;obtain⟨s,hs,rfl⟩:=PZ.mp u;refine{_,rfl,?_};rw[n4 e hm (h s hs)];exact t7 (x:=.non) rfl rfl (n4 e hm (h s hs))
 ·have e2:(b.map aw).map (λx=>(getD M (aI j) x).getD .non)=(b.map (bV d)).map aw:=by
   rw[QO,QO];refine Rp λs hs=>?_;show(getD M (aI j) (aw s)).getD .non=_;rw[n4 e hm (h s hs)];rfl
  rw[e2];exact b3.mpr {aD `o,rfl,rfl}
end
theorem vt {u F:Type}{f:u->List F}:∀{l:List u},l.Nodup->(∀a,(f a).Nodup)->(∀a b x,a≠b->x∈f a->x∉f b)->(l.flatMap f).Nodup
 |[],_,_,_=>`s
 | a :: l, h, h1, h2 => by
   rw[List.flatMap_cons,Rk];rw[QI] at h;refine{h1 a,vt h.2 h1 h2,λx B y E e=>?_};subst e;obtain⟨b,v,j⟩:=List.mem_flatMap.mp E;exact h2 a b x (λz=>h.1 (z ▸ v)) B j
noncomputable def vq (s:List Nat):∀{l:List Nat},l.Nodup->(l.map λx=>s++[x]).Nodup
 |[],_=>`s
 | a :: l, h => by
   rw[QI] at h;rw[Q6,QI];refine{λz=>?_,vq s h.2};obtain⟨b,j,e⟩:=PZ.mp z;have e:b=a:=by simpa using e
   exact h.1 (e ▸ j)
noncomputable def uF (w:Nat):∀p,(dr w p).Nodup
 |0=>by unfold dr;simp
 | p + 1 => by
   unfold dr qi;refine vt (uF w p) (λs=>vq s List.nodup_range) λa b x h u v=>?_;obtain⟨i,_,rfl⟩:=PZ.mp u;obtain⟨j,_,e⟩:=PZ.mp v;exact h (List.append_inj_left' e rfl).symm
def oS {v:Type}{l:List v}(h:l.Nodup){i j:Nat}{x:v}(u:i<j)(hi:l[i]?=some x)(y:l[j]?=some x):False:=by
 obtain⟨h1,e1⟩:=PH.mp hi;obtain⟨h2,e2⟩:=PH.mp y;exact List.pairwise_iff_getElem.mp h i j h1 h2 u (e1.trans e2.symm)
section
variable{ρ:Env}{M:Mem}{k:D->Mem->Prop}{kl:List D->Mem->Prop}
def GK {c:Int}(h:ae (w ρ M) λw M=>ae (cT (cU tg g (List.replicate n none++ρ)) w [.fn (aI M.length)] (M++[[.int c]])) λacc M=>∃d,acc=[d]/\k d M):ae (kj c n tg w g ρ M) k:=by
 refine aZ.mpr (aO h λw M h=>aZ.mpr (aO h ?_));rintro _ M ⟨d,rfl,h⟩;exact h
def Kg (h1:gk ρ M=.ok x M)(h2:gv ρ M=.ok y M)(e:cS M o=some q)(hk:isKey q.1 x=true)(hl:q.2.length<1000000)(h:kl [.fn o] (M.set (o-5000) (.int q.1::putD q.2 x y))):ae (jG gk gv ρ [.fn o] M) kl:=by
 unfold jG;rw[h1];show ae ((gv ρ M).bind _) kl;rw[h2];show ae (match cS M o with|some q=>if isKey q.1 x=true/\q.2.length<1000000 then Res.ok [D.fn o] (M.set (o-5000) (.int q.1::putD q.2 x y)) else .bad|none=>.bad) kl
 rw[e];show ae (if isKey q.1 x=true/\q.2.length<1000000 then Res.ok [D.fn o] (M.set (o-5000) (.int q.1::putD q.2 x y)) else .bad) kl;rw[if_pos ⟨hk,hl⟩];exact h
end
def pS (h:cV es x=none):putD es x y=es++[.tup [x,y]]:=by
 unfold putD;rw[h];rfl
section
variable{P:Nat->Option Df}{M:Mem}{m:aK}{d:aR}
def BI (h:j=M.length):(M++[x]).set j y=M++[y]:=by
 subst h;rw[List.set_append_right _ _ (PV _),Nat.sub_self];rfl
def zT {n:Nat}(B:∀s M,dR m s->ag P (n+2) 24 [d.d,aw s] M=.ok (aw (bV d s)) M)(hm:aJ m)(hk:k (.fn (aI M.length)) (M++[ee m d])) :
 ae (kj 77 1 (.one 0) (bZ (aa 2)) (jG (aa 0) (ah 24 (ag P (n+2)) #[aa 1,aa 0])) [some d.d,y,some (.lst ((bz m).map aw))] M) k:=by
 refine GK ?_;simp only[f5,bp];refine{_,rfl,rfl,?_};have bl:=jf hm;have nd:=uF m.words m.places;refine fw (λi h v=>h=[.fn (aI M.length)]/\v=M++[.int 77::((bz m).take i).map λs=>.tup [aw s,aw (bV d s)]]) (λ_ _ _ _=>rfl) {rfl,`s} ?_ ?_
 ·rintro i x h v hd ⟨rfl,rfl⟩;rw[P6] at hd;cases e:(bz m)[i]? with
  |none=>rw[e] at hd;cases hd
  | some s =>
    rw[e] at hd;have hd:=PQ hd;subst hd;have hs:=qt s (Qb e);simp only[cU,aZ,gG];refine{_,rfl,?_};have F:(M++[.int 77::((bz m).take i).map λs=>D.tup [aw s,aw (bV d s)]])[M.length]?=some (.int 77::((bz m).take i).map λs=>D.tup [aw s,aw (bV d s)]):=`s
    refine Kg rfl ((bh (af rfl (af rfl rfl))).trans (B s _ hs)) (iq F (.inl rfl)) (vL s) `o {rfl,?_}
    have none:cV (((bz m).take i).map λs=>.tup [aw s,aw (bV d s)]) (aw s)=Option.none:=by
     rw[kS aw λs=>aw (bV d s)];rw[List.find?_eq_none.mpr];rfl;intro t H;rw[uD];intro z;have z:=of_decide_eq_true z;subst z;obtain⟨j,E⟩:=RS H;have u:j<i:=by
      have:=(PH.mp E).1;simp at this;omega
     rw[List.getElem?_take_of_lt u] at E;exact oS nd u E e
    rw[pS none];rw[show aI M.length-5000=M.length from QE _ _,BI rfl,Q1,e];simp
 ·rintro h v ⟨rfl,rfl⟩;rw[PK,Qt (PV _)];exact{_,rfl,hk}
end
section
variable{ρ:Env}{M:Mem}
def Hj (e:a ρ M=.ok x M):c8 (.one i) a ρ M=.ok (.next (ρ.set i (some x))) M:=by
 unfold c8;rw[e];rfl
def eG (e:s ρ M=.ok xs M):bF f c s ρ M=c f xs M:=by
 unfold bF;rw[e]
end
noncomputable def cy (m:aK)(L:Nat):D:=.lst ((List.range m.deeds.length).map λi=>.tup [nD (cst m i),.fn (aI (L+i))])
def ng (e:m.deeds[i]?=some d):cb m i=d:=by
 unfold cb;rw[Rl,e];rfl
section
variable{P:Nat->Option Df}{M:Mem}{m:aK}
def sH (u:HasB0 P)(hr:iP P)(h15:P 15=some {1,6,dg})(h151:P 151=some {1,2,dG})(n:Nat)(hm:aJ m):ag P (n+10) 151 [m.d] M=.ok (cy m M.length) (M++m.deeds.map (ee m)):=by
 refine ao (aH h151 rfl ?_);refine bx (Hj ((eG (af rfl rfl)).trans (pM u h15 n hm))) ?_;simp only[ax,dJ,fh,f5,ia,bp,dW];refine{_,rfl,_,rfl,rfl,?_};have d6:=hm.d6;refine comp_map (λi h j=>h=(List.range i).map (λi=>.tup [nD (cst m i),.fn (aI (M.length+i))])/\j=M++(m.deeds.take i).map (ee m)) (aD `o) (λ_ _ _ _=>rfl) {rfl,`s} ?_ ?_
 ·rintro i x h j hd _ ⟨rfl,rfl⟩;rw[P6] at hd;cases e:m.deeds[i]? with
  |none=>rw[e] at hd;cases hd
  | some d =>
    rw[e] at hd;have hd:=PQ hd;subst hd;have v:=(PH.mp e).1;have hok:=hm.ok d (Qb e);refine{_,rfl,?_};simp only[f9,bR,ia,bp,rZ,dW,cJ];refine{_,rfl,_,rfl,nD d.cost,jF,?_};refine zT (λs M hs=>Fz hr (n+7) hm hok hs) hm {aD (n:=2) `d,?_,?_}
    ·have l:(M++(m.deeds.take i).map (ee m)).length=M.length+i:=by simp;omega
     rw[l,List.range_succ,Qd];have c:cst m i=d.cost:=by unfold cst;rw[ng e]
     rw[<- c];rfl
    ·rw[Q1,e];simp
 ·rintro h j _ ⟨rfl,rfl⟩;rw[PK,Qt (PV _)];exact b3.mpr {aD `o,rfl,rfl}
end
section
variable{ρ ρ':Env}{M M':Mem}{a b d:GE}{t rest:GS}{kf:Fl->Mem->Prop}
def dF (e:t ρ M=.ok (.next ρ') M')(h:ae (rest ρ' M') kf):ae (bg t rest ρ M) kf:=by
 rw[ax,e];exact h
def Av (h:a ρ M=.ok x M)(j:b ρ M=.ok (.fn o) M)(e:inD M o x=some r):lg n a b ρ M=.ok (.bl (n != r)) M:=by
 unfold lg;rw[h];show(b ρ M).bind _=_;rw[j];show(match inD M o x with|some r=>Res.ok (D.bl (n != r)) M|none=>.bad)=_
 rw[e]
def wa (h:a ρ M=.ok (.fn o) M)(e:cS M o=some q):la a ρ M=.ok (nD q.2.length) M:=by
 unfold la;rw[h];show(match cS M o with|some q=>Res.ok (D.int q.2.length) M|none=>.bad)=_
 rw[e]
def GV (hd:d ρ M=.ok z M)(h:a ρ M=.ok (.fn o) M)(j:b ρ M=.ok x M)(e:cS M o=some q)(hk:isKey q.1 x=true)(hl:q.2.length<1000000):hV a b d ρ M=.ok (.next ρ) (M.set (o-5000) (.int q.1::putD q.2 x z)):=by
 unfold hV;rw[hd];show(a ρ M).bind _=_;rw[h];show(b ρ M).bind _=_;rw[j];show(match cS M o with|some q=>if isKey q.1 x=true/\q.2.length<1000000 then Res.ok (Fl.next ρ) (M.set (o-5000) (.int q.1::putD q.2 x z)) else .bad|none=>.bad)=_
 rw[e];exact if_pos ⟨hk,hl⟩
def Ld (h:a ρ M=.ok (.cell j) M)(hd:d ρ M=.ok z M)(e:M[j]?=some ds)(hl:ds.length<sz):dz a d ρ M=.ok (.next ρ) (M.set j (ds++[z])):=by
 unfold dz;rw[h];show(d ρ M).bind _=_;rw[hd];show(match M[j]? with|some ds=>if ds.length<sz then Res.ok (Fl.next ρ) (M.set j (ds++[z])) else .bad|none=>.bad)=_
 rw[e];exact if_pos hl
def HV (e:s ρ M=.ok xs M)(hl:xs.length≤100):ba s ρ M=.ok (.tup xs) M:=by
 unfold ba;rw[e];exact if_pos (aD `a)
def An {i j:Int}(h1:a ρ M=.ok (.int i) M)(h2:b ρ M=.ok (.int j) M):aj (av .gt a b) ρ M=.ok (decide (j<i)) M:=by
 refine eW (hU.mpr (gg.mpr ?_));rw[h1,aW,h2,aW];exact{_,rfl,_,rfl,rfl,rfl}
def Mw {i:Int}(ha:a ρ M=.ok (.int i) M)(h1:z.length≤1000)(h2:y.length≤1000)(h3:i.natAbs<2^64):nB z y a ρ M=.ok (.str (z++(toString i:Str)++y)) M:=by
 unfold nB;rw[ha];exact if_pos ⟨h1,h2,h3⟩
end
abbrev fv:=List (bo×Nat×List Nat)
set_option tactic.hygienic true in
def qg (I:Nat->Env->Mem->Prop)(X:Fl->Mem->Prop)(z:∀fl M,X fl M->∀ρ,fl≠.next ρ)(B:∀i ρ M,I i ρ M->w M=some ds)(v:∀fl M,X fl M->w M=some ds)(y:I 0 ρ M)
 (hs:∀i d ρ M,ds[i]?=some d->I i ρ M->∃ρ1,b6 t d ρ=some ρ1/\ae (gb ρ1 M) λfl M=>(∃ρ',fl=.next ρ'/\I (i+1) ρ' M)\/X fl M) (hk:∀ρ M,I ds.length ρ M->kf (.next ρ) M) (E:∀fl M,X fl M->kf fl M) :
 ae (cT (f6 t gb) w (.next ρ) M) kf:=by
 refine fw (λi fl M=>(∃ρ,fl=.next ρ/\I i ρ M)\/X fl M) (λi fl M h=>h.elim (λ⟨ρ,_,h⟩=>B i ρ M h) λh=>v fl M h) (.inl ⟨ρ,rfl,y⟩) ?_ ?_
 ·rintro i d fl M hd (⟨ρ,rfl,u⟩|j)
  ·obtain⟨ρ1,e,h⟩:=hs i d ρ M hd u;simp only[f6,aZ,gG,e];exact⟨ρ1,rfl,h⟩
  ·cases fl with
   |next ρ=>exact absurd rfl (z _ _ j ρ)
   |ret d=>exact .inr j
   |exc x ρ=>exact .inr j
 ·rintro fl M (⟨ρ,rfl,u⟩|j)
  ·exact hk ρ M u
  ·exact E fl M j
structure NW (p:Nat) (E0:fv) (S:bo->Prop) (N:fv):Prop where
 nd:((E0++N).map (·.1)).Nodup
 fr:∀x∈N,S x.1/\x.2.1=p/\x.2.2.length≤p
 al:∀b,S b->b∈(E0++N).map (·.1)
def rD (p:Nat)(E0:fv)(S:bo->Prop):Prop:=∃N:fv,((E0++N).map (·.1)).Nodup/\(∀x∈N,S x.1/\x.2.1=p)/\255<(E0++N).length
def rD.mono (h:rD p E0 S)(hs:∀b,S b->S' b):rD p E0 S':=let⟨N,h1,h2,h3⟩:=h;{N,h1,λx j=>{hs _ (h2 x j).1,(h2 x j).2},h3}
def NW.old (h:NW p E0 S N)(hs:∀x,S' x↔S x\/x=b)(u:∃e∈E0++N,e.1=b):NW p E0 S' N:=
 {h.nd,λx j=>{(hs _).mpr (.inl (h.fr x j).1),(h.fr x j).2},λc v=>by
  rcases(hs c).mp v with z|z
  ·exact h.al c z
  ·obtain⟨e,he,y⟩:=u;rw[z,<- y];exact Qv he}
def NW.new (h:NW p E0 S N)(hs:∀x,S' x↔S x\/x=b)(v:∀e∈E0++N,e.1≠b)(hr:r.length≤p):NW p E0 S' (N++[(b,p,r)]):=by
 refine{?_,λx j=>?_,λc B=>?_}
 ·rw[<- QH,Qd,Rk];refine{h.nd,`s,λx j y u e=>?_}
  obtain⟨z,E,rfl⟩:=PZ.mp j;have u:y=b:=by simpa using u
  exact v z E (e.trans u)
 ·rcases Qs.mp j with z|z
  ·exact{(hs _).mpr (.inl (h.fr x z).1),(h.fr x z).2}
  ·obtain rfl:=Qa.mp z;exact{(hs _).mpr (.inr rfl),rfl,hr}
 ·rw[<- QH,Qd];rcases(hs c).mp B with z|z
  ·exact QT _ (h.al c z)
  ·exact Qx _ (by rw[z];exact Qa.mpr rfl)
def uP (M:Mem)(fk:Nat)(x:D)(A:List bo):Prop:=x=.lst (A.map bD)\/∃c,x=.cell c/\c≠fk/\M[c]?=some (A.map bD)
def v8:∀{k i:Nat}{d:D},(eA k ds)[i]?=some d->∃x,ds[i]?=some x/\d=.tup [nD (k+i),x]:=by
 induction ds with
 |nil=>intro k i d h;simp[eA] at h
 | cons a ds j =>
   intro k i d h;cases i with
   |zero=>cases h;exact⟨a,rfl,rfl⟩
   | succ i =>
     obtain⟨x,h1,h2⟩:=j h;exact{x,h1,by rw[h2,RV,Nat.add_comm 1 i]}
noncomputable def lh:∀{ds:List D}{k:Nat},(eA k ds).length=ds.length
 |[],_=>rfl
 |_::ds,k=>by show(eA (k+1) ds).length+1=ds.length+1;rw[lh]
def iS (m:aK)(p:Nat)(Ls:Nat->List bo)(i:Nat):List bo:=if cst m i≤p then Ls (p-cst m i) else []
def jr (m:aK)(p:Nat)(Ls:Nat->List bo)(i:Nat)(b:bo):Prop:=∃h,h<i/\b∈(iS m p Ls h).map (bf m h)
noncomputable def pr (e:bo×Nat×List Nat):bo×Nat:=(e.1,e.2.1)
section
variable{m:aK}{p:Nat}{E0 N:fv}{Ls:Nat->List bo}
def hG (E:fv):(E.map pr).map (·.1)=E.map (·.1):=by rw[QO];rfl
set_option tactic.hygienic true in
def uq (hm:aJ m)(u:∀q,q<p->∀b,b∈Ls q↔bB m q b)(b:bo):jr m p Ls m.deeds.length b↔∃i j,i<m.deeds.length/\cst m i≤p/\bB m (p-cst m i) j/\b=bf m i j:=by
 constructor
 ·rintro⟨i,v,h⟩;have c:=fW hm v;obtain⟨j,y,rfl⟩:=PZ.mp h;unfold iS at y;split at y
  ·next z=>exact{i,j,v,z,(u _ `a j).mp y,rfl}
  ·exact nomatch y
 ·rintro⟨i,j,v,z,hl,rfl⟩;have c:=fW hm v;refine{i,v,Qv ?_};unfold iS;rw[if_pos z];exact(u _ `a j).mpr hl
def nE (hm:aJ m)(v:0<p)(h:∀q,q<p->∀b,b∈Ls q↔bB m q b)(j:cv m p (E0.map pr))(nd:((E0++N).map (·.1)).Nodup)(B:x∈N)(u:jr m p Ls m.deeds.length x.1):bB m p x.1:=by
 refine(gO hm v).mpr {(uq hm h _).mp u,λq y hl=>?_};have z:=j.all q x.1 y hl;have E:x.1∈E0.map (·.1):=by rw[<- hG];exact Qv z
 rw[Qd,Rk] at nd;exact nd.2.2 _ E _ (Qv B) rfl
def Gr (hm:aJ m)(E:0<p)(v:∀q,q<p->∀b,b∈Ls q↔bB m q b)(B:cv m p (E0.map pr))(u:NW p E0 (jr m p Ls m.deeds.length) N):cv m (p+1) ((E0++N).map pr)/\∀b,b∈N.map (·.1)↔bB m p b:=by
 have fl:=λx j=>nE hm E v B u.nd j (u.fr x j).1;have back:∀b,bB m p b->∃x∈N,x.1=b:=λb hl=>by
  have F:=(uq hm v b).mpr ((gO hm E).mp hl).1;obtain⟨x,j,e⟩:=PZ.mp (u.al b F);rcases Qs.mp j with z|z
  ·have s:=B.sound (pr x) (Qv z);have s1:=e ▸ s.1;have:=xl s1 hl;omega
  ·exact⟨x,z,e⟩
 refine{{by rw[hG];exact u.nd,λy H=>?_,λq b I hl=>?_},λb=>{λh=>?_,λh=>?_}}
 ·obtain⟨x,j,rfl⟩:=PZ.mp H;rcases Qs.mp j with z|z
  ·have s:=B.sound (pr x) (Qv z);exact{s.1,Rj s.2}
  ·have e:x.2.1=p:=(u.fr x z).2.1;exact{by show bB m x.2.1 x.1;rw[e];exact fl x z,by show x.2.1<p+1;omega}
 ·rcases RD q p with z|z
  ·rw[Qd];exact QT _ (B.all q b z hl)
  ·have:q=p:=`a
   subst this;obtain⟨x,j,rfl⟩:=back b hl;rw[Qd];refine Qx _ (PZ.mpr {x,j,?_});show(x.1,x.2.1)=_;rw[(u.fr x j).2.1]
 ·obtain⟨x,j,rfl⟩:=PZ.mp h;exact fl x j
 ·obtain⟨x,j,rfl⟩:=back b h;exact Qv j
def B2 (hm:aJ m)(u:0<p)(h:∀q,q<p->∀b,b∈Ls q↔bB m q b)(j:cv m p (E0.map pr))(E:rD p E0 (jr m p Ls m.deeds.length)):jX m (p+1):=by
 obtain⟨N,nd,fr,hl⟩:=E;refine{(E0++N).map pr,by rw[hG];exact nd,λy B=>?_,by rw[PK];exact hl}
 obtain⟨x,v,rfl⟩:=PZ.mp B;rcases Qs.mp v with z|z
 ·have s:=j.sound (pr x) (Qv z);exact{s.1,Rj s.2}
 ·have e:x.2.1=p:=(fr x z).2;exact{by show bB m x.2.1 x.1;rw[e];exact nE hm u h j nd z (fr x z).1,by show x.2.1<p+1;omega}
def jX.mono (h:jX m p)(u:p≤q):jX m q:=let⟨l,h1,h2,h3⟩:=h;{l,h1,λx j=>{(h2 x j).1,Qg (h2 x j).2 u},h3}
end
noncomputable def lsN (Ls:Nat->List bo)(p:Nat)(A:List bo):Nat->List bo:=λq=>if q=p then A else Ls q
set_option tactic.hygienic true in
def ym {c:GT}{b:GS}{y:Fl->Mem->Prop}(I:Nat->Env->Mem->Prop)
 (hs:∀k ρ M,I k ρ M->ae (c ρ M) λv M1=>(v=false->y (.next ρ) M1)/\(v=true->∃k',k=k'+1/\ae (b ρ M1) λfl j=>(∃ρ',fl=.next ρ'/\I k' ρ' j)\/((∀ρ',fl≠.next ρ')/\y fl j))) :
 ∀(n k:Nat) (ρ:Env) (M:Mem),k<n->I k ρ M->ae (jZ c b n ρ M) y:=by
 intro n;induction n with
 |zero=>intro k ρ M h;exact absurd h (Q5 _)
 | succ n E =>
   intro k ρ M h B;unfold jZ;refine aZ.mpr (aO (hs k ρ M B) λv M1 ⟨h1,h2⟩=>?_);cases v with
   |false=>exact h1 rfl
   | true =>
     obtain⟨k',rfl,h3⟩:=h2 rfl;rw[if_pos rfl];refine aZ.mpr (aO h3 λfl j h4=>?_);rcases h4 with⟨ρ',rfl,u⟩|⟨u,z⟩
     ·exact E k' ρ' j `a u
     ·cases fl with
      |next ρ'=>exact absurd rfl (u ρ')
      |ret d=>exact z
      |exc x ρ'=>exact z
def kJ {c:GT}{b:GS}{ρ:Env}{M:Mem}{j:Fl->Mem->Prop}(I:Nat->Env->Mem->Prop)
 (hs:∀k ρ M,I k ρ M->ae (c ρ M) λv M1=>(v=false->j (.next ρ) M1)/\(v=true->∃k',k=k'+1/\ae (b ρ M1) λfl u=>(∃ρ',fl=.next ρ'/\I k' ρ' u)\/((∀ρ',fl≠.next ρ')/\j fl u))) {k:Nat} (hk:k<100000) (h:I k ρ M):ae (fS c b ρ M) j:=ym I hs 100000 k ρ M hk h
section
variable{M:Mem}{m:aK}{L0 lv fk p:Nat}{E0:fv}{lvs:List D}{Ls:Nat->List bo}{ρ:Env}
def JJ {x:D}{A:List bo}(h:uP M fk x A):nJ M x=some (!A.isEmpty):=by
 rcases h with rfl|⟨c,rfl,_,e⟩
 ·show some (!(A.map bD).isEmpty)=_;rw[List.isEmpty_map]
 ·show(M[c]?).map (λxs=>!xs.isEmpty)=_;rw[e];show some (!(A.map bD).isEmpty)=_;rw[List.isEmpty_map]
theorem u2 {M:Mem}{g:Nat->Bool}:∀{l:List D}{k:Nat},(∀i x,l[i]?=some x->nJ M x=some (g (k+i)))->jt M l=some ((List.range l.length).map λi=>g (k+i))
 |[],_,_=>rfl
 | a :: l, k, h => by
   show(nJ M a).bind (λb=>(jt M l).map (b::·))=_;have j:=h 0 a rfl;have h1:=u2 (l:=l) (k:=k+1) (M:=M) (g:=g) λi x u=>by
    have:=h (i+1) x u;rw[this,RV,Nat.add_comm 1 i]
   rw[j,h1,RG,List.range_succ_eq_map,Q6,QO];show some (g (k+0)::_)=_
   congr 2
   refine Rp λi _=>?_;show g (k+1+i)=g (k+(i+1));rw[RV,Nat.add_comm 1 i]
end
section
variable{ρ:Env}{M M':Mem}{kf:Fl->Mem->Prop}
def wt (e:a ρ M=.ok x M'):c8 (.one i) a ρ M=.ok (.next (ρ.set i (some x))) M':=by
 unfold c8;rw[e];rfl
def eD (e:a ρ M=.ok x M'):au (.one i) a ρ M=.ok (.next (ρ.set i (some x))) M':=by
 unfold au;rw[e];rfl
def Hk (u:a ρ M=.ok (.cell j) M)(h:fq (d ρ M) (λz M1=>∃ds,M1[j]?=some ds/\ds.length<sz/\kf (.next ρ) (M1.set j (ds++[z]))) (λx M1=>kf (.exc x ρ) M1)):ae (mP a d ρ M) kf:=by
 unfold mP;rw[u];show ae (sh (λz M=>match M[j]? with|some ds=>if ds.length<sz then Res.ok (Fl.next ρ) (M.set j (ds++[z])) else .bad|none=>.bad) ρ (d ρ M)) kf
 cases e:d ρ M with
 |bad=>rw[e] at h;exact h.elim
 |err x M1=>rw[e] at h;exact h
 | ok z M1 =>
   rw[e] at h;obtain⟨ds,e1,hl,h⟩:=h;show ae (match M1[j]? with|some ds=>if ds.length<sz then Res.ok (Fl.next ρ) (M1.set j (ds++[z])) else .bad|none=>.bad) kf
   rw[e1];show ae (if ds.length<sz then Res.ok (Fl.next ρ) (M1.set j (ds++[z])) else .bad) kf
   rw[if_pos hl];exact h
end
noncomputable def ot {α:Type}(k:α->bo)(v:α->D)(E:List α):List D:=.int 78::E.map λe=>.tup [bD (k e),v e]
section
variable{α:Type}{k:α->bo}{v:α->D}{E:List α}{M:Mem}{j:Nat}{b:bo}{x:α}
def qj:cV (E.map λe=>.tup [bD (k e),v e]) (bD b)=(E.find? λe=>decide (k e=b)).map v:=by
 refine(kS (λe=>bD (k e)) v E (bD b)).trans ?_
 congr 2
 funext x
 exact EI _ b
def pd (e:M[j]?=some (ot k v E)):cS M (aI j)=some (78,E.map λe=>.tup [bD (k e),v e]):=iq e (.inr rfl)
def ME (e:M[j]?=some (ot k v E)):inD M (aI j) (bD b)=some (E.any λe=>decide (k e=b)):=by
 unfold inD;rw[pd e];show(if isKey 78 (bD b)=true then some (cV _ (bD b)).isSome else none)=_;rw[if_pos (kU b),qj,RQ]
 congr 1
 rw[Ra,List.find?_isSome,Rv]
def Ky (hn:∀e∈E,k e≠b):putD (E.map λe=>.tup [bD (k e),v e]) (bD b) z=(E.map λe=>.tup [bD (k e),v e])++[.tup [bD b,z]]:=by
 refine pS ?_;rw[qj,List.find?_eq_none.mpr];rfl;exact λx h e=>hn x h (of_decide_eq_true e)
theorem wb:∀{E:List α},(E.map k).Nodup->∀{x:α},x∈E->(E.find? λe=>decide (k e=k x))=some x
 |[],_,_,h=>nomatch h
 | a :: E, nd, x, h => by
   rw[Q6,QI] at nd;rw[List.find?_cons];by_cases e:k a=k x
   ·rw[decide_eq_true e];rcases Qu.mp h with z|z
    ·rw[z]
    ·exact absurd (by rw[e];exact Qv z) nd.1
   ·rw[decide_eq_false e];rcases Qu.mp h with z|z
    ·exact absurd (by rw[z]) e
    ·exact wb nd.2 z
def Au (e:M[j]?=some (ot k v E))(nd:(E.map k).Nodup)(h:x∈E):getD M (aI j) (bD (k x))=some (v x):=by
 unfold getD;rw[pd e];show(if isKey 78 (bD (k x))=true then cV _ (bD (k x)) else none)=_;rw[if_pos (kU _),qj,wb nd h];rfl
def GU {a b d:GE}{x z:D}(hd:d ρ M=.ok z M1)(h:a ρ M1=.ok (.fn o) M1)(u:b ρ M1=.ok x M1)(e:cS M1 o=some q)(hk:isKey q.1 x=true)(hl:q.2.length<1000000):hV a b d ρ M=.ok (.next ρ) (M1.set (o-5000) (.int q.1::putD q.2 x z)):=by
 unfold hV;rw[hd];show(a ρ M1).bind _=_;rw[h];show(b ρ M1).bind _=_;rw[u];show(match cS M1 o with|some q=>if isKey q.1 x=true/\q.2.length<1000000 then Res.ok (Fl.next ρ) (M1.set (o-5000) (.int q.1::putD q.2 x z)) else .bad|none=>.bad)=_
 rw[e];exact if_pos ⟨hk,hl⟩
def CI {M1:Mem}{a b d:GE}(hd:d ρ M=.ok (v x) M1)(h:a ρ M1=.ok (.fn (aI j)) M1)(u:b ρ M1=.ok (bD (k x)) M1)(e:M1[j]?=some (ot k v E))(hl:E.length<1000000)(hn:∀e∈E,k e≠k x):hV a b d ρ M=.ok (.next ρ) (M1.set j (ot k v (E++[x]))):=by
 rw[GU hd h u (pd e) (kU _) (by rw[PK];exact hl),show aI j-5000=j from QE _ _,Ky hn]
 unfold ot;rw[Qd];rfl
def Le (h:(true != E.any λe=>decide (k e=b))=true):∀e∈E,k e≠b:=λe he z=>by
 rw[show(E.any λe=>decide (k e=b))=true from Rv.mpr {e,he,decide_eq_true z}] at h;cases h
def Hl (h:(true != E.any λe=>decide (k e=b))=false):∃e∈E,k e=b:=by
 cases z:(E.any λe=>decide (k e=b)) with
 | true =>
   obtain⟨e,he,y⟩:=Rv.mp z;exact{e,he,of_decide_eq_true y}
 |false=>rw[z] at h;cases h
end
def du (m:aK)(r:List Nat)(b:bo)(q:Nat):Prop:=(∀i∈r,i<m.deeds.length)/\ends m r=b/\aY m r=q
section
variable{m:aK}{r:List Nat}{b:bo}{q i:Nat}
def du.nil:du m [] (bz m) 0:={(λ_ h=>nomatch h),List.map_id _,rfl}
def du.snoc (h:du m r b q)(hi:i<m.deeds.length):du m (r++[i]) (bf m i b) (q+cst m i):=by
 refine{λk hk=>?_,?_,?_}
 ·rcases Qs.mp hk with z|z
  ·exact h.1 k z
  ·rw[Qa.mp z];exact hi
 ·rw[<- h.2.1];unfold ends bf;rw[QO];exact Rp λs _=>oq r [i] s
 ·rw[<- h.2.2];show((r++[i]).map _).sum=_;rw[Qd,List.sum_append];rfl
noncomputable def fz (hm:aJ m):∀r:List Nat,(∀i∈r,i<m.deeds.length)->r.length≤aY m r
 |[],_=>Rh _
 | a :: r, h => by
   have c:=(fW hm (h a Qm)).1;have t:=fz hm r λi u=>h i (Qc _ u);show r.length+1≤cst m a+aY m r;omega
def du.len (hm:aJ m)(h:du m r b q):r.length≤q:=h.2.2 ▸ fz hm r h.1
def du.rch (h:du m r b q):jm m q b:=by
 obtain⟨h1,rfl,rfl⟩:=h
 suffices z:∀(u:List Nat),(∀i∈u,i<m.deeds.length)->∀(b:bo) (q:Nat),jm m q b->jm m (q+aY m u) (b.map (gn m u)) by
  have:=z r h1 (bz m) 0 .start;rw[Nat.zero_add] at this;exact this
 intro u;induction u with
 |nil=>intro _ b q h;rw[show b.map (gn m [])=b from List.map_id b];exact h
 | cons a u B =>
   intro h1 b q h;have:=B (λi y=>h1 i (Qc _ y)) _ _ (h.step (h1 a Qm));rw[show aY m (a::u)=cst m a+aY m u from rfl,<- RV];rw[show b.map (gn m (a::u))=(bf m a b).map (gn m u) from by unfold bf;rw[QO];rfl]
   exact this
end
abbrev F3:=List (bo×Nat×Nat)
noncomputable def vC (e:bo×Nat×Nat):D:=.tup [nD e.2.1,.cell e.2.2]
def jU (E:F3):List D:=ot (·.1) vC E
def un (E:F3):fv:=E.map λe=>(e.1,e.2.1,[])
def pJ (E:F3):(un E).map (·.1)=E.map (·.1):=by unfold un;rw[QO];rfl
def lO (E N:F3):un (E++N)=un E++un N:=Qd
def HF (E:F3):(un E).length=E.length:=PK _
def yq:(∃e∈un E,e.1=b)↔∃e∈E,e.1=b:=by
 constructor
 ·rintro⟨x,h,rfl⟩;obtain⟨e,he,rfl⟩:=PZ.mp h;exact⟨e,he,rfl⟩
 ·rintro⟨e,he,rfl⟩;exact{_,Qv he,rfl}
structure jY (B0:Nat) (M0 M:Mem) (m:aK) (lv fk:Nat) (E:F3) (L:List bo):Prop where
 f:M[fk]?=some (jU E)
 fl:fk<M0.length
 ll:lv<M0.length
 lo:B0≤M0.length
 l:M[M0.length]?=some (L.map bD)
 r:∀e∈E,(∃r,M[e.2.2]?=some (r.map nD)/\du m r e.1 e.2.1)/\e.2.2≠fk/\e.2.2≠M0.length/\e.2.2≠lv/\B0≤e.2.2
 k:aT fk M0 M
 nd:(E.map (·.1)).Nodup
def tK (c:Call):GS:=#v[au (.one 10) (ah 152 c #[aa 7,aa 9]),aN (aj (lg true (aa 10) (aa 2))) #v[hV (aa 2) (aa 10) (ba #[aa 3,ai true .add (aq (fK (aa 2) (aa 9)) (gI 1)) (aU false #[aa 5])]),dz (aa 4) (aa 10),aN (aj (av .gt (la (aa 2)) (gI 255))) #v[dC 8 #[nB "rows have more than " " behaviours" (gI 255)]] ay] ay]
def gL {M:Mem}(e:M[k]?=some x):k<M.length:=(PH.mp e).1
def cK (h:a ρ M=.ok x M1)(es:s ρ M1=.ok xs M2):cm a s ρ M=.ok (x::xs) M2:=by
 unfold cm;rw[h];show(s ρ M1).bind _=_;rw[es];rfl
def gy (h:a ρ M=.ok x M)(j:b ρ M=.ok y M):ai k o a b ρ M=fO k o x y M:=by
 unfold ai;rw[h];show(b ρ M).bind _=_;rw[j];rfl
def lP (e:s ρ M=.ok xs M1)(hl:xs.length≤100):ba s ρ M=.ok (.tup xs) M1:=by
 unfold ba;rw[e];exact if_pos (aD `a)
section
variable{P:Nat->Option Df}{M0 M:Mem}{m:aK}{lk lv fk p i B0:Nat}{E:F3}{L:List bo}{b:bo}{x0 x1 x6 x8 x10:Option D}
def KY (h152:P 152=some {2,2,dQ})(n:Nat)(hm:aJ m)(hE:E.length≤255)(s:jY B0 M0 M m lv fk E L)(hL:L.length≤255)(Y:M[lk]?=some (ee m (cb m i)))(hp:p≤900)(hi:i<m.deeds.length)
 (hl:b.length≤16) (hb:∀s∈b,dR m s) (O:∃e∈E,e.1=b/\e.2.1+cst m i=p) :
 ae (tK (ag P (n+1)) [x0,x1,some (.fn (aI fk)),some (nD p),some (.cell M0.length),some (nD i),x6,some (.fn (aI lk)),x8,some (bD b),x10] M) λfl M'=>
  ((∃e∈E,e.1=bf m i b)/\M'=M/\fl=.next [x0,x1,some (.fn (aI fk)),some (nD p),some (.cell M0.length),some (nD i),x6,some (.fn (aI lk)),x8,some (bD b),some (bD (bf m i b))])\/
  ((∀ e ∈ E, e.1 ≠ bf m i b) /\ ∃ c, jY B0 M0 M' m lv fk (E ++ [(bf m i b, p, c)]) (L ++ [bf m i b]) /\
    ((E.length < 255 /\ fl = .next [x0, x1, some (.fn (aI fk)), some (nD p), some (.cell M0.length), some (nD i), x6, some (.fn (aI lk)), x8, some (bD b), some (bD (bf m i b))]) \/
     (E.length=255/\∃ρ,fl=.exc (.exc 8 none) ρ))):=by
 refine bx (bM (x:=bD (bf m i b)) ((bh (af rfl (af rfl rfl))).trans (yX h152 n Y hm hl hb))) ?_;refine b8 (bO (Av rfl rfl (ME s.f))) (λI=>?_) λI=>.inl {Hl I,rfl,rfl};have B:=Le I;obtain⟨e,he,S,ep⟩:=O;obtain⟨⟨r,er,ro⟩,_⟩:=s.r e he;have hr:=ro.len hm;have u:=gL s.l;have U:=Au s.f s.nd he;rw[S] at U;have e1:(M++[(r++[i]).map nD])[fk]?=some (jU E):=by rw[PU (gL s.f)];exact s.f
 have ev:ba #[aa 3,ai true .add (aq (fK (aa 2) (aa 9)) (gI 1)) (aU false #[aa 5])] [x0,x1,some (.fn (aI fk)),some (nD p),some (.cell M0.length),some (nD i),x6,some (.fn (aI lk)),x8,some (bD b),some (bD (bf m i b))] M=.ok (vC (bf m i b,p,M.length)) (M++[(r++[i]).map nD]):=by
  refine lP (cK rfl (cK ?_ rfl)) (P5 rfl);refine(gy (bG (t7 (x:=.non) rfl rfl U) rfl rfl) (lZ (af rfl rfl) (P5 rfl))).trans ?_;show(match M[e.2.2]?,(some [nD i]:Option (List D)) with|some x,some y=>bb true (x++y) M|_,_=>.bad)=_
  rw[er];show(if (r.map nD++[nD i]).length≤sz then _ else _)=_;rw[if_pos (aD `o),Qd];rfl
 refine dF (M':=(M++[(r++[i]).map nD]).set fk (jU (E++[(bf m i b,p,M.length)]))) (CI ev rfl rfl e1 `a B) ?_
 have W:=Qw s.fl;have F:((M++[(r++[i]).map nD]).set fk (jU (E++[(bf m i b,p,M.length)])))[M0.length]?=some (L.map bD):=by rw[PN W,PU u];exact s.l
 refine dF (Ld rfl rfl F (by rw[PK];exact RH hL `d)) ?_
 generalize v:((M++[(r++[i]).map nD]).set fk (jU (E++[(bf m i b,p,M.length)]))).set M0.length (L.map bD++[bD (bf m i b)])=M';have old:∀{j:Nat}{x:List D},j≠fk->j≠M0.length->M[j]?=some x->M'[j]?=some x:=λ{j x} h1 h2 e=>by
  rw[<- v,PN (Q0 h2),PN (Q0 h1),PU (gL e)];exact e
 have s2:jY B0 M0 M' m lv fk (E++[(bf m i b,p,M.length)]) (L++[bf m i b]):=by
  refine{?_,s.fl,s.ll,s.lo,?_,λX J=>?_,{?_,λj hj n=>?_},?_}
  ·rw[<- v,PN (Q0 W),Qj (by simp;exact Rj (gL s.f))]
  ·rw[<- v,Qj `o,Qd];rfl
  ·rcases Qs.mp J with z|z
   ·obtain⟨⟨r',H,R⟩,k1,k2,k3⟩:=s.r X z;exact{{r',old k1 k2 H,R},k1,k2,k3}
   ·obtain rfl:=Qa.mp z;refine{{r++[i],?_,?_},QR (gL s.f),QR u,QR (Nat.lt_trans s.ll u),Qf s.lo (RR u)}
    ·rw[<- v,PN (Qw u),PN (Qw (gL s.f))];simp
    ·have:=ro.snoc hi;rw[ep,S] at this;exact this
  ·rw[<- v];have:=s.k.len;simp;omega
  ·rw[<- v,PN `a,PN (Q0 n),PU `a];exact s.k.at' j hj n
  ·rw[Qd,Rk];exact{s.nd,`s,λx hx y Q z=>by
    obtain⟨w,hw,rfl⟩:=PZ.mp hx;have Q:y=bf m i b:=by simpa using Q
    exact B w hw (z.trans Q)}
 refine b8 (An (wa rfl (pd s2.f)) rfl) (λh=>?_) λh=>?_
 ·have h:=of_decide_eq_true h;simp only[ax,BK];refine bR.mpr ?_;rw[Mw rfl `d `d `d,aW]
  refine{aD `d,.inr {B,_,s2,.inr {?_,_,rfl}}}
  simp at h;omega
 ·have h:=of_decide_eq_false h;refine .inr {B,_,s2,.inl {?_,rfl}};simp at h;omega
end
section
variable{P:Nat->Option Df}{M0 M:Mem}{m:aK}{lk lv fk p i B0:Nat}{E0:F3}{A:List bo}{x8:D}{S:bo->Prop}{x0 x1 x6 x9 x10:Option D}
def vG (h:uP M0 fk x8 A)(k:aT fk M0 M):bU M x8=some (A.map bD):=by
 rcases h with rfl|⟨c,rfl,j,e⟩
 ·rfl
 ·exact k.get e j
def GD (h152:P 152=some {2,2,dQ})(n:Nat)(hm:aJ m)(hi:i<m.deeds.length)(ek:M0[lk]?=some (ee m (cb m i)))(hk:lk≠fk)(R:uP M0 fk x8 A)(U:∀b∈A,∃e∈E0,e.1=b/\e.2.1+cst m i=p)(hok:∀b∈A,b.length≤16/\∀s∈b,dR m s)(hp:p≤900)
 (s:jY B0 M0 M m lv fk (E0++N) (N.map (·.1))) (h:NW p (un E0) S (un N)) (hl:(E0++N).length≤255)
 (k1:∀M' u J v,jY B0 M0 M' m lv fk (E0++u) (u.map (·.1))->NW p (un E0) (λb=>S b\/b∈A.map (bf m i)) (un u)->(E0++u).length≤255->kf (.next [x0,x1,some (.fn (aI fk)),some (nD p),some (.cell M0.length),some (nD i),x6,some (.fn (aI lk)),some x8,J,v]) M')
 (k2:∀ρ M',aT fk M0 M'->rD p (un E0) (λb=>S b\/b∈A.map (bf m i))->kf (.exc (.exc 8 none) ρ) M') :
 ae (bY (.one 9) (bZ (aa 8)) (tK (ag P (n+1))) [x0,x1,some (.fn (aI fk)),some (nD p),some (.cell M0.length),some (nD i),x6,some (.fn (aI lk)),some x8,x9,x10] M) kf:=by
 simp only[dM,f5,bp];refine{_,rfl,by rcases R with rfl|⟨c,rfl,_⟩<;>rfl,?_}
 refine qg (ds:=A.map bD) (λj ρ M'=>∃u J v,jY B0 M0 M' m lv fk (E0++u) (u.map (·.1))/\NW p (un E0) (λb=>S b\/b∈(A.take j).map (bf m i)) (un u)/\(E0++u).length≤255/\ρ=[x0,x1,some (.fn (aI fk)),some (nD p),some (.cell M0.length),some (nD i),x6,some (.fn (aI lk)),some x8,J,v])
  (λfl M'=>(∃ρ,fl=.exc (.exc 8 none) ρ)/\aT fk M0 M'/\rD p (un E0) (λb=>S b\/b∈A.map (bf m i))) ?_ ?_ ?_ {N,x9,x10,s,?_,hl,rfl} ?_ ?_ ?_
 ·rintro fl M' ⟨⟨ρ,rfl⟩,_⟩ ρ' z;cases z
 ·rintro j ρ M' ⟨u,_,_,I,_⟩;exact vG R I.k
 ·rintro fl M' ⟨_,k,_⟩;exact vG R k
 ·exact{h.nd,λx F=>{.inl (h.fr x F).1,(h.fr x F).2},λb L=>L.elim (h.al b) λz=>by simp at z}
 ·rintro j x ρ M' hd ⟨u,J,v,I,Q,B,rfl⟩;rw[P6] at hd;cases e:A[j]? with
  |none=>rw[e] at hd;cases hd
  | some b =>
    rw[e] at hd;have hd:=PQ hd;subst hd;have L:=Qb e;refine{_,rfl,?_};obtain⟨e0,W,eb,ep⟩:=U b L;have H:∀x,(S x\/x∈(A.take (j+1)).map (bf m i))↔((S x\/x∈(A.take j).map (bf m i))\/x=bf m i b):=λx=>by
     rw[Q1,e];simp[or_assoc]
    have O:∀x,(S x\/x∈(A.take (j+1)).map (bf m i))->(S x\/x∈A.map (bf m i)):=λx F=>F.imp id λz=>by
     obtain⟨y,hy,rfl⟩:=PZ.mp z;exact Qv (QS hy)
    refine aO (KY h152 n hm B I (by rw[PK];simp at B;omega) (I.k.get ek hk) hp hi (hok b L).1 (hok b L).2 {e0,QT _ W,eb,ep}) ?_
    rintro fl M' (⟨hin,rfl,rfl⟩|⟨hno,c,s2,hh⟩)
    ·exact .inl {_,rfl,u,_,_,I,Q.old H (by rw[<- lO];exact yq.mpr hin),B,rfl}
    ·have E:=Q.new H (r:=[]) (λx F z=>by
      rw[<- lO] at F;obtain⟨e2,X,z2⟩:=yq.mp ⟨x,F,z⟩;exact hno e2 X z2) (Rh _)
     rw[show un u++[(bf m i b,p,[])]=un (u++[(bf m i b,p,c)]) from(lO u [(bf m i b,p,c)]).symm] at E;rw[QH,show u.map (·.1)++[bf m i b]=(u++[(bf m i b,p,c)]).map (·.1) from by rw[Qd];rfl] at s2
     rcases hh with⟨hlt,rfl⟩|⟨Y,ρ,rfl⟩
     ·exact .inl {_,rfl,_,_,_,s2,E,by simp at hlt ⊢;omega,rfl}
     ·exact .inr {{_,rfl},s2.k,_,E.nd,λx F=>{O _ (E.fr x F).1,(E.fr x F).2.1},by rw[<- lO,HF];simp at Y ⊢;omega}
 ·rintro ρ M' ⟨u,J,v,I,Q,B,rfl⟩;rw[PK,Qt (PV _)] at Q;exact k1 M' u J v I Q B
 ·rintro fl M' ⟨⟨ρ,rfl⟩,k,ov⟩;exact k2 ρ M' k ov
end
structure lG (B0:Nat) (M:Mem) (m:aK) (L0 lv fk:Nat) (E:F3) (lvs:List D) (p:Nat) (Ls:Nat->List bo):Prop where
 f:M[fk]?=some (jU E)
 l:M[lv]?=some lvs
 ne:lv≠fk
 len:lvs.length=p
 lvl:∀q x,lvs[q]?=some x->uP M fk x (Ls q)
 led:∀i,i<m.deeds.length->M[L0+i]?=some (ee m (cb m i))/\L0+i≠fk/\L0+i≠lv
 lvn:∀(q c:Nat),lvs[q]?=some (D.cell c)->c≠lv
 row:∀e∈E,(∃r,M[e.2.2]?=some (r.map nD)/\du m r e.1 e.2.1)/\e.2.2≠fk/\e.2.2≠lv/\B0≤e.2.2
 lo:B0≤fk
 lss:∀q,q<p->∀b,b∈Ls q↔bB m q b
 all:cv m p ((un E).map pr)
 few:E.length≤255
def DV (c:Call):GS:=#v[au (.one 8) (gR (aj (av .le (aa 6) (aa 3))) (aq (aa 1) (ai false .sub (aa 3) (aa 6))) (aU false bT)),bY (.one 9) (bZ (aa 8)) (tK c)]
section
variable{P:Nat->Option Df}{M:Mem}{m:aK}{L0 lv fk p B0:Nat}{E0:F3}{lvs:List D}{Ls:Nat->List bo}
set_option tactic.hygienic true in
def BB (hbn:∀c,bn c=#v[au (.one 3) (aC .len #[aa 1]),au (.one 4) (aU true bT),bY (.two 5 [6,7]) (gU (aa 0)) (DV c),az (aa 4)])(h152:P 152=some {2,2,dQ})(hnx:P nx=some {3,11,bn})(n:Nat)(hm:aJ m)(hp:p≤900)(s:lG B0 M m L0 lv fk E0 lvs p Ls) :
 fq (ag P (n+2) nx [cy m L0,.cell lv,.fn (aI fk)] M) (λd M'=>d=.cell M.length/\∃N,jY B0 M M' m lv fk (E0++N) (N.map (·.1))/\NW p (un E0) (jr m p Ls m.deeds.length) (un N)/\(E0++N).length≤255)
  (λx M'=>x=.exc 8 none/\rD p (un E0) (jr m p Ls m.deeds.length)/\aT fk M M'):=by
 refine ow hnx rfl ?_;show ae (bn (ag P (n+1)) [some (cy m L0),some (.cell lv),some (.fn (aI fk)),none,none,none,none,none,none,none,none] M) _;rw[hbn];have hf:=gL s.f;have hlv:=gL s.l;have W:(E0.map (·.1)).Nodup:=by have:=s.all.nd;rw[hG,pJ] at this;exact this
 have el:aC .len #[aa 1] [some (cy m L0),some (.cell lv),some (.fn (aI fk)),none,none,none,none,none,none,none,none] M=.ok (nD p) M:=by
  refine ao (cX.mpr ?_);rw[af rfl rfl,aW];show ae (match M[lv]? with|some xs=>Res.ok (D.int xs.length) M|none=>.bad) _
  rw[s.l];exact{by show D.int (lvs.length:Int)=_;rw[s.len],rfl}
 refine bx (bM el) ?_;refine dF rfl ?_;rw[ax];simp only[dM,yp,bp];refine{_,rfl,rfl,?_};have start:jY B0 M (M++[[]]) m lv fk (E0++[]) []:=by
  rw[Qy];refine{by rw[PU hf];exact s.f,hf,hlv,Qf s.lo (RR hf),`s,λe he=>?_,aT.app,W}
  obtain⟨⟨r,er,ro⟩,h1,h2⟩:=s.row e he;have:=gL er;exact{{r,by rw[PU this];exact er,ro},h1,Qw this,h2}
 have F:∀q,q<p->∀b∈Ls q,(∃e∈E0,e.1=b/\e.2.1=q)/\b.length≤16/\∀s∈b,dR m s:=λq Q b u=>by
  have lb:=(s.lss q Q b).mp u;have ok:=sW hm lb.1;refine{?_,by rw[ok.1];exact jf hm,ok.2}
  have:=s.all.all q b Q lb;unfold un at this;rw[QO] at this;obtain⟨e,he,z⟩:=PZ.mp this;cases z;exact⟨e,he,rfl,rfl⟩
 refine qg (λi H M'=>∃N y5 y6 y7 X Y B,jY B0 M M' m lv fk (E0++N) (N.map (·.1))/\NW p (un E0) (jr m p Ls i) (un N)/\(E0++N).length≤255/\H=[some (cy m L0),some (.cell lv),some (.fn (aI fk)),some (nD p),some (.cell M.length),y5,y6,y7,X,Y,B])
  (λfl M'=>(∃H,fl=.exc (.exc 8 none) H)/\aT fk M M'/\rD p (un E0) (jr m p Ls m.deeds.length)) ?_ (λ_ _ _ _=>rfl) (λ_ _ _=>rfl) {[],none,none,none,none,none,none,start,?_,?_,rfl} ?_ ?_ ?_
 ·rintro fl M' ⟨⟨H,rfl⟩,_⟩ ρ' z;cases z
 ·exact{by rw[show un []=[] from rfl,Qy,pJ];exact W,(λx I=>nomatch I),λb ⟨i,O,_⟩=>absurd O (Q5 _)}
 ·rw[Qy];exact s.few
 ·rintro i x H M' I ⟨N,y5,y6,y7,X,Y,B,s',nw,hl,rfl⟩;obtain⟨x2,J,rfl⟩:=v8 I;rw[P6] at J;have O:i<m.deeds.length:=by
   have:=(PH.mp I).1;rw[lh] at this;simpa using this
  rw[List.getElem?_range O] at J;cases J;rw[Nat.zero_add];refine{_,rfl,?_};obtain⟨hk1,hk2,_⟩:=s.led i O;have cok:=fW hm O;have v:∀b,(jr m p Ls i b\/b∈(iS m p Ls i).map (bf m i))↔jr m p Ls (i+1) b:=λb=>by
   constructor
   ·rintro(⟨j,hj,h⟩|h)
    ·exact{j,Rj hj,h}
    ·exact{i,Nat.lt_succ_self _,h}
   ·rintro⟨j,hj,h⟩;rcases RD j i with z|z
    ·exact .inl ⟨j,z,h⟩
    ·have:j=i:=`a
     subst this;exact .inr h
  have hx8:∃x8,gR (aj (av .le (aa 6) (aa 3))) (aq (aa 1) (ai false .sub (aa 3) (aa 6))) (aU false bT) [some (cy m L0),some (.cell lv),some (.fn (aI fk)),some (nD p),some (.cell M.length),some (nD i),some (nD (cst m i)),some (.fn (aI (L0+i))),X,Y,B] M'=.ok x8 M'/\uP M fk x8 (iS m p Ls i):=by
   have U:aj (av .le (aa 6) (aa 3)) [some (cy m L0),some (.cell lv),some (.fn (aI fk)),some (nD p),some (.cell M.length),some (nD i),some (nD (cst m i)),some (.fn (aI (L0+i))),X,Y,B] M'=.ok (decide ((cst m i:Int)≤(p:Int))) M':=by
    exact eW (hU.mpr (gg.mpr (bp.mpr {_,rfl,bp.mpr {_,rfl,_,rfl,_,rfl,rfl,rfl}})))
   by_cases L:cst m i≤p
   ·have Q:p-cst m i<lvs.length:=by rw[s.len];omega
    refine{lvs[p-cst m i],iW U (λ_=>?_) (λz=>absurd `a (of_decide_eq_false z)),?_}
    ·refine bG (y:=nD (p-cst m i)) rfl ?_ ?_
     ·refine ao (iL.mpr (bp.mpr {_,rfl,bp.mpr {_,rfl,H9.mpr {?_,rfl}}}))
      congr 1;omega
     ·show(M'[lv]?).bind _=_;rw[s'.k.get s.l s.ne];show((cg lvs.length ((p-cst m i:Nat):Int)).bind λj=>lvs[j]?)=_;rw[dN Q];exact P4 Q
    ·have:=s.lvl _ _ (P4 Q);unfold iS;rw[if_pos L];exact this
   ·refine{.lst [],iW U (λz=>absurd (of_decide_eq_true z) `a) (λ_=>lZ rfl `d),?_}
    unfold iS;rw[if_neg L];exact .inl rfl
  obtain⟨x8,e8,l8⟩:=hx8;refine bx (bM e8) ?_;rw[ax];have R:∀b∈iS m p Ls i,cst m i≤p/\b∈Ls (p-cst m i):=λb u=>by
   unfold iS at u;split at u
   ·next L=>exact⟨L,u⟩
   ·exact nomatch u
  refine GD h152 n hm O hk1 hk2 l8 (λb u=>?_) (λb u=>?_) hp s' nw hl (λM2 N' z9 z10 s2 E hl'=>?_) λH M2 k2 ov=>?_
  ·obtain⟨L,h2⟩:=R b u;obtain⟨e,he,eb,eq⟩:=(F _ `a b h2).1
   exact{e,he,eb,`a}
  ·obtain⟨L,h2⟩:=R b u;exact(F _ `a b h2).2
  ·refine .inl {_,rfl,N',_,_,_,_,_,_,s2,?_,hl',rfl};exact{E.nd,λx I=>{(v _).mp (E.fr x I).1,(E.fr x I).2},λb u=>E.al b ((v b).mpr u)}
  ·refine .inr {{_,rfl},k2,ov.mono λb u=>?_};obtain⟨j,hj,h⟩:=(v b).mp u;exact{j,`a,h}
 ·rintro H M' ⟨N,y5,y6,y7,X,Y,B,s',nw,hl,rfl⟩;rw[lh,PK,QP] at nw;exact aX.mpr (cP rfl ⟨rfl,N,s',nw,hl⟩)
 ·rintro fl M' ⟨⟨H,rfl⟩,k,ov⟩;exact⟨rfl,ov,k⟩
end
section
variable{M M':Mem}{m:aK}{L0 lv fk p B0:Nat}{E0 N:F3}{lvs:List D}{Ls:Nat->List bo}{ρ:Env}
set_option tactic.hygienic true in
def lG.next (hm:aJ m)(H:0<p)(s:lG B0 M m L0 lv fk E0 lvs p Ls)(h:jY B0 M M' m lv fk (E0++N) (N.map (·.1)))(L:NW p (un E0) (jr m p Ls m.deeds.length) (un N))(hl:(E0++N).length≤255) :
 lG B0 (M'.set lv (lvs++[.cell M.length])) m L0 lv fk (E0++N) (lvs++[.cell M.length]) (p+1) (lsN Ls p (N.map (·.1))):=by
 obtain⟨h1,h2⟩:=Gr hm H s.lss s.all L;rw[pJ] at h2;rw[<- lO] at h1;have I:=Qg h.ll h.k.len;have old:∀{c:Nat}{x:List D},c≠fk->c≠lv->M[c]?=some x->(M'.set lv (lvs++[.cell M.length]))[c]?=some x:=λn1 n2 e=>by
  rw[PN (Q0 n2)];exact h.k.get e n1
 refine{?_,Qj I,s.ne,by simp[s.len],λq x j=>?_,λi F=>?_,λq c u=>?_,λe he=>?_,s.lo,λq v b=>?_,h1,hl}
 ·rw[PN s.ne];exact h.f
 ·rcases RD q p with z|z
  ·rw[PU (by rw[s.len];exact z)] at j
   unfold lsN;rw[if_neg `a]
   rcases s.lvl q x j with y|⟨c,y,n1,e⟩
   ·exact .inl y
   ·exact .inr {c,y,n1,old n1 (s.lvn q c (y ▸ j)) e}
  ·have v:q=p:=by
    have:=(PH.mp j).1;simp[s.len] at this;omega
   subst v;rw[Qo (by rw[s.len];exact PV _),s.len,Nat.sub_self] at j
   cases j;unfold lsN;rw[if_pos rfl];refine .inr {_,rfl,QR h.fl,?_};rw[PN (Qw h.ll)];exact h.l
 ·obtain⟨e1,e2,B⟩:=s.led i F;exact{old e2 B e1,e2,B}
 ·rcases RD q p with z|z
  ·rw[PU (by rw[s.len];exact z)] at u
   exact s.lvn q c u
  ·have v:q=p:=by
    have:=(PH.mp u).1;simp[s.len] at this;omega
   subst v;rw[Qo (by rw[s.len];exact PV _),s.len,Nat.sub_self] at u
   cases u;exact QR h.ll
 ·obtain⟨⟨r,er,ro⟩,n1,_,E,J⟩:=h.r e he;exact{{r,by rw[PN (Q0 E)];exact er,ro},n1,E,J}
 ·unfold lsN;split
  ·next z=>rw[z];exact h2 b
  ·next z=>exact s.lss q `a b
def AR (s:lG B0 M m L0 lv fk E0 lvs p Ls)(F:p≤900)(hi:ρ[i]?.getD none=some (.cell lv)):∃b:Bool,aj (qf (bK false true false (aa i) (eT (gI 3)) gN)) ρ M=.ok b M/\(b=false->∀q,q<p->p≤q+3->Ls q=[])/\(b=true->∃q,q<p/\p≤q+3/\Ls q≠[]):=by
 have y:bK false true false (aa i) (eT (gI 3)) gN ρ M=.ok (.lst (lvs.drop (p-3))) M:=by
  refine ao (iK.mpr (bp.mpr {_,hi,rZ.mpr (dW.mpr {3,rfl,dW.mpr {rfl,rfl,?_}})}));show ae (match M[lv]? with|some xs=>(match aQ xs.length 0 (.int (-3)),aQ xs.length xs.length .non with|some l,some h=>bb false (cut xs l h) M|_,_=>.bad)|none=>.bad) _
  rw[s.l];show ae (bb false (cut lvs (-3+(lvs.length:Int)).toNat lvs.length) M) _;have hl:=s.len;have e1:(-3+(lvs.length:Int)).toNat=p-3:=`a
  have e2:cut lvs (p-3) lvs.length=lvs.drop (p-3):=by
   exact Qt `s
  rw[e1,e2];exact b3.mpr {aD `o,rfl,rfl}
 refine{((List.range (lvs.drop (p-3)).length).map λj=>!(Ls (p-3+j)).isEmpty).any id,?_,λh q H E=>?_,λh=>?_}
 ·refine bO ?_;unfold qf;rw[y];show(match jt M (lvs.drop (p-3)) with|some bs=>Res.ok (D.bl (bs.any id)) M|none=>.bad)=_
  rw[u2 (g:=λq=>!(Ls q).isEmpty) λj x u=>?_];rw[List.getElem?_drop] at u;exact JJ (s.lvl _ x u)
 ·have z:=List.any_eq_false.mp h;have h1:=z (!(Ls q).isEmpty) (PZ.mpr {q-(p-3),?_,?_})
  ·cases e:(Ls q) with
   |nil=>rfl
   |cons a l=>rw[e] at h1;exact absurd rfl h1
  ·rw[RI,Ru,s.len];omega
  ·rw[show p-3+(q-(p-3))=q by omega]
 ·obtain⟨x,u,v⟩:=Rv.mp h;obtain⟨j,B,rfl⟩:=PZ.mp u;rw[RI,Ru,s.len] at B;refine{p-3+j,`a,`a,λz=>?_}
  rw[z] at v;cases v
def MZ {c:Int}(h:c=77\/c=78)(h1:gk ρ (M++[[D.int c]])=.ok x (M++[[D.int c]]))(h2:gv ρ (M++[[D.int c]])=.ok y (M++[D.int c]::X))(hk:isKey c x=true):vV c gk gv ρ M=.ok (.fn (aI M.length)) (M++[D.int c,D.tup [x,y]]::X):=by
 unfold vV;rw[h1];show(gv ρ (M++[[D.int c]])).bind _=_;rw[h2];have e:cS (M++[D.int c]::X) (aI M.length)=some (c,[]):=iq `s h
 show(match cS (M++[D.int c]::X) (aI M.length) with|some q=>if isKey q.1 x=true/\q.2.length<1000000 then Res.ok (D.fn (aI M.length)) ((M++[D.int c]::X).set (aI M.length-5000) (.int q.1::putD q.2 x y)) else .bad|none=>.bad)=_
 rw[e];show(if isKey c x=true/\0<1000000 then Res.ok (D.fn (aI M.length)) ((M++[D.int c]::X).set (aI M.length-5000) (.int c::putD [] x y)) else .bad)=_;rw[if_pos {hk,`d},show aI M.length-5000=M.length from QE _ _,List.set_append_right _ _ (PV _),Nat.sub_self]
 rfl
end
noncomputable def rA:Option Nat->D
 |none=>.non
 |some b=>nD b
def AllIn (m:aK):Option Nat->List (bo×Nat)->Prop
 |some b,A=>cv m (b+1) A
 |none,A=>∃p,cv m p A/\∀q,p≤q->∀b,¬ bB m q b
def cY (m:aK):Option Nat->Prop
 |some b=>jX m (b+1)
 |none=>∃p,jX m p
def uN (m:aK)(h:Nat)(M:Mem)(E:F3):Prop:=∀e∈E,(∃r,M[e.2.2]?=some (r.map nD)/\du m r e.1 e.2.1)/\h≤e.2.2
section
variable{P:Nat->Option Df}{M:Mem}{m:aK}{bd:Option Nat}
set_option tactic.hygienic true in
def yT (hbn:∀c,bn c=#v[au (.one 3) (aC .len #[aa 1]),au (.one 4) (aU true bT),bY (.two 5 [6,7]) (gU (aa 0)) (DV c),az (aa 4)])
 (hbr:∀c,br c=#v[c8 (.one 2) (bF 151 c #[aa 0]),au (.one 3) (aC .tuple #[ah 15 c #[aa 0]]),au (.one 4) (vV 78 (aa 3) (ba #[gI 0,aU true bT])),au (.one 5) (aU true #[aU false #[aa 3]]),fS (dI (aj (qf (bK false true false (aa 5) (eT (gI 3)) gN))) (d7 (aj (av .isN (aa 1) gN)) (aj (av .le (aC .len #[aa 5]) (aa 1))))) #v[mP (aa 5) (bF nx c #[aa 2,aa 5,aa 4])],az (aa 4)])
 (hb:HasB0 P) (hr:iP P) (h15:P 15=some {1,6,dg}) (h151:P 151=some {1,2,dG}) (h152:P 152=some {2,2,dQ}) (hnx:P nx=some {3,11,bn}) (hrc:P rc=some {2,6,br}) (n:Nat) (hm:aJ m) (hbd:∀b,bd=some b->b≤70) :
 fq (ag P (n+11) rc [m.d,rA bd] M) (λd M'=>∃fk E,d=.fn (aI fk)/\M.length≤fk/\M'[fk]?=some (jU E)/\uN m M.length M' E/\AllIn m bd ((un E).map pr)/\E.length≤255/\Sub M M') (λx M'=>x=.exc 8 none/\cY m bd/\Sub M M'):=by
 refine ow hrc rfl ?_;show ae (br (ag P (n+10)) [some m.d,some (rA bd),none,none,none,none] M) _;rw[hbr];refine dF (wt ((eG (af rfl rfl)).trans (sH hb hr h15 h151 n hm))) ?_;have et:aC .tuple #[ah 15 (ag P (n+10)) #[aa 0]] [some m.d,some (rA bd),some (cy m M.length),none,none,none] (M++m.deeds.map (ee m))=.ok (bD (bz m)) (M++m.deeds.map (ee m)):=by
  refine ao (cX.mpr ?_);rw[af ((bh (af rfl rfl)).trans (pM hb h15 (n+1) hm)) rfl,aW];exact⟨rfl,rfl⟩
 refine dF (eD et) ?_;generalize J:M++m.deeds.map (ee m)=h;have ev:ba #[gI 0,aU true bT] [some m.d,some (rA bd),some (cy m M.length),some (bD (bz m)),none,none] (h++[[D.int 78]])=.ok (.tup [.int 0,.cell (h.length+1)]) (h++[D.int 78]::[[]]):=by
  refine lP (cK rfl (cK ?_ rfl)) (P5 rfl);show Res.ok (D.cell (h++[[D.int 78]]).length) ((h++[[D.int 78]])++[[]])=_;rw[Qe,QH];rfl
 refine dF (eD (MZ (.inr rfl) rfl ev (kU _))) ?_;generalize y:h++[D.int 78,D.tup [bD (bz m),D.tup [D.int 0,D.cell (h.length+1)]]]::[[]]=v;refine dF rfl ?_;have l1:h.length=M.length+m.deeds.length:=by rw[<- J];simp
 have l2:v.length=h.length+2:=by rw[<- y];simp
 have s1:Sub M (v++[[.lst [bD (bz m)]]]):=by rw[<- y,<- J,QH,QH];exact Sub.app
 have start:lG M.length (v++[[.lst [bD (bz m)]]]) m M.length v.length h.length [(bz m,0,h.length+1)] [.lst [bD (bz m)]] 1 (λ_=>[bz m]):=by
  refine{?_,`s,`a,rfl,λq x S=>?_,λi hi=>?_,λq c hc=>?_,?_,`a,λq hq b=>?_,{by simp[un],λx S=>?_,λq b hq hl=>?_},P5 rfl}
  ·rw[PU `a,<- y,Qo (PV _),Nat.sub_self];rfl
  ·cases q with
   |zero=>cases S;exact .inl rfl
   |succ q=>simp at S
  ·refine{?_,`a,`a}
   rw[PU `a,<- y,PU `a,<- J,Qo `a]
   rw[QE,P6,P4 hi];rw[<- ng (P4 hi)];rfl
  ·cases q with
   |zero=>cases hc
   |succ q=>simp at hc
  ·intro e he;obtain rfl:=Qa.mp he;refine{{[],?_,du.nil},by show h.length+1≠h.length;omega,by show h.length+1≠v.length;omega,by show M.length≤h.length+1;omega}
   rw[PU (by show h.length+1<v.length;omega),<- y,Qo (by show h.length≤h.length+1;omega)]
   rw[QE];rfl
  ·have:q=0:=`a
   subst this;rw[gM hm];exact Qa
  ·have S:=Qa.mp S;subst S;exact{(gM hm).mpr rfl,Nat.zero_lt_one}
  ·have:q=0:=`a
   subst this;rw[(gM hm).mp hl];exact Qa.mpr rfl
 rw[ax];refine kJ (λk ρ M'=>∃p E H Ls g,k=900-p/\1≤p/\(∀b,bd=some b->p≤b+1)/\g≤3/\p+2≤3*E.length+g/\(∀q,q<p->p≤q+g->Ls q=[])/\lG M.length M' m M.length v.length h.length E H p Ls/\Sub M M'/\ρ=[some m.d,some (rA bd),some (cy m M.length),some (bD (bz m)),some (.fn (aI h.length)),some (.cell v.length)]) ?_ `a {1,_,_,_,0,rfl,`a,λb _=>`a,`a,P5 rfl,λq h1 h2=>`a,start,s1,rfl}
 rintro k ρ M' ⟨p,E,H,Ls,g,rfl,Q,hp2,hg,hpg,Y,s,u,rfl⟩;have few:=s.few;have hp:p≤800:=`a
 obtain⟨b,e1,F,O⟩:=AR s `a (ρ:=[some m.d,some (rA bd),some (cy m M.length),some (bD (bz m)),some (.fn (aI h.length)),some (.cell v.length)]) (i:=5) rfl
 have el:aC .len #[aa 5] [some m.d,some (rA bd),some (cy m M.length),some (bD (bz m)),some (.fn (aI h.length)),some (.cell v.length)] M'=.ok (nD p) M':=by
  refine ao (cX.mpr ?_);rw[af rfl rfl,aW];show ae (match M'[v.length]? with|some xs=>Res.ok (D.int xs.length) M'|none=>.bad) _
  rw[s.l];exact{by show D.int (H.length:Int)=_;rw[s.len],rfl}
 have e3:∃W:Bool,d7 (aj (av .isN (aa 1) gN)) (aj (av .le (aC .len #[aa 5]) (aa 1))) [some m.d,some (rA bd),some (cy m M.length),some (bD (bz m)),some (.fn (aI h.length)),some (.cell v.length)] M'=.ok W M'/\(W=false->∃B,bd=some B/\p=B+1)/\(W=true->∀B,bd=some B->p≤B):=by
  cases bd with
  |none=>exact{true,rfl,(λz=>by cases z),λ_ B z=>by cases z}
  | some B =>
    have hB:=hp2 B rfl;refine{decide ((p:Int)≤(B:Int)),L3 (x:=false) rfl ?_,λz=>{B,rfl,by have:=of_decide_eq_false z;omega},λz B' e=>by cases e;have:=of_decide_eq_true z;omega}
    refine eW (hU.mpr (gg.mpr ?_));rw[el,aW];exact bp.mpr {_,rfl,_,rfl,_,rfl,rfl,rfl}
 obtain⟨W,e4,hno,I⟩:=e3;rw[qw e1 e4,aW];refine{λR=>?_,λR=>?_}
 ·have X:AllIn m bd ((un E).map pr):=by
   have stop:=λhb=>xm hm Q λq' h1 h2 c hl=>by
    have:=(s.lss q' h1 c).mpr hl;rw[F hb q' h1 h2] at this;exact nomatch this
   cases L:W with
   | false =>
     obtain⟨B,rfl,hpB⟩:=hno L;show cv m (B+1) _;rw[<- hpB];exact s.all
   | true =>
     rw[L,Bool.and_true] at R;cases bd with
     |none=>exact{p,s.all,stop R}
     |some B=>exact s.all.mono (by have:=I L B rfl;omega) λq c hq _=>stop R q hq c
  exact aX.mpr (cP rfl {h.length,E,rfl,`a,s.f,λe he=>{(s.row e he).1,(s.row e he).2.2.2},X,few,u})
 ·have hb1:=(Rx.mp R).1;have hpb:=I (Rx.mp R).2;have hg2:g≤2:=by
   obtain⟨q,h1,h2,h3⟩:=O hb1;rcases RD g 3 with z|z
   ·omega
   ·exact absurd (Y q h1 `a) h3
  refine{900-(p+1),`a,?_}
  rw[ax];have U:=BB hbn h152 hnx (n+8) hm `a s
  refine Hk rfl ?_;rw[eG (af rfl (af rfl (af rfl rfl)))];have sN:∀{M3:Mem},aT h.length M' M3->Sub M M3:=λk=>{Qf u.len k.len,λj hj=>(k.at' j (Qg hj u.len) `a).trans (u.at' j hj)}
  cases e:ag P (n+8+2) nx [cy m M.length,.cell v.length,.fn (aI h.length)] M' with
  |bad=>rw[e] at U;exact U.elim
  | err x M3 =>
    rw[e] at U;obtain⟨rfl,ov,kk⟩:=U;refine .inr {(λ_ z=>nomatch z),rfl,?_,sN kk};have mn:=B2 hm Q s.lss s.all ov;cases bd with
    |none=>exact{_,mn}
    |some B=>exact mn.mono (by have:=hpb B rfl;omega)
  | ok d M3 =>
    rw[e] at U;obtain⟨rfl,N,s',nw,hl⟩:=U;refine{H,s'.k.get s.l s.ne,by rw[s.len];exact RH hp `d,?_}
    have sx:=s.next hm Q s' nw hl
    refine .inl {_,rfl,p+1,E++N,_,_,if N=[] then g+1 else 0,rfl,`a,λB hB=>by have:=hpb B hB;omega,?_,?_,λq h1 h2=>?_,sx,(sN s'.k).setq `a,rfl}
    ·split<;>omega
    ·cases N with
     |nil=>rw[if_pos rfl,Qy];omega
     |cons a N=>rw[if_neg `s,Qe,RG];omega
    ·unfold lsN;split
     ·next z=>
      cases N with
      |nil=>rfl
      |cons a N=>rw[if_neg `s] at h2;omega
     ·next z=>
      cases N with
      |nil=>rw[if_pos rfl] at h2;exact Y q `a `a
      |cons a N=>rw[if_neg `s] at h2;omega
end
def FG:ae (cZ false (.lst xs) .non (nD a) M) k↔(xs.take a).length≤sz/\k (.lst (xs.take a)) M:=sL
structure NR where
 place:Nat
 num:Nat
 back:Bool
def NR.d (s:NR):D:=.tup [nD s.place,nD s.num,.bl s.back]
def AD (f:D->Bool)(g:D->D)(hz:ds.length≤sz)(y:w M=some ds)
 (hs:∀d∈ds,∃ρ1,b6 tg d ρ0=some ρ1/\gc ρ1 M=.ok (f d) M/\(f d=true->ge ρ1 M=.ok (g d) M)) (hk:kl ((ds.filter f).map g) M):ae (cT (cU tg (vU gc (bH ge)) ρ0) w [] M) kl:=by
 refine fw (λi j u=>u=M/\j=((ds.take i).filter f).map g) (λi j u h=>by rw[h.1];exact y) ⟨rfl,rfl⟩ ?_ ?_
 ·rintro i d j u hd ⟨rfl,rfl⟩;obtain⟨ρ1,e1,e2,v⟩:=hs d (Qb hd);have z:i<ds.length:=(PH.mp hd).1;simp only[cU,e1,B6,Res.bind_ok,vU,e2];rw[Q1,hd];cases q:f d with
  | false =>
    simp[q]
  | true =>
    rw[if_pos rfl];have len:(((ds.take i).filter f).map g).length≤i:=by
     rw[PK];exact Qf (List.length_filter_le _ _) `o
    simp only[bH,v q,Res.bind_ok];rw[if_pos `a]
    simp[q]
 ·rintro j u ⟨rfl,rfl⟩;simpa using hk
def sM (u:bu M x r)(hl:r.length≤100000):ae (cZ false x (nD a) (nD (a+b)) M) k↔k (.lst (((r.drop a).take b).map nD)) M:=by
 have e:cZ false x (nD a) (nD (a+b)) M=bb false (cut (r.map nD) (min a r.length) (min (a+b) r.length)) M:=by
  have e1:aQ (r.map nD).length 0 (nD a)=some (min a r.length):=by
   show some _=_;rw[if_neg `a];simp
  have e2:aQ (r.map nD).length (r.map nD).length (nD (a+b))=some (min (a+b) r.length):=by
   show some _=_;rw[if_neg `a];simp
   congr 1
  have:cZ false x (nD a) (nD (a+b)) M=match eP M x with|some xs=>(match aQ xs.length 0 (nD a),aQ xs.length xs.length (nD (a+b)) with|some l,some h=>bb false (cut xs l h) M|_,_=>.bad)|none=>.bad:=by
   rcases u with rfl|⟨q,rfl,_⟩<;>rfl
  rw[this,u.rd];dsimp only;rw[e1,e2]
 have c:cut (r.map nD) (min a r.length) (min (a+b) r.length)=((r.drop a).take b).map nD:=by
  unfold cut;rw[List.map_take,List.map_drop];rcases Nat.le_total a r.length with q|q
  ·rw[RL q];rcases Nat.le_total (a+b) r.length with j|j
   ·rw[RL j];congr 1;omega
   ·rw[Nat.min_eq_right j,Qt `s,Qt `o]
  ·rw[Nat.min_eq_right q,List.drop_eq_nil_of_le `s,List.drop_eq_nil_of_le (by simpa using q)];simp
 rw[e,c,b3];exact{λz=>z.2,λz=>{aD `o,z}}
def y9 (j:bu M x r)(hl:r.length≤100000):ae (cZ false x .non (nD a) M) k↔k (.lst ((r.take a).map nD)) M:=by
 have:cZ false x .non (nD a) M=cZ false (.lst (r.map nD)) .non (nD a) M:=by
  have h2:∀y,(y=x\/y=.lst (r.map nD))->cZ false y .non (nD a) M=match eP M y with|some xs=>(match aQ xs.length 0 D.non,aQ xs.length xs.length (nD a) with|some l,some h=>bb false (cut xs l h) M|_,_=>.bad)|none=>.bad:=λy u=>by
   rcases u with rfl|rfl
   ·rcases j with rfl|⟨q,rfl,_⟩<;>rfl
   ·rfl
  rw[h2 x (.inl rfl),h2 _ (.inr rfl),j.rd];rfl
 rw[this,FG,List.map_take];exact{λz=>z.2,λz=>{aD `o,z}}
def uT (j:bu M x r)(hl:r.length≤100000):ae (cZ false x (nD a) .non M) k↔k (.lst ((r.drop a).map nD)) M:=by
 have:cZ false x (nD a) .non M=cZ false (.lst (r.map nD)) (nD a) .non M:=by
  have h2:∀y,(y=x\/y=.lst (r.map nD))->cZ false y (nD a) .non M=match eP M y with|some xs=>(match aQ xs.length 0 (nD a),aQ xs.length xs.length D.non with|some l,some h=>bb false (cut xs l h) M|_,_=>.bad)|none=>.bad:=λy u=>by
   rcases u with rfl|rfl
   ·rcases j with rfl|⟨q,rfl,_⟩<;>rfl
   ·rfl
  rw[h2 x (.inl rfl),h2 _ (.inr rfl),j.rd];rfl
 rw[this];rw[BH,List.map_drop];exact{λz=>z.2,λz=>{aD `o,z}}
def wm (j:bu M x a)(u:bu M y b):bq .ne x y M=some (!decide (a=b)):=
 nj (by rw[j.vw];exact nP 63 a) (by rw[u.vw];exact nP 63 b) (by rw[j.vw,u.vw];exact pA a b)
theorem oF (M:Mem):∀(n k:Nat) (d:D),ak k d=true->bE n M d=d
 |0,_,_,_=>rfl
 | n + 1, k, d, h => by
   have all:∀(k:Nat) (j:List D),j.all (ak k)=true->j.map (bE n M)=j:=λk j u=>by
    rw[Qh] at u
    conv=>rhs;rw[<- List.map_id j]
    exact Rp λd hd=>oF M n k d (u d hd)
   cases d with
   | tup j =>
     cases k with
     |zero=>simp[ak] at h
     |succ k=>exact congrArg D.tup (all k j (by simpa[ak] using h))
   | lst j =>
     cases k with
     |zero=>simp[ak] at h
     |succ k=>exact congrArg D.lst (all k j (by simpa[ak] using h))
   |frz j=>cases k<;>simp[ak] at h
   |cell q=>cases k<;>simp[ak] at h
   |fn f=>cases k<;>simp[ak] at h
   |exc y p=>cases k<;>simp[ak] at h
   |_=>rfl
def kz (e:M[q]?=some ds)(h:ds.all (ak k)=true):bE (n+1) M (.cell q)=.lst ds:=by
 have:bE (n+1) M (.cell q)=.lst (ds.map (bE n M)):=by simp[bE,e]
 rw[this]
 congr 1
 rw[Qh] at h
 conv=>rhs;rw[<- List.map_id ds]
 exact Rp λd hd=>oF M n k d (h d hd)
def Aq (ha:bE 64 M x=a)(j:bE 64 M y=b)(u:ak 64 a=true)(z:ak 64 b=true)(h:bW a b=v)(hs:∀r,lK (view M x) (view M y)=some r->r=v):bq .eq x y M=some v/\bq .ne x y M=some (!v):=by
 have e:jI M x y=some v:=by
  unfold jI;cases q:lK (view M x) (view M y) with
  |some r=>rw[hs r q]
  | none =>
    rw[ha,j];unfold lK;rw[u,z,h];simp
 exact{e,by show(jI M x y).map (!·)=_;rw[e];rfl}
def eq_empty (j:l.all (ak 63)=true):bq .eq (.lst l) (.lst []) M=some l.isEmpty:=by
 refine qs j rfl ?_;cases l<;>rfl
noncomputable def oZ (f:D->Bool):∀ds:List D,((ds.filter λd=>!f d).map λ_=>D.int 1).isEmpty=ds.all f
 |[]=>rfl
 | d :: r => by
   have j:=oZ f r;cases q:f d with
   |true=>simpa[q] using j
   |false=>simp[q]
def Gi (f:D->Bool)(j:ae (w ρ M) λwk M'=>M'=M/\wk M=some ds)(hz:ds.length≤sz)(he:∀d∈ds,gc (some d::ρ) M=.ok (!f d) M)(hk:k (.bl (ds.all f)) M) :
 ae (av .eq (bI false 1 (.one 0) w (vU gc (bH (gI 1)))) (aU false bT) ρ M) k:=by
 simp only[gg,fh,EA,cJ,b3];refine aO j λwk M' ⟨e1,e2⟩=>?_;subst e1;refine AD (λd=>!f d) (λ_=>.int 1) hz e2 (λd hd=>{some d::ρ,rfl,he d hd,λ_=>rfl}) ?_;refine{Qf (by rw[PK];exact List.length_filter_le _ _) hz,aD `d,_,eq_empty ?_,?_}
 ·rw[Qh];intro x u;obtain⟨_,_,rfl⟩:=PZ.mp u;rfl
 ·rw[oZ];exact hk
section
variable{P:Nat->Option Df}{M:Mem}{m:aK}{i:Nat}{b:bo}
def wO (v:HasB P)(h158:P 158=some {3,3,dB})(n:Nat)(hm:aJ m)(hi:i<m.deeds.length)(hl:b.length≤16)(y:∀s∈b,dR m s):ae (ag P (n+2) 158 [m.d,bD b,nD i] M) λd M'=>d=bD (bf m i b)/\Sub M M':=by
 refine aH h158 rfl ?_;unfold dB;simp only[ax,dJ,cX,bR,fh,cJ,f5,bp];refine{_,rfl,rfl,?_};refine comp_map (λj h M'=>h=((b.take j).map (bV (cb m i))).map aw/\Sub M M') (aD `o) (λ_ _ _ _=>rfl) {rfl,.refl} ?_ ?_
 ·rintro j x h M' hd _ ⟨rfl,sub⟩;rw[P6] at hd;cases e:b[j]? with
  |none=>rw[e] at hd;cases hd
  | some s =>
    rw[e] at hd;have hd:=PQ hd;subst hd;refine{_,rfl,?_};have hs:=y s (Qb e);have u:aq (aq (aa 1) (gI 2)) (aa 3) [some (aw s),some m.d,some (bD b),some (nD i)] M'=.ok (cb m i).d M':=bG (bG rfl rfl rfl) rfl (og hi);show ae (ah 41 (ag P (n+1)) #[aq (aq (aa 1) (gI 2)) (aa 3),aa 0] [some (aw s),some m.d,some (bD b),some (nD i)] M') _;rw[bh (af u (af rfl rfl)),sI v n hm (gD hm hi) hs,aW];refine{?_,sub.trans Sub.app};rw[Q1,e];simp
 ·rintro h M' _ ⟨rfl,sub⟩;rw[PK,Qt (PV _)];exact b3.mpr {aD `o,rfl,sub}
end
def Bk (m:aK)(W:bo->Nat->Nat->Prop)(Q:Nat->List bo):Prop:=∀i b,b∈Q i↔(i=0/\b=bz m)\/∃h q j,W h q j/\q+cst m j=i/\b=bf m j h
def WE (m:aK)(E:fv)(b:bo)(q j:Nat):Prop:=(b,q)∈E.map pr/\j<m.deeds.length
noncomputable def jw (Q:Nat->List bo)(i:Nat)(b:bo):Nat->List bo:=λk=>if k=i then Q i++[b] else Q k
section
variable{m:aK}{p:Nat}{E N:fv}{Q:Nat->List bo}{W W':bo->Nat->Nat->Prop}
def Bk.congr (h:Bk m W Q)(e:∀b q j,W b q j↔W' b q j):Bk m W' Q:=λi b=>(h i b).trans (or_congr_right {λ⟨u,q,j,w,r⟩=>{u,q,j,(e _ _ _).mp w,r},λ⟨u,q,j,w,r⟩=>{u,q,j,(e _ _ _).mpr w,r}})
set_option tactic.hygienic true in
def Bk.push (h:Bk m W Q)(b0:bo)(F u:Nat):Bk m (λb q j=>W b q j\/(b=b0/\q=F/\j=u)) (jw Q (F+cst m u) (bf m u b0)):=λi b=>by
 unfold jw;constructor
 ·intro B;split at B
  ·next z=>
   subst z;rcases Qs.mp B with y|y
   ·exact((h _ b).mp y).imp id λ⟨v,q,j,w,r⟩=>{v,q,j,.inl w,r}
   ·exact .inr {b0,F,u,.inr ⟨rfl,rfl,rfl⟩,rfl,Qa.mp y}
  ·exact((h i b).mp B).imp id λ⟨v,q,j,w,r⟩=>{v,q,j,.inl w,r}
 ·intro B;have old:b∈Q i->b∈(if i=F+cst m u then Q (F+cst m u)++[bf m u b0] else Q i):=λy=>by
   split
   ·next z=>rw[<- z];exact QT _ y
   ·exact y
  rcases B with y|⟨v,q,j,w|⟨rfl,rfl,rfl⟩,e1,e2⟩
  ·exact old ((h i b).mpr (.inl y))
  ·exact old ((h i b).mpr (.inr ⟨v,q,j,w,e1,e2⟩))
  ·rw[if_pos e1.symm,e2];exact Qx _ (Qa.mpr rfl)
def gz (h:cv m p (E.map pr)):(b,q)∈E.map pr↔bB m q b/\q<p:={λz=>h.sound _ z,λz=>h.all q b z.2 z.1}
def Gv:b∈E.map (·.1)↔∃q,(b,q)∈E.map pr:=by
 constructor
 ·intro h;obtain⟨e,he,rfl⟩:=PZ.mp h;exact{e.2.1,Qv he}
 ·rintro⟨q,h⟩;obtain⟨e,he,z⟩:=PZ.mp h;have:e.1=b:=congrArg Prod.fst z;rw[<- this];exact Qv he
def oy (hm:aJ m)(h:cv m p (E.map pr))(H:Bk m (WE m E) Q)(b:bo):bB m p b↔b∈Q p/\b∉E.map (·.1):=by
 have B:b∉E.map (·.1)↔∀q<p,¬ bB m q b:=by
  rw[Gv];exact{λz q v l=>z {q,(gz h).mpr ⟨l,v⟩},λz ⟨q,y⟩=>z q ((gz h).mp y).2 ((gz h).mp y).1}
 rw[B,H p b];rcases Nat.eq_zero_or_pos p with rfl|J
 ·rw[gM hm];refine{λz=>{.inl ⟨rfl,z⟩,λq v=>absurd v (Q5 _)},λz=>?_};rcases z.1 with y|⟨u,q,j,w,_⟩
  ·exact y.2
  ·exact absurd ((gz h).mp w.1).2 (Q5 _)
 ·rw[gO hm J];refine and_congr_left λ_=>{λ⟨i,u,F,I,l,e⟩=>.inr {u,p-cst m i,i,{(gz h).mpr {l,?_},F},Nat.sub_add_cancel I,e},λz=>?_}
  ·have:=(fW hm F).1;omega
  ·rcases z with y|⟨u,q,j,w,e1,e2⟩
   ·omega
   ·refine{j,u,w.2,`a,?_,e2}
    have:=((gz h).mp w.1).1;rw[<- e1,Nat.add_sub_cancel];exact this
def K1 (h:cv m p (E.map pr))(u:Bk m (WE m E) Q)(z:b∈Q i):jm m i b:=by
 rcases(u i b).mp z with⟨rfl,rfl⟩|⟨v,q,j,w,rfl,rfl⟩
 ·exact .start
 ·exact .step ((gz h).mp w.1).1.1 w.2
def Hf (hm:aJ m)(h:cv m p (E.map pr))(v:Bk m (WE m E) Q)(u:NW p E (·∈Q p) N):cv m (p+1) ((E++N).map pr):=by
 have fl:=λx j=>(oy hm h v x.1).mpr {(u.fr x j).1,λz=>by
  have nd:=u.nd;rw[Qd,Rk] at nd;exact nd.2.2 _ z _ (Qv j) rfl}
 refine{by rw[hG];exact u.nd,λy B=>?_,λq b F hl=>?_}
 ·obtain⟨x,j,rfl⟩:=PZ.mp B;rcases Qs.mp j with z|z
  ·have s:=h.sound (pr x) (Qv z);exact{s.1,Rj s.2}
  ·have e:x.2.1=p:=(u.fr x z).2.1;exact{by show bB m x.2.1 x.1;rw[e];exact fl x z,by show x.2.1<p+1;omega}
 ·rw[Qd];rcases RD q p with z|z
  ·exact QT _ (h.all q b z hl)
  ·have:q=p:=`a
   subst this;obtain⟨h1,h2⟩:=(oy hm h v b).mp hl;have h3:=u.al b h1;rw[Qd] at h3;rcases Qs.mp h3 with y|y
   ·exact absurd y h2
   ·obtain⟨x,j,rfl⟩:=PZ.mp y;refine Qx _ (PZ.mpr {x,j,?_});show(x.1,x.2.1)=_;rw[(u.fr x j).2.1]
def Hg (hm:aJ m)(h:cv m p (E.map pr))(j:Bk m (WE m E) Q)(nd:((E++N).map (·.1)).Nodup)(fr:∀x∈N,x.1∈Q p/\x.2.1=p)(hl:255<(E++N).length):jX m (p+1):=by
 refine{(E++N).map pr,by rw[hG];exact nd,λy v=>?_,by rw[PK];exact hl}
 obtain⟨x,u,rfl⟩:=PZ.mp v;rcases Qs.mp u with z|z
 ·have s:=h.sound (pr x) (Qv z);exact{s.1,Rj s.2}
 ·have e:x.2.1=p:=(fr x z).2;refine{?_,by show x.2.1<p+1;omega}
  show bB m x.2.1 x.1;rw[e];refine(oy hm h j x.1).mpr {(fr x z).1,λy=>?_};rw[Qd,Rk] at nd;exact nd.2.2 _ y _ (Qv z) rfl
def wo (hm:aJ m)(h:cv m p (E.map pr))(v:Bk m (WE m E) Q)(he:∀i,p≤i->Q i=[]):∀q,p≤q->∀b,¬ bB m q b:=by
 intro q;induction q using Nat.strongRecOn with
 | ind q H =>
   intro B b hl;rcases Nat.eq_zero_or_pos q with rfl|j
   ·have:b∈Q 0:=(v 0 b).mpr (.inl {rfl,(gM hm).mp hl});rw[he 0 B] at this;exact nomatch this
   ·obtain⟨⟨i,u,y,F,h1,e⟩,_⟩:=(gO hm j).mp hl;have c:=fW hm y;by_cases z:p≤q-cst m i
    ·exact H _ `a z u h1
    ·have:b∈Q q:=(v q b).mpr (.inr {u,q-cst m i,i,{(gz h).mpr {h1,`a},y},Nat.sub_add_cancel F,e})
     rw[he q B] at this;exact nomatch this
end
def om (e:bo×Nat×List Nat):D:=.tup [bD e.1,nD e.2.1]
noncomputable def lW (E:fv):List D:=.int 78::E.map om
section
variable{M:Mem}{fk:Nat}{E:fv}{b:bo}
def nS (E:fv)(b:bo):cV (E.map om) (bD b)=(E.find? λe=>decide (e.1=b)).map λe=>nD e.2.1:=by
 refine Eq.trans (kS (λe:bo×Nat×List Nat=>bD e.1) (λe=>nD e.2.1) E (bD b)) ?_
 congr 2
 funext x
 exact EI x.1 b
def IY (e:M[fk]?=some (lW E)):inD M (aI fk) (bD b)=some (E.any λe=>decide (e.1=b)):=by
 unfold inD;rw[iq e (.inr rfl)];show(if isKey 78 (bD b)=true then some (cV (E.map om) (bD b)).isSome else none)=_;rw[if_pos (kU b),nS,RQ]
 congr 1
 rw[Ra,List.find?_isSome,Rv]
def F5 (hn:∀e∈E,e.1≠b):putD (E.map om) (bD b) (nD q)=(E++[(b,q,[])]).map om:=by
 rw[pS,Qd];rfl;rw[nS,List.find?_eq_none.mpr];rfl;exact λx h e=>hn x h (of_decide_eq_true e)
theorem vZ:∀{E:fv},(E.map (·.1)).Nodup->∀{x:bo×Nat×List Nat},x∈E->(E.find? λe=>decide (e.1=x.1))=some x
 |[],_,_,h=>nomatch h
 | a :: E, nd, x, h => by
   rw[Q6,QI] at nd;rw[List.find?_cons];by_cases e:a.1=x.1
   ·rw[decide_eq_true e];rcases Qu.mp h with z|z
    ·rw[z]
    ·exact absurd (by rw[e];exact Qv z) nd.1
   ·rw[decide_eq_false e];rcases Qu.mp h with z|z
    ·exact absurd (by rw[z]) e
    ·exact vZ nd.2 z
def F6 (e:M[fk]?=some (lW E))(nd:(E.map (·.1)).Nodup)(h:x∈E):getD M (aI fk) (bD x.1)=some (nD x.2.1):=by
 unfold getD;rw[iq e (.inr rfl)];show(if isKey 78 (bD x.1)=true then cV (E.map om) (bD x.1) else none)=_;rw[if_pos (kU _),nS,vZ nd h];rfl
end
structure cq (M0 M:Mem) (fk dv:Nat) (E:fv) (cs:List Nat) (Q:Nat->List bo):Prop where
 f:M[fk]?=some (lW E)
 d:M[dv]?=some (cs.map D.cell)
 nd:(fk::dv::cs).Nodup
 lo:∀x∈fk::dv::cs,M0.length≤x
 q:∀(i c:Nat),cs[i]?=some c->M[c]?=some ((Q i).map bD)
 e:∀i,cs.length≤i->Q i=[]
 s:Sub M0 M
section
variable{M0 M M':Mem}{fk dv c i:Nat}{E E':fv}{cs:List Nat}{Q:Nat->List bo}{b:bo}
def kM (e:M[k]?=some x):k<M.length:=(PH.mp e).1
def cq.sub (h:cq M0 M fk dv E cs Q)(s:Sub M M'):cq M0 M' fk dv E cs Q:={s.get h.f,s.get h.d,h.nd,h.lo,λi c e=>s.get (h.q i c e),h.e,h.s.trans s}
def cq.ne (h:cq M0 M fk dv E cs Q):fk≠dv/\∀(i c:Nat),cs[i]?=some c->c≠fk/\c≠dv:=by
 have nd:=h.nd;rw[QI,QI] at nd;refine{λe=>nd.1 (by rw[e];exact Qm),λi c e=>{λz=>nd.1 (by rw[<- z];exact Qc _ (Qb e)),λz=>nd.2.1 (by rw[<- z];exact Qb e)}}
def cq.put (h:cq M0 M fk dv E cs Q)(E':fv):cq M0 (M.set fk (lW E')) fk dv E' cs Q:=
 {Qj (kM h.f),by rw[PN h.ne.1];exact h.d,h.nd,h.lo,λi c e=>by rw[PN (Q0 (h.ne.2 i c e).1)];exact h.q i c e,h.e,h.s.setq (h.lo fk Qm)}
def cq.more (h:cq M0 M fk dv E cs Q):cq M0 ((M++[[]]).set dv (cs.map D.cell++[D.cell M.length])) fk dv E (cs++[M.length]) Q:=by
 have hf:=kM h.f;have hd:=kM h.d;have all:∀x∈fk::dv::cs,x<M.length:=λx j=>by
  rcases Qu.mp j with z|j
  ·rw[z];exact hf
  ·rcases Qu.mp j with z|j
   ·rw[z];exact hd
   ·obtain⟨i,e⟩:=RS j;exact kM (h.q i x e)
 refine{?_,?_,?_,λx j=>?_,λi c e=>?_,λi u=>?_,(h.s.trans Sub.app).setq (h.lo dv `s)}
 ·rw[PN (Q0 h.ne.1),PU hf];exact h.f
 ·rw[Qj `o,Qd];rfl
 ·show((fk::dv::cs)++[M.length]).Nodup;rw[Rk];exact{h.nd,`s,λx j y v z=>by
   have:=all x j;have v:y=M.length:=by simpa using v
   omega}
 ·rcases Qs.mp (show x∈(fk::dv::cs)++[M.length] from j) with z|z
  ·exact h.lo x z
  ·rw[Qa.mp z];exact h.s.len
 ·rcases RD i cs.length with z|z
  ·rw[PU z] at e;have:=h.q i c e;rw[PN (Q0 (h.ne.2 i c e).2),PU (kM this)];exact this
  ·have u:i=cs.length:=by
    have:=(PH.mp e).1;simp at this;omega
   subst u;rw[Qo (PV _),Nat.sub_self] at e;cases e;rw[PN (Qw hd),h.e _ (PV _)];simp
 ·rw[Qe] at u;exact h.e i (by simp at u;omega)
def cq.push (h:cq M0 M fk dv E cs Q)(hi:cs[i]?=some c)(b:bo):cq M0 (M.set c ((Q i).map bD++[bD b])) fk dv E cs (jw Q i b):=by
 have n:=h.ne.2 i c hi;have nd:=(QI.mp (QI.mp h.nd).2).2;refine{by rw[PN n.1];exact h.f,by rw[PN n.2];exact h.d,h.nd,h.lo,λk j e=>?_,λk hk=>?_,h.s.setq (h.lo c (by simp[Qb hi]))}
 ·unfold jw;by_cases z:k=i
  ·subst z;rw[hi] at e;cases e;rw[Qj (kM (h.q k c hi)),if_pos rfl,Qd];rfl
  ·have ne:c≠j:=λy=>by
    subst y;rcases RD k i with y|y
    ·exact oS nd y e hi
    ·exact oS nd (by omega:i<k) hi e
   rw[PN ne,if_neg z];exact h.q k j e
 ·have:=(PH.mp hi).1;unfold jw;rw[if_neg `a];exact h.e k hk
end
section
variable{ρ:Env}{M M' M1:Mem}{a b d:GE}
def AO (h:a ρ M=.ok (.cell j) M)(hd:d ρ M=.ok z M1)(e:M1[j]?=some ds)(hl:ds.length<sz):dz a d ρ M=.ok (.next ρ) (M1.set j (ds++[z])):=by
 unfold dz;rw[h];show(d ρ M).bind _=_;rw[hd];show(match M1[j]? with|some ds=>if ds.length<sz then Res.ok (Fl.next ρ) (M1.set j (ds++[z])) else .bad|none=>.bad)=_
 rw[e];exact if_pos hl
def vI (h:ρ[j]?.getD none=some (.cell k))(e:M[k]?=some ds):aC .len #[aa j] ρ M=.ok (nD ds.length) M:=by
 refine ao (cX.mpr ?_);rw[af (aE h) rfl,aW];show ae (match M[k]? with|some xs=>Res.ok (D.int xs.length) M|none=>.bad) _
 rw[e];exact⟨rfl,rfl⟩
def zU (h1:a ρ M=.ok (nD i) M)(h2:b ρ M=.ok (nD j) M):aj (av .le a b) ρ M=.ok (decide (i≤j)) M:=by
 refine eW (hU.mpr (gg.mpr ?_));rw[h1,aW,h2,aW];refine{_,rfl,_,rfl,?_,rfl};exact decide_eq_decide.mpr Int.ofNat_le
def JK (h1:a ρ M=.ok (nD i) M)(h2:b ρ M=.ok (nD j) M):aj (av .lt a b) ρ M=.ok (decide (i<j)) M:=by
 refine eW (hU.mpr (gg.mpr ?_));rw[h1,aW,h2,aW];refine{_,rfl,_,rfl,?_,rfl};exact decide_eq_decide.mpr Int.ofNat_lt
def vQ (h:ρ[j]?.getD none=some (.cell k))(v:b ρ M=.ok (nD i) M)(e:M[k]?=some ds)(u:ds[i]?=some x):aq (aa j) b ρ M=.ok x M:=by
 refine bG (aE h) v ?_;show(M[k]?).bind _=_;rw[e];show((cg ds.length (i:Int)).bind λj=>ds[j]?)=_;rw[dN (PH.mp u).1];exact u
def CW (h:a ρ M=.ok (nD i) M)(u:b ρ M=.ok (nD j) M):ai false .add a b ρ M=.ok (nD (i+j)) M:=(fQ h u).trans (by rw[<- Int.natCast_add])
end
def AllIn.nd {bd:Option Nat}(h:AllIn m bd l):(l.map (·.1)).Nodup:=by
 cases bd with
 |none=>obtain⟨_,h,_⟩:=h;exact h.nd
 |some b=>exact cv.nd h
def AllIn.sound {bd:Option Nat}(h:AllIn m bd l):∀x∈l,bB m x.2 x.1:=by
 cases bd with
 |none=>obtain⟨_,h,_⟩:=h;exact λx j=>(h.sound x j).1
 |some b=>exact λx j=>(cv.sound h x j).1
def wG (E:F3):(un E).map pr=E.map λe=>(e.1,e.2.1):=by unfold un;rw[QO];rfl
section
variable{P:Nat->Option Df}{M0 M:Mem}{m:aK}{fk dv p bound:Nat}{E:fv}{cs:List Nat}{Q:Nat->List bo}{kf:Fl->Mem->Prop}{x1 y5 y6 y7:Option D}
def E2 {E:fv}{b:bo}:∀h q j,(WE m E h q j\/(h=b/\q=p/\j<m.deeds.length))↔WE m (E++[(b,p,[])]) h q j:=λh q j=>by
 unfold WE;rw[Qd,Qs];constructor
 ·rintro(⟨h1,h2⟩|⟨rfl,rfl,h2⟩)
  ·exact{.inl h1,h2}
  ·exact{.inr (Qa.mpr rfl),h2}
 ·rintro⟨h1|h1,h2⟩
  ·exact .inl ⟨h1,h2⟩
  ·cases Qa.mp h1;exact .inr ⟨rfl,rfl,h2⟩
def vH {s:GA}{ρ:Env}{M M1:Mem}{xs:List D}(e:s ρ M=.ok xs M1)(hl:xs.length≤100):aU true s ρ M=.ok (.cell M1.length) (M1++[xs]):=by
 unfold aU;rw[e];show(if xs.length≤sz then(if true=true then Res.ok (D.cell M1.length) (M1++[xs]) else _) else .bad)=_;rw[if_pos (aD `a)]
 rfl
def G9 {a:GE}{s:GA}{ρ:Env}{M M1 h:Mem}{x:D}{xs:List D}(j:a ρ M=.ok x M1)(es:s ρ M1=.ok xs h):cm a s ρ M=.ok (x::xs) h:=by
 unfold cm;rw[j];show(s ρ M1).bind _=_;rw[es];rfl
end
section
variable{M0 M:Mem}{fk dv p c C:Nat}{E:fv}{cs:List Nat}{Q:Nat->List bo}{ρ:Env}{kf:Fl->Mem->Prop}
def J1 (h3:ρ[3]?.getD none=some (.cell dv))(h4:ρ[4]?.getD none=some (nD p))(y:∀M,aq (aa 7) (eT (gI 1)) ρ M=.ok (nD c) M)(F:p+c<C)(B:C≤800)(h:cq M0 M fk dv E cs Q)(hl:cs.length≤C)
 (k:∀M' t,cq M0 M' fk dv E (cs++t) Q->(cs++t).length≤C->p+c<(cs++t).length->kf (.next ρ) M') :
 ae (fS (aj (av .le (aC .len #[aa 3]) (ai false .add (aa 4) (aq (aa 7) (eT (gI 1)))))) #v[dz (aa 3) (aU true bT)] ρ M) kf:=by
 refine kJ (λk u M'=>u=ρ/\∃t,cq M0 M' fk dv E (cs++t) Q/\(cs++t).length≤C/\k=C-(cs++t).length) ?_ (k:=C-cs.length) `a {rfl,[],by rw[Qy];exact h,by rw[Qy];exact hl,by rw[Qy]}
 rintro H u M' ⟨rfl,t,v,j,rfl⟩;rw[zU (vI h3 v.d) (CW (aE h4) (y M')),aW,PK];refine{λz=>k M' t v j (by have:=of_decide_eq_false z;omega),λz=>?_}
 refine{C-(cs++(t++[M'.length])).length,by simp at z j ⊢;omega,?_}
 have hd:=kM v.d;refine dF (AO (aE h3) rfl (by rw[PU hd];exact v.d) (by rw[PK];exact RH (Qf j B) `d)) ?_
 refine .inl {u,rfl,rfl,t++[M'.length],?_,by simp at z j ⊢;omega,rfl}
 rw[<- QH];exact v.more
end
section
variable{P:Nat->Option Df}{M0 M:Mem}{m:aK}{fk dv p L C:Nat}{E:fv}{cs:List Nat}{Q:Nat->List bo}{W:bo->Nat->Nat->Prop}{b:bo}{kf:Fl->Mem->Prop}{x1 y6 y7:Option D}
set_option tactic.hygienic true in
def IU (ha:HasB P)(h158:P 158=some {3,3,dB})(n:Nat)(hm:aJ m)(hp:p+4≤C)(hC:C≤800)(X:b.length≤16)(hb:∀s∈b,dR m s)(h:cq M0 M fk dv E cs Q)(hl:cs.length≤C)(bk:Bk m W Q)(hL:∀i,(Q i).length≤L)(hL2:L≤90000)
 (k:∀M' t Q' y6 y7,cq M0 M' fk dv E (cs++t) Q'->(cs++t).length≤C->Bk m (λB q j=>W B q j\/(B=b/\q=p/\j<m.deeds.length)) Q'->(∀i,(Q' i).length≤L+6)->Q' p=Q p->kf (.next [some m.d,x1,some (.fn (aI fk)),some (.cell dv),some (nD p),some (bD b),y6,y7]) M') :
 ae (bY (.tup [6,7]) (gU (aq (aa 0) (gI 2))) (tS (ag P (n+2))) [some m.d,x1,some (.fn (aI fk)),some (.cell dv),some (nD p),some (bD b),y6,y7] M) kf:=by
 rw[dM,yp,bG rfl rfl rfl,aW];refine{rfl,?_};have d6:=hm.d6;refine c5 (λi ρ M'=>∃t Q' y6 y7,cq M0 M' fk dv E (cs++t) Q'/\(cs++t).length≤C/\Bk m (λB q j=>W B q j\/(B=b/\q=p/\j<i)) Q'/\(∀k,(Q' k).length≤L+i)/\Q' p=Q p/\ρ=[some m.d,x1,some (.fn (aI fk)),some (.cell dv),some (nD p),some (bD b),y6,y7])
  (λ_ _ _ _=>rfl) {[],Q,y6,y7,by rw[Qy];exact h,by rw[Qy];exact hl,bk.congr λB q j=>{.inl,λz=>z.elim id λz=>absurd z.2.2 (Q5 _)},hL,rfl,rfl} ?_ ?_
 ·rintro i x ρ M' hx ⟨t,Q',y6,y7,S,H,y,v,U,rfl⟩;obtain⟨x2,u,rfl⟩:=v8 hx;rw[P6] at u;cases O:m.deeds[i]? with
  |none=>rw[O] at u;cases u
  | some d =>
    rw[O] at u;have u:=PQ u;subst u;have hi:=(PH.mp O).1;have et:=ng O;have c:=fW hm hi;have ec:cst m i=d.cost:=by unfold cst;rw[et]
    rw[Nat.zero_add];refine{_,rfl,?_};unfold tS;have Y:∀M,aq (aa 7) (eT (gI 1)) [some m.d,x1,some (.fn (aI fk)),some (.cell dv),some (nD p),some (bD b),some (nD i),some d.d] M=.ok (nD (cst m i)) M:=λM=>by
     rw[ec];exact ao (ia.mpr (bp.mpr {_,rfl,rZ.mpr (dW.mpr {1,rfl,_,jF,rfl,rfl})}))
    rw[ax];refine J1 rfl rfl Y `a hC S H λM2 t2 h2 J I=>?_
    rw[QH] at h2 J I;rw[aX];obtain⟨z,M3,e3,ez,sub⟩:=d9.mp (wO ha h158 n hm hi X hb);subst ez;have h3:=h2.sub sub;have F:=P4 I;refine dF (AO (vQ rfl (CW rfl (Y M2)) h2.d (by rw[P6,F];rfl)) ((bh (af rfl (af rfl (af rfl rfl)))).trans e3) (h3.q _ _ F) (by rw[PK];exact RH (v _) (RH (show L+i≤90006 by omega) `d))) ?_
    refine{_,rfl,t++t2,jw Q' (p+cst m i) (bf m i b),_,_,h3.push F _,J,(y.push b p i).congr λB q j=>?_,λk=>?_,?_,rfl}
    ·constructor
     ·rintro((w|⟨e1,e2,R⟩)|⟨e1,e2,R⟩)
      ·exact .inl w
      ·exact .inr {e1,e2,Rj R}
      ·exact .inr {e1,e2,`a}
     ·rintro(w|⟨e1,e2,R⟩)
      ·exact .inl (.inl w)
      ·rcases RD j i with z|z
       ·exact .inl (.inr ⟨e1,e2,z⟩)
       ·exact .inr {e1,e2,`a}
    ·have:=v k;unfold jw;split
     ·next z=>subst z;rw[Qe];have:=v (p+cst m i);simp;omega
     ·omega
    ·unfold jw;rw[if_neg `a];exact U
 ·rintro ρ M' ⟨t,Q',y6,y7,S,H,y,v,U,rfl⟩;rw[lh,PK] at y v;exact k M' t Q' y6 y7 S H y (λi=>Qf (v i) `a) U
end
section
variable{P:Nat->Option Df}{M0 M:Mem}{m:aK}{fk dv p bound:Nat}{E:fv}{cs:List Nat}{Q:Nat->List bo}{kf:Fl->Mem->Prop}{x1 y5 y6 y7:Option D}
def Gs (ha:HasB P)(h158:P 158=some {3,3,dB})(n:Nat)(hm:aJ m)(j:cv m p (E.map pr))(hE:E.length≤255)(h:cq M0 M fk dv E cs Q)(hl:cs.length≤3*E.length+1)(bk:Bk m (WE m E) Q)(hL:∀i,(Q i).length≤7*E.length+1)(hpc:p<cs.length)
 (k1:∀M' N t Q' y5 y6 y7,cv m (p+1) ((E++N).map pr)->(E++N).length≤255->cq M0 M' fk dv (E++N) (cs++t) Q'->(cs++t).length≤3*(E++N).length+1->Bk m (WE m (E++N)) Q'->(∀i,(Q' i).length≤7*(E++N).length+1)->kf (.next [some m.d,x1,some (.fn (aI fk)),some (.cell dv),some (nD p),y5,y6,y7]) M')
 (k2:∀M',jX m (p+1)->Sub M0 M'->kf (.ret .non) M') :
 ae (bY (.one 5) (bZ (aq (aa 3) (aa 4))) (zW (ag P (n+2))) [some m.d,x1,some (.fn (aI fk)),some (.cell dv),some (nD p),y5,y6,y7] M) kf:=by
 have O:=P4 hpc;generalize cs[p]=X at O;rw[dM,f5,vQ rfl rfl h.d (by rw[P6,O];rfl),aW]
 refine{rfl,?_};have at':∀{t:List Nat},(cs++t)[p]?=some X:=λ{t}=>by rw[PU hpc];exact O
 refine qg (ds:=(Q p).map bD) (λi ρ M'=>∃N t Q' y5 y6 y7,NW p E (·∈(Q p).take i) N/\(E++N).length≤255/\cq M0 M' fk dv (E++N) (cs++t) Q'/\(cs++t).length≤3*(E++N).length+1/\Bk m (WE m (E++N)) Q'/\(∀i,(Q' i).length≤7*(E++N).length+1)/\Q' p=Q p/\ρ=[some m.d,x1,some (.fn (aI fk)),some (.cell dv),some (nD p),y5,y6,y7])
  (λfl M'=>fl=.ret .non/\jX m (p+1)/\Sub M0 M'/\M'[X]?=some ((Q p).map bD)) ?_ ?_ ?_ {[],[],Q,y5,y6,y7,{by rw[Qy,<- hG];exact j.nd,(λx u=>nomatch u),λb hb=>by simp at hb},by rw[Qy];exact hE,by rw[Qy,Qy];exact h,by rw[Qy,Qy];exact hl,by rw[Qy];exact bk,by rw[Qy];exact hL,rfl,rfl} ?_ ?_ ?_
 ·rintro fl M' ⟨rfl,_⟩ ρ z;cases z
 ·rintro i ρ M' ⟨N,t,Q',_,_,_,_,_,F,_,_,_,U,_⟩;show M'[X]?=_;rw[F.q p X at',U]
 ·rintro fl M' ⟨_,_,_,e⟩;exact e
 ·rintro i x ρ M' u ⟨N,t,Q',y5,y6,y7,nw,hn,F,S,v,y,U,rfl⟩;rw[P6] at u;cases eb:(Q p)[i]? with
  |none=>rw[eb] at u;cases u
  | some b =>
    rw[eb] at u;have u:=PQ u;subst u;have hb:=Qb eb;refine{_,rfl,?_};have I:∀x,x∈(Q p).take (i+1)↔x∈(Q p).take i\/x=b:=λx=>by
     rw[Q1,eb];simp
    have ok:=sW hm (K1 j bk hb);refine b8 (bO (Av rfl rfl (IY F.f))) (λJ=>?_) λJ=>?_
    ·have Y:∀e∈E++N,e.1≠b:=λe he z=>by
      rw[show((E++N).any λe=>decide (e.1=b))=true from Rv.mpr {e,he,decide_eq_true z}] at J;cases J
     have B:=nw.new I Y (r:=[]) (Rh _);refine dF (GV rfl rfl rfl (iq F.f (.inr rfl)) (kU _) (by rw[PK];omega)) ?_
     have s1:(M'.set (aI fk-5000) (.int 78::putD ((E++N).map om) (bD b) (nD p)))=M'.set fk (lW (E++(N++[(b,p,[])]))):=by
      rw[show aI fk-5000=fk from QE _ _,F5 Y,QH];rfl
     rw[s1];have h2:=F.put (E++(N++[(b,p,[])]));refine b8 (An (wa rfl (iq h2.f (.inr rfl))) rfl) (λR=>?_) λR=>?_
     ·have R:=of_decide_eq_true R;rw[ax,dJ];refine .inr {rfl,Hg hm j bk B.nd (λx u=>{QS (B.fr x u).1,(B.fr x u).2.1}) ?_,h2.s,?_}
      ·simp at R ⊢;omega
      ·rw[h2.q p X at',U]
     ·have R:=of_decide_eq_false R;have H:(E++(N++[(b,p,[])])).length=(E++N).length+1:=by rw[<- QH,Qe];rfl
      have hg2:(E++(N++[(b,p,[])])).length≤255:=by simp at R ⊢;omega
      rw[ax];have e4:E.length≤(E++N).length:=by rw[Qe];omega
      refine IU (C:=3*(E++N).length+4) ha h158 n hm `a `a (by rw[ok.1];exact jf hm) ok.2 h2 `a v y `a λM3 t3 Q3 z6 z7 h3 hl3 bk3 hL3 hQ3=>?_
      rw[QH] at h3 hl3;refine .inl {_,rfl,N++[(b,p,[])],t++t3,Q3,_,_,_,B,hg2,h3,by rw[H];omega,?_,λi=>?_,hQ3.trans U,rfl}
      ·rw[<- QH];exact bk3.congr E2
      ·have:=hL3 i;rw[H];omega
    ·have J:((E++N).any λe=>decide (e.1=b))=true:=by
      cases z:((E++N).any λe=>decide (e.1=b)) with
      |true=>rfl
      |false=>rw[z] at J;cases J
     obtain⟨e,he,z⟩:=Rv.mp J;exact .inl {_,rfl,N,t,Q',_,_,_,nw.old I {e,he,of_decide_eq_true z},hn,F,S,v,y,U,rfl}
 ·rintro ρ M' ⟨N,t,Q',y5,y6,y7,nw,hn,F,S,v,y,U,rfl⟩;rw[PK,Qt (PV _)] at nw;exact k1 M' N t Q' y5 y6 y7 (Hf hm j bk nw) hn F S v y
 ·rintro fl M' ⟨rfl,mn,s,_⟩;exact k2 M' mn s
set_option tactic.hygienic true in
def y4 (ha:HasB P)(h158:P 158=some {3,3,dB})(h159:P 159=some {2,8,fB})(n:Nat)(hm:aJ m) :
 ae (ag P (n+3) 159 [m.d,nD bound] M) λd M'=>Sub M M'/\((d=.non/\jX m (bound+1))\/∃fk E,d=.fn (aI fk)/\M.length≤fk/\M'[fk]?=some (lW E)/\cv m (bound+1) (E.map pr)/\(800≤bound->AllIn m none (E.map pr)/\∀e∈E,e.2.1≤800)/\E.length≤255):=by
 refine aH h159 rfl ?_;show ae (fB (ag P (n+2)) [some m.d,some (nD bound),none,none,none,none,none,none] M) _;unfold fB;refine dF (eD rfl) ?_;have et:aC .tuple #[ah 42 (ag P (n+2)) #[aa 0]] [some m.d,some (nD bound),some (.fn (aI M.length)),none,none,none,none,none] (M++[[.int 78]])=.ok (bD (bz m)) (M++[[.int 78]]):=by
  refine ao (cX.mpr ?_);rw[af ((bh (af rfl rfl)).trans (qH ha (n+1) hm)) rfl,aW];exact⟨rfl,rfl⟩
 have ei:aU true #[aU true #[aC .tuple #[ah 42 (ag P (n+2)) #[aa 0]]]] [some m.d,some (nD bound),some (.fn (aI M.length)),none,none,none,none,none] (M++[[.int 78]])=.ok (.cell (M.length+2)) (M++[[.int 78],[bD (bz m)],[.cell (M.length+1)]]):=by
  refine(vH (G9 (vH (af et rfl) (P5 rfl)) rfl) (P5 rfl)).trans ?_;simp
 refine dF (eD ei) ?_;refine bx (bM rfl) ?_;have start:cq M (M++[[.int 78],[bD (bz m)],[.cell (M.length+1)]]) M.length (M.length+2) [] [M.length+1] (λi=>if i=0 then [bz m] else []):=by
  refine{by simp;rfl,`s,`s,λx hx=>by simp at hx;omega,λi c e=>?_,λi S=>if_neg (by simp at S;omega),Sub.app}
  cases i with
  |zero=>cases e;simp
  |succ i=>simp at e
 rw[ax];refine kJ (λk ρ M'=>∃(p:Nat) (E:fv) (cs:List Nat) (Q:Nat->List bo) (y5 y6 y7:Option D),k=800-p/\p≤800/\p≤bound+1/\cv m p (E.map pr)/\E.length≤255/\cq M M' M.length (M.length+2) E cs Q/\cs.length≤3*E.length+1/\Bk m (WE m E) Q/\(∀i,(Q i).length≤7*E.length+1)/\ρ=[some m.d,some (nD bound),some (.fn (aI M.length)),some (.cell (M.length+2)),some (nD p),y5,y6,y7]) ?_ `a {0,[],_,_,none,none,none,rfl,Rh _,Rh _,{.nil,(λx hx=>nomatch hx),λq b Y=>absurd Y (Q5 _)},Rh _,start,`s,λi b=>?_,λi=>?_,rfl}
 ·rintro k ρ M' ⟨p,E,cs,Q,y5,y6,y7,rfl,X,hp,u,hE,h,hl,bk,hL,rfl⟩;rw[qw (JK rfl (vI rfl h.d)) (zU rfl rfl),aW,PK];refine{λv=>?_,λv=>?_}
  ·have F:cv m (bound+1) (E.map pr):=by
    rcases RD bound p with z|z
    ·have:p=bound+1:=`a
     rw[<- this];exact u
    ·rw[decide_eq_true z,Bool.and_true] at v;have v:=of_decide_eq_false v;exact u.mono hp λq c Y _=>wo hm u bk (λi S=>h.e i `a) q Y c
   have B:800≤bound->AllIn m none (E.map pr)/\∀e∈E,e.2.1≤800:=λH=>by
    rw[decide_eq_true (show p≤bound by omega),Bool.and_true] at v
    have v:=of_decide_eq_false v;exact{{p,u,wo hm u bk (λi S=>h.e i `a)},λe he=>Qf (RR (u.sound (pr e) (PZ.mpr ⟨e,he,rfl⟩)).2) X}
   exact aX.mpr (cP rfl {h.s,.inr {_,E,rfl,PV _,h.f,F,B,hE}})
  ·have h1:=of_decide_eq_true (Rx.mp v).1;have h2:=of_decide_eq_true (Rx.mp v).2;refine{800-(p+1),`a,?_}
   unfold zV;rw[ax];refine Gs ha h158 n hm u hE h hl bk hL h1 (λM2 N t Q2 z5 z6 z7 y O J U I R=>?_) λM2 mn s=>?_
   ·rw[aX];refine bx (bM (CW rfl rfl)) ?_;exact .inl {_,rfl,p+1,E++N,cs++t,Q2,z5,z6,z7,rfl,`a,`a,y,O,J,U,I,R,rfl}
   ·exact .inr {(λ_ z=>nomatch z),s,.inl {rfl,mn.mono `a}}
 ·constructor
  ·intro H;dsimp only at H;split at H
   ·next z=>exact .inl {z,Qa.mp H}
   ·exact nomatch H
  ·rintro(⟨rfl,rfl⟩|⟨b',q,j,w,_⟩)
   ·exact Qa.mpr rfl
   ·exact nomatch w.1
 ·show(if i=0 then [bz m] else []).length≤1;split<;>simp
end
def uj (h1:a ρ M=.ok x M)(h2:b ρ M=.ok y M)(h3:bq o x y M=some v):av o a b ρ M=.ok (.bl v) M:=by
 unfold av;rw[h1];show(b ρ M).bind _=_;rw[h2];show(bX M (bq o x y M)).bind _=_;rw[h3];rfl
section
variable{P:Nat->Option Df}{M:Mem}{m:aK}{w:D}{fit:bo->Bool}
def AllIn.mem (h:AllIn m none A):(b,q)∈A↔bB m q b:=by
 refine{λz=>h.sound _ z,λz=>?_};obtain⟨p,h,no⟩:=h;rcases RD q p with j|j
 ·exact h.all q b j z
 ·exact absurd z (no q j b)
def AllIn.few (h:AllIn m none A)(hl:A.length≤255):¬ cY m none:=by
 rintro⟨p,z,v,y,j⟩;have:=len_sub (zI v) λx u=>h.mem.mpr (y x u).1;omega
end
noncomputable def win (r:List Nat)(p l:Nat):List Nat:=(r.drop p).take l
def fm (r:List Nat)(p l:Nat)(c:List Nat):List Nat:=r.take p++c++r.drop (p+l)
def cn (m:aK)(r:List Nat):Prop:=∀i∈r,i<m.deeds.length
structure jM (m:aK) (w:Nat) (r:List Nat) (p l:Nat) (c:List Nat):Prop where
 l1:1≤l
 lw:l≤w
 pl:p+l≤r.length
 ok:cn m c
 en:ends m c=ends m (win r p l)
 lt:aY m c<aY m (win r p l)
def Calm (m:aK)(w:Nat)(r:List Nat):Prop:=∀p l,1≤l->l≤w->p+l≤r.length->bB m (aY m (win r p l)) (ends m (win r p l))
def Hy (h:p+l≤r.length):fm r p l (win r p l)=r:=by
 unfold fm win;rw[QH,<- List.drop_drop,List.take_append_drop,List.take_append_drop]
def mL (h:p+l≤r.length):(win r p l).length=l:=by unfold win;rw[QY,Ru];omega
def cn.win (h:cn m r):cn m (win r p l):=λi j=>h i (List.mem_of_mem_drop (QS j))
def cn.put (h:cn m r)(u:cn m c):cn m (fm r p l c):=λi j=>by
 unfold fm at j;rw[Qs,Qs] at j;rcases j with(z|z)|z
 ·exact h i (QS z)
 ·exact u i z
 ·exact h i (List.mem_of_mem_drop z)
section
variable{m:aK}{w p l:Nat}{r c:List Nat}
def sZ:aY m (fm r p l c)=aY m (r.take p)+aY m c+aY m (r.drop (p+l)):=by unfold fm;rw[mw,mw]
def ve (h:p+l≤r.length):aY m (fm r p l c)+aY m (win r p l)=aY m r+aY m c:=by
 have e:=congrArg (aY m) (Hy h);rw[sZ] at e ⊢;omega
def jM.less (s:jM m w r p l c):aY m (fm r p l c)<aY m r:=by
 have:=ve (m:=m) (c:=c) s.pl;have:=s.lt;omega
end
inductive eL (m:aK) (w:Nat):List Nat->List (Nat×Nat×List Nat)->List Nat->Prop
 |nil:eL m w r [] r
 |snoc:eL m w r ss t->jM m w t p l c->eL m w r (ss++[(p,l,c)]) (fm t p l c)
section
variable{m:aK}{w:Nat}
def eL.num (h:eL m w r ss t)(hr:cn m r):cn m t:=by
 induction h with
 |nil=>exact hr
 |snoc _ s j=>exact j.put s.ok
def eL.cost (h:eL m w r ss t):aY m t+ss.length≤aY m r:=by
 induction h with
 |nil=>exact PV _
 | snoc h s j =>
   have:=s.less;rw[Qe,List.length_singleton];omega
def gx (hm:aJ m)(hr:cn m r):aY m r≤3*r.length:=by
 induction r with
 |nil=>exact PV _
 | cons i r u =>
   have h1:=(fW hm (hr i Qm)).2;have h2:=u λj h=>hr j (Qc _ h);show aY m ([i]++r)≤_;rw[mw,RG];have:aY m [i]=cst m i:=by simp[aY,cst]
   omega
end
structure HasO0 (P:Nat->Option Df):Prop where
 init:P 129=some {3,3,pD}
 beh:P 132=some {1,1,oA}
structure HasO (P:Nat->Option Df):Prop extends HasO0 P where
 row:P 130=some {1,1,xM}
 cost:P 131=some {1,1,uX}
 put:P 133=some {3,3,xN}
 out:P 134=some {2,2,xO}
 back:P 135=some {1,1,uY}
 change:P 136=some {2,2,rO}
 give:P 137=some {2,3,uW}
 summed:P 47=some {2,2,rL}
instance coeHasO {P:Nat->Option Df}:Coe (HasO P) (HasO0 P):=⟨HasO.toHasO0⟩
section
variable{ρ:Env}{M M':Mem}{a v:GE}{s:GA}{k i:Nat}{es:List D}{nm:Str}{kf:Fl->Mem->Prop}{rest:GS}
def uH (ha:a ρ M=.ok (.cell k) M)(j:b ρ M=.ok z M)(hk:M[k]?=some ds)(hz:ds.length<sz)(h:ae (rest ρ (M.set k (ds++[z]))) kf):ae (bg (dz a b) rest ρ M) kf:=by
 simp only[ax];unfold dz;rw[ha];show ae ((b ρ M).bind _) _;rw[j];show ae (match M[k]? with|some ds=>(if ds.length<sz then Res.ok (Fl.next ρ) (M.set k (ds++[z])) else .bad)|none=>.bad) _
 rw[hk];show ae (if ds.length<sz then _ else _) _;rw[if_pos hz];exact h
def uz (es:s ρ M=.ok ds M):aC f s ρ M=dP f ds M:=by
 unfold aC;rw[es];rfl
def fX (h1:a ρ M=.ok x M)(h2:b ρ M=.ok y M)(h3:bq o x y M=some w):av o a b ρ M=.ok (.bl w) M:=by
 unfold av;rw[h1];show(b ρ M).bind _=_;rw[h2];show(bX M (bq o x y M)).bind _=_;rw[h3];rfl
end
structure lI (m:aK) (fk:Nat) (M:Mem) (E:F3):Prop where
 d:M[fk]?=some (jU E)
 rows:∀e∈E,∃r,M[e.2.2]?=some (r.map nD)/\du m r e.1 e.2.1
 all:AllIn m none ((un E).map pr)
def lI.sub (h:lI m fk M E)(s:Sub M M'):lI m fk M' E:={s.get h.d,λe he=>let⟨r,a,b⟩:=h.rows e he;{r,s.get a,b},h.all}
def lI.look (h:lI m fk M E)(hr:cn m r):∃q t c,getD M (aI fk) (bD (ends m r))=some (.tup [nD q,.cell c])/\M[c]?=some (t.map nD)/\du m t (ends m r) q/\bB m q (ends m r)/\q≤aY m r:=by
 have ro:du m r (ends m r) (aY m r):=⟨hr,rfl,rfl⟩;obtain⟨q,y,hl⟩:=l7 ro.rch;have z:=h.all.mem.mpr hl;rw[wG] at z;obtain⟨x,j,ex⟩:=PZ.mp z;have nd:(E.map (·.1)).Nodup:=by have:=h.all.nd;rw[wG,QO] at this;exact this
 have g:=Au (v:=vC) h.d nd j;have e1:x.1=ends m r:=congrArg Prod.fst ex;have e2:x.2.1=q:=congrArg Prod.snd ex;obtain⟨t,u,rt⟩:=h.rows x j;rw[e1,e2] at rt;rw[e1] at g;exact{q,t,x.2.2,by rw[g,<- e2];rfl,u,rt,hl,y}
section
variable{ρ:Env}{M:Mem}{a b:GE}{kf:Fl->Mem->Prop}{kw:Walk->Mem->Prop}
@[simp] theorem Lz:ae (t9 a ρ M) kw↔ae (a ρ M) λx M=>(dj x=true/\ft x=true)/\kw (λM=>(bU M x).map (eA 1)) M:=by
 simp only[t9,aZ];refine iff_of_eq ?_;congr 1;funext x M;split<;>simp[*]
def ko (e:a ρ M=.ok (.tup ds) M)(h:cf l ds ρ=some ρ1):au (.tup l) a ρ M=.ok (.next ρ1) M:=by
 unfold au;rw[e];show(bX M (cf l ds ρ)).bind _=_;rw[h];rfl
def La {x y:Int}(h:ρ[i]?.getD none=some (.int x))(e:a ρ M=.ok (.int y) M):pP i a ρ M=.ok (.next (ρ.set i (some (.int (x+y))))) M:=by
 unfold pP;rw[h];show(a ρ M).bind _=_;rw[e];rfl
end
def D4 {a b:Nat}:bq .lt (nD a) (nD b) M=some (decide (a<b)):=by
 show some (decide ((a:Int)<(b:Int)))=_;simp
def Ar (hr:cn m r)(hi:i<m.deeds.length):ends m (r++[i])=bf m i (ends m r)/\aY m (r++[i])=aY m r+cst m i:=(du.snoc (⟨hr,rfl,rfl⟩:du m r _ _) hi).2
section
variable{P:Nat->Option Df}{M:Mem}{m:aK}{w:List Nat}
def Cy (hi:i<m.deeds.length):b9 (cy m L) (nD i) M=some (.tup [nD (cst m i),.fn (aI (L+i))]):=by
 show(cg ((List.range m.deeds.length).map λi=>D.tup [nD (cst m i),.fn (aI (L+i))]).length (i:Int)).bind (λj=>((List.range m.deeds.length).map λi=>D.tup [nD (cst m i),.fn (aI (L+i))])[j]?)=_;rw[dN (by simpa using hi)]
 simp[hi]
end
section
variable{P:Nat->Option Df}{M:Mem}{m:aK}{w:Nat}{r:List Nat}
def qO {s:GA}{c:Call}{k:D->Mem->Prop}(e:s ρ M=.ok xs M')(h:ae (c f xs M') k):ae (ah f c s ρ M) k:=by
 unfold ah;rw[e];exact h
def JM {i:Nat}(hi:i<m.deeds.length):(M++m.deeds.map (ee m))[M.length+i]?=some (ee m (cb m i)):=by
 rw[Qo `a,QE,P6,P4 hi]
 rw[<- ng (P4 hi)];rfl
def si (h:l≤w):((r.drop p).take w).take l=win r p l:=by unfold win;rw[List.take_take,RL h]
end
section
variable{P:Nat->Option Df}{M:Mem}{m:aK}{w:Nat}{r:List Nat}
def K5 (h:HasB0 P)(n:Nat){a b c:GE}{x y z:Int}{ρ:Env}(j:a ρ M=.ok (.int x) M)(u:b ρ M=.ok (.int y) M)(v:c ρ M=.ok (.int z) M):bQ (aj (ah 0 (ag P (n+1)) #[a,b,c])) ρ M=.ok (!(decide (y≤x)&&decide (x≤z))) M:=
 gJ (bO ((bh (af j (af u (af v rfl)))).trans (fG h n _ _ _)))
def oU (h:bu M x r)(e:ρ[i]?.getD none=some x):aC .len #[aa i] ρ M=.ok (nD r.length) M:=by
 rw[uz (af (aE e) rfl)];exact ao (h.len.mpr ⟨rfl,rfl⟩)
def nZ (h:bu M x r)(hl:r.length≤100000)(e:ρ[i]?.getD none=some x):aC (.list true) #[aa i] ρ M=.ok (.cell M.length) (M++[r.map nD]):=by
 rw[uz (af (aE e) rfl)];exact ao (h.list.mpr (mS.mpr {aD (by rw[PK];exact hl),rfl,rfl}))
def tQ (h:bu M x r)(hl:r.length≤100000)(e:ρ[i]?.getD none=some x):aC (.list false) #[aa i] ρ M=.ok (bC r) M:=by
 rw[uz (af (aE e) rfl)];exact ao (h.list.mpr (b3.mpr {aD (by rw[PK];exact hl),rfl,rfl}))
def uR (h:HasM0 P)(h196:P 196=some {3,3,dt})(n:Nat)(hm:aJ m)(j:bu M x r)(hr:ie m r)(hl:r.length≤12)(h1:1≤w)(u:w≤6):ag P (n+10) 196 [m.d,x,nD w] M=.ok .non M:=by
 refine ao (aH h196 rfl ?_);show ae (dt (ag P (n+9)) [some m.d,some x,some (nD w)] M) _;unfold dt;rw[ax,zg,eG (af rfl (af rfl rfl)),yS h n j hm hr];refine tv.mpr (aX.mpr (bS (bO (fX (oU j rfl) rfl (w:=false) ?_)) (bS ?_ ⟨rfl,rfl⟩)))
 ·show some (decide ((12:Int)<(r.length:Int)))=_;rw[decide_eq_false `a]
 ·rw[K5 h.toHasB0 (n+8) rfl rfl rfl,decide_eq_true `a,decide_eq_true `a];rfl
def Ie {a lo hi d:GE}{ρ:Env}{es:List D}{z:D}{j p q:Nat}(hd:d ρ M=.ok z M)(v:a ρ M=.ok (.cell j) M)(hl:lo ρ M=.ok (nD p) M)(hh:hi ρ M=.ok (nD q) M)(e:M[j]?=some ds)(u:fy M z=some es)(h:mx z j=false)(h1:p≤q)(h2:q≤ds.length)(h3:ds.length+es.length≤100000):sQ a lo hi d ρ M=.ok (.next ρ) (M.set j (ds.take p++es++ds.drop q)):=by
 unfold sQ;rw[hd];show(a ρ M).bind _=_;rw[v];show(lo ρ M).bind _=_;rw[hl];show(hi ρ M).bind _=_;rw[hh];show(match M[j]?,fy M z with|some ds,some es=>(if mx z j=false/\0≤(p:Int)/\(p:Int)≤(q:Int)/\(q:Int)≤ds.length/\ds.length+es.length≤sz then Res.ok (Fl.next ρ) (M.set j (ds.take (p:Int).toNat++es++ds.drop (q:Int).toNat)) else .bad)|_,_=>.bad)=_
 rw[e,u];show(if _ then _ else _)=_;rw[if_pos {h,`a,`a,`a,Qf h3 `d}]
 rfl
def oB {a:GE}{ρ:Env}{j:Fl->Mem->Prop}{rest:GS}{k:D->Mem->Prop}(h:fq (a ρ M) k (λx M'=>j (.exc x ρ) M'))(hk:∀x M',k x M'->ae (rest (ρ.set i (some x)) M') j):ae (bg (c8 (.one i) a) rest ρ M) j:=by
 rw[ax,va];cases e:a ρ M with
 |ok x u=>rw[e] at h;exact hk x u h
 |err x u=>rw[e] at h;exact h
 |bad=>rw[e] at h;exact h
end
section
variable{P:Nat->Option Df}{M:Mem}{m:aK}{w:List Nat}
def uS (h152:P 152=some {2,2,dQ})(h217:P 217=some {4,11,cj})(n:Nat)(hm:aJ m)(f:lI m fk M E)(X:∀i<m.deeds.length,M[L+i]?=some (ee m (cb m i)))(H:cn m w)(hl:w.length≤100) :
 ae (ag P (n+2) 217 [cy m L,.fn (aI fk),bD (bz m),.lst (w.map nD)] M) λd M'=>(d=.non/\M'=M/\∀l,1≤l->l≤w.length->bB m (aY m (w.take l)) (ends m (w.take l)))\/∃l c,d=.tup [nD l,.cell M.length]/\M'=M++[c.map nD]/\1≤l/\l≤w.length/\cn m c/\ends m c=ends m (w.take l)/\aY m c<aY m (w.take l):=by
 refine aH h217 rfl ?_;show ae (cj (ag P (n+1)) [some (cy m L),some (.fn (aI fk)),some (bD (bz m)),some (.lst (w.map nD)),none,none,none,none,none,none,none] M) _;unfold cj;refine bx (bM rfl) ?_;rw[ax,dM,Lz,bp];refine{_,rfl,⟨rfl,rfl⟩,?_};refine vY (ds:=eA 1 (w.map nD)) (λi J M'=>M'=M/\∃a5 a6 y B F j,J=[some (cy m L),some (.fn (aI fk)),some (bD (ends m (w.take i))),some (.lst (w.map nD)),some (nD (aY m (w.take i))),a5,a6,y,B,F,j]/\∀l,1≤l->l≤i->bB m (aY m (w.take l)) (ends m (w.take l)))
  (λd M'=>∃l c,d=.tup [nD l,.cell M.length]/\M'=M++[c.map nD]/\1≤l/\l≤w.length/\cn m c/\ends m c=ends m (w.take l)/\aY m c<aY m (w.take l)) (λ_ _ _ _=>rfl) (λ_ _ _=>rfl) {rfl,none,none,none,none,none,none,?_,λl h1 h2=>absurd h2 `a} ?_ ?_ ?_
 ·show _=[_,_,some (bD (ends m [])),_,some (nD (aY m [])),_,_,_,_,_,_];rw[show ends m []=bz m from List.map_id _];rfl
 ·rintro i d J M' hd ⟨rfl,a5,a6,y,B,F,j,rfl,v⟩;rw[ip,P6] at hd;cases e:w[i]? with
  |none=>rw[e] at hd;cases hd
  | some x =>
    rw[e] at hd;have hd:=PQ hd;subst hd;have U:i<w.length:=(PH.mp e).1;have I:=H x (Qb e);have S:w.take (i+1)=w.take i++[x]:=by rw[Q1,e];rfl
    have O:cn m (w.take i):=λk hk=>H k (QS hk);have u:cn m (w.take (i+1)):=λk hk=>H k (QS hk);obtain⟨e1,e2⟩:=Ar O I;rw[<- S] at e1 e2;refine{_,rfl,?_};refine bx (ko (bG rfl rfl (Cy I)) rfl) (bx (La rfl rfl) ?_);have Q:=sW hm (du.rch (⟨O,rfl,rfl⟩:du m (w.take i) _ _));refine bx (bM ((bh (af rfl (af rfl rfl))).trans (yX h152 n (X x I) hm (by rw[Q.1];exact jf hm) Q.2))) ?_
    obtain⟨q,t,c,g,R,rt,hl,Y⟩:=f.look u;rw[e1] at g;refine bx (ko (t7 (x:=.non) rfl rfl g) rfl) ?_;refine b8 (b:=decide (q<aY m (w.take (i+1)))) (bO (fX rfl rfl (by rw[e2];exact D4))) (λz=>?_) (λz=>?_)
    ·have tl:=rt.len hm;have:=gx hm u;have:(w.take (i+1)).length≤w.length:=List.length_take_le' _ _;refine cF ?_;rw[lP (cK rfl (cK (nZ (.c R) `a rfl) rfl)) (P5 rfl),aW]
     refine .inr {_,rfl,i+1,t,?_,rfl,`a,U,rt.1,rt.2.1,by rw[rt.2.2];exact of_decide_eq_true z}
     show D.tup [.int ((1+i:Nat):Int),_]=_;rw[Nat.add_comm]
    ·refine .inl {_,rfl,rfl,some (.int ((1+i:Nat):Int)),some (nD x),some (nD (cst m x)),some (.fn (aI (L+x))),some (nD q),some (.cell c),by rw[e1,e2];rfl,λl h1 h2=>?_}
     by_cases W:l≤i
     ·exact v l h1 W
     ·have:l=i+1:=`a
      subst this;have:q=aY m (w.take (i+1)):=by have:=of_decide_eq_false z;omega
      rw[<- this];exact hl
 ·rintro J M' ⟨rfl,a5,a6,y,B,F,j,rfl,v⟩;rw[jc,PK] at v;exact aX.mpr (cF (dW.mpr (.inl ⟨rfl,rfl,v⟩)))
 ·rintro d M' h;exact .inr h
end
section
variable{P:Nat->Option Df}{M:Mem}{m:aK}{w:Nat}{r:List Nat}
def uM (m:aK)(w:Nat)(t:List Nat)(B:Nat)(d:D)(M:Mem):Prop:=(d=.non/\Calm m w t)\/∃p l c q,d=.tup [nD p,nD l,.cell q]/\B≤q/\M[q]?=some (c.map nD)/\jM m w t p l c
def yV (R:HasB0 P)(hr:iP P)(h15:P 15=some {1,6,dg})(h151:P 151=some {1,2,dG})(h152:P 152=some {2,2,dQ})(h217:P 217=some {4,11,cj})(h218:P 218=some {4,10,eV})(n:Nat)(hm:aJ m)(f:lI m fk M E)(Y:bu M x r)(hn:cn m r)(hl:r.length≤100)(hw:w≤6) :
 ae (ag P (n+11) 218 [m.d,.fn (aI fk),x,nD w] M) λd M'=>Sub M M'/\uM m w r M.length d M':=by
 refine aH h218 rfl ?_;show ae (eV (ag P (n+10)) [some m.d,some (.fn (aI fk)),some x,some (nD w),none,none,none,none,none,none] M) _;unfold eV;refine dF (wt ((eG (af rfl rfl)).trans (sH R hr h15 h151 n hm))) ?_;have s1:Sub M (M++m.deeds.map (ee m)):=.app;have J:=λi (I:i<m.deeds.length)=>JM (M:=M) I;have B:=s1.len;generalize hB:M.length=H at B J ⊢;generalize M++m.deeds.map (ee m)=u at s1 J B ⊢;refine dF (eD (x:=bD (bz m)) (M':=u) (ao (cX.mpr ?_))) ?_
 ·rw[af ((bh (af rfl rfl)).trans (pM R h15 (n+1) hm)) rfl,aW];exact⟨rfl,rfl⟩
 have f1:=f.sub s1;have S:=Y.sub s1;rw[ax,dM,fg,cX];show ae (dP .len [x] u) _;rw[S.len];refine{_,rfl,`a,?_}
 refine vY (ds:=(List.range r.length).map λ(k:Nat)=>D.int (k:Int)) (λi L M'=>M'=u/\∃a6 v y z,L=[some m.d,some (.fn (aI fk)),some x,some (nD w),some (cy m H),some (bD (bz m)),a6,v,y,z]/\∀p<i,∀l,1≤l->l≤w->p+l≤r.length->bB m (aY m (win r p l)) (ends m (win r p l)))
  (λd M'=>Sub u M'/\∃p l c q,d=.tup [nD p,nD l,.cell q]/\H≤q/\M'[q]?=some (c.map nD)/\jM m w r p l c) (λ_ _ _ _=>rfl) (λ_ _ _=>rfl) {rfl,none,none,none,none,rfl,λp h=>absurd h (Q5 _)} ?_ ?_ ?_
 ·rintro i d L O hd ⟨rfl,a6,v,y,z,rfl,F⟩;rw[P6] at hd;cases e:(List.range r.length)[i]? with
  |none=>rw[e] at hd;cases hd
  | some k =>
    rw[e] at hd;obtain⟨I,Q⟩:=PH.mp e;rw[R1] at Q;rw[QP] at I;subst Q;have hd:=PQ hd;subst hd;refine{_,rfl,?_};have hz:((r.drop i).take w).length≤w:=List.length_take_le _ _;have U:bK false true true (aa 2) (aa 6) (ai false .add (aa 6) (aa 3)) [some m.d,some (.fn (aI fk)),some x,some (nD w),some (cy m H),some (bD (bz m)),some (nD i),v,y,z] O=.ok (.lst (((r.drop i).take w).map nD)) O:=
     ao (iK.mpr {rfl,rfl,(sM S `a).mpr ⟨rfl,rfl⟩})
    refine c4 (h:=(qO (af rfl (af rfl (af rfl (af U rfl)))) (uS h152 h217 (n+8) hm f1 J (w:=(r.drop i).take w) (λk hk=>hn k (List.mem_of_mem_drop (QS hk))) `a))) ?_
    rintro d _ (⟨rfl,rfl,cl⟩|⟨l,c,rfl,rfl,h1,h2,W,he,j⟩)
    ·refine bS rfl (.inl {_,rfl,rfl,_,_,_,_,rfl,λp hp l h1 h2 h3=>?_});by_cases X:p<i
     ·exact F p X l h1 h2 h3
     ·have:p=i:=`a
      subst this;rw[<- si h2];exact cl l h1 (by rw[QY,Ru];omega)
    ·have h3:l≤w:=`a
     rw[QY,Ru] at h2;rw[si h3] at he j;refine tY rfl (bx (ko rfl rfl) (cF ?_));simp only[f9,bR,cJ,bp];exact{_,rfl,_,rfl,_,rfl,aD (n:=3) `d,.inr {_,rfl,.app,i,l,c,_,rfl,B,`s,h1,h3,`a,W,he,j}}
 ·rintro L _ ⟨rfl,a6,v,y,z,rfl,F⟩;rw[PK,QP] at F;refine aX.mpr (cF (dW.mpr {s1,.inl {rfl,λp l h1 h2 h3=>F p `a l h1 h2 h3}}))
 ·rintro d M3 ⟨s3,h⟩;exact{s1.trans s3,.inr h}
end
abbrev SC:=(Nat×Nat×List Nat)×Nat
noncomputable def jv (s:SC):D:=.tup [nD s.1.1,nD s.1.2.1,.cell s.2]
structure i3 (M:Mem) (b:Nat) (sq:List SC):Prop where
 at':∀x∈sq,M[x.2]?=some (x.1.2.2.map nD)
 lt:∀x∈sq,b<x.2
 nd:(sq.map (·.2)).Nodup
def i3.sub (h:i3 M b sq)(s:Sub M M'):i3 M' b sq:={λx j=>s.get (h.at' x j),h.lt,h.nd}
def mI (m:aK)(w:Nat)(r:List Nat)(M:Mem)(d:D)(M':Mem):Prop:=∃j h t,d=.tup [.cell j,.cell (j+1)]/\M.length≤j/\M'[j]?=some (t.map nD)/\M'[j+1]?=some (h.map jv)/\eL m w r (h.map (·.1)) t/\Calm m w t/\i3 M' (j+1) h/\Sub M M'
def JH (c:Call):fZ c=#v[iA (bF 196 c #[aa 0,aa 1,aa 2]),c8 (.one 3) (bF 166 c #[aa 0,gN]),au (.one 4) (aC (.list true) #[aa 1]),au (.one 5) (aU true bT),c8 (.one 6) (bF 218 c #[aa 0,aa 3,aa 4,aa 2]),fS (aj (av .notN (aa 6) gN)) (NC c),az (ba #[aa 4,aa 5])]:=rfl
section
variable{P:Nat->Option Df}{M:Mem}{m:aK}{w:Nat}{r:List Nat}
def wM (h:HasM0 P)(h196:P 196=some {3,3,dt})(h219:P 219=some {3,10,fZ})(n:Nat)(hm:aJ m)
 (h166:∀(M:Mem),fq (ag P (n+11) 166 [m.d,.non] M) (λd M'=>∃F E,d=.fn (aI F)/\M.length≤F/\M'[F]?=some (jU E)/\uN m M.length M' E/\AllIn m none ((un E).map pr)/\E.length≤255/\Sub M M') (λx M'=>x=.exc 8 none/\cY m none/\Sub M M'))
 (h218:∀{M F E x t},lI m F M E->bu M x t->cn m t->t.length≤100->ae (ag P (n+11) 218 [m.d,.fn (aI F),x,nD w] M) λd M'=>Sub M M'/\uM m w t M.length d M')
 (H:bu M x r) (hr:ie m r) (hl:r.length≤12) (h1:1≤w) (h6:w≤6) :
 fq (ag P (n+12) 219 [m.d,x,nD w] M) (λd M'=>mI m w r M d M'/\¬ cY m none) (λx M'=>x=.exc 8 none/\cY m none/\Sub M M'):=by
 refine ow h219 rfl ?_;show ae (fZ (ag P (n+11)) [some m.d,some x,some (nD w),none,none,none,none,none,none,none] M) _;rw[JH,ax,zg,eG (af rfl (af rfl (af rfl rfl))),uR h h196 (n+1) hm H hr hl h1 h6];refine tv.mpr (aX.mpr (oB (k:=λd M'=>∃F E,d=.fn (aI F)/\lI m F M' E/\Sub M M'/\¬ cY m none) ?_ ?_))
 ·rw[eG (af rfl (af rfl rfl))];have t:=h166 M;cases e:ag P (n+11) 166 [m.d,.non] M with
  |bad=>rw[e] at t;exact t.elim
  |err y u=>rw[e] at t;exact t
  | ok d u =>
    rw[e] at t;obtain⟨F,E,rfl,_,ef,rw',all,few,s1⟩:=t;exact{F,E,rfl,{ef,λe he=>(rw' e he).1,all},s1,all.few (by rw[wG,PK];exact few)}
 rintro _ u ⟨F,E,rfl,f,s1,few⟩;have c0:=gx hm hr.2;have x1:=H.sub s1;refine dF (eD (nZ x1 `a rfl)) (dF (eD (x:=.cell (u.length+1)) (M':=u++[r.map nD]++[[]]) (by show Res.ok (D.cell (u++[r.map nD]).length) _=_;rw[Qe];rfl)) ?_)
 have s2:Sub u (u++[r.map nD]++[[]]):=Sub.app.trans .app;have U:(u++[r.map nD]++[[]])[u.length]?=some (r.map nD):=`s
 have eq:(u++[r.map nD]++[[]])[u.length+1]?=some (([]:List SC).map jv):=`s
 have l2:u.length+2=(u++[r.map nD]++[[]]).length:=`s
 generalize u++[r.map nD]++[[]]=X at s2 U eq l2 ⊢;generalize hj:u.length=j at U eq l2 ⊢;refine oB (k:=λd M'=>Sub X M'/\uM m w r X.length d M') ?_ ?_
 ·rw[eG (af rfl (af rfl (af rfl (af rfl rfl))))];exact tB (h218 (f.sub s2) (.c U) hr.2 `a)
 rintro d M3 ⟨s3,hd⟩;rw[ax];refine kJ (λk ρ M'=>∃v t d B a7 a8 a9,ρ=[some m.d,some x,some (nD w),some (.fn (aI F)),some (.cell j),some (.cell (j+1)),some d,a7,a8,a9]/\M'[j]?=some (t.map nD)/\M'[j+1]?=some (v.map jv)/\eL m w r (v.map (·.1)) t/\i3 M' (j+1) v/\uM m w t B d M'/\j+1<B/\(∀x∈v,x.2<B)/\Sub u M'/\aY m t≤k) ?_ (k:=aY m r) `a {[],r,d,X.length,none,none,none,rfl,s3.get U,s3.get eq,.nil,{λ_ h=>(nomatch h),λ_ h=>(nomatch h),.nil},hd,`a,λ_ h=>(nomatch h),s2.trans s3,PV _}
 rintro k ρ I ⟨v,t,d,B,a7,a8,a9,rfl,e1,e2,md,ca,⟨rfl,cl⟩|⟨p,l,c,q,rfl,hq,J,Q⟩,jB,lB,s4,hk⟩
 ·refine{λ_=>?_,λz=>nomatch z};refine aX.mpr (cF ?_);simp only[f9,bR,cJ,bp];exact{_,rfl,_,rfl,aD (n:=2) `d,{_,v,t,rfl,by have:=s1.len;omega,e1,e2,md,cl,ca,s1.trans s4},few}
 ·refine{λz=>(nomatch z),λ_=>?_};have lt:=Q.less;have nt:=md.num hr.2;have mc:=md.cost;rw[PK] at mc;have tl:=fz hm t nt;have cc:=fz hm c Q.ok;have wl:=Q.lt;have pc:=sZ (m:=m) (r:=t) (p:=p) (l:=l) (c:=c);have ps:=ve (m:=m) (c:=c) Q.pl;obtain⟨k,rfl⟩:∃k',k=k'+1:={k-1,`a}
  refine{k,rfl,?_};have pl:=Q.pl;refine bx (ko rfl rfl) (dF (Ie (z:=.cell q) (p:=p) (q:=p+l) rfl rfl rfl rfl e1 J (Rb.mpr `a) (Rt _ _) (by rw[PK];exact pl) (by rw[PK,PK];omega)) ?_)
  have g1:(I.set j ((t.map nD).take p++c.map nD++(t.map nD).drop (p+l)))[j+1]?=some (v.map jv):=by rw[PN `a];exact e2
  have g0:(I.set j ((t.map nD).take p++c.map nD++(t.map nD).drop (p+l)))[j]?=some ((fm t p l c).map nD):=by
   rw[Qj (PH.mp e1).1];unfold fm;simp
  have g5:∀i,j<i->(I.set j ((t.map nD).take p++c.map nD++(t.map nD).drop (p+l)))[i]?=I[i]?:=λi hi=>PN `a
  have s5:=s4.setq (q:=j) (ds:=(t.map nD).take p++c.map nD++(t.map nD).drop (p+l)) `a
  have l5:(I.set j ((t.map nD).take p++c.map nD++(t.map nD).drop (p+l))).length=I.length:=RM ..;generalize I.set j ((t.map nD).take p++c.map nD++(t.map nD).drop (p+l))=O at g0 g1 g5 s5 l5 ⊢;refine uH (k:=j+1) rfl rfl g1 (by rw[PK];exact Qg (by omega:_<1000) `d) ?_
  have g2:(O.set (j+1) (v.map jv++[.tup [nD p,nD l,.cell q]]))[j+1]?=some ((v++[((p,l,c),q)]).map jv):=by
   rw[Qj (PH.mp g1).1,Qd];rfl
  have g3:(O.set (j+1) (v.map jv++[.tup [nD p,nD l,.cell q]]))[j]?=some ((fm t p l c).map nD):=by rw[PN `a];exact g0
  have g6:∀i,j+1<i->(O.set (j+1) (v.map jv++[.tup [nD p,nD l,.cell q]]))[i]?=I[i]?:=λi hi=>(PN `a).trans (g5 i `a)
  have s6:=s5.setq (q:=j+1) (ds:=v.map jv++[.tup [nD p,nD l,.cell q]]) `a
  have l6:(O.set (j+1) (v.map jv++[.tup [nD p,nD l,.cell q]])).length=O.length:=RM ..;generalize O.set (j+1) (v.map jv++[.tup [nD p,nD l,.cell q]])=S at g2 g3 g6 s6 l6 ⊢;have L:=md.snoc Q;have R:=L.num hr.2;have tl':=fz hm _ R;have q6:=(PH.mp J).1;have Y:i3 S (j+1) (v++[((p,l,c),q)]):=by
   refine{λx H=>?_,λx H=>?_,?_}
   ·rcases Qs.mp H with z|z
    ·rw[g6 _ (ca.lt x z)];exact ca.at' x z
    ·rw[Qa.mp z,g6 _ (by show j+1<q;omega)];exact J
   ·rcases Qs.mp H with z|z
    ·exact ca.lt x z
    ·rw[Qa.mp z];show j+1<q;omega
   ·rw[Qd,Rk];refine{ca.nd,`s,λa ha b hb e=>?_}
    obtain⟨x,H,rfl⟩:=PZ.mp ha;have:=lB x H;have hb:b=q:=by simpa using hb
    omega
  refine oB (k:=λd M'=>Sub S M'/\uM m w (fm t p l c) S.length d M') ?_ ?_
  ·rw[eG (af rfl (af rfl (af rfl (af rfl rfl))))];exact tB (h218 (f.sub s6) (.c g3) R (by have:=L.cost;omega))
  rintro d M7 ⟨W,hd⟩;refine .inl {_,rfl,v++[((p,l,c),q)],_,d,S.length,_,_,_,rfl,W.get g3,W.get g2,by rw[Qd];exact L,Y.sub W,hd,`a,λx H=>?_,s6.trans W,`a}
  rcases Qs.mp H with z|z
  ·have:=(PH.mp (ca.at' x z)).1;omega
  ·rw[Qa.mp z];show q<_;omega
end
section
variable{P:Nat->Option Df}{M M1:Mem}{m:aK}{w:D}{fit:bo->Bool}{ρ:Env}{a b:GE}{t:GT}{A rest:GS}{k:Fl->Mem->Prop}
def zH (h:ρ[j]?.getD none=some m.d):aC .len #[aq (aa j) (gI 2)] ρ M=.ok (nD m.deeds.length) M:=by
 refine ao (cX.mpr ?_);rw[af (bG (aE h) rfl rfl) rfl,aW];show ae (Res.ok (D.int ((m.deeds.map aR.d).length:Int)) M) _;rw[PK];exact⟨rfl,rfl⟩
end
structure pI (P:Nat->Option Df):Prop where
 whole:P 67=some {1,1,gY}
 is_in:P 68=some {3,3,mF}
def ne_self:bq .ne (nD i) (nD i) M=some false:=by
 show some (!((i:Int)==(i:Int)))=_;rw[beq_self_eq_true];rfl
def vJ (e:a ρ M=.ok (.tup xs) M):aC .len #[a] ρ M=.ok (nD xs.length) M:=by
 refine ao (cX.mpr ?_);rw[af e rfl,aW];exact⟨rfl,rfl⟩
def Cf (e:a ρ M=.ok (.lst xs) M):aC .len #[a] ρ M=.ok (nD xs.length) M:=by
 refine ao (cX.mpr ?_);rw[af e rfl,aW];exact⟨rfl,rfl⟩
section
variable{P:Nat->Option Df}{M:Mem}{m:aK}(h:pI P)
include h
theorem yL (n x:Nat):ag P (n+1) 67 [nD x] M=.ok (.bl true) M:=by
 refine ao (aH h.whole rfl ?_);show ae (gY (ag P n) [some (nD x)] M) _;exact cP rfl ⟨rfl,rfl⟩
theorem Ic {hi:Int}(n:Nat){x:Nat}(j:(x:Int)≤hi):ag P (n+2) 68 [nD x,.int 0,.int hi] M=.ok (.bl true) M:=by
 refine ao (aH h.is_in rfl ?_);refine cP ((AS ((bh (af rfl rfl)).trans (yL h n x)) λ_=>?_).trans rfl) ⟨rfl,rfl⟩;show Res.ok (D.bl (decide ((0:Int)≤(x:Int))&&decide ((x:Int)≤hi))) M=_;rw[decide_eq_true (Int.natCast_nonneg x),decide_eq_true j];rfl
theorem BD (n:Nat)(h171:P 171=some {2,2,d5}){c:Nat}{r:List Nat}(j:M[c]?=some (r.map nD))(hz:r.length≤10000)(hr:∀i∈r,i<m.deeds.length):ag P (n+3) 171 [m.d,.cell c] M=.ok (.bl true) M:=by
 refine ao (aH h171 rfl ?_);show ae (d5 (ag P (n+2)) [some m.d,some (.cell c)] M) _;refine bS (gJ (b:=true) (bO rfl)) ?_;rw[ax,dJ];refine Gi (ds:=r.map nD) (λ_=>true) ?_ (Qf (by rw[PK];exact hz) `d) (λd hd=>?_) ?_
 ·rw[f5,aE rfl,aW];exact⟨rfl,rfl,j⟩
 ·obtain⟨x,u,rfl⟩:=PZ.mp hd;have e2:ai false .sub (aC .len #[aq (aa 1) (gI 2)]) (gI 1) [some (nD x),some m.d,some (.cell c)] M=.ok (.int ((m.deeds.length:Int)-1)) M:=(gy (zH rfl) rfl).trans rfl;exact gJ (bO ((bh (af rfl (af rfl (af e2 rfl)))).trans (Ic h n (by have:=hr x u;omega))))
 ·rw[List.all_eq_true.mpr λ_ _=>rfl];exact⟨rfl,rfl⟩
end
section
variable{P:Nat->Option Df}{M:Mem}{m:aK}
def yU (j:HasB0 P)(hr:iP P)(h15:P 15=some {1,6,dg})(h151:P 151=some {1,2,dG})(h152:P 152=some {2,2,dQ})(h165:P 165=some {3,11,gV})(h166:P 166=some {2,6,jg})(n:Nat)(hm:aJ m) :
 fq (ag P (n+11) 166 [m.d,.non] M) (λd M'=>∃h E,d=.fn (aI h)/\M.length≤h/\M'[h]?=some (jU E)/\uN m M.length M' E/\AllIn m none ((un E).map pr)/\E.length≤255/\Sub M M') (λx M'=>x=.exc 8 none/\cY m none/\Sub M M'):=
 yT (bd:=none) (λ_=>rfl) (λ_=>rfl) j hr h15 h151 h152 h165 h166 n hm (λ_ z=>nomatch z)
def nN (h89:P 89=some {2,2,cL})(n:Nat)(h:bu M x r)(hl:r.length≤100000)(hr:∀i∈r,i<m.deeds.length):ag P (n+1) 89 [m.d,x] M=.ok (nD (aY m r)) M:=by
 refine ao (aH h89 rfl ?_);simp[cL,h.is];refine fA (λd=>match d with|.int i=>nD (cb m i.toNat).cost|_=>.non) (aD `o) h.seq ?_ ?_
 ·intro d hd;obtain⟨x,h,rfl⟩:=PZ.mp hd;refine{_,rfl,ao ?_};simp[-iX,JI,og (hr x h),jF]
 ·obtain⟨bs,e1,e2⟩:=t5 (λi=>(cb m i).cost) r;refine{?_,bs,?_,?_,rfl}
  ·simp;exact aD `a
  ·simpa[R4] using e1
  ·exact e2
end
section
variable{P:Nat->Option Df}{M:Mem}{m:aK}{w p l q:Nat}{r c:List Nat}
def yZ {lo hi:Int}(h:pI P)(n:Nat){x:Nat}(h1:lo≤x)(h2:(x:Int)≤hi):ag P (n+2) 68 [nD x,.int lo,.int hi] M=.ok (.bl true) M:=by
 refine ao (aH h.is_in rfl ?_);refine cP ((AS ((bh (af rfl rfl)).trans (yL h n x)) λ_=>?_).trans rfl) ⟨rfl,rfl⟩;exact(KU rfl rfl rfl).trans (by rw[decide_eq_true h1,decide_eq_true h2];rfl)
def Hm {a b:GE}{ρ:Env}{xs ys:List D}{k:Nat}(h:a ρ M=.ok (.lst xs) M)(j:b ρ M=.ok (.cell k) M)(u:M[k]?=some ys)(hl:(xs++ys).length≤100):ai false .add a b ρ M=.ok (.lst (xs++ys)) M:=by
 refine(gy h j).trans ?_;show(match some xs,M[k]? with|some x,some y=>bb false (x++y) M|_,_=>.bad)=_
 rw[u];exact if_pos (aD `a)
def yO (v:HasB P)(u:pI P)(h89:P 89=some {2,2,cL})(h44:P 44=some {2,5,eI})(h171:P 171=some {2,2,d5})(h221:P 221=some {4,8,dH})(n:Nat)(hm:aJ m)(hn:cn m r)(hl:r.length≤60)(H:w≤6)(h:jM m w r p l c)(eq:M[q]?=some (c.map nD)) :
 ae (ag P (n+4) 221 [m.d,bC r,nD w,.tup [nD p,nD l,.cell q]] M) λd M'=>d=bC (fm r p l c)/\Sub M M':=by
 have F:=fz hm c h.ok;have I:=h.lt;have pl:=h.pl;have l1:=h.l1;have lw:=h.lw;have B:=gx hm hn.win (r:=win r p l);rw[mL pl] at B;refine aH h221 rfl ?_;show ae (dH (ag P (n+3)) [some m.d,some (bC r),some (nD w),some (.tup [nD p,nD l,.cell q]),none,none,none,none] M) _;unfold dH;refine bS (oQ (gJ (b:=true) (bO rfl)) (oQ (bO (uj (vJ rfl) rfl (ne_self (i:=3)))) (gJ (b:=true) (bO ((bh (af rfl (af (bG rfl rfl rfl) rfl))).trans (BD u n h171 eq `a h.ok)))))) ?_
 refine bx (ko (ρ1:=[some m.d,some (bC r),some (nD w),some (.tup [nD p,nD l,.cell q]),some (nD p),some (nD l),some (.cell q),none]) rfl rfl) ?_;refine bS (oQ (gJ (b:=true) (bO ((bh (af rfl (af rfl (af rfl rfl)))).trans (yZ u (n+1) `a `a)))) (gJ (b:=true) (bO ((bh (af rfl (af rfl (af ((gy (oU .l rfl) rfl).trans rfl) rfl)))).trans (yZ u (n+1) `a `a))))) ?_
 refine bx (bM (x:=bC (win r p l)) (ao (iK.mpr {rfl,rfl,(sM .l `a).mpr ⟨rfl,rfl⟩}))) ?_
 have y:=nN h89 (n+2) (M:=M) (m:=m) (x:=.cell q) (.c eq) `a h.ok
 have z:=nN h89 (n+2) (M:=M) (m:=m) (x:=bC (win r p l)) .l (by rw[mL pl];omega) hn.win
 refine bS (bO (fX ((bh (af rfl (af rfl rfl))).trans y) ((bh (af rfl (af rfl rfl))).trans z) (w:=false) ?_)) ?_
 ·show some (decide ((aY m (win r p l):Int)≤(aY m c:Int)))=_;rw[decide_eq_false `a]
 refine mZ (R:=Sub M) ?_ λj s1=>?_
 ·rw[hU,gg];refine qO (af rfl (af rfl rfl)) (aO (jR v h44 (n+1) (.c eq) hm h.ok) ?_);rintro _ j ⟨rfl,s1⟩;refine qO (af rfl (af rfl rfl)) (aO (jR v h44 (n+1) (x:=bC (win r p l)) .l hm hn.win) ?_);rintro _ E ⟨rfl,s2⟩;refine{false,?_,_,rfl,rfl,s1.trans s2};rw[AI,h.en,decide_eq_true rfl];rfl
 refine cF (ρ:=[some m.d,some (bC r),some (nD w),some (.tup [nD p,nD l,.cell q]),some (nD p),some (nD l),some (.cell q),some (bC (win r p l))]) ?_;have t1:bK false false true (aa 1) gN (aa 4) [some m.d,some (bC r),some (nD w),some (.tup [nD p,nD l,.cell q]),some (nD p),some (nD l),some (.cell q),some (bC (win r p l))] j=.ok (bC (r.take p)) j:=ao (iK.mpr {rfl,rfl,(y9 .l `a).mpr ⟨rfl,rfl⟩})
 have t2:bK false true false (aa 1) (ai false .add (aa 4) (aa 5)) gN [some m.d,some (bC r),some (nD w),some (.tup [nD p,nD l,.cell q]),some (nD p),some (nD l),some (.cell q),some (bC (win r p l))] j=.ok (bC (r.drop (p+l))) j:=ao (iK.mpr {rfl,rfl,(uT .l `a).mpr ⟨rfl,rfl⟩})
 rw[AV (Hm t1 rfl (s1.get eq) ?_) t2 ?_,aW]
 ·exact{by unfold fm bC;simp,s1}
 ·rw[<- Qd,PK,Qe,QY];omega
 ·rw[<- Qd,<- Qd,PK,Qe,Qe,QY,Ru];omega
end
section
variable{P:Nat->Option Df}{M:Mem}{m:aK}{w:Nat}{r:List Nat}{ρ:Env}
def FR {g:GE}{k:Nat}(h:g ρ M=.ok (nD k) M)(j:k≤70):kY (gI 1) (ai false .add g (gI 1)) ρ M=.ok (λ_=>some ((List.range k).map λk=>nD (1+k))) M:=by
 have e:ai false .add g (gI 1) ρ M=.ok (.int (k+1)) M:=(gy h rfl).trans rfl;have h:gC (.int 1) ρ M=.ok (.int 1) M:=rfl;simp only[kY,h,e,Res.bind];rw[if_pos {`a,`a,`a,`a}]
 have e1:((k:Int)+1-1).toNat=k:=`a
 rw[e1];rfl
def JG {a b:GE}{x y:Nat}(e1:a ρ M=.ok (nD x) M)(e2:b ρ M=.ok (nD y) M):m8 #[a,b] ρ M=.ok (nD (min x y)) M:=by
 unfold m8;rw[af e1 (af e2 rfl)];show Res.ok (D.int (if (y:Int)<(x:Int) then(y:Int) else(x:Int))) M=_
 congr 2
 omega
def GG {a b:GE}{o:Nat}(h:a ρ M=.ok (.fn o) M)(j:b ρ M=.ok y M')(e:getD M' o y=some d):fK a b ρ M=.ok d M':=by
 unfold fK;rw[h];show(b ρ M).bind _=_;rw[j];show bX M' (getD M' o y)=_;rw[e];rfl
def Hb {o:jq}{a b:GE}{x y:D}{v:Bool}(h1:a ρ M=.ok x M')(h2:b ρ M'=.ok y M')(h3:bq o x y M'=some v):aj (av o a b) ρ M=.ok v M':=by
 unfold aj av;rw[h1];show(Res.bind (Res.bind (b ρ M') _) _)=_;rw[h2];show(Res.bind (bX M' (bq o x y M') |>.bind λb M=>Res.ok (D.bl b) M) _)=_;rw[h3];rfl
def aeB (c:Call):GS:=#v[au (.one 6) (bK false true true (aa 2) (aa 4) (ai false .add (aa 4) (aa 5))),aN (aj (av .lt (fK (aa 1) (ah 44 c #[aa 0,aa 6])) (ah 89 c #[aa 0,aa 6]))) rF ay]
@[irreducible] def Lg (c:Call):GS:=bY (.one 5) (kY (gI 1) (ai false .add (m8 #[aa 3,ai false .sub (aC .len #[aa 2]) (aa 4)]) (gI 1))) (aeB c)
def Nk (c:Call):fi c=#v[bY (.one 4) (cW (aC .len #[aa 2])) #v[Lg c],az Ey]:=by first|rfl|(unfold Lg;rfl)
def BF (I:HasB P)(h89:P 89=some {2,2,cL})(h44:P 44=some {2,5,eI})(h222:P 222=some {4,7,fi})(n:Nat)(hm:aJ m)(hn:cn m r)(hl:r.length≤60)(U:w≤6)(cl:Calm m w r){A:fv}(F:M[fk]?=some (lW A))(all:AllIn m none (A.map pr)) :
 ae (ag P (n+3) 222 [m.d,.fn (aI fk),bC r,nD w] M) λd M'=>d=.bl true/\Sub M M':=by
 refine aH h222 rfl ?_;simp only[];rw[Nk,ax,dM,fg,oU .l rfl,aW];refine{_,rfl,`a,?_}
 refine c5 (ds:=(List.range r.length).map λ(k:Nat)=>D.int (k:Int)) (λi ρ M'=>Sub M M'/\∃a4 a5 a6,ρ=[some m.d,some (.fn (aI fk)),some (bC r),some (nD w),a4,a5,a6]) (λ_ _ _ _=>rfl) {.refl,none,none,none,rfl} ?_ ?_
 ·rintro i d ρ h hd ⟨s1,a4,a5,a6,rfl⟩;rw[P6] at hd;cases e:(List.range r.length)[i]? with
  |none=>rw[e] at hd;cases hd
  | some k =>
    rw[e] at hd;obtain⟨J,y⟩:=PH.mp e;rw[R1] at y;rw[QP] at J;subst y;have hd:=PQ hd;subst hd;refine{_,rfl,?_};rw[ax];unfold Lg;have H:m8 #[aa 3,ai false .sub (aC .len #[aa 2]) (aa 4)] [some m.d,some (.fn (aI fk)),some (bC r),some (nD w),some (nD i),a5,a6] h=.ok (nD (min w (r.length-i))) h:=JG rfl ((gy (oU .l rfl) rfl).trans (by
     show Res.ok (D.int ((r.length:Int)-(i:Int))) h=_;rw[show(r.length:Int)-(i:Int)=((r.length-i:Nat):Int) by omega]))
    rw[dM];show ae (kY _ _ [some m.d,some (.fn (aI fk)),some (bC r),some (nD w),some (nD i),a5,a6] h) _;rw[FR H `a,aW]
    refine c5 (ds:=(List.range (min w (r.length-i))).map λk=>nD (1+k)) (λk ρ M'=>Sub M M'/\∃a5 a6,ρ=[some m.d,some (.fn (aI fk)),some (bC r),some (nD w),some (nD i),a5,a6]) (λ_ _ _ _=>rfl) {s1,_,_,rfl} ?_ ?_
    ·rintro k d ρ u hd ⟨s2,a5,a6,rfl⟩;rw[P6] at hd;cases e2:(List.range (min w (r.length-i)))[k]? with
     |none=>rw[e2] at hd;cases hd
     | some k2 =>
       rw[e2] at hd;obtain⟨hk,j⟩:=PH.mp e2;rw[R1] at j;rw[QP] at hk;subst j;have hd:=PQ hd;subst hd;refine{_,rfl,?_};have pl:i+(1+k)≤r.length:=`a
       refine bx (bM (x:=bC (win r i (1+k))) (ao (iK.mpr {rfl,rfl,(sM .l `a).mpr ⟨rfl,rfl⟩}))) ?_
       obtain⟨_,Q,E,rfl,B⟩:=d9.mp (jR I h44 n (M:=u) (x:=bC (win r i (1+k))) .l hm hn.win);have z:=all.mem.mpr (cl i (1+k) `a `a pl)
       obtain⟨x,L,ex⟩:=PZ.mp z;have nd:(A.map (·.1)).Nodup:=by have:=all.nd;rw[QO] at this;exact this
       have g:=F6 ((s2.trans B).get F) nd L;rw[show x.1=ends m (win r i (1+k)) from congrArg Prod.fst ex,show x.2.1=aY m (win r i (1+k)) from congrArg Prod.snd ex] at g;refine mZ (R:=λM'=>Sub M M') ?_ λS O=>{_,rfl,O,_,_,rfl};rw[Hb (v:=false) (GG rfl ((bh (af rfl (af rfl rfl))).trans E) g) ((bh (af rfl (af rfl rfl))).trans (nN h89 (n+1) (x:=bC (win r i (1+k))) .l (by rw[mL pl];omega) hn.win)) (by rw[D4,decide_eq_false (Q4 _)]),aW]
       exact{rfl,s2.trans B}
    ·rintro ρ u ⟨s2,a5,a6,rfl⟩;exact aX.mpr (fx.mpr {_,rfl,s2,_,_,_,rfl})
 ·rintro ρ h ⟨s1,a4,a5,a6,rfl⟩;exact aX.mpr (cP rfl ⟨rfl,s1⟩)
end
structure HasC0 (P:Nat->Option Df):Prop where
 change:P 138=some {3,7,rN}
 do_:P 139=some {2,2,AM}
structure HasC (P:Nat->Option Df):Prop extends HasC0 P where
 price:P 89=some {2,2,cL}
 parted:P 140=some {3,6,lM}
structure HasE0 (P:Nat->Option Df):Prop extends HasC0 P where
 orders:P 141=some {0,0,rM}
structure Pd (P:Nat->Option Df):Prop extends HasE0 P where
 price:P 89=some {2,2,cL}
 parted:P 140=some {3,6,lM}
 right:P 142=some {4,6,pC}
instance coeHasE0 {P:Nat->Option Df}:Coe (HasE0 P) (HasC0 P):=⟨HasE0.toHasC0⟩
instance coeHasE {P:Nat->Option Df}:Coe (Pd P) (HasC P):={λh=>⟨h.toHasC0,h.price,h.parted⟩}
section
variable{P:Nat->Option Df}{M:Mem}{p B:Nat}{m:aK}
def Fs (h:HasP P)(h160:P 160=some {2,3,fo})(n:Nat)(H:t<6)(F:aG M p B)(E:B≤700000):ae (ag P (n+6) 160 [.cell p,nD t] M) λd M'=>∃m:aK,d=m.d/\aJ m/\aG M' p (B+300)/\aT p M M':=by
 refine aH h160 rfl ?_;have j:∃a b c:Nat,aq (aU false #[ba #[gI 3,gI 1,gI 6],ba #[gI 2,gI 2,gI 3],ba #[gI 3,gI 1,gI 4],ba #[gI 2,gI 2,gI 2],ba #[gI 4,gI 1,gI 2]]) (ai false .mod (aa 1) (gI 5)) [some (.cell p),some (nD t),none] M=.ok (.tup [nD a,nD b,nD c]) M/\2≤a/\a≤4/\1≤b/\b≤2/\1≤c/\c≤6:=by
  match t,H with
  |0,_=>exact{3,1,6,rfl,`d}
  |1,_=>exact{2,2,3,rfl,`d}
  |2,_=>exact{3,1,4,rfl,`d}
  |3,_=>exact{2,2,2,rfl,`d}
  |4,_=>exact{4,1,2,rfl,`d}
  |5,_=>exact{3,1,6,rfl,`d}
 obtain⟨a,b,c,e,a2,a4,u,v,y,z⟩:=j;refine bx (bM e) ?_;rw[ax,dJ,bh (af rfl (af (bG rfl rfl rfl) (af (bG rfl rfl rfl) (af (bG rfl rfl rfl) rfl))))];refine aO (wN h n F E a2 a4 u v y z) ?_;rintro d M' ⟨m,rfl,hm,_,_,_,q,k⟩;exact⟨m,rfl,hm,q,k⟩
noncomputable def Dx:List (List Nat):=[[1,2,3,0],[1,0,2,3],[0,0,2,3]]
def Fy (E:HasP0 P)(h161:P 161=some {1,4,fu})(n:Nat)(L:aG M p B)(S:B≤700000):ae (ag P (n+3) 161 [.cell p] M) λd M'=>∃m:aK,d=m.d/\aJ m/\aG M' p (B+4)/\aT p M M':=by
 refine aH h161 rfl ?_;show ae (fu (ag P (n+2)) [some (.cell p),none,none,none] M) _;refine bx (bM (x:=.lst (Dx.map aw)) rfl) ?_;refine fR E n rfl rfl L `a `d `d λv I O p1 k1=>?_
 have H:∃ts:List (List Nat),ai false .add (bK false true false (aa 1) (aa 2) gN) (bK false false true (aa 1) gN (aa 2)) [some (.cell p),some (.lst (Dx.map aw)),some (nD v),none] I=.ok (.lst (ts.map aw)) I/\ts.length=3/\∀t∈ts,fe 4 t:=by
  match v,O with
  |0,_=>exact{[[1,2,3,0],[1,0,2,3],[0,0,2,3]],rfl,rfl,by simp[fe]}
  |1,_=>exact{[[1,0,2,3],[0,0,2,3],[1,2,3,0]],rfl,rfl,by simp[fe]}
  |2,_=>exact{[[0,0,2,3],[1,2,3,0],[1,0,2,3]],rfl,rfl,by simp[fe]}
 obtain⟨ts,e,Q,ok⟩:=H;refine c4 (k:=λd M'=>∃j:List aR,d=.lst (j.map aR.d)/\j.length=3/\(∀d∈j,bJ 4 1 d)/\aG M' p (B+4)/\aT p M M') ?_ ?_
 ·simp only[List.set];rw[fh,f5,e,aW];refine{rfl,?_};refine comp_map (λi y M'=>∃j:List aR,y=j.map aR.d/\j.length=i/\(∀d∈j,bJ 4 1 d)/\aG M' p (B+1+i)/\aT p M M') (aD `o) (λ_ _ _ _=>rfl) {[],rfl,rfl,(λ_ h=>nomatch h),p1,k1} ?_ ?_
  ·rintro i d y M' hd _ ⟨j,rfl,hl,u,q,k⟩;rw[P6] at hd;cases F:ts[i]? with
   |none=>rw[F] at hd;cases hd
   | some t =>
     rw[F] at hd;have hd:=PQ hd;subst hd;have U:=(PH.mp F).1;refine{_,rfl,?_};rw[f9,bR,dW,bR,dW,bR,bp];refine{_,rfl,?_};rw[bR,iL,dW];refine aO (eU E n (many:=3) rfl rfl q `a `d `d) ?_
     rintro x J ⟨w,rfl,W,R,k2⟩;refine pE.mpr (cJ.mpr {aD (P5 rfl),j++[.turn 0 t (1+w)],?_,by simp[hl],λd hd=>?_,R,k.trans k2})
     ·rw[Qd];show _=_++[D.tup [.str "turn",nD 0,aw t,nD (1+w)]];rw[show nD (1+w)=D.int (1+(w:Int)) from congrArg D.int `a];rfl
     ·rcases Qs.mp hd with z|z
      ·exact u d z
      ·rw[Qa.mp z];exact{Nat.zero_lt_one,ok t (Qb F),{`a,`a}}
  ·rintro y M' _ ⟨j,rfl,hl,u,q,k⟩;rw[PK,Q] at hl q;exact b3.mpr {aD `o,j,rfl,hl,u,q,k}
 ·rintro _ J ⟨j,rfl,hl,u,q,k⟩;refine cP (HV (af rfl (af rfl (af rfl rfl))) (P5 rfl)) ?_;exact{{4,1,j},rfl,{P5 rfl,P5 rfl,P5 rfl,P5 rfl,by show 1≤j.length;omega,by show j.length≤6;omega,u},q,k}
def aK.withC (m:aK)(c:Nat):aK:={m.words,m.places,m.deeds.map (·.withC c)}
end
def Known (m:aK)(M:Mem)(kd:D):Prop:=(kd=.non/\cY m none)\/∃h A,kd=.fn (aI h)/\M[h]?=some (lW A)/\AllIn m none (A.map pr)/\A.length≤255
def mh (r:List Nat)(ss:List (Nat×Nat×List Nat)):List Nat:=ss.foldl (λt s=>fm t s.1 s.2.1 s.2.2) r
def oh:mh r (ss++[s])=fm (mh r ss) s.1 s.2.1 s.2.2:=by unfold mh;rw[List.foldl_append];rfl
def eL.go (h:eL m w r ss t):t=mh r ss/\∀i s,ss[i]?=some s->jM m w (mh r (ss.take i)) s.1 s.2.1 s.2.2:=by
 induction h with
 |nil=>exact{rfl,λi s e=>nomatch e}
 | @snoc ss t p l c h y u =>
   obtain⟨rfl,u⟩:=u;refine{(oh (s:=(p,l,c))).symm,λi s e=>?_};by_cases v:i<ss.length
   ·rw[PU v] at e;rw[List.take_append_of_le_length `a]
    exact u i s e
   ·have j:=(PH.mp e).1;rw[Qe,List.length_singleton] at j;obtain rfl:i=ss.length:=`a
    rw[Qo (PV _),Nat.sub_self] at e;cases e;rw[List.take_left'];exact y;rfl
def GF {ss:List (Nat×Nat×List Nat)}(e:ss[i]?=some s):mh r (ss.take (i+1))=fm (mh r (ss.take i)) s.1 s.2.1 s.2.2:=by
 rw[Q1,e];exact oh
section
variable{P:Nat->Option Df}{M:Mem}{m:aK}{w:Nat}{r:List Nat}
def eL.pre (h:eL m w r ss t):∀i,eL m w r (ss.take i) (mh r (ss.take i)):=by
 induction h with
 |nil=>exact λi=>by rw[List.take_nil];exact .nil
 | @snoc ss t p l c h v u =>
   intro i;by_cases j:i≤ss.length
   ·rw[List.take_append_of_le_length j];exact u i
   ·rw[Qt (by rw[Qe,List.length_singleton];omega)]
    have z:=h.snoc v;rw[h.go.1] at z;exact(oh (s:=(p,l,c))) ▸ z
def eL.num_le (h:eL m w r ss t)(hm:aJ m)(hr:cn m r)(hl:r.length≤12):cn m t/\t.length≤36/\ss.length≤36:=by
 have:=h.cost;have:=gx hm hr;have:=fz hm t (h.num hr);exact{h.num hr,`a,`a}
end
section
variable{P:Nat->Option Df}{M:Mem}{m:aK}{w:Nat}{r:List Nat}
def yW (h220:P 220=some {3,4,eB})(n:Nat)
 (h219:fq (ag P n 219 [m.d,x,nD w] M) (λd M'=>mI m w r M d M'/\¬ cY m none) (λx M'=>x=.exc 8 none/\cY m none/\Sub M M')) :
 ae (ag P (n+1) 220 [m.d,x,nD w] M) λd M'=>(d=.str "many"/\cY m none/\Sub M M')\/(mI m w r M d M'/\¬ cY m none):=by
 refine aH h220 rfl ?_;show ae (eB (ag P n) [some m.d,some x,some (nD w),none] M) _;unfold eB;refine bx (bM rfl) ?_;rw[ax,BL,ax,va,eG (af rfl (af rfl (af rfl rfl)))];cases e1:ag P n 219 [m.d,x,nD w] M with
 |bad=>rw[e1] at h219;exact h219.elim
 | err y h =>
   rw[e1] at h219;obtain⟨rfl,j,s1⟩:=h219;exact{8,none,rfl,.inl rfl,bx (bM rfl) (fx.mpr (aX.mpr (cF (bp.mpr {_,rfl,.inl ⟨rfl,j,s1⟩}))))}
 | ok d h =>
   rw[e1] at h219;refine tv.mpr (aX.mpr (fx.mpr ?_));dsimp only[KW,List.set];exact aX.mpr (cF (bp.mpr {_,rfl,.inr h219}))
def ij:ak 64 (.str "many")=true:=`k
def wK (L:HasB P)(hs:xZ P)(Y:pI P)(h89:P 89=some {2,2,cL})(h44:P 44=some {2,5,eI})(h171:P 171=some {2,2,d5})(h221:P 221=some {4,8,dH})(h222:P 222=some {4,7,fi})(h223:P 223=some {5,7,eC})(n:Nat)(hm:aJ m)(hr:ie m r)(hl:r.length≤12)(J:w≤6)
 (kn:Known m M kd) (hx:bu M x r) (O:(d=.str "many"/\cY m none)\/(mI m w r M0 d M/\¬ cY m none)) :
 ae (ag P (n+5) 223 [m.d,kd,x,nD w,d] M) λv M'=>v=.bl true/\Sub M M':=by
 refine aH h223 rfl ?_;show ae (eC (ag P (n+4)) [some m.d,some kd,some x,some (nD w),some d,none,none] M) _;unfold eC;rcases kn with⟨rfl,B⟩|⟨X,A,rfl,S,all,few⟩
 ·rcases O with⟨rfl,_⟩|⟨_,nm⟩
  ·refine tY rfl (cP (v:=.bl true) ?_ {rfl,.refl});have e:bq .eq (.str "many") (.str "many") M=some true:=qs ij ij (show bW (.str "many") (.str "many")=true by decide +kernel)
   exact uj rfl rfl e
  ·exact(nm B).elim
 rcases O with⟨_,B⟩|⟨⟨j,u,t,rfl,_,U,W,md,cl,ca,s0⟩,nm⟩
 ·exact(all.few (by rw[PK];exact few) B).elim
 have ec:=gx hm hr.2;refine bS rfl (bS (oQ (gJ (b:=true) (bO rfl)) (oQ (bO (uj (vJ rfl) rfl (ne_self (i:=2)))) (gJ (b:=true) (bO rfl)))) ?_);refine bx (bM (tQ hx `a rfl)) ?_
 rw[ax,dM,f5,bG rfl rfl rfl,aW];refine{rfl,?_};refine c5 (ds:=u.map jv) (λi F M'=>Sub M M'/\∃a6,F=[some m.d,some (.fn (aI X)),some x,some (nD w),some (.tup [.cell j,.cell (j+1)]),some (bC (mh r ((u.map (·.1)).take i))),a6]) (λ_ _ _ e=>e.1.get W) {.refl,none,rfl} ?_ ?_
 ·rintro i d F H hd ⟨s1,a6,rfl⟩;rw[P6] at hd;cases e:u[i]? with
  |none=>rw[e] at hd;cases hd
  | some s =>
    rw[e] at hd;have hd:=PQ hd;subst hd;have I:(u.map (·.1))[i]?=some s.1:=by rw[P6,e];rfl
    have R:=ca.at' s (Qb e);obtain⟨⟨p,l,c⟩,q⟩:=s;refine{_,rfl,?_};obtain⟨E,tl,_⟩:=(md.pre i).num_le hm hr.2 hl;have so:jM m w (mh r ((u.map (·.1)).take i)) p l c:=md.go.2 i _ I;refine c4 (h:=qO (af rfl (af rfl (af rfl (af rfl rfl)))) (yO L Y h89 h44 h171 h221 n hm E `a J so (s1.get R))) ?_
    rintro _ Q ⟨rfl,s2⟩;exact bS rfl {_,rfl,s1.trans s2,_,by rw[GF I];rfl}
 ·rintro F H ⟨s1,a6,rfl⟩;obtain⟨E,tl,_⟩:=md.num_le hm hr.2 hl;rw[PK,Qt (by rw[PK];exact PV _),<- md.go.1]
  refine aX.mpr (cF (Mz.mpr ?_));have z:=yQ hs (n+2) (M:=H) (x:=.cell j) (y:=bC t) (.c (s1.get U)) .l `a
  rw[bh (af (bG rfl rfl rfl) (af rfl rfl)),z,aW];refine{true,rfl,?_};rw[if_pos rfl];refine qO (af rfl (af rfl (af rfl (af rfl rfl)))) (aO (BF L h89 h44 h222 (n+1) hm E `a J cl (s1.get S) all) ?_)
  rintro _ Q ⟨rfl,s2⟩;exact{rfl,s1.trans s2}
end
section
variable{M:Mem}
def KS {ρ:Env}{a:GE}{k:Nat}{ds:List D}(h:a ρ M=.ok (.cell k) M)(e:M[k]?=some ds):qe a ρ M=.ok .non (M.set k []):=by
 unfold qe;rw[h];show(match M[k]? with|some _=>Res.ok D.non (M.set k [])|none=>.bad)=_
 rw[e]
def Mx {ρ:Env}{a:GE}{x:D}{M':Mem}(e:a ρ M=.ok x M'):zh a ρ M=.ok (.next ρ) M':=by
 unfold zh;rw[e];rfl
end
noncomputable def jb (i:Nat)(k:Nat)(r:List Nat):List Nat:=if k<i then r++[9] else r
def jO (M:Mem)(i:Nat)(A:List Nat)(R:List (List Nat)):Prop:=A.length=R.length/\∀k a r,A[k]?=some a->R[k]?=some r->M[a]?=some ((jb i k r).map nD)
def jO.step {M:Mem}{A:List Nat}{R:List (List Nat)}(h:jO M i A R)(nd:A.Nodup)(u:A[i]?=some a)(er:R[i]?=some r)(ho:∀b∈A,b≠a->M'[b]?=M[b]?)(hn:M'[a]?=some ((r++[9]).map nD)):jO M' (i+1) A R:=by
 refine{h.1,λk b s j v=>?_};by_cases hk:k=i
 ·subst hk;rw[u] at j;rw[er] at v;cases j;cases v;rw[hn];unfold jb;rw[if_pos (Nat.lt_succ_self k)]
 ·have y:b≠a:=λe=>by
   subst e;rcases Nat.lt_or_gt_of_ne hk with z|z
   ·exact oS nd z j u
   ·exact oS nd z u j
  rw[ho b (Qb j) y,h.2 k b s j v];unfold jb;by_cases z:k<i
  ·rw[if_pos z,if_pos `a]
  ·rw[if_neg z,if_neg `a]
noncomputable def xP (i:Nat)(R:List (List Nat)):List (List Nat):=R.zipIdx.map λx=>jb i x.2 x.1
noncomputable def uB:∀Z:List (List Nat),dA (Z.map bC) (Z.map bC)=true
 |[]=>rfl
 | r :: Z => by
   show(dA (r.map nD) (r.map nD)&&dA (Z.map bC) (Z.map bC))=true;rw[pA,uB Z,decide_eq_true rfl];rfl
def jO.view {M:Mem}{A:List Nat}{R:List (List Nat)}(h:jO M i A R):bE 64 M (.lst (A.map .cell))=.lst ((xP i R).map bC):=by
 show D.lst ((A.map D.cell).map (bE 63 M))=_
 congr 1
 refine List.ext_getElem? λk=>?_;unfold xP;rw[QO,QO,P6,P6,List.getElem?_zipIdx];cases j:A[k]? with
 | none =>
   have:R[k]?=none:=by rw[List.getElem?_eq_none_iff] at j ⊢;rw[<- h.1];exact j
   rw[this];rfl
 | some a =>
   have hk:=(PH.mp j).1;obtain⟨s,er⟩:∃s,R[k]?=some s:={R[k]'(by rw[<- h.1];exact hk),P4 _}
   rw[er];have pt:((jb i k s).map nD).all (ak 62)=true:=by rw[Qh];intro x u;obtain⟨i,_,rfl⟩:=PZ.mp u;rfl
   show some (bE 63 M (.cell a))=some (D.lst ((jb i (0+k) s).map nD));rw[kz (n:=62) (k:=62) (h.2 k a _ j er) pt,Nat.zero_add]
def NP {M:Mem}{A B:List Nat}{R:List (List Nat)}(h:jO M i A R)(z:jO M i B R)(E:A≠[]):bq .eq (.lst (A.map .cell)) (.lst (B.map .cell)) M=some true/\bq .ne (.lst (A.map .cell)) (.lst (B.map .cell)) M=some false:=by
 have j:ak 64 (.lst ((xP i R).map bC))=true:=by
  show((xP i R).map bC).all (ak 63)=true;rw[Qh];intro x F;obtain⟨y,_,rfl⟩:=PZ.mp F;exact nP 62 _
 refine Aq (v:=true) h.view z.view j j (uB _) ?_;intro r e;obtain⟨a,A,rfl⟩:∃a u,A=a::u:=by cases A with|nil=>exact absurd rfl E|cons a A=>exact{_,_,rfl}
 have e:(none:Option Bool)=some r:=e;cases e
def owB:GS:=#v[dz (aq (aa 1) (aa 3)) (gI 9),dz (aq (aa 2) (aa 3)) (gI 9),aN (aj (av .ne (aa 1) (aa 2))) rF ay]
def L1 (c:Call):gX c=#v[au (.one 1) (ai false .add (aU false #[aq (aa 0) (gI 0)]) (bI false 1 (.one 0) (bZ (aq (aa 0) (gI 1))) (bH (aq (aa 0) (gI 2))))),au (.one 2) (bI false 1 (.one 0) (bZ (aa 1)) (bH (aC (.list true) #[aa 0]))),bY (.one 3) (cW (aC .len #[aa 1])) owB,zh (qe (aq (aa 0) (gI 1))),az (av .eq (aa 1) (aa 2))]:=rfl
section
variable{P:Nat->Option Df}{M M0:Mem}{m:aK}{w:Nat}{r:List Nat}{ρ:Env}
def vR {ds:List D}(h:ρ[i]?.getD none=some (.lst ds))(u:ρ[j]?.getD none=some (nD k))(e:ds[k]?=some d):aq (aa i) (aa j) ρ M=.ok d M:=by
 refine bG (aE h) (aE u) ?_;show((cg ds.length (k:Int)).bind λj=>ds[j]?)=_;rw[dN (PH.mp e).1];exact e
def Ib (h224:P 224=some {1,4,gX})(n:Nat)(hm:aJ m)(hr:cn m r)(hl:r.length≤12)(td:mI m w r M0 d M):ae (ag P (n+1) 224 [d] M) λv M'=>v=.bl true/\Sub M0 M':=by
 obtain⟨j,S,t,rfl,l0,ej,U,md,_,ca,s0⟩:=td;obtain⟨nt,tl,sl⟩:=md.num_le hm hr hl;rw[PK] at sl;refine aH h224 rfl ?_;show ae (gX (ag P n) [some (.tup [.cell j,.cell (j+1)]),none,none,none] M) _;rw[L1];generalize W:j::S.map (·.2)=A;generalize hR:t::S.map (·.1.2.2)=R;have lR:R.length=S.length+1:=by rw[<- hR];simp
 have lA:A.length=R.length:=by rw[<- W,lR];simp
 have a0:jO M 0 A R:=by
  refine{lA,λk a s u B=>?_};unfold jb;rw[if_neg (Q5 _)];subst W hR;cases k with
  |zero=>cases u;cases B;exact ej
  | succ k =>
    rw[List.getElem?_cons_succ,P6] at u B;cases e:S[k]? with
    |none=>rw[e] at u;cases u
    | some x =>
      rw[e] at u B;cases u;cases B;exact ca.at' x (Qb e)
 have ndA:A.Nodup:=by
  subst W;rw[QI];refine{λz=>?_,ca.nd};obtain⟨x,I,e⟩:=PZ.mp z;have:=ca.lt x I;omega
 have jA:∀a∈A,j≤a/\a≠j+1/\a<M.length:=λa ha=>by
  subst W;rcases Qu.mp ha with rfl|z
  ·exact{PV _,`a,(PH.mp ej).1}
  ·obtain⟨x,I,rfl⟩:=PZ.mp z;have:=ca.lt x I;exact{`a,`a,(PH.mp (ca.at' x I)).1}
 have rl:∀s∈R,s.length≤120:=λs hs=>by
  subst hR;rcases Qu.mp hs with rfl|z
  ·omega
  ·obtain⟨x,I,rfl⟩:=PZ.mp z;obtain⟨k,hk⟩:=RS I;have so:=md.go.2 k x.1 (by rw[P6,hk];rfl)
   have c1:=fz hm _ so.ok;have c2:=so.lt;obtain⟨n1,l1,_⟩:=(md.pre k).num_le hm hr hl;have c3:=gx hm n1.win (r:=win (mh r ((S.map (·.1)).take k)) x.1.1 x.1.2.1);rw[mL so.pl] at c3;have:=so.pl;omega
 have el:ai false .add (aU false #[aq (aa 0) (gI 0)]) (bI false 1 (.one 0) (bZ (aq (aa 0) (gI 1))) (bH (aq (aa 0) (gI 2)))) [some (.tup [.cell j,.cell (j+1)]),none,none,none] M=.ok (.lst (A.map .cell)) M:=by
  have e2:bI false 1 (.one 0) (bZ (aq (aa 0) (gI 1))) (bH (aq (aa 0) (gI 2))) [some (.tup [.cell j,.cell (j+1)]),none,none,none] M=.ok (.lst (S.map λx=>D.cell x.2)) M:=by
   refine ao ?_;rw[fh,f5,bG rfl rfl rfl,aW];refine{rfl,?_};refine fA (ds:=S.map jv) (λd=>match d with|.tup [_,_,x]=>x|_=>.non) (aD (by rw[PK];omega)) U ?_ ?_
   ·intro d hd;obtain⟨x,_,rfl⟩:=PZ.mp hd;exact{_,rfl,bG rfl rfl rfl}
   ·rw[QO];exact b3.mpr {aD (by rw[PK];omega),rfl,rfl}
  refine(AV (lZ (af (bG rfl rfl rfl) rfl) (by show 1≤100;decide)) e2 `o).trans ?_
  rw[<- W,Q6,QO];rfl
 refine bx (bM el) ?_;have ec:ae (bI false 1 (.one 0) (bZ (aa 1)) (bH (aC (.list true) #[aa 0])) [some (.tup [.cell j,.cell (j+1)]),some (.lst (A.map .cell)),none,none] M) λx M'=>x=.lst (((List.range A.length).map λk=>M.length+k).map .cell)/\M'=M++R.map λs=>s.map nD:=by
  rw[fh,f5,aE rfl,aW];refine{rfl,?_};refine comp_map (λi L M'=>L=((List.range i).map λk=>M.length+k).map .cell/\M'=M++(R.take i).map λs=>s.map nD) (aD (by rw[PK];omega)) (λ_ _ _ _=>rfl) {rfl,`s} ?_ ?_
  ·rintro i d L M' hd _ ⟨rfl,rfl⟩;rw[P6] at hd;cases u:A[i]? with
   |none=>rw[u] at hd;cases hd
   | some a =>
     rw[u] at hd;have hd:=PQ hd;subst hd;have hi:=(PH.mp u).1;obtain⟨s,er⟩:∃s,R[i]?=some s:={R[i]'(`a),P4 _}
     refine{_,rfl,?_};have em:M[a]?=some (s.map nD):=by
      have:=a0.2 i a s u er;unfold jb at this
      rwa [if_neg (Q5 _)] at this
     have:=rl s (Qb er);rw[nZ (M:=M++(R.take i).map λs=>s.map nD) (r:=s) (.c (Sub.app.get em)) `a rfl,aW]
     refine{?_,?_}
     ·rw[List.range_succ,Qd,Qd,Qe,PK,QY,RL `a];rfl
     ·rw[Q1,er,QH];simp
  ·rintro L M' _ ⟨rfl,rfl⟩;rw[PK,Qt `a]
   exact b3.mpr {aD `o,rfl,rfl}
 obtain⟨x2,M9,e9,hx2,Y⟩:=d9.mp ec;simp only[List.set];rw[ax,eD e9,aW,aX,hx2,Y];simp only[List.set];clear e9 hx2 Y ec;generalize hB:(List.range A.length).map (λk=>M.length+k)=H;have lB:H.length=R.length:=by rw[<- hB];simp[lA]
 have X:∀k b,H[k]?=some b->b=M.length+k:=λk b e=>by
  rw[<- hB,P6] at e;obtain⟨i,ei,rfl⟩:=Qi.mp e;obtain⟨h1,h2⟩:=PH.mp ei;rw[R1] at h2;rw[h2]
 have Q:∀b∈H,M.length≤b:=λb hb=>by
  obtain⟨k,hk⟩:=RS hb;have:=X k b hk;omega
 have ndB:H.Nodup:=by
  rw[<- hB,List.nodup_iff_pairwise_ne,List.pairwise_map];exact List.Pairwise.imp (λ{a b} (h:a≠b) z=>h (Nat.add_left_cancel (show M.length+a=M.length+b from z))) (List.nodup_iff_pairwise_ne.mp List.nodup_range)
 have s1:Sub M (M++R.map λs=>s.map nD):=.app;have aA:jO (M++R.map λs=>s.map nD) 0 A R:={lA,λk a s u B=>s1.get (a0.2 k a s u B)};have aB:jO (M++R.map λs=>s.map nD) 0 H R:=by
  refine{lB,λk b s J B=>?_};rw[X k b J,Qo `a,QE,P6,B]
  unfold jb;rw[if_neg (Q5 _)];rfl
 have l1:=s1.len;generalize (M++R.map λs=>s.map nD)=M1 at s1 aA aB l1 ⊢;have A0:A≠[]:=by rw[<- W];exact List.cons_ne_nil _ _
 rw[ax,dM,fg,Cf rfl,aW];refine{_,rfl,by rw[PK];omega,?_}
 refine c5 (ds:=(List.range (A.map D.cell).length).map λ(k:Nat)=>D.int (k:Int)) (λi ρ M'=>jO M' i A R/\jO M' i H R/\(∀k,k<M.length->k∉A->M'[k]?=M[k]?)/\M.length≤M'.length/\∃a3,ρ=[some (.tup [.cell j,.cell (j+1)]),some (.lst (A.map .cell)),some (.lst (H.map .cell)),a3]) (λ_ _ _ _=>rfl) {aA,aB,λk hk _=>s1.at' k hk,l1,none,rfl} ?_ ?_
 ·rintro i d ρ y hd ⟨E,F,ho,lm,a3,rfl⟩;rw[P6] at hd;cases e:(List.range (A.map D.cell).length)[i]? with
  |none=>rw[e] at hd;cases hd
  | some k =>
    rw[e] at hd;obtain⟨hi,U⟩:=PH.mp e;rw[R1] at U;rw[QP,PK] at hi;subst U;have hd:=PQ hd;subst hd;refine{_,rfl,?_};obtain⟨a,u⟩:∃a,A[i]?=some a:={A[i],P4 _};obtain⟨s,er⟩:∃s,R[i]?=some s:={R[i]'(`a),P4 _}
    obtain⟨b,J⟩:∃b,H[i]?=some b:={H[i]'(`a),P4 _}
    have sl:=rl s (Qb er);have hm2:=jA a (Qb u);have hb2:=Q b (Qb J);have x0:jb i i s=s:=by unfold jb;rw[if_neg (Q4 _)]
    have ma:=E.2 i a s u er;have mb:=F.2 i b s J er;rw[x0] at ma mb;have k9:s.map nD++[D.int 9]=(s++[9]).map nD:=by rw[Qd];rfl
    refine uH (k:=a) (vR rfl rfl (by rw[P6,u];rfl)) rfl ma (by rw[PK];exact Qg (by omega:_<1000) `d) ?_
    have mb1:(y.set a (s.map nD++[.int 9]))[b]?=some (s.map nD):=by rw[PN `a];exact mb
    refine uH (k:=b) (vR rfl rfl (by rw[P6,J];rfl)) rfl mb1 (by rw[PK];exact Qg (by omega:_<1000) `d) ?_
    have n1:∀x,x≠a->x≠b->((y.set a (s.map nD++[.int 9])).set b (s.map nD++[.int 9]))[x]?=y[x]?:=λx h1 h2=>(PN (Q0 h2)).trans (PN (Q0 h1));have na:((y.set a (s.map nD++[.int 9])).set b (s.map nD++[.int 9]))[a]?=some ((s++[9]).map nD):=by
     rw[PN `a,Qj (PH.mp ma).1,k9]
    have nb:((y.set a (s.map nD++[.int 9])).set b (s.map nD++[.int 9]))[b]?=some ((s++[9]).map nD):=by
     rw[Qj (PH.mp mb1).1,k9]
    have nl:((y.set a (s.map nD++[.int 9])).set b (s.map nD++[.int 9])).length=y.length:=by rw[RM,RM]
    generalize (y.set a (s.map nD++[.int 9])).set b (s.map nD++[.int 9])=M3 at n1 na nb nl ⊢;have h3:=E.step ndA u er (λx I h1=>n1 x h1 (by have:=jA x I;omega)) na
    have h4:=F.step ndB J er (λx I h1=>n1 x (by have:=Q x I;omega) h1) nb
    refine bS (bO (fX rfl rfl (NP h3 h4 A0).2)) {_,rfl,h3,h4,λk hk hn=>?_,`a,_,rfl}
    rw[n1 k (λe=>hn (e ▸ Qb u)) `a]
    exact ho k hk hn
 ·rintro ρ y ⟨E,F,ho,lm,a3,rfl⟩;rw[PK,QP,PK] at E F;rw[aX];have O:∃ds,y[j+1]?=some ds:={y[j+1]'(by have:=(PH.mp ej).1;have:=(PH.mp U).1;omega),P4 _}
  obtain⟨ds,O⟩:=O;refine dF (Mx (KS (k:=j+1) (bG rfl rfl rfl) O)) ?_;have n1:∀x,x≠j+1->(y.set (j+1) [])[x]?=y[x]?:=λx h=>PN (Q0 h);have nl:(y.set (j+1) []).length=y.length:=RM ..;generalize y.set (j+1) []=M3 at n1 nl ⊢;have lk:=(PH.mp U).1;have h3:jO M3 A.length A R:={lA,λk a s u B=>(n1 a (jA a (Qb u)).2.1).trans (E.2 k a s u B)};have h4:jO M3 A.length H R:={lB,λk b s J B=>(n1 b (by have:=Q b (Qb J);omega)).trans (F.2 k b s J B)}
  refine cP (fX rfl rfl (NP h3 h4 A0).1) {rfl,{by have:=s0.len;omega,λk hk=>?_}}
  rw[n1 k `a,ho k (Qg hk s0.len) (λz=>by have:=jA k z;omega)]
  exact s0.at' k hk
end
section
variable{P:Nat->Option Df}{M M1 M2 M3:Mem}{ρ:Env}{g a gi d:GE}{rest:GS}{K:Fl->Mem->Prop}{p B c many n j:Nat}
def Ke (h:HasP0 P)(u:ρ[j]?.getD none=some (.cell p))(y:g ρ M=.ok (nD many) M)(F:aG M p B)(E:B≤1000000)(z:0<many)(h1:many≤10000000) :
 ∃(v:Nat) (M':Mem),ai false .add (gC (.int (c:Nat))) (ah 31 (ag P (n+2)) #[aa j,g]) ρ M=.ok (nD (c+v)) M'/\v<many/\aG M' p (B+1)/\aT p M M':=by
 obtain⟨_,M',e,v,rfl,H,q,k⟩:=d9.mp (eU h n u y F E z h1);refine{v,M',?_,H,q,k};unfold ai;show(ah 31 _ _ ρ M).bind _=_;rw[e];rfl
def zf {i:Nat}(h:HasP0 P)(u:ρ[j]?.getD none=some (.cell p))(y:g ρ M=.ok (nD many) M)(F:aG M p B)(E:B≤1000000)(z:0<many)(h1:many≤10000000)
 (hk:∀(v:Nat) (M':Mem),v<many->aG M' p (B+1)->aT p M M'->ae (rest (ρ.set i (some (nD (c+v)))) M') K):ae (bg (au (.one i) (ai false .add (gC (.int (c:Nat))) (ah 31 (ag P (n+2)) #[aa j,g]))) rest ρ M) K:=by
 obtain⟨v,M',e,H,q,k⟩:=Ke (c:=c) (n:=n) h u y F E z h1;exact dF (eD e) (hk v M' H q k)
end
def vb (h:((List.range n).map λ(k:Nat)=>D.int (k:Int))[i]?=some d):i<n/\d=nD i:=by
 rw[P6] at h;obtain⟨j,u,rfl⟩:=Qi.mp h;obtain⟨h1,h2⟩:=PH.mp u;rw[QP] at h1;rw[R1] at h2;exact{h1,by rw[h2]}
noncomputable def mv:List aR:=[.turn 0 [1,2,3,0] 1,.turn 0 [2,3,0,1] 3]
def CA (k:Nat)(x:D):(List.replicate k [x]).flatten=List.replicate k x:=by
 induction k with
 |zero=>rfl
 |succ k h=>rw[Rf,RT,h,Rf];rfl
section
variable{P:Nat->Option Df}{M:Mem}{p B:Nat}
def Gq {a b:GE}{ρ:Env}{x k:Nat}(h:a ρ M=.ok (.lst [nD x]) M)(j:b ρ M=.ok (nD k) M)(hk:k≤100):ai true .mul a b ρ M=.ok (.cell M.length) (M++[(List.replicate k x).map nD]):=by
 refine(gy h j).trans ?_;show(if 1*((k:Int)).toNat≤sz/\-(2^63)≤(k:Int)/\(k:Int)<2^63 then bb true (List.replicate ((k:Int)).toNat [nD x]).flatten M else .bad)=_;rw[if_pos {aD `a,`a,`a},RU,CA,List.map_replicate]
 unfold bb;rw[if_pos (aD (by rw[RK];omega))];rfl
def FD (E:HasP0 P)(h210:P 210=some {1,6,dD})(n:Nat)(X:aG M p B)(hB:B≤700000):ae (ag P (n+3) 210 [.cell p] M) λd M'=>∃(m:aK) (q:Nat) (r:List Nat),d=.tup [m.d,.cell q]/\aJ m/\M'[q]?=some (r.map nD)/\ie m r/\r.length≤12/\aG M' p (B+10)/\aT p M M':=by
 refine aH h210 rfl ?_;show ae (dD (ag P (n+2)) [some (.cell p),none,none,none,none,none] M) _;unfold dD;refine bx (bM (x:=.lst (mv.map aR.d)) rfl) ?_;refine fR E n (many:=2) rfl rfl X `a `d `d λj M1 ha p1 k1=>?_
 refine zf (c:=7) (many:=6) (n:=n) E rfl rfl p1 `a `d `d λv y hv p2 k2=>?_
 simp only[List.set];have e1:aU false #[ai false .sub (gI 1) (aa 2)] [some (.cell p),some (.lst (mv.map aR.d)),some (nD j),some (nD (7+v)),none,none] y=.ok (.lst [nD (1-j)]) y:=lZ (af ((gy rfl rfl).trans (by
  show Res.ok (D.int ((1:Int)-(j:Int))) y=_;rw[show(1:Int)-(j:Int)=((1-j:Nat):Int) by omega])) rfl) (by show 1≤100;decide)
 rw[ax,eD (Gq e1 rfl `a),aW,aX]
 simp only[List.set];have p3:aG (y++[(List.replicate (7+v) (1-j)).map nD]) p (B+1+1):=p2.app;have Y:aT p M (y++[(List.replicate (7+v) (1-j)).map nD]):=(k1.trans k2).trans .app;have er:(y++[(List.replicate (7+v) (1-j)).map nD])[y.length]?=some ((List.replicate (7+v) (1-j)).map nD):=`s
 have pl:=X.lt;have ll:M.length≤y.length:=(k1.trans k2).len;generalize y++[(List.replicate (7+v) (1-j)).map nD]=M3 at p3 Y er ⊢;generalize y.length=q at er ll ⊢;have J:∀M' F (r:List Nat),M'[q]?=some (r.map nD)->r.length=7+v->(∀i∈r,i<2)->aG M' p (B+10)->aT p M M'->ae (#v[az (ba #[ba #[gI 4,gI 1,aC .tuple #[ai false .add (bK false true false (aa 1) (aa 2) gN) (bK false false true (aa 1) gN (aa 2))]],aa 4])] [some (.cell p),some (.lst (mv.map aR.d)),some (nD j),some (nD (7+v)),some (.cell q),F] M') (mq λd M'=>∃(m:aK) (q:Nat) (r:List Nat),d=.tup [m.d,.cell q]/\aJ m/\M'[q]?=some (r.map nD)/\ie m r/\r.length≤12/\aG M' p (B+10)/\aT p M M'):=λM' F r e1 e2 e3 e4 I=>by
  have O:∃ds:List aR,aC .tuple #[ai false .add (bK false true false (aa 1) (aa 2) gN) (bK false false true (aa 1) gN (aa 2))] [some (.cell p),some (.lst (mv.map aR.d)),some (nD j),some (nD (7+v)),some (.cell q),F] M'=.ok (.tup (ds.map aR.d)) M'/\ds.length=2/\∀d∈ds,bJ 4 1 d:=by
   match j,ha with
   |0,_=>exact{[.turn 0 [1,2,3,0] 1,.turn 0 [2,3,0,1] 3],rfl,rfl,by simp[bJ,fe,fE]}
   |1,_=>exact{[.turn 0 [2,3,0,1] 3,.turn 0 [1,2,3,0] 1],rfl,rfl,by simp[bJ,fe,fE]}
  obtain⟨ds,ed,l2,ok⟩:=O;refine cP (lP (cK (lP (cK rfl (cK rfl (cK ed rfl))) (P5 rfl)) (cK rfl rfl)) (P5 rfl)) ?_;exact{{4,1,ds},q,r,rfl,{P5 rfl,P5 rfl,P5 rfl,P5 rfl,by show 1≤ds.length;omega,by show ds.length≤6;omega,ok},e1,{`a,λi H=>by show i<ds.length;have:=e3 i H;omega},`a,e4,I}
 rw[ax,dM,fg];refine aO (eU E n (many:=3) rfl rfl p3 `a `d `d) ?_
 rintro _ M4 ⟨u,rfl,hu,p4,k4⟩;refine{_,rfl,`a,?_}
 refine c5 (ds:=(List.range (u:Int).toNat).map λ(k:Nat)=>D.int (k:Int)) (λi S M'=>i≤2/\aG M' p (B+3+i)/\aT p M M'/\∃(F:Option D) (r:List Nat),M'[q]?=some (r.map nD)/\r.length=7+v/\(∀i∈r,i<2)/\S=[some (.cell p),some (.lst (mv.map aR.d)),some (nD j),some (nD (7+v)),some (.cell q),F]) (λ_ _ _ _=>rfl) {`a,p4.mono `a,Y.trans k4,none,_,k4.get er `a,RK ..,λi H=>by rw[(List.mem_replicate.mp H).2];omega,rfl} ?_ ?_
 ·rintro i d S U hd ⟨H,R,L,F,r,I,Q,r2,rfl⟩;obtain⟨hi2,rfl⟩:=vb hd;refine{_,rfl,?_};rw[ax,j0];refine bp.mpr {_,rfl,bp.mpr {_,rfl,aO (eU E n (many:=7+v) rfl rfl R `a `a `a) ?_}}
  rintro _ M6 ⟨z,rfl,hz,p6,k6⟩;have W:=k6.get I `a
  refine{_,_,_,z,rfl,rfl,W,dN (by rw[PK];omega),aX.mpr (fx.mpr {_,rfl,`a,(p6.setq `a).mono `a,(L.trans k6).setq `a,_,r.set z j,?_,by rw[RM];exact Q,λi H=>?_,rfl})}
  ·rw[Qj (PH.mp W).1,List.map_set]
  ·rcases List.mem_or_eq_of_mem_set H with h|h
   ·exact r2 i h
   ·omega
 ·rintro S U ⟨H,R,L,F,r,I,Q,r2,rfl⟩;exact aX.mpr (J U F r I Q r2 (R.mono `a) L)
end
structure iQ (P:Nat->Option Df):Prop where
 m:HasM0 P
 r:iP P
 b:HasB P
 s:xZ P
 n:pI P
 p:HasP P
 h15:P 15=some {1,6,dg}
 h35:P 35=some {3,6,gW}
 h44:P 44=some {2,5,eI}
 h89:P 89=some {2,2,cL}
 h151:P 151=some {1,2,dG}
 h152:P 152=some {2,2,dQ}
 h158:P 158=some {3,3,dB}
 h159:P 159=some {2,8,fB}
 h160:P 160=some {2,3,fo}
 h161:P 161=some {1,4,fu}
 h165:P 165=some {3,11,gV}
 h166:P 166=some {2,6,jg}
 h171:P 171=some {2,2,d5}
 h196:P 196=some {3,3,dt}
 h210:P 210=some {1,6,dD}
 h217:P 217=some {4,11,cj}
 h218:P 218=some {4,10,eV}
 h219:P 219=some {3,10,fZ}
 h220:P 220=some {3,4,eB}
 h221:P 221=some {4,8,dH}
 h222:P 222=some {4,7,fi}
 h223:P 223=some {5,7,eC}
 h224:P 224=some {1,4,gX}
 h225:P 225=some {1,11,nu}
section
variable{P:Nat->Option Df}{M:Mem}{m:aK}{w p B:Nat}{r:List Nat}{x0 x2 x4 x9 x10:Option D}{x5 kd:D}{kf:Fl->Mem->Prop}
def HX (h:iQ P)(n:Nat)(hm:aJ m)(u:bu M x r)(hr:ie m r)(hl:r.length≤12)(h1:1≤w)(j:w≤6):ae (ag P (n+13) 220 [m.d,x,nD w] M) λd M'=>(d=.str "many"/\cY m none/\Sub M M')\/(mI m w r M d M'/\¬ cY m none):=
 yW h.h220 (n+12) (wM h.m h.h196 h.h219 n hm (λM=>yU h.m.toHasB0 h.r h.h15 h.h151 h.h152 h.h165 h.h166 n hm) (λf x v tl=>yV h.m.toHasB0 h.r h.h15 h.h151 h.h152 h.h217 h.h218 n hm f x v tl j) u hr hl h1 j)
def mI.sub (h:mI m w r M0 d M)(s:Sub M M'):mI m w r M0 d M':=by
 obtain⟨j,z,t,e,l,u,v,md,cl,ca,y⟩:=h;exact{j,z,t,e,l,s.get u,s.get v,md,cl,ca.sub s,y.trans s}
def zG {E:Mem}(h:mI m w r E d M):bq .ne d (.str "many") M=some true:=by
 obtain⟨j,u,t,rfl,l,H,I,md,cl,ca,O⟩:=h;have pr:∀(k:Nat) (l:List Nat),(l.map nD).all (ak k)=true:=λk l=>by rw[Qh];intro x y;obtain⟨i,_,rfl⟩:=PZ.mp y;cases k<;>rfl
 have L:bE 63 M (.cell (j+1))=.lst (u.map λs=>.tup [nD s.1.1,nD s.1.2.1,bC s.1.2.2]):=by
  show(match M[j+1]? with|some F=>D.lst (F.map (bE 62 M))|none=>.cell (j+1))=_
  rw[I];show D.lst ((u.map jv).map (bE 62 M))=_;rw[QO]
  congr 1
  refine Rp λs hs=>?_;show D.tup [nD s.1.1,nD s.1.2.1,bE 61 M (.cell s.2)]=_;rw[kz (n:=60) (k:=60) (ca.at' s hs) (pr _ _)];rfl
 have J:ak 64 (.tup [bC t,.lst (u.map λs=>.tup [nD s.1.1,nD s.1.2.1,bC s.1.2.2])])=true:=by
  show((t.map nD).all (ak 62)&&((u.map λs=>D.tup [nD s.1.1,nD s.1.2.1,bC s.1.2.2]).all (ak 62)&&true))=true;have z:(u.map λs=>D.tup [nD s.1.1,nD s.1.2.1,bC s.1.2.2]).all (ak 62)=true:=by
   rw[Qh];intro x y;obtain⟨s,_,rfl⟩:=PZ.mp y;show(true&&(true&&((s.1.2.2.map nD).all (ak 60)&&true)))=true;rw[pr];rfl
  rw[pr,z];rfl
 refine(Aq (v:=false) (b:=.str "many") ?_ rfl J ij rfl ?_).2
 ·show D.tup [bE 63 M (.cell j),bE 63 M (.cell (j+1))]=_;rw[L,kz (n:=62) (k:=62) H (pr _ _)];rfl
 ·intro r e;have e:(none:Option Bool)=some r:=e;cases e
def xQ (h:iQ P)(hm:aJ m)(hr:ie m r)(hl:r.length≤12)(h1:1≤w)(Q:w≤6)(S:bu M x5 r)(kn:Known m M kd)(kk:∀M' L,Sub M M'->kf (.next [x0,some (.cell p),x2,some m.d,x4,some x5,some kd,some (nD w),some (bC r),x9,L]) M') :
 ae (uJ (ag P 39) [x0,some (.cell p),x2,some m.d,x4,some x5,some kd,some (nD w),some (bC r),x9,x10] M) kf:=by
 unfold uJ;refine c4 (h:=qO (xs:=[m.d,bC r,nD w]) (af rfl (af rfl (af rfl rfl))) (HX h 26 hm .l hr hl h1 Q)) ?_;intro d j U;have s1:Sub M j:=U.elim (λz=>z.2.2) λz=>by obtain⟨_,_,_,_,_,_,_,_,_,_,s⟩:=z.1;exact s
 have W:=S.sub s1;have ne:∀{H:Env}{M'},Sub j M'->H[8]?.getD none=some (bC r)->H[5]?.getD none=some x5->aj (av .ne (aa 8) (aa 5)) H M'=.ok false M':=λ{H M'} s e8 Y=>by
  have z:=wm (M:=M') (x:=bC r) (y:=x5) .l (W.sub s);exact bO (fX (aE e8) (aE Y) (by rw[z,decide_eq_true rfl];rfl))
 have J:Known m j kd:=kn.imp id λ⟨fk,A,e,ef,z⟩=>{fk,A,e,s1.get ef,z};have E:(d=.str "many"/\cY m none)\/(mI m w r M d j/\¬ cY m none):=U.imp (λz=>⟨z.1,z.2.1⟩) id;refine mZ (R:=Sub j) ?_ λO s2=>?_
 ·rw[HZ,ne .refl rfl rfl,aW,if_neg `d,Dy,hU]
  refine qO (af rfl (af rfl (af rfl (af rfl (af rfl rfl))))) (aO (wK h.b h.s h.n h.h89 h.h44 h.h171 h.h221 h.h222 h.h223 34 hm hr hl Q J W E) ?_);rintro _ O ⟨rfl,s2⟩;exact⟨true,rfl,rfl,s2⟩
 refine mZ (R:=Sub M) ?_ λI F=>fx.mpr (kk I _ F);rw[HZ,LG];rcases E with⟨rfl,mn⟩|⟨mc,_⟩
 ·have X:bq .ne (.str "many") (.str "many") O=some false:=nj (v:=true) ij ij (show bW (.str "many") (.str "many")=true by decide +kernel)
  rw[bO (fX rfl rfl X),aW,if_neg `d]
  rw[if_neg `d,ne s2 rfl rfl,aW]
  exact{rfl,s1.trans s2}
 ·have u:=mc.sub s2;rw[bO (fX rfl rfl (zG u)),aW,if_pos rfl,Dy,hU];refine qO (af rfl rfl) (aO (Ib h.h224 38 hm hr.2 hl u) ?_);rintro _ I ⟨rfl,F⟩;refine{true,rfl,?_};rw[if_neg `d]
  have z:=wm (M:=I) (x:=bC r) (y:=x5) .l (S.sub F);rw[bO (fX rfl rfl (by rw[z,decide_eq_true rfl];rfl) (w:=false)),aW]
  exact⟨rfl,F⟩
def zR {s:GA}{ρ:Env}{M M1:Mem}{xs:List D}(e:s ρ M=.ok xs M1)(hl:xs.length≤100):aU false s ρ M=.ok (.lst xs) M1:=by
 unfold aU;rw[e];show(if xs.length≤sz then(if false=true then _ else Res.ok (D.lst xs) M1) else .bad)=_;rw[if_pos (aD `a)];rfl
def Hi {a:GE}{ρ ρ1:Env}{M M1:Mem}{ds:List D}{l:List Nat}(e:a ρ M=.ok (.tup ds) M1)(h:cf l ds ρ=some ρ1):au (.tup l) a ρ M=.ok (.next ρ1) M1:=by
 unfold au;rw[e];show(bX M1 (cf l ds ρ)).bind _=_;rw[h];rfl
def wz (m:aK)(p:Nat)(M:Mem)(kd:D):Prop:=Known m M kd/\∀h,kd=.fn (aI h)->h≠p
def wz.keep (h:wz m p M kd)(s:aT p M M'):wz m p M' kd:={h.1.imp id λ⟨j,A,e,u,z⟩=>{j,A,e,s.get u (h.2 j e),z},h.2}
def ny (m:aK)(p:Nat)(M:Mem)(x:D):Prop:=∃r:List Nat,(x=bC r\/∃q,x=.cell q/\q≠p/\M[q]?=some (r.map nD))/\ie m r/\r.length≤12
def ny.keep (h:ny m p M x)(s:aT p M M'):ny m p M' x:=by
 obtain⟨r,z,o⟩:=h;exact{r,z.imp id λ⟨q,e,n,eq⟩=>{q,e,n,s.get eq n},o}
def BO {x7 x8:Option D}(h:iQ P)(hm:aJ m)(y:ny m p M x5)(kn:wz m p M kd)(I:aG M p B)(S:B≤500002)
 (kk:∀M' O Q u j,aT p M M'->aG M' p (B+1)->kf (.next [x0,some (.cell p),x2,some m.d,x4,some x5,some kd,O,Q,u,j]) M') :
 ae (wV (ag P 39) [x0,some (.cell p),x2,some m.d,x4,some x5,some kd,x7,x8,x9,x10] M) kf:=by
 unfold wV;refine zf (c:=1) (many:=6) (n:=37) h.p.toHasP0 rfl rfl I `a `d `d λv H U J E=>?_
 simp only[List.set];obtain⟨r,z,hr,L⟩:=y.keep E;have y:bu H x5 r:=z.imp id λ⟨q,e,_,g⟩=>⟨q,e,g⟩;have W:=hr.1;refine bx (bM (tQ y `a rfl)) ?_
 rw[ax,dM,fg,dW];refine{2,rfl,{`d,`d},?_}
 refine c5 (λi F M'=>Sub H M'/\∃u j,F=[x0,some (.cell p),x2,some m.d,x4,some x5,some kd,some (nD (1+v)),some (bC r),u,j]) (λ_ _ _ _=>rfl) {.refl,_,_,rfl} ?_ ?_
 ·rintro i d F M' _ ⟨s,u,j,rfl⟩;refine{_,rfl,?_};exact xQ h hm hr L `a `a (y.sub s) ((kn.keep E).keep s.keep).1 λR j s2=>{_,rfl,s.trans s2,_,_,rfl}
 ·rintro F M' ⟨s,u,j,rfl⟩;exact fx.mpr (kk M' _ _ _ _ (E.trans s.keep) (s.pen J))
def AA {S:GS}{ρ:Env}(h:iQ P)(hm:aJ m)(y:ρ[3]?.getD none=some m.d)(I:aG M p B)(kk:∀M' kd,wz m p M' kd->Sub M M'->ae (S (ρ.set 6 (some kd)) M') kf) :
 ae (bg (au (.one 6) (ah 159 (ag P 39) (cm (aa 3) (cm (ai false .pow (gC (.int 10)) (gC (.int 9))) bT)))) S ρ M) kf:=by
 obtain⟨kd,v,E,L,H⟩:=d9.mp (y4 h.b h.h158 h.h159 36 hm);refine dF (eD ((bh (af (aE y) (af (wW rfl rfl {`d,`d} `d) rfl))).trans E)) (kk v _ ?_ L)
 have O:=I.lt;rcases H with⟨rfl,J⟩|⟨j,A,rfl,hf,F,_,all,few⟩
 ·exact{.inl {rfl,_,J},λj z=>nomatch z}
 ·refine{.inr {j,A,rfl,F,(all `d).1,few},λu z=>?_}
  have z:j=u:=by
   have z:=D.fn.inj z;unfold aI at z;omega
  omega
def qI {xs:List D}{x5 x7 x8:Option D}(h:iQ P)(hm:aJ m)(H:∀x∈xs,ny m p M x)(hl:xs.length≤2)(kn:wz m p M kd)(F:aG M p B)(J:B≤500000)
 (kk:∀M' z u v y j,aG M' p (B+2)->kf (.next [x0,some (.cell p),x2,some m.d,some (.lst xs),z,some kd,u,v,y,j]) M') :
 ae (bg (bY (.one 5) (bZ (aa 4)) (wV (ag P 39))) ay [x0,some (.cell p),x2,some m.d,some (.lst xs),x5,some kd,x7,x8,x9,x10] M) kf:=by
 rw[ax,dM,f5];refine bp.mpr {_,rfl,rfl,?_};refine c5 (ds:=xs) (λi E M'=>aT p M M'/\aG M' p (B+i)/\∃z u v y j,E=[x0,some (.cell p),x2,some m.d,some (.lst xs),z,some kd,u,v,y,j]) (λ_ _ _ _=>rfl) {.refl,F,_,_,_,_,_,rfl} ?_ ?_
 ·rintro i d E M' hd ⟨s,p1,z,u,v,y,j,rfl⟩;refine{_,rfl,?_};have:=(PH.mp hd).1;have L:i<2:=`a
  exact BO h hm ((H d (Qb hd)).keep s) (kn.keep s) p1 (by omega:B+i≤500002) λI u v y j s2 p2=>{_,rfl,s.trans s2,p2,_,_,_,_,_,rfl}
 ·rintro E M' ⟨s,p1,z,u,v,y,j,rfl⟩;exact fx.mpr (kk M' _ _ _ _ _ (p1.mono `a))
def vO {b:Bool}{A C:GS}{t:GT}{ρ:Env}(h:t ρ M=.ok b M1)(h1:b=true->ae (A ρ M1) (gA C kf))(h2:b=false->ae (C ρ M1) kf):ae (bg (aN t A ay) C ρ M) kf:=by
 rw[ax,j3,h];cases b with
 |true=>exact h1 rfl
 |false=>exact fx.mpr (aX.mpr (h2 rfl))
def zr {k:Nat}{ρ:Env}(h:iQ P)(e1:ρ[1]?.getD none=some (.cell p))(e2:ρ[2]?.getD none=some (nD t))(F:aG M p B)(I:B≤500000) :
 ∃b M1,dI (aj (av .eq (aa 2) (gC (.int (k:Nat))))) (aj (av .eq (ah 31 (ag P 39) (cm (aa 1) (cm (gC (.int 3)) bT))) (gC (.int 0)))) ρ M=.ok b M1/\aG M1 p (B+1)/\aT p M M1:=by
 have u:ae (ah 31 (ag P 39) (cm (aa 1) (cm (gC (.int 3)) bT)) ρ M) λd y=>∃v:Nat,d=nD v/\v<3/\aG y p (B+1)/\aT p M y:=eU h.p.toHasP0 37 (many:=3) e1 rfl F `a `d `d
 obtain⟨d,M1,H,v,rfl,J,p1,k1⟩:=d9.mp u;have j:aj (av .eq (aa 2) (gC (.int (k:Nat)))) ρ M=.ok ((t:Int)==(k:Int)) M:=bO (fX (aE e2) rfl rfl);cases E:((t:Int)==(k:Int)) with
 | false =>
   rw[E] at j;exact{false,M,Lf (b:=false) j (λz=>nomatch z),F.mono `a,.refl}
 | true =>
   rw[E] at j;refine{(v:Int)==0,M1,?_,p1,k1};unfold dI;rw[j];show aj _ ρ M=_;unfold aj av;rw[H];rfl
def qJ {xs:List D}{x5 x6 x7 x8:Option D}{y:Nat}(h:iQ P)(hm:aJ m)(R:∀x∈xs,ny m p M x)(hl:xs.length≤2)(L:aG M p B)(hB:B≤400000)
 (kk:∀M' z3 z4 F z6 H I J u,aG M' p (B+100)->kf (.next [x0,some (.cell p),some (nD y),z3,z4,F,z6,H,I,J,u]) M') :
 ae (sT (ag P 39) [x0,some (.cell p),some (nD y),some m.d,some (.lst xs),x5,x6,x7,x8,x9,x10] M) kf:=by
 unfold sT;refine AA h hm rfl L λM1 kd kn s1=>?_;simp only[List.set];obtain⟨b,M2,e2,p2,k2⟩:=zr (k:=4) (t:=y) (ρ:=[x0,some (.cell p),some (nD y),some m.d,some (.lst xs),x5,some kd,x7,x8,x9,x10]) h rfl rfl (s1.pen L) `a
 refine vO e2 (λ_=>?_) λ_=>qI h hm (λx z=>((R x z).keep s1.keep).keep k2) hl (kn.keep k2) p2 `a λM' F H I J u v=>kk M' _ _ _ _ _ _ _ _ (v.mono `a)
 unfold Ap;obtain⟨_,M3,O,W,rfl,j,v,k3⟩:=d9.mp (Fy h.p.toHasP0 h.h161 36 p2 `a)
 refine dF (eD ((bh (xs:=[.cell p]) (af rfl rfl)).trans O)) ?_;simp only[List.set];refine AA h j rfl v λM4 U E s4=>?_;simp only[List.set];obtain⟨_,M5,Q,r,rfl,hr,rl,X,S⟩:=d9.mp (pL h.p h.h35 36 (mo:=12) j (s4.pen v) `a `d)
 refine dF (eD (zR (cK ((bh (xs:=[.cell p,W.d,nD 12]) (af rfl (af rfl (af rfl rfl)))).trans Q) rfl) (P5 rfl))) ?_;simp only[List.set];refine fx.mpr (aX.mpr (qI h j (λx z=>?_) (P5 rfl) (E.keep S) X `a λM' F H I J u Y=>kk M' _ _ _ _ _ _ _ _ (Y.mono `a)))
 rw[Qa.mp z];exact{r,.inl rfl,hr,rl}
def yB {x3 x6 x7 x8 x5:Option D}{u:Nat}(h:iQ P)(ht:u<6)(hp:aG M p B)(hB:B≤300000)
 (kk:∀M' O Q R S U W X j,aG M' p (B+600)->kf (.next [x0,some (.cell p),some (nD u),O,Q,R,S,U,W,X,j]) M') :
 ae (sk (ag P 39) [x0,some (.cell p),some (nD u),x3,x4,x5,x6,x7,x8,x9,x10] M) kf:=by
 unfold sk;refine c4 (k:=λd M'=>∃m:aK,d=m.d/\aJ m/\aG M' p (B+300)) ?_ ?_
 ·rw[As,bR,bh (xs:=[.cell p]) (af rfl rfl)];refine aO (FE h.p.toHasP0 38 hp) ?_;rintro _ M1 ⟨rfl,p1,k1⟩;rw[bR];refine bp.mpr {_,rfl,cJ.mpr ?_};refine aO (Fs h.p h.h160 33 ht p1 `a) ?_
  rintro d M2 ⟨m,e,hm,p2,_⟩;exact⟨m,e,hm,p2⟩
 rintro _ M1 ⟨m,rfl,hm,p1⟩;simp only[List.set];obtain⟨_,M2,e2,r,rfl,hr,rl,p2,k2⟩:=d9.mp (pL h.p h.h35 36 (mo:=12) hm p1 `a `d)
 obtain⟨_,M3,e3,I,rfl,F,rl3,p3,k3⟩:=d9.mp (pL h.p h.h35 36 (mo:=7) hm p2 `a `d)
 refine dF (eD (zR (cK ((bh (xs:=[.cell p,m.d,nD 12]) (af rfl (af rfl (af rfl rfl)))).trans e2) (cK ((bh (xs:=[.cell p,m.d,nD 7]) (af rfl (af rfl (af rfl rfl)))).trans e3) rfl)) (P5 rfl))) ?_;simp only[List.set];obtain⟨b,M4,e4,Y,k4⟩:=zr (k:=2) (t:=u) (ρ:=[x0,some (.cell p),some (nD u),some m.d,some (.lst [.lst (r.map nD),.lst (I.map nD)]),x5,x6,x7,x8,x9,x10]) h rfl rfl p3 `a
 refine vO e4 (λ_=>?_) λ_=>qJ h hm (λx z=>?_) (P5 rfl) Y `a λM' O Q R S U W X j q=>kk M' _ _ _ _ _ _ _ _ (q.mono `a)
 ·obtain⟨_,M5,e5,m5,q,J,rfl,E,eq,H,L,p5,k5⟩:=d9.mp (FD h.p.toHasP0 h.h210 36 Y `a)
  have n5:=k5.len;refine dF (Hi (ρ1:=[x0,some (.cell p),some (nD u),some m5.d,some (.lst [.lst (r.map nD),.lst (I.map nD)]),some (.cell q),x6,x7,x8,x9,x10]) ((bh (xs:=[.cell p]) (af rfl rfl)).trans e5) rfl) ?_;refine bx (bM (lZ (af rfl rfl) (P5 rfl))) ?_;simp only[List.set];refine fx.mpr (aX.mpr (qJ h E (λx z=>?_) (P5 rfl) p5 `a λM' O Q R S U W X j q=>kk M' _ _ _ _ _ _ _ _ (q.mono `a)))
  rw[Qa.mp z];refine{J,.inr {q,rfl,?_,eq},H,L};rintro rfl;obtain⟨c,v,a,st,y,_⟩:=p5.ex;rw[eq] at y;cases J with
  |nil=>cases PQ y
  |cons a J=>exact D.noConfusion (List.cons.inj (PQ y)).1
 ·rcases Qu.mp z with rfl|z
  ·exact{r,.inl rfl,hr,rl}
  ·rw[Qa.mp z];exact{I,.inl rfl,F,`a}
def Md (h:iQ P)(ns:List Int)(hn:ns.length≤63):∃M,ag P 40 225 [.frz (ns.map D.int)] []=.ok (.bl true) M:=by
 have v:ae (ag P 40 225 [.frz (ns.map D.int)] []) λd _=>d=.bl true:=by
  refine aH h.h225 rfl ?_;show ae (nu (ag P 39) [some (.frz (ns.map D.int)),none,none,none,none,none,none,none,none,none,none] []) _;unfold nu;refine c4 (k:=λd u=>d=.cell 1/\aG u 1 0) ?_ ?_
  ·rw[bh (af rfl rfl)];exact Fu h.p.toHasP0 38 hn
  rintro _ S ⟨rfl,p1⟩;rw[ax,dM,fg,dW];refine{5,rfl,{`d,`d},?_}
  refine c5 (ds:=(List.range 5).map λ(k:Nat)=>D.int (k:Int)) (λi O u=>aG u 1 (600*i)/\∃y z E F H I J L j,O=[some (.frz (ns.map D.int)),some (.cell 1),y,z,E,F,H,I,J,L,j]) (λ_ _ _ _=>rfl) {p1,_,_,_,_,_,_,_,_,_,rfl} ?_ ?_
  ·rintro i d O u hd ⟨Q,y,z,E,F,H,I,J,L,j,rfl⟩;obtain⟨W,rfl⟩:=vb hd;refine{_,rfl,?_};exact yB h `a Q `a λU X Y z5 z6 z7 z8 z9 R p2=>{_,rfl,p2.mono `a,_,_,_,_,_,_,_,_,_,rfl}
  ·rintro O u ⟨Q,y,z,E,F,H,I,J,L,j,rfl⟩;rw[aX];exact cP rfl rfl
 obtain⟨d,M,e,rfl⟩:=d9.mp v;exact⟨M,e⟩
end
end LD
end
set_option maxHeartbeats 0
namespace K40
open PySem PySem.Spec PyProof.Rows L2 LD
noncomputable def top (i:Nat):Stmt:=PySem.Challenge.pw_leastdeeds_k40_rows_mended.main.body.getD i (.Pass {0,0,0,0})
noncomputable def q0:Str×Tok:=("leastdeeds.wholes",296)
noncomputable def q1:Str×Tok:=("leastdeeds.machines",307)
noncomputable def q2:Str×Tok:=("leastdeeds.runs",478)
noncomputable def q3:Str×Tok:=("leastdeeds.least",548)
noncomputable def q4:Str×Tok:=("leastdeeds.mending",593)
noncomputable def q5:Str×Tok:=("law_leastdeeds_k40_rows_mended",657)
noncomputable def tb:List Ent:=[{0,"is_between",top 8,3,["thing","low","high"],101,q0,ji,false,none,0},
 {1,"is_word",top 16,2,["words","thing"],108,q1,my,false,none,0},
 {2,"is_place",top 17,2,["places","thing"],115,q1,lF,false,none,0},
 {3,"is_cost",top 18,1,["thing"],122,q1,mE,false,none,0},
 {4,"is_tuple_of",top 19,2,["long","thing"],129,q1,iB,false,none,0},
 {5,"is_table",top 20,2,["words","thing"],134,q1,lE,false,none,0},
 {6,"is_double_table",top 21,2,["words","thing"],139,q1,fP,false,none,0},
 {7,"is_turn",top 22,3,["words","places","parts","at","table","price"],146,q1,mz,false,none,0},
 {8,"is_join",top 23,3,["words","places","parts","at","other","table","price"],153,q1,mC,false,none,0},
 {9,"is_move",top 24,3,["words","places","parts","at","other","price"],160,q1,mB,false,none,0},
 {10,"is_put",top 25,3,["words","places","parts","at","word","price"],167,q1,oz,false,none,0},
 {11,"is_deed",top 27,3,["words","places","thing","sort","is_sort"],175,q1,mD,false,none,0},
 {12,"is_machine",top 28,1,["thing","words","places","deeds"],180,q1,jh,false,none,0},
 {13,"need_machine",top 29,1,["thing"],187,q1,hJ,true,none,0},
 {15,"beginnings",top 30,1,["machine","words","places","deeds","starts","place"],192,q1,dg,true,none,0},
 {16,"is_deed_number",top 31,2,["machine","thing"],199,q1,gq,false,none,0},
 {17,"need_numbers",top 32,2,["machine","row","place","thing"],206,q1,hI,true,none,0},
 {18,"need_row",top 33,2,["machine","row"],213,q1,lC,true,none,0},
 {20,"turned",top 35,2,["deed","standing","sort","at","table","price"],220,q2,lr,false,none,0},
 {21,"joined",top 36,2,["deed","standing","sort","at","other","table","price"],227,q2,lD,false,none,0},
 {22,"moved",top 37,2,["deed","standing","sort","at","other","price"],234,q2,nr,false,none,0},
 {23,"put_in",top 38,2,["deed","standing","sort","at","word","price"],241,q2,lu,false,none,0},
 {24,"done",top 40,2,["deed","standing","new_word","at"],249,q2,pB,false,none,0},
 {151,"priced_leads",top 43,1,["machine","starts"],254,q3,dG,true,none,0},
 {152,"led_to",top 44,2,["lead","ends"],259,q3,dQ,false,none,0},
 {165,"next_level",top 45,3,["leads","levels","found","price","level","number","step_price","lead","ahead","ends","new_ends"],266,q3,gV,true,none,0},
 {166,"reached",top 46,2,["machine","bound","leads","empty_ends","found","levels"],274,q3,jg,true,none,267},
 {196,"need_mendable",top 50,3,["machine","row","most"],281,q4,dt,true,none,0},
 {217,"cheaper_window",top 51,4,["leads","found","ends","deeds","price","long","number","step_price","lead","least_price","least_row"],288,q4,cj,false,none,0},
 {218,"next_step",top 52,4,["machine","found","row","most","leads","empty_ends","place","window","long","cheaper"],295,q4,eV,true,none,0},
 {219,"mended",top 53,3,["machine","row","most","found","standing","steps","step","place","long","cheaper"],302,q4,fZ,true,none,0},
 {28,"_law_spread",top 55,2,["cell","at","primes","one","two","three"],309,q5,lL,false,none,0},
 {29,"_law_open",top 56,1,["script","cells","k","cell"],316,q5,jV,false,none,0},
 {30,"_law_anew",top 57,1,["pen"],323,q5,jW,false,none,0},
 {31,"_law_take",top 58,2,["pen","many","at","cell","found"],330,q5,nH,false,none,0},
 {67,"_law_is_whole",top 59,1,["thing"],337,q5,gY,false,none,0},
 {40,"_law_same",top 60,2,["found","due"],342,q5,ib,false,none,0},
 {32,"_law_tab",top 61,2,["pen","words","kind","word","other","found"],347,q5,iM,false,none,0},
 {33,"_law_deed",top 62,3,["pen","words","places","kind","price","at","other"],352,q5,ic,false,none,0},
 {34,"_law_machine",top 63,4,["pen","words","places","most","deeds","k","again","deed"],359,q5,fL,false,none,0},
 {35,"_law_row",top 64,3,["pen","machine","most","kind","many","found"],364,q5,gW,false,none,0},
 {41,"_law_after",top 65,2,["deed","end","here","own"],371,q5,jj,false,none,0},
 {42,"_law_begins",top 66,1,["machine"],376,q5,iC,false,none,0},
 {44,"_law_ends",top 67,2,["machine","row","found","end","number"],383,q5,eI,false,none,0},
 {89,"_law_price",top 68,2,["machine","row"],388,q5,cL,false,none,0},
 {158,"_law_behind",top 69,3,["machine","here","number"],393,q5,dB,false,none,0},
 {159,"_law_costs",top 70,2,["machine","bound","found","due","price","here","number","deed"],400,q5,fB,false,none,0},
 {68,"_law_is_in",top 71,3,["thing","low","high"],407,q5,mF,false,none,0},
 {160,"_law_some_machine",top 72,2,["pen","turn","size"],414,q5,fo,false,none,0},
 {171,"_law_is_row",top 73,2,["machine","row"],419,q5,d5,false,none,0},
 {161,"_law_all_four",top 74,1,["pen","tabs","at","deeds"],424,q5,fu,false,none,0},
 {210,"_law_dear_round",top 75,1,["pen","deeds","at","many","row","k"],431,q5,dD,false,none,0},
 {220,"_law_told",top 76,3,["machine","row","most","found"],438,q5,eB,false,none,0},
 {221,"_law_step_on",top 77,4,["machine","row","most","step","place","long","some","window"],445,q5,dH,false,none,0},
 {222,"_law_at_end",top 78,4,["machine","prices","row","most","place","long","window"],452,q5,fi,false,none,0},
 {223,"_law_right",top 79,5,["machine","prices","row","most","found","here","step"],459,q5,eC,false,none,0},
 {224,"_law_own",top 80,1,["found","lists","copies","at"],464,q5,gX,false,none,0},
 {225,"law",top 81,1,["script","pen","turn","machine","rows","row","prices","most","handed","again","found"],471,q5,nu,false,none,0}]
def rs:Rs:={[Dn,Dt,Ds,Dr,Nn,yx,HQ,HP,Dm,yz,HN,HI,HH,HK,HJ,HR,HG,yt,yv,Dp,Dq,Dv,Du,Nm],[HB,vT],[yk,De],[HA,Di,Dh,Dj,Dg,Hz],[Hs,Ho,C9,Dd,yg,Dc,Hr,Ht,Hu,Hq,yi,uZ,A2]}
def LO:C0 rs:={⟨Be,Bj,Bi,Bh,HM,yw,Fh,Fg,Bd,yy,Ff,Fc,Fb,Fe,Fd,Fi,E9,yr,yu,Bf,Bg,Bm,Bl,HL,trivial⟩,⟨E7,LB,trivial⟩,⟨yj,A4,trivial⟩,⟨E5,Bb,Ba,Bc,A9,E4,trivial⟩,⟨EX,ET,AZ,A3,yf,A1,EV,EY,EZ,EU,yh,wF,EW,trivial⟩}
noncomputable def te0:List (Str×En):=List.map (λx=>(x,En.bl)) ["all","any","bool","enumerate","int","isinstance","len","list","min","range","str","sum","tuple","zip"]
def te1:List (Str×En):=[("LEAST_WORDS",.int 2),("LONGEST_MENDED",.int 12),("LONGEST_ROW",.int 40),("MOST_BEHAVIOURS",.int 255),("MOST_COST",.int 3),("MOST_DEEDS",.int 6),("MOST_PLACES",.int 2),("MOST_WORDS",.int 4),("WIDEST_WINDOW",.int 6),("NEW_WORDS",.dct cH),("SORTS",.dct eF),("NoMachine",.xc 3)]
noncomputable def te2:List (Str×En):=[("TooLong",.xc 4),("NoBound",.xc 7),("TooMany",.xc 8),("DeedError",.de)]
def te:List (Str×En):=te0++te1++te2
def tbl:mG:={(tb.filter (·.q.isNone)).map (λe=>(e.x,if e.i==166 then En.fnD e.i else En.fn e.i e.r))++te,[("TooMany","TooMany",8,8)],[],[("NEW_WORDS",cH),("SORTS",eF)],[],[(131,12,14),(137,42,67),(145,29,31),(146,13,27),(167,26,41),(181,15,24),(182,12,14),(201,12,29),(204,11,24),(249,12,30),(268,12,14),(284,11,20),(300,12,14),(311,12,14),(312,10,41),(312,11,40),(322,35,37),(344,10,25),(387,14,23)],[(128,18,27),(136,15,36),(137,16,31),(137,42,53),(139,19,29),(145,12,33),(165,33,44),(311,12,14),(316,15,32),(317,16,27),(318,19,29),(371,15,49)],[],rs,tb}
def Pg:Nat->Option Df:=tbl.Pg
def LP:∀c,tb.map (tbl.rd c)=tb.map λe=>some (e.b c):=λc=>by kernel_rfl
def tab:xU tbl:={LO,LP,by kernel_rfl,by kernel_rfl,λ_ _ _ _ _ _=>by kernel_rfl,λ_ _ _ _ _ _ _=>by kernel_rfl,λ_ _ _ _ _ _ _ _=>by kernel_rfl,λ_ _ _ _ _ _ _ _ _=>by kernel_rfl,λ_ _ _ _ _ _ _ _ _ _=>by kernel_rfl,λ_ _ _ _ _ _ _ _ _ _ _ _=>by kernel_rfl,λ_ _ _ _ _ _ _ _ _ _ _=>by kernel_rfl,by rw[show tbl.tb.filter (λe=>!(e.df==0))=[tb[26]] from by kernel_rfl];exact{{rfl,λ_ _ _ _ _ _ _ _=>{_,_,rfl,rfl,rfl,rfl}},trivial}}
def fa:Fa:=LD.ua (tb.map (λe=>(e.i,e.f))++[(666,1)]) [(0,44),(3,56),(4,68),(7,80),(8,92)] 24
def Ci:∀ns:List Int,ns.length≤63->∃M,ag Pg 40 225 [.frz (ns.map D.int)] []=.ok (.bl true) M:=Md (by repeat' (first|rfl|constructor))
end K40
open PySem PySem.W PyProof.Rows K40
set_option maxRecDepth 100000 in
set_option maxHeartbeats 0 in
theorem PySem.Challenge.cw_leastdeeds_k40_rows_mended_holds : PySem.Challenge.rw_leastdeeds_k40_rows_mended.Holds := by
 w_on;o_law
 refine PySem.W.holds_open (r:=K40.xo) (q:=K40.kq) (loose:=K40.oV) (Xt:=fun s=>PySem.W.xlAt K40.kq [] s&&PySem.W.recOk (PySem.W.RowW.records K40.xo.toRowW) s) (XP:=PySem.W.XL K40.kq []) (Yf:=K40.kH.obs) (Ya:=K40.kH.val) (YP:=K40.kH.says) (N:=6902) K40.Me K40.kH.of K40.kH.keeps (fun s e=>PySem.W.xl_of s (Rx.mp e).1) PySem.W.XL.keeps `r `r `r (fun s e=>PySem.W.recFacts_of (Rx.mp e).2) `r (by first|assumption|decide +kernel) `k ⟨rfl,rfl,rfl,rfl,rfl,`k⟩ ?hw ?hc
 case hw=>w_witness2
 refine L2.E3 (l:=PySem.Challenge.rw_leastdeeds_k40_rows_mended) (n:=63) (k:=84) (x:="script") (CX:=fun w=>LD.iG PySem.Challenge.rw_leastdeeds_k40_rows_mended.prog w) (K:=K40.kh) (sp:=fun w=>LD.DF (K40.kh w.params)) rfl `d rfl ⟨rfl,`d,`d,rfl⟩ (fun w h Y=>PySem.W.kIn_of Y) ?F (fun w H a ns hl hO hS=>⟨a,ns,rfl,hS,hO,hl,fun _=>rfl⟩) (fun _ _ _ _ _ z=>let⟨_,_,_,_,_,_,_,_,_,_,q⟩:=z;q)
 case F=>
  intro w mg fa h KX G hmg;have tk:LD.AW (K40.kh w.params) K40.tb:=⟨by kernel_rfl,by kernel_rfl,by kernel_rfl,by kernel_rfl⟩
  obtain⟨m,fd,F⟩:=LD.Fo tk KX G (e:=K40.tb[57]) (List.getElem_mem _) rfl rfl;have d_NEW_WORDS:=LD.vF (x:="NEW_WORDS") (P:=w.params) (fa:=K40.fa) (fs:=LD.cH) (ad:=242) (es:=#[{hash:=PySem.PyData.keyHash w.params (PySem.Str.ofString "turn"),key:=PySem.Value.str (PySem.Str.ofString "turn") 529,val:=PySem.Value.ref 220},{hash:=PySem.PyData.keyHash w.params (PySem.Str.ofString "join"),key:=PySem.Value.str (PySem.Str.ofString "join") 530,val:=PySem.Value.ref 227},{hash:=PySem.PyData.keyHash w.params (PySem.Str.ofString "move"),key:=PySem.Value.str (PySem.Str.ofString "move") 531,val:=PySem.Value.ref 234},{hash:=PySem.PyData.keyHash w.params (PySem.Str.ofString "put"),key:=PySem.Value.str (PySem.Str.ofString "put") 532,val:=PySem.Value.ref 241}]) (n:=4) KX G (by kernel_rfl) (by kernel_rfl) (by exact LD.gu (LD.gu (LD.gu (LD.gu (LD.Ac))))) `k `d (by exact .cons ⟨rfl,rfl⟩ (.cons ⟨rfl,rfl⟩ (.cons ⟨rfl,rfl⟩ (.cons ⟨rfl,rfl⟩ (.nil)))))
  have d_SORTS:=LD.vF (x:="SORTS") (P:=w.params) (fa:=K40.fa) (fs:=LD.eF) (ad:=168) (es:=#[{hash:=PySem.PyData.keyHash w.params (PySem.Str.ofString "turn"),key:=PySem.Value.str (PySem.Str.ofString "turn") 413,val:=PySem.Value.ref 146},{hash:=PySem.PyData.keyHash w.params (PySem.Str.ofString "join"),key:=PySem.Value.str (PySem.Str.ofString "join") 414,val:=PySem.Value.ref 153},{hash:=PySem.PyData.keyHash w.params (PySem.Str.ofString "move"),key:=PySem.Value.str (PySem.Str.ofString "move") 415,val:=PySem.Value.ref 160},{hash:=PySem.PyData.keyHash w.params (PySem.Str.ofString "put"),key:=PySem.Value.str (PySem.Str.ofString "put") 416,val:=PySem.Value.ref 167}]) (n:=4) KX G (by kernel_rfl) (by kernel_rfl) (by exact LD.gu (LD.gu (LD.gu (LD.gu (LD.Ac))))) `k `d (by exact .cons ⟨rfl,rfl⟩ (.cons ⟨rfl,rfl⟩ (.cons ⟨rfl,rfl⟩ (.cons ⟨rfl,rfl⟩ (.nil)))))
  have TO:=fun base=>LD.Fn (base:=base) (P:=PySem.Challenge.rw_leastdeeds_k40_rows_mended.prog) (w:=w) (t:=K40.tbl) (fa:=K40.fa) KX G (by kernel_rfl) (LD.Hw (by kernel_rfl)) (LD.Js (by kernel_rfl)) (LD.CB (by kernel_rfl)) ⟨rfl,rfl⟩ ⟨d_NEW_WORDS,d_SORTS,trivial⟩ trivial
  have tw:LD.AllP (fun q=>LD.wx K40.fa (K40.kh w.params) mg q.1 q.2.1 q.2.2.1 q.2.2.2) K40.tbl.tw:=⟨LD.HU (LD.zO (x:="TooMany") (f:=92) KX G (by kernel_rfl)) (LD.zO (x:="TooMany") (f:=92) KX G (by kernel_rfl)) (by kernel_rfl),trivial⟩
  have xf:LD.AllP (fun f=>LD.EK K40.fa (K40.kh w.params) f) K40.tbl.xf:=trivial
  have ms:∀q∈K40.tbl.ms,LD.pH K40.fa (K40.kh w.params) q.1 q.2.1 q.2.2:=LD.JE (by kernel_rfl)
  have e:=hmg.symm.trans m;cases e;exact⟨fd,fun s v=>by
   obtain⟨oc,od,kV,doc,pm,an,cdv,ct,osl,rfl,lk,hcd⟩:=F.ex;exact .of_eq rfl,fun base _ _=>LD.JN (n:=39) (f:=225) (LD.Bw K40.tab tk KX G (TO base) tw.mem xf.mem ms (by kernel_rfl)) K40.Ci rfl F (LD.pa (e:=K40.tb[57]) (Qh.mp K40.tab.sc K40.tb[57] (List.getElem_mem _))).1 rfl fun c n a b d s H E C hr=>LD.su (e:=K40.tb[57]) K40.tab (TO base) tw.mem xf.mem ms (List.getElem_mem _) c n a b d s H E C hr⟩
