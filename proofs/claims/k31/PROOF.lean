import PyProof.Rows.All
import Wide.All
import OpenK.AllK
import Wide.FinOn
import Lean
import PyProof.EqAt
import PyProof.EqKinds
import PyProof.TupleCall
import PyProof.StrOps
import PyProof.MeetsStr
import PyProof.StrLawsJoin
import PySem.Challenge.RW_leastdeeds_k31_counts_told
set_option Elab.async false
set_option linter.all false
set_option maxRecDepth 100000
set_option autoImplicit true
set_option relaxedAutoImplicit true
set_option maxHeartbeats 0
set_option bootstrap.genMatcherCode false
set_option genSizeOf false
noncomputable section
local macro_rules(kind:=«term{_}»)|`({$a:term,*})=>`(⟨$a,*⟩)
local macro_rules(kind:=Lean.Parser.Term.quotedName)|x=>match x[0].isNameLit?.getD .anonymous|>.toString with|"a"=>`(by omega)|"d"=>`(by decide)|"s"=>`(by simp)|"o"=>`(by simp;omega)|"k"=>`(by decide +kernel)|"r"=>`(by rfl)|_=>Lean.Macro.throwUnsupported
local macro_rules|`(tactic|omega)=>`(tactic|first|(simp +arith;done)|lia|omega(config:={}))
abbrev tqa:=@PySem.wpAny_bind
abbrev tqb:=@PySem.wpAny_pure
abbrev tqf:=@PySem.wpAny_field
abbrev tqo:=@PySem.wpAny_holding
abbrev tqp:=@PySem.wpAny_truthy_bool
abbrev Ov:=@List.getElem?_eq_some_iff
abbrev Ow:=@PySem.W.Frag
abbrev Ox:=@PySem.Value
abbrev Oy:=@PySem.Shared
abbrev Oz:=@List.length_map
abbrev OA:=@PySem.Heap.get?_push_of_some
abbrev OC:=@Nat.le_refl
abbrev OD:=@Option.some.inj
abbrev OE:=@List.getElem?_set_ne
abbrev OF:=@Bool.and_eq_true
abbrev OG:=@List.getElem?_append_left
abbrev OH:=@List.size_toArray
abbrev OI:=@Nat.le_of_ble_eq_true
abbrev OJ:=@PySem.Heap.get?_push_size
abbrev OK:=@List.mem_map
abbrev OL:=@List.getElem?_map
abbrev OO:=@List.getElem?_eq_getElem
abbrev OP:=@List.mem_cons_of_mem
abbrev OQ:=@List.mem_singleton
abbrev OR:=@Bool.false_ne_true
abbrev OS:=@PySem.Heap.lt_size
abbrev OV:=@List.map_append
abbrev OW:=@Option.map_eq_some_iff
abbrev OZ:=@Nat.le_trans
abbrev O0:=@List.all_eq_true
abbrev O1:=@Nat.lt_of_lt_of_le
abbrev O2:=@PySem.Program
abbrev O3:=@List.getElem?_set_self
abbrev O4:=@List.mem_cons_self
abbrev O5:=@List.getElem?_append_right
abbrev O6:=@List.mem_cons
abbrev O9:=@PySem.World
abbrev Pc:=@List.mem_map_of_mem
abbrev Pd:=@List.mem_append_right
abbrev Pj:=@List.mem_of_getElem?
abbrev Pk:=@List.mem_append
abbrev Pm:=@Nat.ne_of_lt
abbrev Pn:=@List.length_append
abbrev Po:=@List.append_nil
abbrev Pp:=@PySem.Env
abbrev Pq:=@Option.bind_eq_some_iff
abbrev Pr:=@List.map_cons
abbrev Pt:=@List.mem_append_left
abbrev Pu:=@PySem.DictEntry
abbrev Pw:=@List.map_map
abbrev Px:=@Bool.false_eq_true
abbrev Py:=@List.lookup_cons
abbrev Pz:=@List.nodup_cons
abbrev PB:=@beq_eq_false_iff_ne
abbrev PC:=@PySem.OsState
abbrev PD:=@PySem.W.kia_one
abbrev PF:=@PySem.W.SharedT
abbrev PH:=@PySem.Heap.SameBut.update
abbrev PJ:=@List.take_of_length_le
abbrev PK:=@List.append_assoc
abbrev PL:=@List.all_cons
abbrev PM:=@Nat.ne_of_gt
abbrev PN:=@Ne.symm
abbrev PQ:=@PySem.Obj.data_mapFields
abbrev PR:=@PySem.Around
abbrev PU:=@PyProof.Rows.callWith_type1
abbrev PV:=@List.length_range
abbrev PX:=@PySem.Heap.get?_update_self
abbrev PY:=@PyProof.Rows.slot_tuple_getitem
abbrev PZ:=@Iff.rfl
abbrev P4:=@List.getD_eq_getElem?_getD
abbrev P5:=@Nat.lt_irrefl
abbrev P6:=@Bool.eq_iff_iff
abbrev P7:=@List.getElem?_range
abbrev P8:=@List.take_succ
abbrev P9:=@Nat.lt_of_le_of_lt
abbrev Qa:=@Int.emod_lt_of_pos
abbrev Qb:=@PySem.Comprehension
abbrev Qc:=@Nat.zero_le
abbrev Qd:=@PySem.Heap.SameBut
abbrev Qe:=@List.nodup_append
abbrev Qf:=@List.exists_of_findSome?_eq_some
abbrev Qg:=@Array.getElem?_eq_some_iff
abbrev Qh:=@PySem.Params
abbrev Qi:=@List.nil_append
abbrev Qj:=@Int.emod_nonneg
abbrev Qk:=@PySem.Heap.get?_update_other
abbrev Ql:=@List.length_cons
abbrev Qm:=@PySem.W.mg_of
abbrev Qn:=@PySem.Paired
abbrev Qo:=@Nat.add_sub_cancel_left
abbrev Qp:=@Int.toNat_natCast
abbrev Qq:=@Nat.not_lt_zero
abbrev Qr:=@List.replicate_succ
abbrev Qs:=@List.map_congr_left
abbrev Qt:=@List.any_eq_true
abbrev Qu:=@Bool.or_eq_true
abbrev Qv:=@PySem.Heap.size_push
abbrev Qw:=@Option.isSome_map
abbrev Qx:=@Nat.lt_succ_of_lt
abbrev Qy:=@Nat.lt_or_ge
abbrev Qz:=@List.getElem?_of_mem
abbrev QA:=@Bool.and_eq_true_iff
abbrev QB:=@PySem.Obj.isFreed_of_fields
abbrev QC:=@Array.length_toList
abbrev QD:=@Nat.le_add_right
abbrev QE:=@List.mem_range
abbrev QF:=@List.length_eq_zero_iff
abbrev QG:=@List.getElem?_replicate
abbrev QH:=@List.getElem?_cons_zero
abbrev QI:=@List.getElem?_cons_succ
abbrev QJ:=@List.cons_append
abbrev QK:=@List.map_nil
abbrev QL:=@PySem.F.slot_dict_valueiterator_next
abbrev QM:=@Nat.add_assoc
abbrev QN:=@List.flatten_cons
abbrev QO:=@PySem.F.slot_dict_keyiterator_next
abbrev QP:=@List.not_mem_nil
abbrev QR:=@List.getElem_mem
abbrev QS:=@Option.isNone_iff_eq_none
abbrev QT:=@PySem.mem_of_lookup
abbrev QU:=@PySem.FuncData
abbrev QW:=@List.mem_filter
abbrev QX:=@List.find?_eq_none
abbrev QY:=@PySem.F.plainAttrs_list
namespace HD
open PySem PySem.W
def hJ (tb:String->Option Builtin)(p:O2)(w:O9)(n0:Nat)(ann:Option Ox):Nat->PF->Thread->Option PF
 |0,_,_=>none
 | n + 1, s, t => match through t with
   |true=>some s
   | false => match stepOk n0 ann t with
     |false=>none
     | true => match stepT (denote tb) p w s t with
       |some (s',t')=>hJ tb p w n0 ann n s' t'
       |none=>none
def qu {tb:String->Option Builtin}{p:O2}{w:O9}{n0:Nat}{ann:Option Ox}:∀{n:Nat}{s s':PF}{t:Thread},hJ tb p w n0 ann n s t=some s'->topRun tb p w n0 ann n s.abs t=some s'.abs
 |0,_,_,_,h=>by cases h
 | n + 1, s, s', t, h => by
   unfold hJ at h;unfold topRun;cases he:through t with
   |true=>rw[he] at h;cases h;rfl
   | false =>
     rw[he] at h;cases hk:stepOk n0 ann t with
     |false=>rw[hk] at h;cases h
     | true =>
       rw[hk] at h;cases hs:stepT (denote tb) p w s t with
       |none=>rw[hs] at h;cases h
       |some r=>obtain⟨s2,t2⟩:=r;rw[hs] at h;rw[stepT_spec hs];exact qu h
def treeOf:List Obj->Nat->BT->BT
 |[],_,t=>t
 |o::r,n,t=>treeOf r (n+1) (t.ins n o)
def wR (P:Qh)(os:PC):PF:={treeOf (boot_heap P).objs.toList 0 .nil,(boot_heap P).objs.toList.length,(boot_heap P).life,#[],boot_drawn,boot_toks,os}
def boot_abs (P:Qh)(os:PC):(wR P os).abs={boot_heap P,#[],boot_drawn,boot_toks,os}:=by kernel_rfl
def lj (p q:O2)(loose:List Str)(Xt:Oy->Bool)(g0:Bool)(h0:Heap){α:Type}(Yf:Oy->α)(s:Oy):=
 ((staticsOk (importedModules p.main.body) h0 s.heap&&namesBound p s.heap&&gensDone s&&laidKept h0 s.heap),openSeen q loose (importedModules p.main.body) Xt g0 s,Yf s)
def vf (tb:String->Option Builtin)(p:O2)(w:O9)(n0:Nat)(ann:Option Ox):Nat->PF->Thread->Option (PF×Thread)
 |0,s,t=>some (s,t)
 | n + 1, s, t => match through t with
   |true=>none
   | false => match stepOk n0 ann t with
     |false=>none
     | true => match stepT (denote tb) p w s t with
       |some (s',t')=>vf tb p w n0 ann n s' t'
       |none=>none
def kW (tb:String->Option Builtin)(p:O2)(w:O9)(n0:Nat)(ann:Option Ox):Nat->PF->Thread->Option (Flow×PF×Code×Pos)
 |0,_,_=>none
 | n + 1, s, t => match endAt 1 t with
   |some f=>some (f,s,t.code,t.pos)
   | none => match stepOk n0 ann t with
     |false=>none
     | true => match stepT (denote tb) p w s t with
       |some (s',t')=>kW tb p w n0 ann n s' t'
       |none=>none
section
variable{tb:String->Option Builtin}{p:O2}{w:O9}{n0:Nat}{ann:Option Ox}
def zz:∀{n:Nat}{s s':PF}{t t':Thread},vf tb p w n0 ann n s t=some (s',t')->topGo tb p w n0 ann n s.abs t=some (s'.abs,t')
 |0,s,s',t,t',h=>by cases h;rfl
 | n + 1, s, s', t, t', h => by
   unfold vf at h;unfold topGo;cases he:through t with
   |true=>rw[he] at h;cases h
   | false =>
     rw[he] at h;cases hk:stepOk n0 ann t with
     |false=>rw[hk] at h;cases h
     | true =>
       rw[hk] at h;cases hs:stepT (denote tb) p w s t with
       |none=>rw[hs] at h;cases h
       |some q=>obtain⟨s2,t2⟩:=q;rw[hs] at h;rw[stepT_spec hs];exact zz h
def pD:∀{n:Nat}{s s':PF}{t:Thread}{f:Flow}{c:Code}{q:Pos},kW tb p w n0 ann n s t=some (f,s',c,q)->segRun tb p w n0 ann 1 n s.abs t=some (f,s'.abs,c,q)
 |0,_,_,_,_,_,_,h=>by cases h
 | n + 1, s, s', t, f, c, q, h => by
   unfold kW at h;unfold segRun;cases he:endAt 1 t with
   |some g=>rw[he] at h;cases h;rfl
   | none =>
     rw[he] at h;cases hk:stepOk n0 ann t with
     |false=>rw[hk] at h;cases h
     | true =>
       rw[hk] at h;cases hs:stepT (denote tb) p w s t with
       |none=>rw[hs] at h;cases h
       |some x=>obtain⟨s2,t2⟩:=x;rw[hs] at h;rw[stepT_spec hs];exact pD h
def tU {n3 N:Nat}{s s2:PF}{env:Env}{c:Code}{p' p2 q:Pos}{b:List Stmt}{J:Nat}{α:Type}{f:Oy->α}{a:α}
 (h3:kW tb p w n0 ann n3 s (piecesOf (b.take J) env c p' [topFrame q])=some (.next,s2,c,p2))
 (h4:(topRun tb p w n0 ann N s2.abs (restOf (b.drop J) env c p2 [topFrame q])).map f=some a):(topRun tb p w n0 ann (n3+N) s.abs (restOf b env c p' [topFrame q])).map f=some a:=by
 obtain⟨r,e3,e4⟩:=OW.mp h4;have k4:=piece_app (pD h3) e3;rw[List.take_append_drop] at k4;rw[k4];exact congrArg some e4
def zJ {N:Nat}{s2:PF}{t:Thread}{p' q:O2}{loose:List Str}{Xt:Oy->Bool}{g0:Bool}{h0:Heap}{α:Type}{Yf:Oy->α}{a b c}
 (h1:(hJ tb p w n0 ann N s2 t).map (λs=>(lj p' q loose Xt g0 h0 Yf s.abs).1)=some a) (h2:(hJ tb p w n0 ann N s2 t).map (λs=>(lj p' q loose Xt g0 h0 Yf s.abs).2.1)=some b)
 (h3:(hJ tb p w n0 ann N s2 t).map (λs=>(lj p' q loose Xt g0 h0 Yf s.abs).2.2)=some c):(topRun tb p w n0 ann N s2.abs t).map (lj p' q loose Xt g0 h0 Yf)=some (a,b,c):=by
 obtain⟨r,e3,rfl⟩:=OW.mp h1;rw[e3] at h2 h3;cases h2;cases h3;rw[qu e3];rfl
def zK {n1 n2 N:Nat}{s s':PF}{env:Env}{c:Code}{pos p' q:Pos}{t:Thread}{b:List Stmt}{J:Nat}{α:Type}{f:Oy->α}{a:α}
 (h1:(vf tb p w n0 ann n1 s t).map (·.2)=some {denote tb (.body b env),c,pos,[topFrame q]}) (h0:endAt 1 (blockOf b env c pos [topFrame q])=some .next)
 (h2:((vf tb p w n0 ann n1 s t).bind λx=>kW tb p w n0 ann n2 x.1 (piecesOf (b.take J) env c pos [topFrame q]))=some (.next,s',c,p'))
 (h3:(topRun tb p w n0 ann N s'.abs (restOf (b.drop J) env c p' [topFrame q])).map f=some a):(topRun tb p w n0 ann (n1+(1+(n2+N))) s.abs t).map f=some a:=by
 obtain⟨⟨s1,t1⟩,e1,e2⟩:=OW.mp h1;have e2:t1={denote tb (.body b env),c,pos,[topFrame q]}:=e2;subst e2;rw[e1] at h2;have h2:kW tb p w n0 ann n2 s1 (piecesOf (b.take J) env c pos [topFrame q])=some (.next,s',c,p'):=h2
 obtain⟨r,e3,e4⟩:=OW.mp h3;have k3:=piece_app (pD h2) e3;rw[List.take_append_drop] at k3;have hb:segRun tb p w n0 ann 1 1 s1.abs (blockOf b env c pos [topFrame q])=some (.next,s1.abs,c,pos):=by
  show(match endAt 1 (blockOf b env c pos [topFrame q]) with|some f=>some (f,s1.abs,c,pos)|none=>_)=_
  rw[h0]
 have k2:=piece_block hb k3;rw[go_top (zz e1) k2];exact congrArg some e4
end
def uz {p q:O2}{loose:List Str}{Xt:Oy->Bool}{α:Type}{Yf:Oy->α}{Ya:O9->α}{N:Nat}{g0:Bool}{m0:Nat}{ann:Option Ox}
 (open_:∀w:O9,(fencedOpening treeTable p w N).map (λs=>(s.heap,s.gens,s.drawn,s.toks))=some (boot_heap w.params,Array.mk [],boot_drawn,boot_toks))
 (size:∀w:O9,((boot_heap w.params).isNs mainGlobals&&(Array.mk ([]:List GenState)).size==0,(boot_heap w.params).objs.size,(boot_heap w.params).nsMap mainGlobals "__annotations__")=(true,m0,ann))
 (run:∀(w:O9) (os:PC),(topRun treeTable p w m0 ann N (wR w.params os).abs (topStub p)).map (lj p q loose Xt g0 (boot_heap w.params) Yf)=some (true,openGood q loose,Ya w)):LeftO p q loose Xt Yf Ya N g0:=λw=>by
 obtain⟨⟨h,gs,d,k,os⟩,e,e'⟩:=OW.mp (open_ w);obtain⟨rfl,rfl,rfl,rfl⟩:h=boot_heap w.params/\gs=Array.mk []/\d=boot_drawn/\k=boot_toks:=by simpa using e'
 obtain⟨z1,z2,z3⟩:_/\_/\_:=by simpa only[Prod.mk.injEq] using size w
 obtain⟨s1,r,l⟩:=OW.mp (run w os);obtain⟨l1,l2,l3⟩:_/\_/\_:=by simpa only[lj,Prod.mk.injEq] using l
 rw[boot_abs] at r;have t:topFrom treeTable p w N {boot_heap w.params,Array.mk [],boot_drawn,boot_toks,os}=some s1:=by
  unfold topFrom;dsimp only;rw[z1,z2,z3,r];show(match staticsOk (importedModules p.main.body) (boot_heap w.params) s1.heap&&namesBound p s1.heap&&gensDone s1&&laidKept (boot_heap w.params) s1.heap with|true=>_|false=>_)=_
  rw[l1]
 unfold openEnds;rw[e];show(topFrom treeTable p w N _).map _=_;rw[t];exact congrArg some (Prod.ext l2 l3)
end HD
namespace K31
open PySem
abbrev eN (P:Qh)(x:Str)(n:Nat)(v:Ox):Pu:={PyData.keyHash P x,.str x n,v}
abbrev gV:String:="law_leastdeeds_k31_counts_told"
def kInC (j:Nat)(s:Stmt):Stmt:=match s with
 |.ClassDef _ _ _ b _ _ _ _ _ _ _=>b.getD j s
 |_=>s
def lr (i:Nat):Stmt:=PySem.Challenge.pw_leastdeeds_k31_counts_told.main.body.getD i (.Pass {0,0,0,0})
def wA (s:Stmt):Arguments:=match s with
 |.FunctionDef _ a _ _ _ _ _ _ _ _=>a
 |_=>{[],[],none,[],[],none,[]}
def wz (s:Stmt):List Stmt:=match s with
 |.FunctionDef _ _ b _ _ _ _ _ _ _=>b
 |_=>[]
def tj (s:Stmt):Scope:=match s with
 |.FunctionDef _ _ _ _ _ _ sc _ _ _=>sc
 |_=>{kind:=.function,names:=[],isGenerator:=false,isCoroutine:=false}
def o1:Obj:={cls:=.type "tuple" ,data:=.seq #[]}
def o2 (a:String)(b:Nat)(c:Int)(d:Nat)(e:Int):Obj:={cls:=.type "code" ,data:=.fields #[.str (Str.ofString a) b ,.str (Str.ofString a) (b+1) ,.str ("/claim/cut.py") (b+2) ,.int c 0 ,.int 0 0 ,.int 0 0 ,.int 0 0 ,.int 0 0 ,.ref d ,.bool false ,.int 181 0 ,.ref (d+1) ,.none ,.none ,.none ,.none ,.int e 0 ,.int c 0 ,.str ("/claim/cut.py") (b+4)]}
def o3 (a:Nat)(b:Nat)(c:String)(d:Nat):Obj:={cls:=.type "frame" ,slots:=#[some (.ref a) ,some (.ref 3) ,some (.ref b) ,none ,some (.str (Str.ofString c) d) ,none ,some (.ref 0)]}
def o4:Obj:={cls:=.type "builtin_function_or_method" ,data:=.fields #[.builtin "type.__prepare__" ,.type "type"]}
def o5 (P:Qh)(a:Nat)(b:String)(c:Int)(d:Nat):Obj:={cls:=.type "dict" ,data:=.dict #[{hash:=PyData.keyHash P ("__module__") ,key:=.str ("__module__") a ,val:=.str ("leastdeeds.errors") 187} ,{hash:=PyData.keyHash P ("__qualname__") ,key:=.str ("__qualname__") (a+2) ,val:=.str (Str.ofString b) (a+1)} ,{hash:=PyData.keyHash P ("__firstlineno__") ,key:=.str ("__firstlineno__") (a+4) ,val:=.int c (a+3)} ,{hash:=PyData.keyHash P ("__static_attributes__") ,key:=.str ("__static_attributes__") (a+5) ,val:=.ref d}] 4}
def o6:Obj:={cls:=.none ,data:=.fields #[]}
def o7 (P:Qh):Obj:={cls:=.type "dict" ,data:=.dict #[{hash:=PyData.keyHash P ("__module__") ,key:=.str ("__module__") 196 ,val:=.str ("leastdeeds.errors") 187} ,{hash:=PyData.keyHash P ("__firstlineno__") ,key:=.str ("__firstlineno__") 200 ,val:=.int 2 199} ,{hash:=PyData.keyHash P ("__static_attributes__") ,key:=.str ("__static_attributes__") 201 ,val:=.ref 22} ,{hash:=PyData.keyHash P ("__weakref__") ,key:=.str ("__weakref__") 203 ,val:=.ref 25} ,{hash:=PyData.keyHash P ("__doc__") ,key:=.str ("__doc__") 204 ,val:=.none}] 3}
def o8:Obj:={cls:=.type "type" ,data:=.cls {name:="DeedError" ,bases:=[.type "ValueError"] ,mro:=[.ref 24 ,.type "ValueError" ,.type "Exception" ,.type "BaseException" ,.type "object"] ,ns:=23 ,qualname:="DeedError" ,subclasses:=[.ref 37 ,.ref 49 ,.ref 61]} ,slots:=#[some (.ref 15) ,none ,some (.str ("DeedError") 189) ,some (.str ("DeedError") 197) ,some (.builtin "ValueError.__new__") ,some (.bool true)]}
def o9 (a:Nat):Obj:={cls:=.type "super" ,data:=.fields #[.ref a ,.ref a ,.ref a]}
def Dj (a:Nat):Obj:={cls:=.type "builtin_function_or_method" ,data:=.fields #[.builtin "object.__init_subclass__" ,.ref a]}
def IL:Obj:={cls:=.type "tuple" ,data:=.seq #[.ref 24]}
def IK (P:Qh)(a:Nat)(b:Int)(c:Nat):Obj:={cls:=.type "dict" ,data:=.dict #[{hash:=PyData.keyHash P ("__module__") ,key:=.str ("__module__") a ,val:=.str ("leastdeeds.errors") 187} ,{hash:=PyData.keyHash P ("__firstlineno__") ,key:=.str ("__firstlineno__") (a+4) ,val:=.int b (a+3)} ,{hash:=PyData.keyHash P ("__static_attributes__") ,key:=.str ("__static_attributes__") (a+5) ,val:=.ref c} ,{hash:=PyData.keyHash P ("__doc__") ,key:=.str ("__doc__") (a+6) ,val:=.none}] 2}
def IJ (a:String)(b:Nat)(c:Nat)(d:Nat)(e:Nat):Obj:={cls:=.type "type" ,data:=.cls {name:=Str.ofString a ,bases:=[.ref 24] ,mro:=[.ref b ,.ref 24 ,.type "ValueError" ,.type "Exception" ,.type "BaseException" ,.type "object"] ,ns:=c ,qualname:=Str.ofString a} ,slots:=#[some (.ref d) ,none ,some (.str (Str.ofString a) e) ,some (.str (Str.ofString a) (e+8)) ,some (.builtin "ValueError.__new__") ,some (.bool true)]}
def II (a:String)(b:Nat)(c:String)(d:String):Obj:={cls:=.type "tuple" ,data:=.seq #[.str (Str.ofString a) b ,.str (Str.ofString c) (b+1) ,.str (Str.ofString d) (b+2)]}
def b8 (a:String)(b:Nat):Obj:={cls:=.none ,data:=.func {name:=Str.ofString a ,qualname:=Str.ofString a ,params:=wA (lr b) ,body:=PySem.FuncBody.stmts (wz (lr b)) ,scope:=tj (lr b) ,globals:=0 ,closure:=[] ,defaults:=.none ,kwdefaults:=.none ,pyModule:=.none ,code:=.none}}
def eJ (a:String)(b:Nat)(c:Int)(d:Int)(e:Nat)(f:Int)(g:Nat):Obj:={cls:=.type "code" ,data:=.fields #[.str (Str.ofString a) b ,.str (Str.ofString a) (b+1) ,.str ("/claim/cut.py") (b+2) ,.int c 0 ,.int d 0 ,.int 0 0 ,.int 0 0 ,.int 3 0 ,.ref e ,.bool true ,.int 181 0 ,.ref (e+1) ,.none ,.ref (e+2) ,.ref (e+3) ,.ref (e+4) ,.int f 0 ,.int c 0 ,.str ("/claim/cut.py") g]}
def b7 (a:String)(b:Nat)(c:String)(d:Nat)(e:Nat):Obj:={cls:=.type "function" ,data:=.func {name:=Str.ofString a ,qualname:=Str.ofString a ,params:=wA (lr b) ,body:=PySem.FuncBody.stmts (wz (lr b)) ,scope:=tj (lr b) ,globals:=3 ,closure:=[] ,defaults:=.none ,kwdefaults:=.none ,pyModule:=.str (Str.ofString c) d ,code:=.ref e}}
def Di (a:String)(b:Nat)(c:String):Obj:={cls:=.type "tuple" ,data:=.seq #[.str (Str.ofString a) b ,.str (Str.ofString c) (b+1)]}
def IH (a:String)(b:Nat):Obj:={cls:=.type "tuple" ,data:=.seq #[.str (Str.ofString a) b]}
def iX (a:String)(b:Nat)(c:Int)(d:Int)(e:Nat)(f:Int):Obj:={cls:=.type "code" ,data:=.fields #[.str (Str.ofString a) b ,.str (Str.ofString a) (b+1) ,.str ("/claim/cut.py") (b+2) ,.int c 0 ,.int d 0 ,.int 0 0 ,.int 0 0 ,.int 3 0 ,.ref e ,.bool true ,.int 181 0 ,.ref (e+1) ,.none ,.none ,.none ,.ref (e+2) ,.int f 0 ,.int c 0 ,.str ("/claim/cut.py") (b+4)]}
def qA (a:String)(b:Nat)(c:String)(d:String)(e:String)(f:String)(g:String):Obj:={cls:=.type "tuple" ,data:=.seq #[.str (Str.ofString a) b ,.str (Str.ofString c) (b+1) ,.str (Str.ofString d) (b+2) ,.str (Str.ofString e) (b+3) ,.str (Str.ofString f) (b+4) ,.str (Str.ofString g) (b+5)]}
def MC (a:String)(b:Nat)(c:String)(d:String):Obj:={cls:=.type "tuple" ,data:=.seq #[.str (Str.ofString a) b ,.str (Str.ofString c) (b+1) ,.str (Str.ofString d) (b+2) ,.str ("at") (b+3) ,.str ("other") (b+4) ,.str ("table") (b+5) ,.str ("price") (b+6)]}
def MB (P:Qh)(a:Nat)(b:Nat):Obj:={cls:=.type "dict" ,data:=.dict #[{hash:=PyData.keyHash P ("turn") ,key:=.str ("turn") a ,val:=.ref b} ,{hash:=PyData.keyHash P ("join") ,key:=.str ("join") (a+1) ,val:=.ref (b+7)} ,{hash:=PyData.keyHash P ("move") ,key:=.str ("move") (a+2) ,val:=.ref (b+14)} ,{hash:=PyData.keyHash P ("put") ,key:=.str ("put") (a+3) ,val:=.ref (b+21)}] 4}
def MA (a:String)(b:Nat)(c:String)(d:String)(e:String)(f:String):Obj:={cls:=.type "tuple" ,data:=.seq #[.str (Str.ofString a) b ,.str (Str.ofString c) (b+1) ,.str (Str.ofString d) (b+2) ,.str (Str.ofString e) (b+3) ,.str (Str.ofString f) (b+4)]}
def IG (a:String)(b:Nat)(c:String)(d:String)(e:String):Obj:={cls:=.type "tuple" ,data:=.seq #[.str (Str.ofString a) b ,.str (Str.ofString c) (b+1) ,.str (Str.ofString d) (b+2) ,.str (Str.ofString e) (b+3)]}
def o26:Obj:={cls:=.type "tuple" ,data:=.seq #[.none]}
def o27:Obj:={cls:=.type "function" ,data:=.func {name:="reached" ,qualname:="reached" ,params:=wA (lr 40) ,body:=PySem.FuncBody.stmts (wz (lr 40)) ,scope:=tj (lr 40) ,globals:=3 ,closure:=[] ,defaults:=.ref 215 ,kwdefaults:=.none ,pyModule:=.str ("leastdeeds.least") 479 ,code:=.ref 221}}
def Mz (a:String)(b:Nat)(c:String)(d:String)(e:String)(f:String)(g:String)(h:String):Obj:={cls:=.type "tuple" ,data:=.seq #[.str (Str.ofString a) b ,.str (Str.ofString c) (b+1) ,.str (Str.ofString d) (b+2) ,.str (Str.ofString e) (b+3) ,.str (Str.ofString f) (b+4) ,.str (Str.ofString g) (b+5) ,.str (Str.ofString h) (b+6) ,.str ("deed") (b+7)]}
def MH (P:Qh):List Pu:=[eN P "__doc__" 166 (.none),eN P "__package__" 167 (.none),eN P "__loader__" 168 (.builtin "__main__.__loader__#opaque"),eN P "__spec__" 169 (.none),eN P "__annotations__" 170 (.ref 6),eN P "__builtins__" 171 (.ref 4),eN P "__file__" 173 (.str "/claim/cut.py" 172),eN P "__cached__" 174 (.none),eN P "DeedError" 206 (.ref 24),eN P "NoMachine" 222 (.ref 37),eN P "NoBound" 238 (.ref 49),eN P "TooMany" 254 (.ref 61),eN P "is_between" 265 (.ref 70),eN P "LEAST_WORDS" 269 (.int 2 268)]
def MG (P:Qh):List Pu:=MH P++[eN P "MOST_WORDS" 271 (.int 4 270),eN P "MOST_PLACES" 273 (.int 2 272),eN P "MOST_DEEDS" 275 (.int 6 274),eN P "MOST_COST" 277 (.int 3 276),eN P "is_word" 285 (.ref 77),eN P "is_place" 293 (.ref 84),eN P "is_cost" 300 (.ref 91),eN P "is_tuple_of" 308 (.ref 98),eN P "is_table" 314 (.ref 103),eN P "is_double_table" 320 (.ref 108),eN P "is_turn" 332 (.ref 115),eN P "is_join" 345 (.ref 122),eN P "is_move" 357 (.ref 129),eN P "is_put" 369 (.ref 136),eN P "SORTS" 378 (.ref 137),eN P "is_deed" 389 (.ref 144),eN P "is_machine" 395 (.ref 149),eN P "need_machine" 402 (.ref 156),eN P "beginnings" 408 (.ref 161),eN P "turned" 422 (.ref 168),eN P "joined" 435 (.ref 175),eN P "moved" 447 (.ref 182),eN P "put_in" 459 (.ref 189),eN P "NEW_WORDS" 468 (.ref 190),eN P "done" 478 (.ref 197),eN P "MOST_BEHAVIOURS" 482 (.int 255 481),eN P "priced_leads" 488 (.ref 202),eN P "led_to" 494 (.ref 207),eN P "next_level" 511 (.ref 214)]
def MF (P:Qh):List Pu:=MG P++[eN P "reached" 523 (.ref 222),eN P "GREATEST_BOUND" 527 (.int 12 526),eN P "need_bound" 535 (.ref 229),eN P "rows_by_cost" 541 (.ref 234),eN P "counts" 547 (.ref 239),eN P "_law_spread" 561 (.ref 246),eN P "_law_open" 571 (.ref 253),eN P "_law_anew" 578 (.ref 260),eN P "_law_take" 589 (.ref 267),eN P "_law_same" 595 (.ref 272),eN P "_law_tab" 601 (.ref 277),eN P "_law_deed" 607 (.ref 282),eN P "_law_machine" 621 (.ref 289),eN P "_law_after" 631 (.ref 296),eN P "_law_begins" 637 (.ref 301),eN P "_law_behind" 643 (.ref 306),eN P "_law_costs" 657 (.ref 313),eN P "_law_some_machine" 666 (.ref 320),eN P "_law_all_four" 672 (.ref 325),eN P "_law_told" 681 (.ref 332),eN P "_law_due" 687 (.ref 337)]
def kg3 (P:Qh):List Pu:=MF P++[eN P "law" 693 (.ref 342)]
def MK (P:Qh):List Obj:=[o1,
 {cls:=.none,data:=.fields #[.int 2 0,.int 0 0,.ref 20,.int 4 0,.int 0 0,.ref 33,.int 6 0,.int 0 0,.ref 45,.int 8 0,.int 0 0,.ref 57,.int 11 0,.int 0 0,.ref 69]},
 o2 "<module>" 182 1 11 185,
 o3 13 3 "__main__" 164,
 {cls:=.type "tuple",data:=.seq #[.type "ValueError"]},
 o4,
 o5 P 196 "DeedError" 2 22,
 o1,
 o6,
 o2 "DeedError" 191 2 18 194,
 o3 20 17 "leastdeeds.errors" 187,
 o1,
 o7 P,
 o8,
 {cls:=.type "getset_descriptor",data:=.fields #[.str "__weakref__" 202,.ref 24,.builtin "ExceptionGroup.__weakref__",.none]},
 o9 24,
 Dj 24,
 IL,
 o4,
 o5 P 214 "NoMachine" 4 35,
 o1,
 o6,
 o2 "NoMachine" 209 4 31 212,
 o3 33 30 "leastdeeds.errors" 187,
 o1,
 IK P 214 4 35,
 IJ "NoMachine" 37 36 28 207,
 o9 37,
 Dj 37,
 IL,
 o4,
 o5 P 230 "NoBound" 6 47,
 o1,
 o6,
 o2 "NoBound" 225 6 43 228,
 o3 45 42 "leastdeeds.errors" 187,
 o1,
 IK P 230 6 47,
 IJ "NoBound" 49 48 40 223,
 o9 49,
 Dj 49,
 IL,
 o4,
 o5 P 246 "TooMany" 8 59,
 o1,
 o6,
 o2 "TooMany" 241 8 55 244,
 o3 57 54 "leastdeeds.errors" 187,
 o1,
 IK P 246 8 59,
 IJ "TooMany" 61 60 52 239,
 o9 61,
 Dj 61,
 o1,
 o6,
 II "thing" 260 "low" "high",
 o1,
 b8 "is_between" 6,
 eJ "is_between" 257 11 3 64 263 264,
 b7 "is_between" 6 "leastdeeds.wholes" 255 69]
noncomputable def MJ (P:Qh):List Obj:=((MK P).set 1 ({cls:=.none,data:=.fields #[.int 2 0,.int 0 0,.ref 20,.int 4 0,.int 0 0,.ref 33,.int 6 0,.int 0 0,.ref 45,.int 8 0,.int 0 0,.ref 57,.int 11 0,.int 0 0,.ref 69,.int 21 0,.int 0 0,.ref 76,.int 23 0,.int 0 0,.ref 83,.int 25 0,.int 0 0,.ref 90,.int 27 0,.int 0 0,.ref 97,.int 29 0,.int 0 0,.ref 102,.int 31 0,.int 0 0,.ref 107,.int 33 0,.int 0 0,.ref 114,.int 38 0,.int 0 0,.ref 121,.int 45 0,.int 0 0,.ref 128,.int 50 0,.int 0 0,.ref 135,.int 56 0,.int 0 0,.ref 143,.int 64 0,.int 0 0,.ref 148,.int 73 0,.int 0 0,.ref 155,.int 76 0,.int 0 0,.ref 160,.int 84 0,.int 0 0,.ref 167,.int 87 0,.int 0 0,.ref 174,.int 90 0,.int 0 0,.ref 181,.int 93 0,.int 0 0,.ref 188,.int 97 0,.int 0 0,.ref 196,.int 103 0,.int 0 0,.ref 201,.int 106 0,.int 0 0,.ref 206,.int 108 0,.int 0 0,.ref 213]}))++[o1,
 o6,
 Di "words" 281 "thing",
 o1,
 b8 "is_word" 13,
 eJ "is_word" 278 21 2 71 283 284,
 b7 "is_word" 13 "leastdeeds.machines" 266 76,
 o1,
 o6,
 Di "places" 289 "thing",
 o1,
 b8 "is_place" 14,
 eJ "is_place" 286 23 2 78 291 292,
 b7 "is_place" 14 "leastdeeds.machines" 266 83,
 o1,
 o6,
 IH "thing" 297,
 o1,
 b8 "is_cost" 15,
 eJ "is_cost" 294 25 1 85 298 299,
 b7 "is_cost" 15 "leastdeeds.machines" 266 90,
 o1,
 o6,
 Di "long" 304 "thing",
 o1,
 b8 "is_tuple_of" 16,
 eJ "is_tuple_of" 301 27 2 92 306 307,
 b7 "is_tuple_of" 16 "leastdeeds.machines" 266 97,
 o1,
 o6,
 b8 "is_table" 17,
 iX "is_table" 309 29 2 99 312,
 b7 "is_table" 17 "leastdeeds.machines" 266 102,
 o1,
 o6,
 b8 "is_double_table" 18,
 iX "is_double_table" 315 31 2 104 318,
 b7 "is_double_table" 18 "leastdeeds.machines" 266 107,
 o1,
 o6,
 qA "words" 324 "places" "parts" "at" "table" "price",
 o1,
 b8 "is_turn" 19,
 eJ "is_turn" 321 33 3 109 330 331,
 b7 "is_turn" 19 "leastdeeds.machines" 266 114,
 o1,
 o6,
 MC "words" 336 "places" "parts",
 o1,
 b8 "is_join" 20,
 eJ "is_join" 333 38 3 116 343 344,
 b7 "is_join" 20 "leastdeeds.machines" 266 121,
 o1,
 o6,
 qA "words" 349 "places" "parts" "at" "other" "price",
 o1,
 b8 "is_move" 21,
 eJ "is_move" 346 45 3 123 355 356,
 b7 "is_move" 21 "leastdeeds.machines" 266 128,
 o1,
 o6,
 qA "words" 361 "places" "parts" "at" "word" "price",
 o1,
 b8 "is_put" 22,
 eJ "is_put" 358 50 3 130 367 368,
 b7 "is_put" 22 "leastdeeds.machines" 266 135,
 MB P 370 115,
 o1,
 o6,
 MA "words" 382 "places" "thing" "sort" "is_sort",
 o1,
 b8 "is_deed" 24,
 eJ "is_deed" 379 56 3 138 387 388,
 b7 "is_deed" 24 "leastdeeds.machines" 266 143,
 o1,
 o6,
 b8 "is_machine" 25,
 iX "is_machine" 390 64 1 145 393,
 b7 "is_machine" 25 "leastdeeds.machines" 266 148,
 o1,
 o6,
 IH "thing" 399,
 o1,
 b8 "need_machine" 26,
 eJ "need_machine" 396 73 1 150 400 401,
 b7 "need_machine" 26 "leastdeeds.machines" 266 155,
 o1,
 o6,
 b8 "beginnings" 27,
 iX "beginnings" 403 76 1 157 406,
 b7 "beginnings" 27 "leastdeeds.machines" 266 160,
 o1,
 o6,
 qA "deed" 414 "standing" "sort" "at" "table" "price",
 o1,
 b8 "turned" 29,
 eJ "turned" 411 84 2 162 420 421,
 b7 "turned" 29 "leastdeeds.runs" 409 167,
 o1,
 o6,
 MC "deed" 426 "standing" "sort",
 o1,
 b8 "joined" 30,
 eJ "joined" 423 87 2 169 433 434,
 b7 "joined" 30 "leastdeeds.runs" 409 174,
 o1,
 o6,
 qA "deed" 439 "standing" "sort" "at" "other" "price",
 o1,
 b8 "moved" 31,
 eJ "moved" 436 90 2 176 445 446,
 b7 "moved" 31 "leastdeeds.runs" 409 181,
 o1,
 o6,
 qA "deed" 451 "standing" "sort" "at" "word" "price",
 o1,
 b8 "put_in" 32,
 eJ "put_in" 448 93 2 183 457 458,
 b7 "put_in" 32 "leastdeeds.runs" 409 188,
 MB P 460 168,
 o1,
 o6,
 IG "deed" 472 "standing" "new_word" "at",
 o1,
 b8 "done" 34,
 eJ "done" 469 97 2 191 476 477,
 b7 "done" 34 "leastdeeds.runs" 409 196,
 o1,
 o6,
 b8 "priced_leads" 37,
 iX "priced_leads" 483 103 1 198 486,
 b7 "priced_leads" 37 "leastdeeds.least" 479 201,
 o1,
 o6,
 b8 "led_to" 38,
 iX "led_to" 489 106 2 203 492,
 b7 "led_to" 38 "leastdeeds.least" 479 206,
 o1,
 o6,
 {cls:=.type "tuple",data:=.seq #[.str "leads" 498,.str "levels" 499,.str "found" 500,.str "price" 501,.str "level" 502,.str "number" 503,.str "step_price" 504,.str "lead" 505,.str "ahead" 506,.str "ends" 507,.str "new_ends" 508]},
 o1,
 b8 "next_level" 39,
 eJ "next_level" 495 108 3 208 509 510,
 b7 "next_level" 39 "leastdeeds.least" 479 213]
noncomputable def MI (P:Qh):List Obj:=((MJ P).set 1 ({cls:=.none,data:=.fields #[.int 2 0,.int 0 0,.ref 20,.int 4 0,.int 0 0,.ref 33,.int 6 0,.int 0 0,.ref 45,.int 8 0,.int 0 0,.ref 57,.int 11 0,.int 0 0,.ref 69,.int 21 0,.int 0 0,.ref 76,.int 23 0,.int 0 0,.ref 83,.int 25 0,.int 0 0,.ref 90,.int 27 0,.int 0 0,.ref 97,.int 29 0,.int 0 0,.ref 102,.int 31 0,.int 0 0,.ref 107,.int 33 0,.int 0 0,.ref 114,.int 38 0,.int 0 0,.ref 121,.int 45 0,.int 0 0,.ref 128,.int 50 0,.int 0 0,.ref 135,.int 56 0,.int 0 0,.ref 143,.int 64 0,.int 0 0,.ref 148,.int 73 0,.int 0 0,.ref 155,.int 76 0,.int 0 0,.ref 160,.int 84 0,.int 0 0,.ref 167,.int 87 0,.int 0 0,.ref 174,.int 90 0,.int 0 0,.ref 181,.int 93 0,.int 0 0,.ref 188,.int 97 0,.int 0 0,.ref 196,.int 103 0,.int 0 0,.ref 201,.int 106 0,.int 0 0,.ref 206,.int 108 0,.int 0 0,.ref 213,.int 121 0,.int 0 0,.ref 221,.int 131 0,.int 0 0,.ref 228,.int 135 0,.int 0 0,.ref 233,.int 140 0,.int 0 0,.ref 238,.int 145 0,.int 0 0,.ref 245,.int 154 0,.int 0 0,.ref 252,.int 159 0,.int 0 0,.ref 259,.int 162 0,.int 0 0,.ref 266,.int 175 0,.int 0 0,.ref 271,.int 189 0,.int 0 0,.ref 276,.int 205 0,.int 0 0,.ref 281,.int 217 0,.int 0 0,.ref 288,.int 228 0,.int 0 0,.ref 295,.int 240 0,.int 0 0,.ref 300,.int 244 0,.int 0 0,.ref 305,.int 246 0,.int 0 0,.ref 312,.int 262 0,.int 0 0,.ref 319,.int 265 0,.int 0 0,.ref 324,.int 270 0,.int 0 0,.ref 331,.int 277 0,.int 0 0,.ref 336]}))++[o26,
 o1,
 o6,
 qA "machine" 515 "bound" "leads" "empty_ends" "found" "levels",
 o1,
 b8 "reached" 40,
 eJ "reached" 512 121 2 216 521 522,
 o27,
 o1,
 o6,
 Di "machine" 531 "bound",
 o1,
 b8 "need_bound" 43,
 eJ "need_bound" 528 131 2 223 533 534,
 b7 "need_bound" 43 "leastdeeds.tables" 524 228,
 o1,
 o6,
 b8 "rows_by_cost" 44,
 iX "rows_by_cost" 536 135 2 230 539,
 b7 "rows_by_cost" 44 "leastdeeds.tables" 524 233,
 o1,
 o6,
 b8 "counts" 45,
 iX "counts" 542 140 2 235 545,
 b7 "counts" 45 "leastdeeds.tables" 524 238,
 o1,
 o6,
 qA "cell" 553 "at" "primes" "one" "two" "three",
 o1,
 b8 "_law_spread" 47,
 eJ "_law_spread" 550 145 2 240 559 560,
 b7 "_law_spread" 47 gV 548 245,
 o1,
 o6,
 IG "script" 565 "cells" "k" "cell",
 o1,
 b8 "_law_open" 48,
 eJ "_law_open" 562 154 1 247 569 570,
 b7 "_law_open" 48 gV 548 252,
 o1,
 o6,
 IH "pen" 575,
 o1,
 b8 "_law_anew" 49,
 eJ "_law_anew" 572 159 1 254 576 577,
 b7 "_law_anew" 49 gV 548 259,
 o1,
 o6,
 MA "pen" 582 "many" "at" "cell" "found",
 o1,
 b8 "_law_take" 50,
 eJ "_law_take" 579 162 2 261 587 588,
 b7 "_law_take" 50 gV 548 266,
 o1,
 o6,
 b8 "_law_same" 51,
 iX "_law_same" 590 175 2 268 593,
 b7 "_law_same" 51 gV 548 271,
 o1,
 o6,
 b8 "_law_tab" 52,
 iX "_law_tab" 596 189 2 273 599,
 b7 "_law_tab" 52 gV 548 276,
 o1,
 o6,
 b8 "_law_deed" 53,
 iX "_law_deed" 602 205 3 278 605,
 b7 "_law_deed" 53 gV 548 281,
 o1,
 o6,
 Mz "pen" 611 "words" "places" "most" "deeds" "k" "again",
 o1,
 b8 "_law_machine" 54,
 eJ "_law_machine" 608 217 4 283 619 620,
 b7 "_law_machine" 54 gV 548 288,
 o1,
 o6,
 IG "deed" 625 "end" "here" "own",
 o1,
 b8 "_law_after" 55,
 eJ "_law_after" 622 228 2 290 629 630,
 b7 "_law_after" 55 gV 548 295,
 o1,
 o6,
 b8 "_law_begins" 56,
 iX "_law_begins" 632 240 1 297 635,
 b7 "_law_begins" 56 gV 548 300,
 o1,
 o6,
 b8 "_law_behind" 57,
 iX "_law_behind" 638 244 3 302 641,
 b7 "_law_behind" 57 gV 548 305,
 o1,
 o6,
 Mz "machine" 647 "bound" "found" "due" "price" "here" "number",
 o1,
 b8 "_law_costs" 58,
 eJ "_law_costs" 644 246 2 307 655 656,
 b7 "_law_costs" 58 gV 548 312,
 o1,
 o6,
 II "pen" 661 "turn" "size",
 o1,
 b8 "_law_some_machine" 59,
 eJ "_law_some_machine" 658 262 2 314 664 665,
 b7 "_law_some_machine" 59 gV 548 319,
 o1,
 o6,
 b8 "_law_all_four" 60,
 iX "_law_all_four" 667 265 1 321 670,
 b7 "_law_all_four" 60 gV 548 324,
 o1,
 o6,
 II "machine" 676 "bound" "found",
 o1,
 b8 "_law_told" 61,
 eJ "_law_told" 673 270 2 326 679 680,
 b7 "_law_told" 61 gV 548 331,
 o1,
 o6,
 b8 "_law_due" 62,
 iX "_law_due" 682 277 2 333 685,
 b7 "_law_due" 62 gV 548 336]
def kh:Qh->Ow:=λP=>[(3,{cls:=.type "dict",data:=.dict (eN P "__name__" 165 (.str gV 548)::kg3 P).toArray 66}),
 (341,iX "law" 688 289 1 338 691),
 (342,b7 "law" 63 gV 548 341)]++List.map (λa=>(a,(MI P).getD (a-11) o1)) [23,24,36,37,48,49,60,61,69,70,76,77,83,84,90,91,97,98,102,103,107,108,114,115,121,122,128,129,135,136,137,143,144,148,149,155,156,160,161,167,168,174,175,181,182,188,189,190,196,197,201,202,206,207,213,214,215,221,222,228,229,233,234,238,239,245,246,252,253,259,260,266,267,271,272,276,277,281,282,288,289,295,296,300,301,305,306,312,313,319,320,324,325,331,332,336,337]
def Jl:List Addr:=[3,341,342]++[23,24,36,37,48,49,60,61,69,70,76,77,83,84,90,91,97,98,102,103,107,108,114,115,121,122,128,129,135,136,137,143,144,148,149,155,156,160,161,167,168,174,175,181,182,188,189,190,196,197,201,202,206,207,213,214,215,221,222,228,229,233,234,238,239,245,246,252,253,259,260,266,267,271,272,276,277,281,282,288,289,295,296,300,301,305,306,312,313,319,320,324,325,331,332,336,337]
def Ny:∀P,Jl=(kh P).map (·.1):=λ_=>by kernel_rfl
def kq:O2:=PySem.W.view PySem.Challenge.pw_leastdeeds_k31_counts_told [1,2,3,4,6,8,9,10,11,12,13,14,15,16,17,18,19,20,21,22,23,24,25,26,27,29,30,31,32,33,34,36,37,38,39,42,43,44,45,47,48,49,50,51,52,53,54,55,56,57,58,59,60,61,62,63]
abbrev kH:PySem.W.Hook:=PySem.W.kHook kh Jl Ny
def oP:List Str:=["SORTS","NEW_WORDS","reached"]
abbrev wy:=PySem.Challenge.rw_leastdeeds_k31_counts_told.row
abbrev kX:Oy->Bool:=λs=>PySem.W.xlAt kq [] s&&PySem.W.recOk (PySem.W.RowW.records wy.toRowW) s
def DF (P:Qh)(os:PC):PF:={HD.treeOf ((((PySem.W.boot_heap P).objs.toList.set 3 ({cls:=.type "dict",data:=.dict (eN P "__name__" 165 (.str "leastdeeds.machines" 266)::MH P).toArray 15})))++MK P) 0 .nil,71,{},#[],{},270,os}
def DD (P:Qh)(os:PC):PF:={HD.treeOf ((((PySem.W.boot_heap P).objs.toList.set 3 ({cls:=.type "dict",data:=.dict (eN P "__name__" 165 (.str "leastdeeds.least" 479)::MG P).toArray 44})))++MJ P) 0 .nil,215,{},#[],{},512,os}
def DC (P:Qh)(os:PC):PF:={HD.treeOf ((((PySem.W.boot_heap P).objs.toList.set 3 ({cls:=.type "dict",data:=.dict (eN P "__name__" 165 (.str gV 548)::MF P).toArray 65})))++MI P) 0 .nil,338,{},#[],{},688,os}
def kE:Env:={scope:=PySem.Challenge.pw_leastdeeds_k31_counts_told.main.scope,locals:=mainNs,globals:=mainNs,cells:=[],code:=.ref 13,frame:=some 14}
def kP (w:O9)(os:PC):=HD.vf treeTable PySem.Challenge.pw_leastdeeds_k31_counts_told w 11 (some (.ref 6)) 12 (HD.wR w.params os) (PySem.W.topStub PySem.Challenge.pw_leastdeeds_k31_counts_told)
def Dw (w:O9)(os:PC):=(kP w os).bind λx=>HD.kW treeTable PySem.Challenge.pw_leastdeeds_k31_counts_told w 11 (some (.ref 6)) 893 x.1 (PySem.W.piecesOf ((PySem.W.behindTheImports PySem.Challenge.pw_leastdeeds_k31_counts_told).take 9) kE (.body (PySem.W.behindTheImports PySem.Challenge.pw_leastdeeds_k31_counts_told) kE) {0,0,0,0} [PySem.W.topFrame {0,0,0,0}])
def Dt (w:O9)(os:PC):Option (Flow×PF×Code×Pos):=some (.next,DF w.params os,(.body (PySem.W.behindTheImports PySem.Challenge.pw_leastdeeds_k31_counts_told) kE),{16,0,16,11})
def Dv (w:O9)(os:PC):=HD.kW treeTable PySem.Challenge.pw_leastdeeds_k31_counts_told w 11 (some (.ref 6)) 894 (DF w.params os) (PySem.W.piecesOf (((PySem.W.behindTheImports PySem.Challenge.pw_leastdeeds_k31_counts_told).drop 9).take 31) kE (.body (PySem.W.behindTheImports PySem.Challenge.pw_leastdeeds_k31_counts_told) kE) {16,0,16,11} [PySem.W.topFrame {0,0,0,0}])
def Ds (w:O9)(os:PC):Option (Flow×PF×Code×Pos):=some (.next,DD w.params os,(.body (PySem.W.behindTheImports PySem.Challenge.pw_leastdeeds_k31_counts_told) kE),{108,0,120,16})
def Du (w:O9)(os:PC):=HD.kW treeTable PySem.Challenge.pw_leastdeeds_k31_counts_told w 11 (some (.ref 6)) 621 (DD w.params os) (PySem.W.piecesOf ((((PySem.W.behindTheImports PySem.Challenge.pw_leastdeeds_k31_counts_told).drop 9).drop 31).take 23) kE (.body (PySem.W.behindTheImports PySem.Challenge.pw_leastdeeds_k31_counts_told) kE) {108,0,120,16} [PySem.W.topFrame {0,0,0,0}])
def Dr (w:O9)(os:PC):Option (Flow×PF×Code×Pos):=some (.next,DC w.params os,(.body (PySem.W.behindTheImports PySem.Challenge.pw_leastdeeds_k31_counts_told) kE),{277,0,288,25})
def kR (w:O9)(os:PC):=HD.hJ treeTable PySem.Challenge.pw_leastdeeds_k31_counts_told w 11 (some (.ref 6)) 2567 (DC w.params os) (PySem.W.restOf ((((PySem.W.behindTheImports PySem.Challenge.pw_leastdeeds_k31_counts_told).drop 9).drop 31).drop 23) kE (.body (PySem.W.behindTheImports PySem.Challenge.pw_leastdeeds_k31_counts_told) kE) {277,0,288,25} [PySem.W.topFrame {0,0,0,0}])
abbrev Jf (P:Qh)(s:PF):=HD.lj PySem.Challenge.pw_leastdeeds_k31_counts_told kq oP kX true (PySem.W.boot_heap P) (λs=>Jl.map s.heap.get?) s.abs
def Dz (w:O9)(os:PC):=(kR w os).map λs=>(Jf w.params s).1
def Dy (w:O9)(os:PC):=(kR w os).map λs=>(Jf w.params s).2.1
def Dx (w:O9)(os:PC):=(kR w os).map λs=>(Jf w.params s).2.2
def DJ (w:O9):=some true
def DH (w:O9):=some (PySem.W.openGood kq oP)
def DG (w:O9):=some ((kh w.params).map λp=>some p.2)
def _root_.PySem.W.Fast.tw14928214752277065340:O2:=PySem.Challenge.pw_leastdeeds_k31_counts_told
def _root_.PySem.W.Fast.te14928214752277065340:PySem.Challenge.pw_leastdeeds_k31_counts_told=PySem.W.Fast.tw14928214752277065340:=rfl
def _root_.PySem.W.Fast.tw5495746526503347024:Qh->Ow:=K31.kh
def _root_.PySem.W.Fast.te5495746526503347024:K31.kh=PySem.W.Fast.tw5495746526503347024:=rfl
def _root_.PySem.W.Fast.tw4823296907677362162:Qh->PC->PF:=K31.DF
def _root_.PySem.W.Fast.te4823296907677362162:K31.DF=PySem.W.Fast.tw4823296907677362162:=rfl
def _root_.PySem.W.Fast.tw11363015405285761764:Qh->PC->PF:=K31.DD
def _root_.PySem.W.Fast.te11363015405285761764:K31.DD=PySem.W.Fast.tw11363015405285761764:=rfl
def _root_.PySem.W.Fast.tw12391925744911204791:Qh->PC->PF:=K31.DC
def _root_.PySem.W.Fast.te12391925744911204791:K31.DC=PySem.W.Fast.tw12391925744911204791:=rfl
def NI:Dz=Dz:=rfl
name_quick kq1_31 for Dz by NI
def NH:Dy=Dy:=rfl
name_quick kq2_31 for Dy by NH
def NL:DH=DH:=rfl
name_quick kg2_31 for DH by NL
def NG:Dx=Dx:=rfl
name_quick kq3_31 for Dx by NG
def NJ:DG=DG:=rfl
name_quick kg3_31 for DG by NJ
def NF:Dw=Dw:=rfl
name_quick kua31 for Dw by NF
def NB:Dt=Dt:=rfl
name_quick kva31 for Dt by NB
def ND:Dv=Dv:=rfl
name_quick kub31 for Dv by ND
def NA:Ds=Ds:=rfl
name_quick kvb31 for Ds by NA
def NC:Du=Du:=rfl
name_quick kuc31 for Du by NC
def Nz:Dr=Dr:=rfl
name_quick kvc31 for Dr by Nz
def zm:∀(w:O9) (os:PC),PySem.W.Fast.kua31 (w.withFollow "special-get-raises" false) os=PySem.W.Fast.kva31 (w.withFollow "special-get-raises" false) os:=λw os=>by kernel_rfl
def BU:∀(w:O9) (os:PC),PySem.W.Fast.kua31 (w.withFollow "special-get-raises" true) os=PySem.W.Fast.kva31 (w.withFollow "special-get-raises" true) os:=λw os=>by kernel_rfl
def ka0:∀(w:O9) (os:PC),Dw w os=Dt w os:=λw os=>by
 rw[PySem.W.Fast.kua31_eq,PySem.W.Fast.kva31_eq];exact PySem.W.byRow2 "special-get-raises" (P:=λw=>PySem.W.Fast.kua31 w os=PySem.W.Fast.kva31 w os) (λw=>zm w os) (λw=>BU w os) w
def zl:∀(w:O9) (os:PC),PySem.W.Fast.kub31 (w.withFollow "special-get-raises" false) os=PySem.W.Fast.kvb31 (w.withFollow "special-get-raises" false) os:=λw os=>by kernel_rfl
def BS:∀(w:O9) (os:PC),PySem.W.Fast.kub31 (w.withFollow "special-get-raises" true) os=PySem.W.Fast.kvb31 (w.withFollow "special-get-raises" true) os:=λw os=>by kernel_rfl
def ka1:∀(w:O9) (os:PC),Dv w os=Ds w os:=λw os=>by
 rw[PySem.W.Fast.kub31_eq,PySem.W.Fast.kvb31_eq];exact PySem.W.byRow2 "special-get-raises" (P:=λw=>PySem.W.Fast.kub31 w os=PySem.W.Fast.kvb31 w os) (λw=>zl w os) (λw=>BS w os) w
def zk:∀(w:O9) (os:PC),PySem.W.Fast.kuc31 (w.withFollow "special-get-raises" false) os=PySem.W.Fast.kvc31 (w.withFollow "special-get-raises" false) os:=λw os=>by kernel_rfl
def BR:∀(w:O9) (os:PC),PySem.W.Fast.kuc31 (w.withFollow "special-get-raises" true) os=PySem.W.Fast.kvc31 (w.withFollow "special-get-raises" true) os:=λw os=>by kernel_rfl
def ka2:∀(w:O9) (os:PC),Du w os=Dr w os:=λw os=>by
 rw[PySem.W.Fast.kuc31_eq,PySem.W.Fast.kvc31_eq];exact PySem.W.byRow2 "special-get-raises" (P:=λw=>PySem.W.Fast.kuc31 w os=PySem.W.Fast.kvc31 w os) (λw=>zk w os) (λw=>BR w os) w
def zh:∀(w:O9) (os:PC),PySem.W.Fast.kq1_31 (w.withFollow "special-get-raises" false) os=DJ (w.withFollow "special-get-raises" false):=λw os=>by kernel_rfl
def BO:∀(w:O9) (os:PC),PySem.W.Fast.kq1_31 (w.withFollow "special-get-raises" true) os=DJ (w.withFollow "special-get-raises" true):=λw os=>by kernel_rfl
def kl1:∀(w:O9) (os:PC),Dz w os=DJ w:=λw os=>by
 rw[PySem.W.Fast.kq1_31_eq];exact PySem.W.byRow2 "special-get-raises" (P:=λw=>PySem.W.Fast.kq1_31 w os=DJ w) (λw=>zh w os) (λw=>BO w os) w
def zg:∀(w:O9) (os:PC),PySem.W.Fast.kq2_31 (w.withFollow "special-get-raises" false) os=PySem.W.Fast.kg2_31 (w.withFollow "special-get-raises" false):=λw os=>by kernel_rfl
def BN:∀(w:O9) (os:PC),PySem.W.Fast.kq2_31 (w.withFollow "special-get-raises" true) os=PySem.W.Fast.kg2_31 (w.withFollow "special-get-raises" true):=λw os=>by kernel_rfl
def kl2:∀(w:O9) (os:PC),Dy w os=DH w:=λw os=>by
 rw[PySem.W.Fast.kq2_31_eq,PySem.W.Fast.kg2_31_eq];exact PySem.W.byRow2 "special-get-raises" (P:=λw=>PySem.W.Fast.kq2_31 w os=PySem.W.Fast.kg2_31 w) (λw=>zg w os) (λw=>BN w os) w
def zf:∀(w:O9) (os:PC),PySem.W.Fast.kq3_31 (w.withFollow "special-get-raises" false) os=PySem.W.Fast.kg3_31 (w.withFollow "special-get-raises" false):=λw os=>by kernel_rfl
def BM:∀(w:O9) (os:PC),PySem.W.Fast.kq3_31 (w.withFollow "special-get-raises" true) os=PySem.W.Fast.kg3_31 (w.withFollow "special-get-raises" true):=λw os=>by kernel_rfl
def kl3:∀(w:O9) (os:PC),Dx w os=DG w:=λw os=>by
 rw[PySem.W.Fast.kq3_31_eq,PySem.W.Fast.kg3_31_eq];exact PySem.W.byRow2 "special-get-raises" (P:=λw=>PySem.W.Fast.kq3_31 w os=PySem.W.Fast.kg3_31 w) (λw=>zf w os) (λw=>BM w os) w
def kp:∀(w:O9) (os:PC),(kP w os).map (·.2)=some {denote treeTable (.body (PySem.W.behindTheImports PySem.Challenge.pw_leastdeeds_k31_counts_told) kE),(.body (PySem.W.behindTheImports PySem.Challenge.pw_leastdeeds_k31_counts_told) kE),{0,0,0,0},[PySem.W.topFrame {0,0,0,0}]}:=λw os=>by kernel_rfl
def Ll:PySem.W.LeftO wy.prog kq oP kX kH.obs kH.val 4988:=HD.uz (m0:=11) (ann:=some (.ref 6)) (PySem.W.boot_open `r `d (λ_=>rfl)) (λw=>by kernel_rfl) λw os=>HD.zK (J:=9) (kp w os) (by kernel_rfl) (ka0 w os) (HD.tU (J:=31) (ka1 w os) (HD.tU (J:=23) (ka2 w os) (HD.zJ (kl1 w os) (kl2 w os) (kl3 w os))))
end K31
namespace L2
open PySem PySem.Spec PyProof.Rows
abbrev Key:=Sum Int Str
def rh:Key->Ox->Bool
 |.inl k,v=>Value.isInt k v
 |.inr x,v=>Value.isStrOf x v
def Nx (w:O9):Key->Int
 |.inl k=>hashInt k
 |.inr x=>hashStr w x
def dm:∀{k:Key}{v:Ox},rh k v=true->(∃i t,k=Sum.inl i/\v=Value.int i t)\/(∃x t,k=Sum.inr x/\v=Value.str x t)
 | .inl i, v, h => by
   obtain⟨t,e⟩:=Value.isInt_shape (k:=i) (v:=v) h;exact .inl ⟨i,t,rfl,e⟩
 | .inr x, v, h => by
   obtain⟨t,e⟩:=Value.isStrOf_shape (x:=x) (v:=v) h;exact .inr ⟨x,t,rfl,e⟩
def jQ (x:Str)(t:Tok):rh (.inr x) (.str x t)=true:=by simp[rh,Value.isStrOf]
def Jj (a b:Int):decide ((Sum.inl a:Key)=Sum.inl b)=(a==b):=by
 by_cases e:a=b
 ·subst e;simp
 ·have h:¬ (Sum.inl a:Key)=Sum.inl b:=λq=>e (Sum.inl.inj q);rw[decide_eq_false h];exact(PB.mpr e).symm
def Jg (a b:Str):decide ((Sum.inr a:Key)=Sum.inr b)=decide (a=b):=by
 by_cases e:a=b
 ·subst e;simp
 ·have h:¬ (Sum.inr a:Key)=Sum.inr b:=λq=>e (Sum.inr.inj q);rw[decide_eq_false h,decide_eq_false e]
def Ji (a:Int)(b:Str):decide ((Sum.inl a:Key)=Sum.inr b)=false:=decide_eq_false (λq=>nomatch q)
def Jh (a:Str)(b:Int):decide ((Sum.inr a:Key)=Sum.inl b)=false:=decide_eq_false (λq=>nomatch q)
def kC (prog:O2)(w:O9):PySem.KeyKind prog w Key where
 is:=rh
 hash:=Nx w
 inj:=λv a b ha hb=>by
  rcases dm ha with⟨i,t,rfl,rfl⟩|⟨x,t,rfl,rfl⟩
  ·rcases dm hb with⟨j,u,rfl,e⟩|⟨y,u,rfl,e⟩
   ·injection e with e1 _;rw[e1]
   ·exact nomatch e
  ·rcases dm hb with⟨j,u,rfl,e⟩|⟨y,u,rfl,e⟩
   ·exact nomatch e
   ·injection e with e1 _;rw[e1]
 byValue:=λk v h=>by
  rcases dm h with⟨i,t,rfl,rfl⟩|⟨x,t,rfl,rfl⟩<;>rfl
 pyHash:=λhv h=>by
  rcases dm hv with⟨i,t,rfl,rfl⟩|⟨x,t,rfl,rfl⟩
  ·exact wpAny_pyHash_int h
  ·exact wpAny_pyHash_str h
 eqBool:=λhu hv h=>by
  rcases dm hu with⟨i,t,rfl,rfl⟩|⟨x,t,rfl,rfl⟩
  ·rcases dm hv with⟨j,u,rfl,rfl⟩|⟨y,u,rfl,rfl⟩
   ·rw[Jj] at h;exact wpAny_eqBool_int h
   ·rw[Ji] at h;exact SeqAt.EqAt.int_str i t y u _ _ _ _ h
  ·rcases dm hv with⟨j,u,rfl,rfl⟩|⟨y,u,rfl,rfl⟩
   ·rw[Jh] at h;exact SeqAt.EqAt.str_int x t j u _ _ _ _ h
   ·rw[Jg] at h;exact wpAny_eqBool_str h
 «strs»:=λk x t v h=>by
  rcases dm h with⟨i,u,rfl,e⟩|⟨y,u,rfl,e⟩
  ·exact nomatch e
  ·injection e with e1 _
   subst e1;cases v<;>rfl
inductive V where
 |non|bl (b:Bool)|int (i:Int)|str (x:Str)|byt (b:Array UInt8)|flt (b:UInt64)|ref (a:Addr)|ty (n:String)
 deriving DecidableEq
def RelV:V->Ox->Prop
 |.non,u=>u=Value.none
 |.bl b,u=>u=Value.bool b
 |.int i,u=>∃t,u=Value.int i t
 |.str x,u=>∃t,u=Value.str x t
 |.byt b,u=>∃t,u=Value.bytes b t
 |.flt b,u=>∃t,u=Value.float b t
 |.ref a,u=>u=Value.ref a
 |.ty n,u=>u=Value.type n
abbrev Vals:List V->List Ox->Prop:=Qn RelV
def Vals.length {xs:List V}{us:List Ox}(r:Vals xs us):xs.length=us.length:=Paired.length r
def Vals.get:∀{xs:List V}{us:List Ox}{i:Nat}{x:V},Vals xs us->xs[i]?=some x->∃u,us[i]?=some u/\RelV x u
 |_,_,_,_,.nil,e=>by simp at e
 |_,_,0,_,.cons r _,e=>by simp at e;subst e;exact{_,rfl,r}
 | _, _, i + 1, x, .cons _ t, e => by
   obtain⟨u,h1,h2⟩:=Vals.get (i:=i) (x:=x) t (by simpa using e)
   exact{u,by simpa using h1,h2}
def Vals.set {x:V}{u:Ox}(r:RelV x u):∀{xs:List V}{us:List Ox} (i:Nat),Vals xs us->Vals (xs.set i x) (us.set i u)
 |_,_,_,.nil=>.nil
 |_,_,0,.cons _ t=>.cons r t
 |_,_,i+1,.cons q t=>.cons q (Vals.set r i t)
def Vals.append:∀{xs ys:List V}{us ws:List Ox},Vals xs us->Vals ys ws->Vals (xs++ys) (us++ws)
 |_,_,_,_,.nil,s=>s
 |_,_,_,_,.cons r t,s=>.cons r (Vals.append t s)
def Vals.take:∀{xs:List V}{us:List Ox} (n:Nat),Vals xs us->Vals (xs.take n) (us.take n)
 |_,_,0,_=>.nil
 |_,_,_+1,.nil=>.nil
 |_,_,n+1,.cons r t=>.cons r (Vals.take n t)
def Vals.drop:∀{xs:List V}{us:List Ox} (n:Nat),Vals xs us->Vals (xs.drop n) (us.drop n)
 |_,_,0,r=>r
 |_,_,_+1,.nil=>.nil
 |_,_,n+1,.cons _ t=>Vals.drop n t
def Cw:Option V->Option Ox->Prop
 |some v,some u=>RelV v u
 |none,none=>True
 |_,_=>False
def KV {κ:Type}:List (κ×V)->List (κ×Ox)->Prop:=Qn λ(p:κ×V) (q:κ×Ox)=>p.1=q.1/\RelV p.2 q.2
def kV:Key->V
 |.inl i=>.int i
 |.inr x=>.str x
inductive HO where
 |lst (xs:List V)
 |tup (xs:List V)
 |dK (kvs:List (Key×V))|dT (kvs:List (List Key×V))
 |set (S:Int->Bool) (n:Nat)
 |ins (C dx:Addr) (fs:List (Str×V))
 |own (x:Addr)
 |xd (fs:List (Str×V))
 |met (f x:Addr)
 |rng (lo hi:Int)
 |frz (o:Obj) (u:HO)
 |tbl (ps:Array Ox)
 |ext (φ:Heap->Prop)
 |dn (es:List Pu)
abbrev Hp:=Addr->Option HO
def upd (H:Hp)(a:Addr)(o:HO):Hp:=λb=>if b=a then some o else H b
def cm {H:Hp}{a:Addr}{o:HO}:upd H a o a=some o:=by unfold upd;rw[if_pos rfl]
def aD {H:Hp}{a b:Addr}{o:HO}(h:b≠a):upd H a o b=H b:=by unfold upd;rw[if_neg h]
def aW {H:Hp}{a b:Addr}{o:HO}(h:H a=some o)(h':H b=none):a≠b:=by
 intro e;subst e;rw[h] at h';cases h'
section
variable(P:O2)(w:O9)
def bI (H:Hp)(h:Heap)(a:Addr):HO->Prop
 |.lst xs=>xs.length<=sizeLine/\∃(its:List Ox) (n:Nat),Vals xs its/\h.get? a=some {cls:=.type "list",data:=.seq its.toArray n}
 |.tup xs=>xs.length<=sizeLine/\∃its:List Ox,Vals xs its/\IsTup h a its.toArray
 |.dK kvs=>kvs.length<=sizeLine/\(a==sysModules)=false/\∃vs,KV kvs vs/\h.DictOf (kC P w) a vs
 |.dT kvs=>kvs.length<=sizeLine/\(a==sysModules)=false/\∃xs:List (List Key×Addr×Ox),
  Qn (λ(p:List Key×V) (q:List Key×Addr×Ox)=>p.1=q.1/\H q.2.1=some (.tup (p.1.map kV))/\RelV p.2 q.2.2) kvs xs/\
  ∃o es ep,h.get? a=some o/\o.ExactDict/\o.data=.dict es ep/\es.toList=xs.map (entryOfKey (tupleKind (kC P w)))/\(xs.map (·.1)).Nodup
 |.set S n=>h.SetOf (intKind P w) a S n
 |.ins C dx fs=>H dx=some (.own a)/\fs.length<=1000/\dx≠a/\h.get? a=some (PySem.W.instObj C dx)/\
  ∃mA,h.Ns1 dx mA/\(∀f,Cw (fs.lookup f) (mA f))/\PySem.Within mA (fs.map (·.1))
 |.own _=>∃o,h.get? a=some o
 |.xd fs=>∃mA,h.Ns1 a mA/\∀f,Cw (fs.lookup f) (mA f)
 |.rng lo hi=>∃t u v,h.get? a=some {cls:=.type "range",data:=.fields #[.int lo t,.int hi u,.int 1 v]}
 |.frz o u=>h.get? a=some o/\bI H h a u
 |.tbl ps=>h.get? a=some {cls:=.none,data:=.fields ps}
 |.met f x=>h.get? a=some (PySem.W.methodObj (.ref f) (.ref x))
 |.ext φ=>φ h/\(∃o,h.get? a=some o)/\∀h1 h2:Heap,φ h1->(∀o,h1.get? a=some o->h2.get? a=some o)->φ h2
 |.dn es=>es.length<=sizeLine/\(a==sysModules)=false/\∃o,h.get? a=some o/\o.ExactDict/\o.data=.dict es.toArray es.length
def eK (H:Hp)(h:Heap):Prop:=∀a o,H a=some o->bI P w H h a o
end
section
variable{P:O2}{w:O9}{H H':Hp}{h h':Heap}{a:Addr}{o:HO}
def bI.lt (x:bI P w H h a o):a<h.objs.size:=by
 cases o with
 |lst xs=>obtain⟨_,_,_,_,e⟩:=x;exact OS e
 |tup xs=>obtain⟨_,_,_,p⟩:=x;exact p.lt
 |dK kvs=>obtain⟨_,_,_,_,o,_,_,e,_⟩:=x;exact OS e
 |dT kvs=>obtain⟨_,_,_,_,o,_,_,e,_⟩:=x;exact OS e
 |set S n=>obtain⟨o,_,_,_,e,_⟩:=x;exact OS e
 |ins C dx fs=>obtain⟨_,_,_,e,_⟩:=x;exact OS e
 |own y=>obtain⟨_,e⟩:=x;exact OS e
 |xd fs=>obtain⟨_,⟨_,_,_,e,_⟩,_⟩:=x;exact OS e
 |rng lo hi=>obtain⟨_,_,_,e⟩:=x;exact OS e
 |frz ob u=>obtain⟨e,_⟩:=x;exact OS e
 |tbl ps=>exact OS (show h.get? a=some _ from x)
 |met f y=>exact OS (show h.get? a=some _ from x)
 |ext φ=>obtain⟨_,⟨_,e⟩,_⟩:=x;exact OS e
 |dn es=>obtain⟨_,_,_,e,_⟩:=x;exact OS e
def Qn.mapP {α β:Type}{F G:α->β->Prop}:∀{l₁:List α}{l₂:List β},Qn F l₁ l₂->(∀a b,F a b->G a b)->Qn G l₁ l₂
 |_,_,.nil,_=>.nil
 |_,_,.cons r t,f=>.cons (f _ _ r) (Qn.mapP t f)
def bI.stay (x:bI P w H h a o)(k:∀b u,(b=a\/H b=some (.own a))->h.get? b=some u->h'.get? b=some u)
 (ho:∀b,H b=some (.own a)->H' b=some (.own a)) (ht:∀b xs,H b=some (.tup xs)->H' b=some (.tup xs)):bI P w H' h' a o:=by
 induction o with
 |lst xs=>obtain⟨z,its,n,r,e⟩:=x;exact{z,its,n,r,k _ _ (.inl rfl) e}
 |tup xs=>obtain⟨z,its,r,ob,e,c⟩:=x;exact{z,its,r,ob,k _ _ (.inl rfl) e,c}
 |dK kvs=>obtain⟨z,y,vs,r,ob,es,ep,e,c⟩:=x;exact{z,y,vs,r,ob,es,ep,k _ _ (.inl rfl) e,c}
 | dT kvs =>
   obtain⟨z,y,xs,r,ob,es,ep,e,c⟩:=x;exact{z,y,xs,Qn.mapP r λp q z=>{z.1,ht _ _ z.2.1,z.2.2},ob,es,ep,k _ _ (.inl rfl) e,c}
 |set S n=>obtain⟨ob,es,ep,t,e,c⟩:=x;exact{ob,es,ep,t,k _ _ (.inl rfl) e,c}
 | ins C dx fs =>
   obtain⟨d,z,ne,e,mA,⟨od,es,ep,e2,c⟩,r⟩:=x;exact{ho _ d,z,ne,k _ _ (.inl rfl) e,mA,{od,es,ep,k _ _ (.inr d) e2,c},r}
 |own y=>obtain⟨ob,e⟩:=x;exact{ob,k _ _ (.inl rfl) e}
 |xd fs=>obtain⟨mA,⟨od,es,ep,e,c⟩,r⟩:=x;exact{mA,{od,es,ep,k _ _ (.inl rfl) e,c},r}
 |rng lo hi=>obtain⟨t,u,v,e⟩:=x;exact{t,u,v,k _ _ (.inl rfl) e}
 |frz ob u ih=>obtain⟨e,q⟩:=x;exact{k _ _ (.inl rfl) e,ih q}
 | tbl ps =>
   have e:h.get? a=some {cls:=.none,data:=.fields ps}:=x;show h'.get? a=some {cls:=.none,data:=.fields ps};exact k a _ (.inl rfl) e
 | met f y =>
   have e:h.get? a=some (PySem.W.methodObj (.ref f) (.ref y)):=x;show h'.get? a=some (PySem.W.methodObj (.ref f) (.ref y));exact k a _ (.inl rfl) e
 |ext φ=>obtain⟨p,⟨o,e⟩,st⟩:=x;exact{st _ _ p λo q=>k _ _ (.inl rfl) q,{o,k _ _ (.inl rfl) e},st}
 |dn es=>obtain⟨z,y,o,e,c⟩:=x;exact{z,y,o,k _ _ (.inl rfl) e,c}
def eK.lt (x:eK P w H h)(e:H a=some o):a<h.objs.size:=(x a o e).lt
def eK.fresh (x:eK P w H h)(e:h.objs.size<=a):H a=none:=by
 cases q:H a with
 |none=>rfl
 |some u=>exact absurd (O1 (x.lt q) e) (P5 _)
def eK.kept (x:eK P w H h)(k:∀b u,h.get? b=some u->h'.get? b=some u):eK P w H h':=λa o e=>
 (x a o e).stay (λb u _ q=>k b u q) (λ_ q=>q) λ_ _ q=>q
def eK.laid (x:eK P w H h)(k:∀b u,h.get? b=some u->h'.get? b=some u)(hp:h.objs.size<=a)(new:bI P w (upd H a o) h' a o):eK P w (upd H a o) h':=λb u e=>by
 have hn:=x.fresh hp;by_cases hb:b=a
 ·subst hb;rw[cm] at e;cases e;exact new
 ·rw[aD hb] at e;exact(x b u e).stay (λc v _ q=>k c v q) (λc q=>by rw[aD (aW q hn)];exact q) λc xs q=>by rw[aD (aW q hn)];exact q
end
def Rd (H:Hp)(a:Addr)(u:HO):Prop:=H a=some u\/∃o,H a=some (.frz o u)
def Rd.ok {P:O2}{w:O9}{H:Hp}{h:Heap}{a:Addr}{u:HO}(r:Rd H a u)(x:eK P w H h):bI P w H h a u:=by
 rcases r with r|⟨o,r⟩
 ·exact x a u r
 ·obtain⟨_,q⟩:=x a _ r;exact q
def Ec:Option HO->Prop
 |some (.lst _)=>True
 |some (.dK _)=>True
 |some (.dT _)=>True
 |some (.set _ _)=>True
 |some (.ins _ _ _)=>True
 |some (.ext _)=>True
 |some (.dn _)=>True
 |_=>False
section
variable{P:O2}{w:O9}{H:Hp}{h h':Heap}{x e:Addr}{o':HO}
def eK.write (ok:eK P w H h)(mu:Ec (H x))(he:e=x\/H e=some (.own x))(k:∀b u,b≠e->h.get? b=some u->h'.get? b=some u)(heo:∃u,h'.get? e=some u)
 (new:bI P w (upd H x o') h' x o'):eK P w (upd H x o') h':=λb u q=>by
 have nown:∀c y,H c=some (.own y)->c≠x:=λc y r z=>by subst z;rw[r] at mu;exact mu
 have ntup:∀c xs,H c=some (.tup xs)->c≠x:=λc xs r z=>by subst z;rw[r] at mu;exact mu
 by_cases hb:b=x
 ·subst hb;rw[cm] at q;cases q;exact new
 ·rw[aD hb] at q;by_cases hbe:b=e
  ·have q':H b=some (.own x):=by
    rcases he with z|z
    ·exact absurd (hbe.trans z) hb
    ·rw[hbe];exact z
   rw[q] at q';cases q';obtain⟨v,hv⟩:=heo;exact{v,by rw[hbe];exact hv}
  ·refine(ok b u q).stay (λc v hc r=>k c v ?_ r) (λc r=>by rw[aD (nown c b r)];exact r) λc xs r=>by rw[aD (ntup c xs r)];exact r
   rcases hc with rfl|hc
   ·exact hbe
   ·rintro rfl;rcases he with z|z
    ·exact nown c b hc z
    ·rw[hc] at z;cases z;exact hb rfl
end
structure Un (fs ex:List Addr) (H H':Hp) (h h':Heap):Prop where
 keep:∀b o,h.get? b=some o->H b=none->b∉fs->b∉ex->h'.get? b=some o
 slot:∀b o,h.get? b=some o->H b=none->b∈fs->b∉ex->∃sl,h'.get? b=some {o with slots:=sl}
 free:∀b o,h.get? b=some o->H b=none->b∉ex->H' b=none
 there:∀b o,h.get? b=some o->b∉ex->∃o',h'.get? b=some o'
 tups:∀b xs,H b=some (.tup xs)->H' b=some (.tup xs)
 frzs:∀b o u,H b=some (.frz o u)->H' b=some (.frz o u)
 tbls:∀b ps,H b=some (.tbl ps)->∃more,H' b=some (.tbl (ps++more))
section
variable{fs fs' ex ex':List Addr}{H H1 H2:Hp}{h h1 h2 h':Heap}{a x e:Addr}{o:HO}
def Un.any (u:Un fs ex H H1 h h1){b:Addr}{ob:Obj}(q:h.get? b=some ob)(n:H b=none)(hx:b∉ex):∃sl,h1.get? b=some {ob with slots:=sl}:=by
 by_cases hb:b∈fs
 ·exact u.slot b ob q n hb hx
 ·exact{ob.slots,u.keep b ob q n hb hx}
def Un.kept (k:∀b u,h.get? b=some u->h'.get? b=some u):Un fs ex H H h h':=
 {λb ob q _ _ _=>k b ob q,λb ob q _ _ _=>{ob.slots,k b ob q},λ_ _ _ n _=>n,λb ob q _=>{ob,k b ob q},λ_ _ q=>q,λ_ _ _ q=>q,λ_ ps q=>{#[],by rw[q];simp}}
def Un.refl:Un fs ex H H h h:=Un.kept λ_ _ q=>q
def Un.laid (k:∀b u,h.get? b=some u->h'.get? b=some u)(hp:h.objs.size<=a)(hn:H a=none):Un fs ex H (upd H a o) h h' where
 keep:=λb u q _ _ _=>k b u q
 slot:=λb u q _ _ _=>{u.slots,k b u q}
 free:=λb u q n _=>by rw[aD (Pm (O1 (OS q) hp))];exact n
 there:=λb u q _=>{u,k b u q}
 tups:=λb xs q=>by rw[aD (aW q hn)];exact q
 frzs:=λb u xs q=>by rw[aD (aW q hn)];exact q
 tbls:=λb ps q=>{#[],by rw[aD (aW q hn),q];simp}
def Un.write (mu:Ec (H x))(he:e=x\/H e=some (.own x))(k:∀b u,b≠e->h.get? b=some u->h'.get? b=some u)(heo:∃u,h'.get? e=some u):Un fs ex H (upd H x o) h h':=by
 have hx:∀b,H b=none->b≠x:=λb n z=>by subst z;rw[n] at mu;exact mu
 have hb:∀b,H b=none->b≠e:=λb n z=>by
  subst z;rcases he with r|r
  ·exact hx b n r
  ·rw[n] at r;cases r
 have hm:∀b u,H b=some u->¬ Ec (some u)->b≠x:=λb u q nm z=>by subst z;rw[q] at mu;exact nm mu
 refine{λb u q n _ _=>k b u (hb b n) q,λb u q n _ _=>{u.slots,k b u (hb b n) q},λb u q n _=>by rw[aD (hx b n)];exact n,λb u q _=>?_,
  λb xs q=>by rw[aD (hm b _ q λz=>z)];exact q,λb u xs q=>by rw[aD (hm b _ q λz=>z)];exact q,λb ps q=>{#[],by rw[aD (hm b _ q λz=>z),q];simp}}
 by_cases hbe:b=e
 ·subst hbe;exact heo
 ·exact{u,k b u hbe q}
end
def C1 (h:Heap)(H:Hp):List Addr:=(List.range h.objs.size).filter λa=>(H a).isSome
def lC (h:Heap)(H:Hp):Heap:=PySem.W.hideAll h (C1 h H)
def zx (h:Heap)(H:Hp):(lC h H).objs.size=h.objs.size:=PySem.W.hideAll_size _ _
def B2 {h:Heap}{H:Hp}{b:Addr}{o:Obj}(e:h.get? b=some o)(n:H b=none):(lC h H).get? b=some o:=
 PySem.W.hideAll_get _ e λhm=>by
  have q:(H b).isSome=true:=(QW.mp hm).2;rw[n] at q;simp at q
def Fz {h:Heap}{H:Hp}{b:Addr}{o:Obj}(e:(lC h H).get? b=some o):h.get? b=some o/\H b=none:=by
 have e':h.get? b=some o:=PySem.W.of_hideAll (C1 h H) e;refine{e',?_};cases q:H b with
 |none=>rfl
 | some x =>
   have hm:b∈C1 h H:=QW.mpr {QE.mpr (OS e'),by simp[q]}
   have z:(lC h H).get? b=none:=PySem.W.hideAll_none (C1 h H) hm;rw[z] at e;cases e
structure Mod (K:Ow) (mg:Str->Option Ox) (base:Heap):Prop where
 kin:K.In base
 glob:base.Ns mainGlobals mg
 blt:∃mb,base.Ns builtinsNs mb/\∀x:Str,x≠"__name__"->mb x=bootBuiltins x
 nolimit:base.NoLimit
structure Cx where
 prog:O2
 w:O9
 K:Ow
 mg:Str->Option Ox
 base:Heap
 A:PR
 N:List Str
 s₀:Oy
 H₀:Hp
 env:Env
 outer:List Env
 stack:List Env
 ex:List Addr
 fn:Str->Bool
 calm:Bool
 pn:List (Addr×Obj)
 xe:Ox->Oy->Prop
def fB (l:List Env):List Addr:=l.filterMap (·.frame)
abbrev Cx.fs (X:Cx):List Addr:=fB X.outer
def vE (sc:Scope)(x:Str):Prop:=sc.names.lookup x=some .local\/sc.names.lookup x=some .cell\/sc.names.lookup x=some .free
def Loc (sc:Scope)(x:Str):Prop:=sc.names.lookup x=some .local\/sc.names.lookup x=some .cell
def Look (env:Env)(h:Heap)(m:Str->Option Ox)(x:Str)(u:Ox):Prop:=
 (env.kindOf x=some .local/\m x=some u)\/((env.kindOf x=some .cell\/env.kindOf x=some .free)/\∃c,env.cells.lookup x=some c/\h.IsCell c (some u))
structure Cx.Ok (X:Cx):Prop where
 mod:Mod X.K X.mg X.base
 kind:X.env.scope.kind=.function
 glob:X.env.globals=mainGlobals
 blt:X.env.builtins=builtinsNs
 above:X.s₀.heap.objs.size<=X.env.locals
 inj:∀x y c,X.env.cells.lookup x=some c->X.env.cells.lookup y=some c->x=y
 has:∀x,(X.env.kindOf x=some .cell\/X.env.kindOf x=some .free)->∃c,X.env.cells.lookup x=some c
 cab:∀x c,X.fn x=true->X.env.cells.lookup x=some c->X.s₀.heap.objs.size<=c
 hd:X.calm=true->X.A.handled=none
 frames:X.A.frames=some X.stack
 stk:X.stack=X.outer\/(X.stack=X.env::X.outer/\X.env.frame=some X.env.locals)
 exf:∀b∈X.ex,b≠X.env.locals/\∀x c,X.env.cells.lookup x=some c->c≠b
 bs:∀b o,X.base.get? b=some o->X.s₀.heap.get? b=some o/\X.H₀ b=none
 bsz:X.base.objs.size<=X.s₀.heap.objs.size
 noex:∀b o,X.base.get? b=some o->b∉X.ex
 exfs:∀b∈X.ex,b∉X.fs
 funs:X.s₀.heap.FunFrames X.base X.outer
 frf:∀b∈X.fs,X.H₀ b=none
structure Inv (X:Cx) (pins:List (Addr×Obj)) (σ:List (Option V)) (H:Hp) (s:Oy):Prop where
 ok:X.Ok
 os:s.os=X.s₀.os
 bare:AllBare s.gens
 base:Un X.fs X.ex X.H₀ H X.s₀.heap s.heap
 loc:∃m,s.heap.Ns X.env.locals m/\∀(i:Nat) (x:Str) (v:V),X.N[i]?=some x->σ[i]?=some (some v)->vE X.env.scope x->∃u,RelV v u/\Look X.env s.heap m x u
 cell:∀x c,X.env.cells.lookup x=some c->∃v,s.heap.IsCell c v
 free:H X.env.locals=none
 freeC:∀x c,X.env.cells.lookup x=some c->H c=none
 pin:∀p∈X.pn++pins,s.heap.get? p.1=some p.2/\H p.1=none/\p.1≠X.env.locals/\p.1∉X.fs/\∀v,p.2.data≠.cell v
 hok:eK X.prog X.w H s.heap
 len:σ.length=X.N.length
section
variable{X:Cx}{pins:List (Addr×Obj)}{σ:List (Option V)}{H H':Hp}{s:Oy}{h':Heap}
def Cx.Ok.nofr (ok:X.Ok){b:Addr}{o:Obj}(e:X.base.get? b=some o):b∉X.fs:=λhb=>by
 have:=(ok.funs.mem hb).1;rw[e] at this;cases this
def Inv.bs (I:Inv X pins σ H s):∀b o,X.base.get? b=some o->s.heap.get? b=some o/\H b=none:=λb o e=>
 {I.base.keep b o (I.ok.bs b o e).1 (I.ok.bs b o e).2 (I.ok.nofr e) (I.ok.noex b o e),I.base.free b o (I.ok.bs b o e).1 (I.ok.bs b o e).2 (I.ok.noex b o e)}
def Inv.bk (I:Inv X pins σ H s):∀b o,X.base.get? b=some o->s.heap.get? b=some o:=λb o e=>(I.bs b o e).1
def Inv.mod (I:Inv X pins σ H s):Mod X.K X.mg X.base:=I.ok.mod
def Inv.kIn (I:Inv X pins σ H s):X.K.In s.heap:=I.ok.mod.kin.keeps I.bk
def Inv.lt (I:Inv X pins σ H s):X.env.locals<s.heap.objs.size:=let{_,hn,_}:=I.loc;hn.lt
def Inv.sz (I:Inv X pins σ H s):X.s₀.heap.objs.size<=s.heap.objs.size:=OZ I.ok.above (Nat.le_of_lt I.lt)
def Inv.nofs (I:Inv X pins σ H s){a:Addr}(h:s.heap.objs.size<=a):a∉X.fs:=λhb=>by
 obtain⟨_,o,ho,_⟩:=I.ok.funs.mem hb;exact absurd (O1 (OS ho) (OZ I.sz h)) (P5 _)
def Inv.cne (I:Inv X pins σ H s):∀x c,X.env.cells.lookup x=some c->c≠X.env.locals:=λx c e z=>by
 obtain⟨v,o,ho,hd⟩:=I.cell x c e;obtain⟨m,⟨o',es,ep,ho',hd',_⟩,_⟩:=I.loc;rw[z,ho'] at ho;cases ho;rw[hd'] at hd;cases hd
def Inv.funs (I:Inv X pins σ H s):s.heap.FunFrames X.base X.outer:=by
 have all:∀(l:List Env),(∀b∈fB l,b∈X.fs)->X.s₀.heap.FunFrames X.base l->s.heap.FunFrames X.base l:=by
  intro l;induction l with
  |nil=>intro _ _;trivial
  | cons env r ih =>
    intro hs hl;obtain⟨hk,⟨L,o,hf,hn,ho,hd⟩,hr⟩:=hl;have hL:L∈X.fs:=hs L (by unfold fB;rw[List.filterMap_cons,hf];exact O4)
    obtain⟨sl,e⟩:=I.base.slot L o ho (I.ok.frf L hL) hL λz=>I.ok.exfs L z hL;exact{hk,{L,_,hf,hn,e,hd},ih (λb hb=>hs b (by unfold fB;rw[List.filterMap_cons,hf];exact OP _ hb)) hr}
 exact all X.outer (λ_ hb=>hb) I.ok.funs
def Inv.stack (I:Inv X pins σ H s):s.heap.FunFrames X.base X.stack:=by
 rcases I.ok.stk with e|⟨e,hf⟩
 ·rw[e];exact I.funs
 ·rw[e];obtain⟨m,hn,_⟩:=I.loc;refine .cons (by rw[I.ok.kind];decide) hf hn ?_ I.funs
  exact Heap.get?_none_of_le (OZ I.ok.bsz I.ok.above)
def Inv.stkSub (I:Inv X pins σ H s):∀b∈fB X.stack,b∈X.env.locals::X.fs:=λb hb=>by
 rcases I.ok.stk with e|⟨e,hf⟩
 ·rw[e] at hb;exact OP _ hb
 ·rw[e] at hb;unfold fB at hb;rw[List.filterMap_cons,hf] at hb;exact hb
def Inv.stkFree (I:Inv X pins σ H s):∀b∈fB X.stack,H b=none:=λb hb=>by
 rcases O6.mp (I.stkSub b hb) with e|hb
 ·rw[e];exact I.free
 ·obtain⟨_,o,ho,_⟩:=I.ok.funs.mem hb;exact I.base.free b o ho (I.ok.frf b hb) λz=>I.ok.exfs b z hb
def Inv.step {g':Array GenState}{t':Nat}{d':Drawn}{ch:List Addr}(I:Inv X pins σ H s)
 (hch:∀b∈ch,(b∈X.ex\/X.s₀.heap.objs.size<=b)/\b≠X.env.locals/\(∀x c,X.env.cells.lookup x=some c->c≠b)/\∀p∈X.pn++pins,p.1≠b)
 (keep:∀b o,b≠X.env.locals->b∉X.fs->b∉ch->s.heap.get? b=some o->H b=none->h'.get? b=some o)
 (slot:∀b o,b≠X.env.locals->b∈X.fs->b∉ch->s.heap.get? b=some o->H b=none->∃sl,h'.get? b=some {o with slots:=sl}) (free:∀b o,b∉ch->s.heap.get? b=some o->H b=none->H' b=none)
 (there:∀b o,b∉ch->s.heap.get? b=some o->∃o',h'.get? b=some o')
 (tups:∀b xs,H b=some (.tup xs)->H' b=some (.tup xs)) (frzs:∀b o u,H b=some (.frz o u)->H' b=some (.frz o u)) (tbls:∀b ps,H b=some (.tbl ps)->∃more,H' b=some (.tbl (ps++more)))
 (ns:∀m,s.heap.Ns X.env.locals m->h'.Ns X.env.locals m) (hok:eK X.prog X.w H' h') (hg:AllBare g') :
 Inv X pins σ H' {s with heap:=h',gens:=g',drawn:=d',toks:=t'}:=by
 have neL:∀b o,X.s₀.heap.get? b=some o->b≠X.env.locals:=λb o e=>Pm (O1 (OS e) I.ok.above);have neC:∀b o,X.s₀.heap.get? b=some o->b∉X.ex->b∉ch:=λb o e hx hb=>by
  rcases(hch b hb).1 with z|z
  ·exact hx z
  ·exact absurd (O1 (OS e) z) (P5 _)
 have cellK:∀x c,X.env.cells.lookup x=some c->∀v,s.heap.IsCell c v->h'.IsCell c v:=λx c e v ⟨o,ho,hd⟩=>by
  have nch:c∉ch:=λz=>(hch c z).2.2.1 x c e rfl;by_cases hc:c∈X.fs
  ·obtain⟨sl,q⟩:=slot c o (I.cne x c e) hc nch ho (I.freeC x c e);exact{_,q,hd}
  ·exact{o,keep c o (I.cne x c e) hc nch ho (I.freeC x c e),hd}
 refine{I.ok,I.os,hg,{λb o e n hb hx=>?_,λb o e n hb hx=>?_,λb o e n hx=>?_,λb o e hx=>?_,λb xs e=>tups b xs (I.base.tups b xs e),λb o xs e=>frzs b o xs (I.base.frzs b o xs e),λb ps e=>?_},?_,λx c e=>?_,?_,λx c e=>?_,λp hp=>?_,hok,I.len}
 ·exact keep b o (neL b o e) hb (neC b o e hx) (I.base.keep b o e n hb hx) (I.base.free b o e n hx)
 ·obtain⟨sl,e1⟩:=I.base.slot b o e n hb hx;obtain⟨sl',e2⟩:=slot b _ (neL b o e) hb (neC b o e hx) e1 (I.base.free b o e n hx);exact⟨sl',e2⟩
 ·obtain⟨o',e1⟩:=I.base.there b o e hx;exact free b o' (neC b o e hx) e1 (I.base.free b o e n hx)
 ·obtain⟨o',e1⟩:=I.base.there b o e hx;exact there b o' (neC b o e hx) e1
 ·obtain⟨m1,e1⟩:=I.base.tbls b ps e;obtain⟨m2,e2⟩:=tbls b _ e1;exact{m1++m2,by rw[e2,Array.append_assoc]}
 ·obtain⟨m,hn,hl⟩:=I.loc;refine{m,ns m hn,λi x v e1 e2 e3=>?_};obtain⟨u,r,l⟩:=hl i x v e1 e2 e3;refine{u,r,?_};rcases l with l|⟨k,c,e,z⟩
  ·exact .inl l
  ·exact .inr {k,c,e,cellK x c e _ z}
 ·obtain⟨v,z⟩:=I.cell x c e;exact{v,cellK x c e v z}
 ·obtain⟨m,⟨o,_,_,ho,_⟩,_⟩:=I.loc;exact free _ o (λz=>(hch _ z).2.1 rfl) ho I.free
 ·obtain⟨v,o,ho,hd⟩:=I.cell x c e;exact free c o (λz=>(hch c z).2.2.1 x c e rfl) ho (I.freeC x c e)
 ·obtain⟨e,n,ne,nf,d⟩:=I.pin p hp;have nch:p.1∉ch:=λz=>(hch p.1 z).2.2.2 p hp rfl;exact{keep p.1 p.2 ne nf nch e n,free p.1 p.2 nch e n,ne,nf,d}
def Inv.un {t':Nat}(I:Inv X pins σ H s)(u:Un X.fs [] H H' s.heap h')(hok:eK X.prog X.w H' h'):Inv X pins σ H' {s with heap:=h',toks:=t'}:=by
 obtain⟨m,⟨o,es,ep,ho,r⟩,_⟩:=id I.loc;obtain⟨sl,hL⟩:=u.any ho I.free `s
 exact I.step (g':=s.gens) (d':=s.drawn) (ch:=[]) (λ_ z=>nomatch z) (λb o _ hb _ e n=>u.keep b o e n hb `s) (λb o _ hb _ e n=>u.slot b o e n hb `s) (λb o _ e n=>u.free b o e n `s) (λb o _ e=>u.there b o e `s) u.tups u.frzs u.tbls (λm' hm=>by
  obtain⟨o',es',ep',ho',r'⟩:=hm;rw[ho] at ho';cases ho';exact{_,es',ep',hL,r'}) hok I.bare
def Inv.call {g':Array GenState}{t':Nat}{d':Drawn}{ch:List Addr}(I:Inv X pins σ H s)(u:Un (fB X.stack) ch H H' s.heap h')(hok:eK X.prog X.w H' h')(hg:AllBare g')
 (hch:∀b∈ch,(b∈X.ex\/X.s₀.heap.objs.size<=b)/\b≠X.env.locals/\(∀x c,X.env.cells.lookup x=some c->c≠b)/\∀p∈X.pn++pins,p.1≠b) :
 Inv X pins σ H' {s with heap:=h',gens:=g',drawn:=d',toks:=t'}:=by
 obtain⟨m,⟨o,es,ep,ho,r⟩,_⟩:=id I.loc;obtain⟨sl,hL⟩:=u.any ho I.free λz=>(hch _ z).2.1 rfl;exact I.step (ch:=ch) hch (λb o hL hb hc e n=>u.keep b o e n (λz=>(O6.mp (I.stkSub b z)).elim hL hb) hc) (λb o _ _ hc e n=>u.any e n hc) (λb o hc e n=>u.free b o e n hc) (λb o hc e=>u.there b o e hc) u.tups u.frzs u.tbls (λm' hm=>by
  obtain⟨o',es',ep',ho',r'⟩:=hm;rw[ho] at ho';cases ho';exact{_,es',ep',hL,r'}) hok hg
def Inv.turned {t':Nat}{it:Addr}(I:Inv X pins σ H s)(k:∀b o,b≠it->s.heap.get? b=some o->h'.get? b=some o)(hn:H it=none)(hL:it≠X.env.locals)
 (h1:it∈X.ex\/X.s₀.heap.objs.size<=it) (h2:∀x c,X.env.cells.lookup x=some c->c≠it) (h3:∀p∈X.pn++pins,p.1≠it):Inv X pins σ H {s with heap:=h',toks:=t'}:=by
 have nit:∀b u,H b=some u->b≠it:=λb u e z=>by rw[z,hn] at e;cases e
 refine I.step (g':=s.gens) (d':=s.drawn) (ch:=[it]) (λb hb=>?_) (λb o _ _ hc e _=>k b o (λz=>hc (by simp[z])) e) (λb o _ _ hc e _=>{o.slots,k b o (λz=>hc (by simp[z])) e}) (λ_ _ _ _ n=>n)
  (λb o hc e=>{o,k b o (λz=>hc (by simp[z])) e}) (λ_ _ e=>e) (λ_ _ _ e=>e) (λb ps e=>{#[],by rw[e];simp}) (λm hm=>?_) (λb u e=>?_) I.bare
 ·have e:b=it:=by simpa using hb
  subst e;exact⟨h1,hL,h2,h3⟩
 ·obtain⟨o,es,ep,ho,r⟩:=hm;exact{o,es,ep,k _ o (PN hL) ho,r}
 ·refine(I.hok b u e).stay (λc v hc q=>k c v ?_ q) (λ_ q=>q) λ_ _ q=>q;rcases hc with z|z
  ·rw[z];exact nit b u e
  ·exact nit c _ z
def Inv.tok (I:Inv X pins σ H s)(t:Nat):Inv X pins σ H {s with toks:=t}:=I.un (h':=s.heap) (t':=t) Un.refl I.hok
def Inv.kept {t':Nat}(I:Inv X pins σ H s)(k:∀b u,s.heap.get? b=some u->h'.get? b=some u):Inv X pins σ H {s with heap:=h',toks:=t'}:=I.un (Un.kept k) (I.hok.kept k)
def Inv.laid {a:Addr}{o:HO}{t':Nat}(I:Inv X pins σ H s)(k:∀b u,s.heap.get? b=some u->h'.get? b=some u)(hp:s.heap.objs.size<=a)(new:bI X.prog X.w (upd H a o) h' a o) :
 Inv X pins σ (upd H a o) {s with heap:=h',toks:=t'}:=I.un (Un.laid k hp (I.hok.fresh hp)) (I.hok.laid k hp new)
def Inv.write {x e:Addr}{o:HO}{t':Nat}(I:Inv X pins σ H s)(mu:Ec (H x))(he:e=x\/H e=some (.own x))(k:∀b u,b≠e->s.heap.get? b=some u->h'.get? b=some u)(heo:∃u,h'.get? e=some u)
 (new:bI X.prog X.w (upd H x o) h' x o):Inv X pins σ (upd H x o) {s with heap:=h',toks:=t'}:=I.un (Un.write mu he k heo) (I.hok.write mu he k heo new)
def Inv.pins_of {pins':List (Addr×Obj)}(I:Inv X pins σ H s)(h:∀p∈pins',s.heap.get? p.1=some p.2/\H p.1=none/\p.1≠X.env.locals/\p.1∉X.fs/\∀v,p.2.data≠.cell v):Inv X pins' σ H s:=
 {I.ok,I.os,I.bare,I.base,I.loc,I.cell,I.free,I.freeC,λp hp=>(Pk.mp hp).elim (λz=>I.pin p (Pt _ z)) (h p),I.hok,I.len}
def sP {N:List Str}(hN:N.Nodup){i j:Nat}{x:Str}(a:N[i]?=some x)(b:N[j]?=some x):i=j:=by
 obtain⟨h1,e1⟩:=Ov.mp a;obtain⟨h2,e2⟩:=Ov.mp b;exact(List.getElem_inj hN).mp (e1.trans e2.symm)
def qw {M:Model}{A:PR}{E:Ox->Oy->Prop}{i:Nat}{x:Str}{v:V}{u:Ox}{Q:Unit->Oy->Prop}(I:Inv X pins σ H s)(hN:X.N.Nodup)(hi:X.N[i]?=some x)(hx:Loc X.env.scope x)(r:RelV v u)
 (h:∀s',Inv X pins (σ.set i (some v)) H s'->(∃a,Qd a s.heap s'.heap/\(a=X.env.locals\/X.env.cells.lookup x=some a))->Q () s') (hf:X.fn x=true\/X.env.scope.names.lookup x=some .local:=by first|exact .inl rfl|exact .inr rfl|assumption):wpAny M A (storeName X.env x u) Q E s:=by
 obtain⟨m,hn,hl⟩:=id I.loc;have hcls:(X.env.scope.kind==.class||(X.env.scope.kind==.module&&X.env.locals != X.env.globals))=false:=by rw[I.ok.kind];rfl
 have hiσ:i<σ.length:=by rw[I.len];exact(Ov.mp hi).1
 have cne:=I.cne;have tracked:∀{a:Addr}{h':Heap},(∃o,s.heap.get? a=some o/\H a=none)->Qd a s.heap h'->eK X.prog X.w H h':=λ{a h'} ha hs b ob e=>by
  obtain⟨_,_,hfree⟩:=ha;refine(I.hok b ob e).stay (λc w' hc q=>(hs.2 c ?_).trans q) (λ_ q=>q) λ_ _ q=>q;rintro rfl;rcases hc with rfl|hc
  ·rw[hfree] at e;cases e
  ·rw[hfree] at hc;cases hc
 rcases hx with hk|hk
 ·refine wpAny_storeName_local hk hn (λh' hn' hs=>?_) hcls;obtain⟨oL,_,_,hoL,_⟩:=id hn;refine h _ {I.ok,I.os,I.bare,{λb o e n hb hx=>?_,λb o e n hb hx=>?_,I.base.free,λb o e hx=>?_,I.base.tups,I.base.frzs,I.base.tbls},{_,hn',λj y v' e1 e2 e3=>?_},λy c e=>?_,I.free,I.freeC,λp hp=>?_,tracked ⟨oL,hoL,I.free⟩ hs,by simpa using I.len} {_,hs,.inl rfl}
  ·exact(hs.2 b (Pm (O1 (OS e) I.ok.above))).trans (I.base.keep b o e n hb hx)
  ·obtain⟨sl,e1⟩:=I.base.slot b o e n hb hx;exact{sl,(hs.2 b (Pm (O1 (OS e) I.ok.above))).trans e1}
  ·obtain⟨o',e1⟩:=I.base.there b o e hx;exact{o',(hs.2 b (Pm (O1 (OS e) I.ok.above))).trans e1}
  ·by_cases hj:j=i
   ·subst hj;rw[hi] at e1;cases e1;rw[O3 hiσ] at e2;cases e2;exact{u,r,.inl {hk,`s}}
   ·rw[OE (PN hj)] at e2;obtain⟨u',r',q⟩:=hl j y v' e1 e2 e3;refine{u',r',?_};rcases q with⟨k,e⟩|⟨k,c,e,z⟩
    ·refine .inl {k,?_};have:y≠x:=λe=>hj (sP hN e1 (e ▸ hi));simp[this,e]
    ·exact .inr {k,c,e,z.sameBut hs (cne y c e)}
  ·obtain⟨w',z⟩:=I.cell y c e;exact{w',z.sameBut hs (cne y c e)}
  ·obtain⟨e,n,ne,nf,d⟩:=I.pin p hp;exact{(hs.2 p.1 ne).trans e,n,ne,nf,d}
 ·have hfn:X.fn x=true:=by
   rcases hf with z|z
   ·exact z
   ·rw[z] at hk;cases hk
  obtain⟨c,hc⟩:=I.ok.has x (.inl hk);obtain⟨w',z⟩:=I.cell x c hc;refine wpAny_storeName_cell I.ok.kind hk hc z (λh' hc' hs=>?_);obtain⟨oc,hoc,hocd⟩:=id z;refine h {s with heap:=h'} {I.ok,I.os,I.bare,{λb o e n hb hx=>?_,λb o e n hb hx=>?_,I.base.free,λb o e hx=>?_,I.base.tups,I.base.frzs,I.base.tbls},{m,hn.sameBut hs (PN (cne x c hc)),λj y v' e1 e2 e3=>?_},λy c' e=>?_,I.free,I.freeC,λp hp=>?_,tracked {oc,hoc,I.freeC x c hc} hs,by simpa using I.len} {c,hs,.inr hc}
  ·exact(hs.2 b (Pm (O1 (OS e) (I.ok.cab x c hfn hc)))).trans (I.base.keep b o e n hb hx)
  ·obtain⟨sl,e1⟩:=I.base.slot b o e n hb hx;exact{sl,(hs.2 b (Pm (O1 (OS e) (I.ok.cab x c hfn hc)))).trans e1}
  ·obtain⟨o',e1⟩:=I.base.there b o e hx;exact{o',(hs.2 b (Pm (O1 (OS e) (I.ok.cab x c hfn hc)))).trans e1}
  ·by_cases hj:j=i
   ·subst hj;rw[hi] at e1;cases e1;rw[O3 hiσ] at e2;cases e2;exact{u,r,.inr {.inl hk,c,hc,hc'}}
   ·rw[OE (PN hj)] at e2;obtain⟨u',r',q⟩:=hl j y v' e1 e2 e3;refine{u',r',?_};rcases q with q|⟨k,c',e,z'⟩
    ·exact .inl q
    ·refine .inr {k,c',e,z'.sameBut hs ?_};rintro rfl;exact hj (sP hN e1 (I.ok.inj _ _ _ e hc ▸ hi))
  ·by_cases hcc:c'=c
   ·subst hcc;exact{_,hc'}
   ·obtain⟨w2,z2⟩:=I.cell y c' e;exact{w2,z2.sameBut hs hcc}
  ·obtain⟨e,n,ne,nf,d⟩:=I.pin p hp;refine{(hs.2 p.1 ?_).trans e,n,ne,nf,d};intro q;rw[q,hoc] at e;have q':oc=p.2:=OD e;exact d w' (by rw[<- q'];exact hocd)
def AS {M:Model}{A:PR}{E:Ox->Oy->Prop}{i:Nat}{x:Str}{v:V}{u:Ox}{Q:Unit->Oy->Prop}(I:Inv X pins σ H s)(hN:X.N.Nodup)(hi:X.N[i]?=some x)(hx:Loc X.env.scope x)(r:RelV v u)
 (h:∀s',Inv X pins (σ.set i (some v)) H s'->Q () s') (hf:X.fn x=true\/X.env.scope.names.lookup x=some .local:=by first|exact .inl rfl|exact .inr rfl|assumption):wpAny M A (storeName X.env x u) Q E s:=
 qw I hN hi hx r (λs' I' _=>h s' I') hf
def Inv.call' {s':Oy}{ch:List Addr}(I:Inv X pins σ H s)(ho:s'.os=s.os)(u:Un (fB X.stack) ch H H' s.heap s'.heap)(hok:eK X.prog X.w H' s'.heap)(hg:AllBare s'.gens)
 (hch:∀b∈ch,(b∈X.ex\/X.s₀.heap.objs.size<=b)/\b≠X.env.locals/\(∀x c,X.env.cells.lookup x=some c->c≠b)/\∀p∈X.pn++pins,p.1≠b):Inv X pins σ H' s':=by
 obtain⟨h',g',d',t',o'⟩:=s';have e:o'=s.os:=ho;subst e;exact I.call (g':=g') (t':=t') (d':=d') u hok hg hch
end
abbrev XK:=Ox->Option Addr->Hp->Prop
abbrev St:=List (Option V)
abbrev VK:=V->Hp->Prop
abbrev TE:=St->Hp->VK->Prop
abbrev TT:=St->Hp->(Bool->Hp->Prop)->Prop
abbrev TA:=St->Hp->(List V->Hp->Prop)->Prop
structure Ends where
 nx:St->Hp->Prop
 rt:VK
 bk:St->Hp->Prop:=λ_ _=>False
 ct:St->Hp->Prop:=λ_ _=>False
abbrev TS:=Ends->St->Hp->Prop
def EP (X:Cx)(pins:List (Addr×Obj))(σ:St)(Q:VK)(u:Ox)(s':Oy):Prop:=∃v H',Inv X pins σ H' s'/\RelV v u/\Q v H'
def TP (X:Cx)(pins:List (Addr×Obj))(σ:St)(Q:Bool->Hp->Prop)(b:Bool)(s':Oy):Prop:=∃H',Inv X pins σ H' s'/\Q b H'
def AP (X:Cx)(pins:List (Addr×Obj))(σ:St)(Q:List V->Hp->Prop)(us:List Ox)(s':Oy):Prop:=∃vs H',Inv X pins σ H' s'/\Vals vs us/\Q vs H'
def SP (X:Cx)(pins:List (Addr×Obj))(D:Ends)(f:Flow)(s':Oy):Prop:=
 match f with
 |.next=>∃σ' H',Inv X pins σ' H' s'/\D.nx σ' H'
 |.brk=>∃σ' H',Inv X pins σ' H' s'/\D.bk σ' H'
 |.cont=>∃σ' H',Inv X pins σ' H' s'/\D.ct σ' H'
 |.ret u=>∃v σ' H',Inv X pins σ' H' s'/\RelV v u/\D.rt v H'
def PE (X:Cx)(e:Expr)(t:TE):Prop:=
 ∀(pins:List (Addr×Obj)) (s:Oy) (σ:St) (H:Hp) (Q:VK),Inv X pins σ H s->t σ H Q->wpAny (model X.prog X.w) X.A (eval e X.env) (EP X pins σ Q) X.xe s
def PT (X:Cx)(e:Expr)(t:TT):Prop:=
 ∀(pins:List (Addr×Obj)) (s:Oy) (σ:St) (H:Hp) (Q:Bool->Hp->Prop),Inv X pins σ H s->t σ H Q->wpAny (model X.prog X.w) X.A (isTrue e X.env (eval e X.env)) (TP X pins σ Q) X.xe s
def PW (X:Cx)(e:Expr)(t:TT):Prop:=
 ∀(whole:Sem Ox) (pins:List (Addr×Obj)) (s:Oy) (σ:St) (H:Hp) (Q:Bool->Hp->Prop),Inv X pins σ H s->t σ H Q->wpAny (model X.prog X.w) X.A (isTrue e X.env whole) (TP X pins σ Q) X.xe s
def PW.pt {X:Cx}{e:Expr}{t:TT}(h:PW X e t):PT X e t:=h _
def PA (X:Cx)(es:List Expr)(t:TA):Prop:=
 ∀(pos:Pos) (pins:List (Addr×Obj)) (s:Oy) (σ:St) (H:Hp) (Q:List V->Hp->Prop),Inv X pins σ H s->t σ H Q->wpAny (model X.prog X.w) X.A (spliced (backTo pos (starEach es X.env))) (AP X pins σ Q) X.xe s
def PS (X:Cx)(st:Stmt)(t:TS):Prop:=
 ∀(pins:List (Addr×Obj)) (s:Oy) (σ:St) (H:Hp) (D:Ends),Inv X pins σ H s->t D σ H->wpAny (model X.prog X.w) X.A (exec st X.env) (SP X pins D) X.xe s
def lT (X:Cx)(st:List Stmt)(t:TS):Prop:=
 ∀(pins:List (Addr×Obj)) (s:Oy) (σ:St) (H:Hp) (D:Ends),Inv X pins σ H s->t D σ H->wpAny (model X.prog X.w) X.A (execs st X.env) (SP X pins D) X.xe s
def aQ {α:Type}{t:Sem α}{Q Q':α->Oy->Prop}{M:Model}{A:PR}{E:Ox->Oy->Prop}{s:Oy}(h:wpAny M A t Q E s)(hQ:∀a s,Q a s->Q' a s):wpAny M A t Q' E s:=wpAny_mono h hQ λ_ _ x=>x
section
variable{X:Cx}
def MY (i:Nat):TE:=λσ H Q=>∃v,σ[i]?=some (some v)/\Q v H
def tC (v:V):TE:=λ_ H Q=>Q v H
def yF {i:Nat}{x:Str}{pos:Pos}(hN:X.N[i]?=some x)(hv:vE X.env.scope x)(hd:(x==("__debug__":Str))=false:=by decide)(hcd:(x==("__classdict__":Str))=false:=by decide):PE X (.Name x pos) (MY i):=by
 intro pins s σ H Q I h;obtain⟨v,e,h⟩:=h;obtain⟨m,hn,hl⟩:=I.loc;obtain⟨u,r,l⟩:=hl i x v hN e hv;have fin:EP X pins σ Q u s:=⟨v,H,I,r,h⟩;rcases l with⟨hk,hm⟩|⟨hk,c,hc,hcell⟩
 ·exact wpAny_Name (wpAny_loadName_local I.ok.kind hk hn hm fin) hd
 ·rcases hk with hk|hk
  ·exact wpAny_Name (wpAny_loadName_cell I.ok.kind hk hc hcell fin) hd
  ·exact wpAny_Name (wpAny_loadName_free I.ok.kind hk hc hcell fin hcd) hd
def Ik {i j pos}:PE X (.Constant (.int i) j pos) (tC (.int i)):=λ_ _ _ H _ I h=>wpAny_Constant_int {.int i,H,I.tok _,{_,rfl},h}
def K5 {b j pos}:PE X (.Constant (.bool b) j pos) (tC (.bl b)):=λ_ _ _ H _ I h=>Constant_bool {.bl b,H,I,rfl,h}
def Ii {j pos}:PE X (.Constant .none j pos) (tC .non):=λ_ _ _ H _ I h=>Constant_none {.non,H,I,rfl,h}
def Ie {x j pos}:PE X (.Constant (.str x) j pos) (tC (.str x)):=λ_ _ _ H _ I h=>Calls.Constant_str {.str x,H,I.tok _,{_,rfl},h}
def Gl (X:Cx)(x:Str):Prop:=X.env.kindOf x=some .globalImplicit
def kD {E:Ox->Oy->Prop}{pins:List (Addr×Obj)}{s:Oy}{σ:St}{H:Hp}{x:Str}{u:Ox}{pos:Pos}{Q:Ox->Oy->Prop}(I:Inv X pins σ H s)(hg:Gl X x)(hm:X.mg x=some u)(h:Q u s)
 (hd:(x==("__debug__":Str))=false:=by decide):wpAny (model X.prog X.w) X.A (eval (.Name x pos) X.env) Q E s:=
 Calls.Name_function_global I.ok.kind hg (Calls.loadGlobal_global (by rw[I.ok.glob];exact I.mod.glob.keeps I.bk) hm h) hd
def gZ {E:Ox->Oy->Prop}{pins:List (Addr×Obj)}{s:Oy}{σ:St}{H:Hp}{x:Str}{u:Ox}{pos:Pos}{Q:Ox->Oy->Prop}(I:Inv X pins σ H s)(hg:Gl X x)(hm:X.mg x=none)(hv:bootBuiltins x=some u)(h:Q u s)
 (hn:x≠"__name__":=by decide) (hd:(x==("__debug__":Str))=false:=by decide):wpAny (model X.prog X.w) X.A (eval (.Name x pos) X.env) Q E s:=by
 obtain⟨mb,h1,h2⟩:=I.mod.blt;exact Calls.Name_function_global I.ok.kind hg (Calls.loadGlobal_builtin (by rw[I.ok.glob];exact I.mod.glob.keeps I.bk) hm (by rw[I.ok.blt];exact h1.keeps I.bk) ((h2 x hn).trans hv) h) hd
def ku {x:Str}{v:V}{u:Ox}{pos:Pos}(hg:Gl X x)(hm:X.mg x=some u)(r:RelV v u)(hd:(x==("__debug__":Str))=false:=by decide):PE X (.Name x pos) (tC v):=
 λ_ _ _ H _ I h=>kD I hg hm ⟨v,H,I,r,h⟩ hd
def Fu {x:Str}{v:V}{u:Ox}{pos:Pos}(hg:Gl X x)(hm:X.mg x=none)(hv:bootBuiltins x=some u)(r:RelV v u)(hn:x≠"__name__":=by decide)(hd:(x==("__debug__":Str))=false:=by decide):PE X (.Name x pos) (tC v):=
 λ_ _ _ H _ I h=>gZ I hg hm hv ⟨v,H,I,r,h⟩ hn hd
variable{a b:Expr}{ta tb:TE}{pos:Pos}
variable{tA tB':TT}{rest:List Expr}
def gq (t u:TT):TT:=λσ H Q=>t σ H λc H1=>if c=true then u σ H1 Q else Q false H1
def iz (t u:TT):TT:=λσ H Q=>t σ H λc H1=>if c=true then Q true H1 else u σ H1 Q
def dG (t:TT):TT:=λσ H Q=>t σ H λc H1=>Q (!c) H1
def Fg (ha:PT X a tA):PW X (.BoolOp .And [a] pos) tA:=by
 intro wh pins s σ H Q I h;refine isTrue_and (aQ (ha pins s σ H Q I h) λc s1 e=>?_);cases c with
 |true=>exact isTrue_and_nil e
 |false=>exact e
def HW (ha:PT X a tA):PW X (.BoolOp .Or [a] pos) tA:=by
 intro wh pins s σ H Q I h;refine isTrue_or (aQ (ha pins s σ H Q I h) λc s1 e=>?_);cases c with
 |false=>exact isTrue_or_nil e
 |true=>exact e
def HX (ha:PT X a tA)(hb:PW X (.BoolOp .And (b::rest) pos) tB'):PW X (.BoolOp .And (a::b::rest) pos) (gq tA tB'):=by
 intro wh pins s σ H Q I h;refine isTrue_and (aQ (ha pins s σ H _ I h) λc s1 ⟨H1,I1,q1⟩=>?_);cases c with
 |true=>exact hb wh pins s1 σ H1 Q I1 q1
 |false=>exact⟨H1,I1,q1⟩
def KU (ha:PT X a tA)(hb:PW X (.BoolOp .Or (b::rest) pos) tB'):PW X (.BoolOp .Or (a::b::rest) pos) (iz tA tB'):=by
 intro wh pins s σ H Q I h;refine isTrue_or (aQ (ha pins s σ H _ I h) λc s1 ⟨H1,I1,q1⟩=>?_);cases c with
 |true=>exact⟨H1,I1,q1⟩
 |false=>exact hb wh pins s1 σ H1 Q I1 q1
def H8 (ha:PT X a tA):PT X (.UnaryOp .Not a pos) (dG tA):=by
 intro pins s σ H Q I h;exact isTrue_not (ha pins s σ H (λc H1=>Q (!c) H1) I h)
def KN (ta tb:TE):TE:=λσ H Q=>ta σ H λx H1=>∃c,x=.bl c/\if c=true then tb σ H1 Q else Q (.bl false) H1
def Na (ta tb:TE):TE:=λσ H Q=>ta σ H λx H1=>∃c,x=.bl c/\if c=true then Q (.bl true) H1 else tb σ H1 Q
def KH (ta:TE):TE:=λσ H Q=>ta σ H λx H1=>∃c,x=.bl c/\Q (.bl (!c)) H1
def Ig {op}{t:TE}(h:PE X a t):PE X (.BoolOp op [a] pos) t:=λpins s σ H Q I hw=>BoolOp_one (h pins s σ H Q I hw)
def Im (ha:PE X a ta)(hb:PE X (.BoolOp .And (b::rest) pos) tb):PE X (.BoolOp .And (a::b::rest) pos) (KN ta tb):=by
 intro pins s σ H Q I h;refine BoolOp_and (aQ (ha pins s σ H _ I h) λv s1 ⟨x,H1,I1,r1,q1⟩=>?_);obtain⟨c,rfl,q1⟩:=q1;cases r1;refine tqp ?_;cases c with
 |true=>exact hb pins s1 σ H1 Q I1 q1
 |false=>exact{.bl false,H1,I1,rfl,q1}
def KZ (ha:PE X a ta)(hb:PE X (.BoolOp .Or (b::rest) pos) tb):PE X (.BoolOp .Or (a::b::rest) pos) (Na ta tb):=by
 intro pins s σ H Q I h;refine BoolOp_or (aQ (ha pins s σ H _ I h) λv s1 ⟨x,H1,I1,r1,q1⟩=>?_);obtain⟨c,rfl,q1⟩:=q1;cases r1;refine tqp ?_;cases c with
 |false=>exact hb pins s1 σ H1 Q I1 q1
 |true=>exact{.bl true,H1,I1,rfl,q1}
def Ih (ha:PE X a ta):PE X (.UnaryOp .Not a pos) (KH ta):=by
 intro pins s σ H Q I h;refine UnaryOp_ (aQ (ha pins s σ H _ I h) λv s1 ⟨x,H1,I1,r1,q1⟩=>?_);obtain⟨c,rfl,q1⟩:=q1;cases r1;exact not_of (tqp {.bl (!c),H1,I1,rfl,q1})
def tIf (t:TT)(ta tb:TE):TE:=λσ H Q=>t σ H λc H1=>if c=true then ta σ H1 Q else tb σ H1 Q
def sG {c:Expr}(hc:PT X c tA)(ha:PE X a ta)(hb:PE X b tb):PE X (.IfExp c a b pos) (tIf tA ta tb):=by
 intro pins s σ H Q I h;refine wpAny_IfExp (aQ (hc pins s σ H _ I h) λd s1 ⟨H1,I1,q1⟩=>?_);cases d with
 |true=>exact ha pins s1 σ H1 Q I1 q1
 |false=>exact hb pins s1 σ H1 Q I1 q1
end
def cX (K:Ow)(H:Hp)(a:Addr)(xs:List V):Prop:=
 Rd H a (.lst xs)\/
  ∃(o:Obj) (its:Array Ox) (n:Nat),K.lookup a=some o/\o.cls=.type "list"/\o.dict=none/\o.data=.seq its n/\its.size<=sizeLine/\Vals xs its.toList
def dH (K:Ow)(H:Hp)(a:Addr)(xs:List V):Prop:=
 Rd H a (.tup xs)\/
  ∃(o:Obj) (its:Array Ox) (n:Nat),K.lookup a=some o/\o.cls=.type "tuple"/\o.data=.seq its n/\its.size<=sizeLine/\Vals xs its.toList
def N7:Ox->Option V
 |.none=>some .non
 |.bool b=>some (.bl b)
 |.int i _=>some (.int i)
 |.str x _=>some (.str x)
 |.bytes b _=>some (.byt b)
 |.float b _=>some (.flt b)
 |.ref a=>some (.ref a)
 |.type n=>some (.ty n)
 |_=>none
def RelV.abs {x:V}{u:Ox}(r:RelV x u):N7 u=some x:=by
 cases x with
 |non=>cases r;rfl
 |bl _=>cases r;rfl
 |int _=>obtain⟨t,rfl⟩:=r;rfl
 |str _=>obtain⟨t,rfl⟩:=r;rfl
 |byt _=>obtain⟨t,rfl⟩:=r;rfl
 |flt _=>obtain⟨t,rfl⟩:=r;rfl
 |ref _=>cases r;rfl
 |ty _=>cases r;rfl
def RelV.inj {x y:V}{u:Ox}(r:RelV x u)(q:RelV y u):x=y:=OD (r.abs.symm.trans q.abs)
def Vals.inj:∀{xs ys:List V}{us:List Ox},Vals xs us->Vals ys us->xs=ys
 |_,_,_,.nil,.nil=>rfl
 |_,_,_,.cons r t,.cons r' t'=>by rw[r.inj r',Vals.inj t t']
section
variable{X:Cx}{pins:List (Addr×Obj)}{σ:St}{H:Hp}{s:Oy}{a:Addr}{xs ys:List V}
def cX.of {K:Ow}(h:H a=some (.lst xs)):cX K H a xs:=.inl (.inl h)
def dH.of {K:Ow}(h:H a=some (.tup xs)):dH K H a xs:=.inl (.inl h)
def Inv.list (I:Inv X pins σ H s)(h:cX X.K H a xs):∃its:List Ox,Vals xs its/\PlainL s.heap a its.toArray/\xs.length<=sizeLine:=by
 rcases h with h|⟨o,its,n,hk,hc,hd,hs,hz,r⟩
 ·obtain⟨z,its,n,r,e⟩:=h.ok I.hok;exact{its,r,{_,n,e,rfl,rfl,rfl},z}
 ·refine{its.toList,r,{o,n,I.kIn a o hk,hc,hd,by simpa using hs},?_}
  have e:=r.length;simp only[QC] at e;omega
def Inv.tuple (I:Inv X pins σ H s)(h:dH X.K H a xs):∃its:List Ox,Vals xs its/\IsTup s.heap a its.toArray/\xs.length<=sizeLine:=by
 rcases h with h|⟨o,its,n,hk,hc,hs,hz,r⟩
 ·obtain⟨z,its,r,p⟩:=h.ok I.hok;exact⟨its,r,p,z⟩
 ·refine{its.toList,r,{o,I.kIn a o hk,hc,n,by simpa using hs},?_}
  have e:=r.length;simp only[QC] at e;omega
def Inv.list_inj (I:Inv X pins σ H s)(h:cX X.K H a xs)(h':cX X.K H a ys):xs=ys:=by
 obtain⟨its,r,⟨o,n,e,_,_,d⟩,_⟩:=I.list h;obtain⟨its',r',⟨o',n',e',_,_,d'⟩,_⟩:=I.list h';rw[e] at e';cases e';rw[d] at d';injection d' with d1 _
 have:its=its':=by simpa using congrArg Array.toList d1
 subst this;exact r.inj r'
def Inv.tuple_inj (I:Inv X pins σ H s)(h:dH X.K H a xs)(h':dH X.K H a ys):xs=ys:=by
 obtain⟨its,r,⟨o,e,_,n,d⟩,_⟩:=I.tuple h;obtain⟨its',r',⟨o',e',_,n',d'⟩,_⟩:=I.tuple h';rw[e] at e';cases e';rw[d] at d';injection d' with d1 _
 have:its=its':=by simpa using congrArg Array.toList d1
 subst this;exact r.inj r'
end
section
variable{X:Cx}{st:Stmt}{rest:List Stmt}{t u:TS}{e:Expr}{te:TE}{pos:Pos}
def C4:TS:=λD σ H=>D.nx σ H
def M8 (t u:TS):TS:=λD σ H=>t {D with nx:=u D} σ H
def Fi:lT X [] C4:=λ_ _ σ H _ I h=>wpAny_execs_nil ⟨σ,H,I,h⟩
def Bg (h1:PS X st t)(h2:lT X rest u):lT X (st::rest) (M8 t u):=by
 intro pins s σ H D I h;refine wpAny_execs_cons (aQ (h1 pins s σ H {D with nx:=u D} I h) λf s1 q=>?_)
 cases f with
 | next =>
   obtain⟨σ',H',I',q⟩:=q;exact h2 pins s1 σ' H' D I' q
 |ret v=>exact q
 |brk=>exact q
 |cont=>exact q
def Fm:PS X (.Pass pos) C4:=λ_ _ σ H _ I h=>wpAny_Pass ⟨σ,H,I,h⟩
def Inv.quiet {pins:List (Addr×Obj)}{σ:St}{H:Hp}{s:Oy}(I:Inv X pins σ H s):interactive X.env=false:=by simp[interactive,I.ok.kind]
def KI (te:TE):TS:=λD σ H=>te σ H λ_ H1=>D.nx σ H1
def mK (he:PE X e te)(hs:swapsWith e none pos.line X.env=pure false:=by rfl):PS X (.Expr e pos) (KI te):=by
 intro pins s σ H D I h;exact wpAny_Expr_any (aQ (he pins s σ H _ I h) λv s1 ⟨x,H1,I1,r1,q1⟩=>⟨σ,H1,I1,q1⟩) I.quiet hs
def M9 (te:TE):TS:=λD σ H=>te σ H D.rt
def yz (he:PE X e te):PS X (.Return (some e) pos) (M9 te):=by
 intro pins s σ H D I h;exact wpAny_Return_some (aQ (he pins s σ H _ I h) λv s1 ⟨x,H1,I1,r1,q1⟩=>⟨x,σ,H1,I1,r1,q1⟩)
def KC:TS:=λD _ H=>D.rt .non H
def Fj:PS X (.Return none pos) KC:=λ_ _ σ H _ I h=>wpAny_Return_none {.non,σ,H,I,rfl,h}
def Nd (c:TT)(t u:TS):TS:=λD σ H=>c σ H λb H1=>if b=true then t D σ H1 else u D σ H1
def KW {c:Expr}{a b:List Stmt}{tc:TT}(hc:PT X c tc)(ha:lT X a t)(hb:lT X b u):PS X (.If c a b pos) (Nd tc t u):=by
 intro pins s σ H D I h;refine wpAny_If (aQ (hc pins s σ H _ I h) λd s1 ⟨H1,I1,q1⟩=>?_);cases d with
 |true=>exact ha pins s1 σ H1 D I1 q1
 |false=>exact hb pins s1 σ H1 D I1 q1
end
abbrev TG:=V->St->Hp->(St->Hp->Prop)->Prop
abbrev pA:=List V->St->Hp->(St->Hp->Prop)->Prop
def PG (X:Cx)(target:Expr)(t:TG):Prop:=
 ∀(pins:List (Addr×Obj)) (s:Oy) (σ:St) (H:Hp) (v:V) (u:Ox) (Q:St->Hp->Prop),Inv X pins σ H s->RelV v u->t v σ H Q->
  wpAny (model X.prog X.w) X.A (assign target X.env u) (λ_ s'=>∃σ' H',Inv X pins σ' H' s'/\Q σ' H') X.xe s
def uu (X:Cx)(ts:List Expr)(t:pA):Prop:=
 ∀(pins:List (Addr×Obj)) (s:Oy) (σ:St) (H:Hp) (vs:List V) (us:List Ox) (Q:St->Hp->Prop),Inv X pins σ H s->Vals vs us->t vs σ H Q->
  wpAny (model X.prog X.w) X.A (assignInOrder ((assignEach ts X.env).map (·.2)) us) (λ_ s'=>∃σ' H',Inv X pins σ' H' s'/\Q σ' H') X.xe s
abbrev w9:=V->V->V->Hp->(Hp->Prop)->Prop
def Cy (X:Cx)(t:w9):Prop:=
 ∀(pins:List (Addr×Obj)) (s:Oy) (σ:St) (H:Hp) (o i v:V) (ov iv u:Ox) (Q:Hp->Prop),Inv X pins σ H s->RelV o ov->RelV i iv->RelV v u->t o i v H Q->
  wpAny (model X.prog X.w) X.A (setItem ov iv u) (λ_ s'=>∃H',Inv X pins σ H' s'/\Q H') X.xe s
section
variable{X:Cx}{pos:Pos}
def Lv (i:Nat):TG:=λv σ H Q=>Q (σ.set i (some v)) H
def pK {i:Nat}{x:Str}(hN:X.N.Nodup)(hi:X.N[i]?=some x)(hx:Loc X.env.scope x)(hf:X.fn x=true\/X.env.scope.names.lookup x=some .local:=by first|exact .inl rfl|exact .inr rfl|assumption):PG X (.Name x pos) (Lv i):=by
 intro pins s σ H v u Q I r h;exact wpAny_assign_Name (AS I hN hi hx r (λs' I'=>{_,H,I',h}) hf)
def ah:pA:=λvs σ H Q=>vs=[]/\Q σ H
def ae (t:TG)(u:pA):pA:=λvs σ H Q=>∃v r,vs=v::r/\t v σ H λσ' H'=>u r σ' H' Q
def uS:uu X [] ah:=by
 intro pins s σ H vs us Q I r h;obtain⟨e,h⟩:=h;subst e;cases r;exact assignInOrder_nil ⟨σ,H,I,h⟩
def nI {e:Expr}{es:List Expr}{t:TG}{u:pA}(h1:PG X e t)(h2:uu X es u)
 (hs:(assignEach (e::es) X.env).map (·.2)=assign e X.env::(assignEach es X.env).map (·.2):=by rfl):uu X (e::es) (ae t u):=by
 intro pins s σ H vs us Q I r h;obtain⟨v,vr,e1,h⟩:=h;subst e1;cases r with
 | cons r rr =>
   rw[hs];refine assignInOrder_cons (aQ (h1 pins s σ H _ _ _ I r h) λ_ s1 ⟨σ1,H1,I1,q1⟩=>?_);exact h2 pins s1 σ1 H1 _ _ Q I1 rr q1
def bj (K:Ow)(n:Nat)(t:pA):TG:=λv σ H Q=>∃a xs,v=.ref a/\dH K H a xs/\xs.length=n/\t xs σ H Q
def sE {es:List Expr}{k:Nat}{t:pA}{n:Nat}(hc:X.calm=true)(h:uu X es t)
 (hn:(assignEach es X.env).length=n:=by rfl) (hst:(assignEach es X.env).findIdx? (·.1)=none:=by rfl):PG X (.Tuple es k pos) (bj X.K n t):=by
 intro pins s σ H v u Q I r hw;obtain⟨a,xs,e1,hq,hl,hw⟩:=hw;subst e1;cases r;obtain⟨its,rv,ht,hz⟩:=I.tuple hq;refine assign_Tuple_tuple (I.ok.hd hc) ht (by simp[hn,<- hl,rv.length]) hst λh' hx=>?_
 have I1:Inv X pins σ H {s with heap:=h'}:=I.kept (t':=s.toks) λb o e=>hx b o (Pm (OS e)) e
 exact h pins _ σ H xs _ Q I1 (by simpa using rv) hw
def NQ (to ti:TE)(t:w9):TG:=λv σ H Q=>to σ H λo H1=>ti σ H1 λi H2=>t o i v H2 λH3=>Q σ H3
def yE {o i:Expr}{to ti:TE}{t:w9}(ho:PE X o to)(hi:PE X i ti)(hs:Cy X t)
 (ha:∀v,assign (.Subscript o i pos) X.env v=(do
  let ov <- holding [v] (eval o X.env)
  let iv <- holding [v,ov] (eval i X.env)
  standAt pos
  holding [v,ov,iv] (setItem ov iv v)
  release [v,ov,iv] []):=by intro _;rfl):PG X (.Subscript o i pos) (NQ to ti t):=by
 intro pins s σ H v u Q I r h;rw[ha];refine tqa (tqo (aQ (ho pins s σ H _ I h) λov s1 ⟨x,H1,I1,r1,q1⟩=>?_));refine tqa (tqo (aQ (hi pins s1 σ H1 _ I1 q1) λiv s2 ⟨y,H2,I2,r2,q2⟩=>?_));refine tqa (wpAny_standAt (tqa (tqo (aQ (hs pins s2 σ H2 x y v ov iv u _ I2 r1 r2 r q2) λ_ s3 ⟨H3,I3,q3⟩=>?_))));exact wpAny_release ⟨σ,H3,I3,q3⟩
def Nh (te:TE)(g:TG):TS:=λD σ H=>te σ H λx H1=>g x σ H1 D.nx
def oy {tg e:Expr}{te:TE}{g:TG}(he:PE X e te)(hg:PG X tg g)(hs:swapsWithSole [tg] e pos.line X.env=pure false:=by rfl)(hw:swappedStores [tg] e X.env=pure none:=by rfl)
 (h1:(assignEach [tg] X.env).map (·.2)=[assign tg X.env]:=by rfl):PS X (.Assign [tg] e pos) (Nh te g):=by
 intro pins s σ H D I h;refine wpAny_Assign_stores (aQ (he pins s σ H _ I h) λv s1 ⟨x,H1,I1,r1,q1⟩=>?_) hs hw;rw[h1];exact aQ (hg pins s1 σ H1 x v _ I1 r1 q1) λ_ s2 q=>q
end
section
variable{X:Cx}{pos:Pos}
def Hg (c:TT)(tb:TS):TS:=λD σ H=>∃W:Nat->St->Hp->Prop,(∃m,W m σ H)/\∀m σ H,W m σ H->
 c σ H λb H1=>if b=true then ∃N:St->Hp->Prop,(∀σ' H',N σ' H'->∃m',m'<m/\W m' σ' H')/\tb {D with nx:=N,ct:=N,bk:=D.nx} σ H1 else D.nx σ H1
def Bh {c:Expr}{body:List Stmt}{tc:TT}{tb:TS}(hp:PassesOwn (model X.prog X.w) X.A X.env X.xe)(hc:PT X c tc)(hb:lT X body tb):PS X (.While c body [] pos) (Hg tc tb):=by
 intro pins s σ H D I h;obtain⟨W,⟨m0,w0⟩,turn⟩:=h;refine wpAny_While (codeAny_whileLoop (λn s'=>∃σ' H',Inv X pins σ' H' s'/\W n σ' H') ?_ m0 ⟨σ,H,I,w0⟩);rintro n s1 ⟨σ1,H1,I1,w1⟩;refine wpAny_passesOwn hp (aQ (hc pins s1 σ1 H1 _ I1 (turn n σ1 H1 w1)) λb s2 ⟨H2,I2,q2⟩=>?_);cases b with
 | true =>
   obtain⟨N,hN,q2⟩:=q2;rw[if_pos rfl];refine wpAny_passesOwn hp (aQ (hb pins s2 σ1 H2 _ I2 q2) λf s3 q3=>?_);cases f with
   | next =>
     obtain⟨σ3,H3,I3,n3⟩:=q3;obtain⟨m',hm,w3⟩:=hN σ3 H3 n3;exact⟨m',hm,σ3,H3,I3,w3⟩
   | cont =>
     obtain⟨σ3,H3,I3,n3⟩:=q3;obtain⟨m',hm,w3⟩:=hN σ3 H3 n3;exact⟨m',hm,σ3,H3,I3,w3⟩
   |brk=>exact q3
   |ret v=>exact q3
 | false =>
   rw[if_neg OR];exact wpAny_execs_nil ⟨σ1,H2,I2,q2⟩
end
structure It where
 go:Nat->Hp->Prop
 yld:Nat->Hp->V->Hp->Prop
 stop:Nat->Hp->Prop
def fG (X:Cx)(pins:List (Addr×Obj))(H:Hp)(b:Addr):Prop:=
 H b=none/\b≠X.env.locals/\b∉X.fs/\(b∈X.ex\/X.s₀.heap.objs.size<=b)/\(∀x c,X.env.cells.lookup x=some c->c≠b)/\∀p∈X.pn++pins,p.1≠b
def Inv.fpOk {X:Cx}{pins:List (Addr×Obj)}{σ:St}{H H':Hp}{s:Oy}{b:Addr}(I:Inv X pins σ H s)(hb:s.heap.objs.size<=b)(hn:H' b=none):fG X pins H' b:=by
 refine{hn,PM (O1 I.lt hb),I.nofs hb,.inr (OZ I.sz hb),λx c e z=>?_,λp hp z=>?_}
 ·obtain⟨v,q⟩:=I.cell x c e;exact absurd (O1 q.lt (by rw[z];exact hb)) (P5 _)
 ·exact absurd (O1 (OS (I.pin p hp).1) (by rw[z];exact hb)) (P5 _)
structure Turn (P:O2) (w:O9) (K:Ow) (tg:Expr) (J:It) (fp:List Addr) (it:Addr) (tn:Nat->Heap->Prop):Prop where
 mem:it∈fp
 obj:∀i h,tn i h->∀b∈fp,∃o,h.get? b=some o/\∀v,o.data≠.cell v
 keep:∀i h h',tn i h->(∀b∈fp,∀o,h.get? b=some o->h'.get? b=some o)->tn i h'
 item:∀(X:Cx),X.prog=P->X.w=w->X.K=K->X.calm=true->∀(i:Nat) (pins:List (Addr×Obj)) (s:Oy) (σ:St) (H:Hp) (E:Ox->Oy->Prop),Inv X pins σ H s->(∀b∈fp,fG X pins H b)->tn i s.heap->J.go i H->
  wpAny (model P w) X.A (pyNext (.ref it)) (λr s1=>∃u,r=some u/\
   wpAny (model P w) X.A (letOwnedTupleGo tg (.ref it) u) (λ_ s2=>∃x H',Inv X pins σ H' s2/\RelV x u/\J.yld i H x H'/\tn (i+1) s2.heap/\∀b∈fp,H' b=none) E s1) E s
 done:∀(X:Cx),X.prog=P->X.w=w->X.K=K->X.calm=true->∀(i:Nat) (pins:List (Addr×Obj)) (s:Oy) (σ:St) (H:Hp) (E:Ox->Oy->Prop),Inv X pins σ H s->(∀b∈fp,fG X pins H b)->tn i s.heap->J.stop i H->
  wpAny (model P w) X.A (pyNext (.ref it)) (λr s1=>r=none/\Inv X pins σ H s1) E s
 self:∀(A:PR) (i:Nat) (s:Oy) (Q:Ox->Oy->Prop) (E:Ox->Oy->Prop),tn i s.heap->Q (.ref it) s->wpAny (model P w) A (pyIter (.ref it)) Q E s
abbrev TI:=St->Hp->(It->Hp->Prop)->Prop
def Eb (X:Cx)(pins:List (Addr×Obj))(σ:St)(tg:Expr)(R:It->Hp->Prop)(itv:Ox)(s2:Oy):Prop:=
 ∃(it:Addr) (fp:List Addr) (tn:Nat->Heap->Prop) (J:It) (H':Hp),itv=.ref it/\Inv X pins σ H' s2/\Turn X.prog X.w X.K tg J fp it tn/\tn 0 s2.heap/\(∀b∈fp,fG X pins H' b)/\R J H'
def PI (X:Cx)(tg iter:Expr)(wi:TI):Prop:=
 ∀(pins:List (Addr×Obj)) (s:Oy) (σ:St) (H:Hp) (R:It->Hp->Prop),Inv X pins σ H s->wi σ H R->
  wpAny (model X.prog X.w) X.A (eval iter X.env) (λv s1=>wpAny (model X.prog X.w) X.A (pyIter v) (Eb X pins σ tg R) X.xe s1) X.xe s
def oS {M:Model}{A:PR}{E:Ox->Oy->Prop}{s:Oy}{tg:Expr}{it:Addr}{u:Ox}{o:Obj}{n:String}{vs:Array Ox}{Q:Unit->Oy->Prop}(ho:s.heap.get? it=some o)(hc:o.cls=.type n)(hd:o.data=.fields vs)
 (hn:["enumerate","zip","dict_itemiterator","dict_reverseitemiterator","odict_iterator","itertools.zip_longest","itertools.pairwise"].contains n=false) (hQ:Q () s):wpAny M A (letOwnedTupleGo tg (.ref it) u) Q E s:=by
 unfold letOwnedTupleGo;cases tg<;>first
  |exact tqb hQ
  |(cases u<;>first
   |exact tqb hQ
   | (refine tqa (wpAny_load ho ?_)
      rw[hc,hd];show wpAny M A (if (["enumerate","zip","dict_itemiterator","dict_reverseitemiterator","odict_iterator","itertools.zip_longest","itertools.pairwise"].contains n&&vs[0]?==some (rawInt _))=true then _ else _) Q E s;rw[if_neg (by intro h;rw[hn,Bool.false_and] at h;cases h)]
      exact tqb hQ))
def Kr (K:Ow)(a:Addr):It:=
 {λi H=>∃xs x,cX K H a xs/\xs[i]?=some x,λi H x H'=>H'=H/\∀xs,cX K H a xs->xs[i]?=some x,λi H=>∃xs,cX K H a xs/\xs.length<=i}
def Kq (K:Ow)(a:Addr):It:=
 {λi H=>∃xs x,dH K H a xs/\xs[i]?=some x,λi H x H'=>H'=H/\∀xs,dH K H a xs->xs[i]?=some x,λi H=>∃xs,dH K H a xs/\xs.length<=i}
def Ac (lo:Int)(n:Nat):It:={λi _=>i<n,λi H x H'=>H'=H/\x=.int (lo+i),λi _=>n<=i}
def xN {P:O2}{w:O9}{K:Ow}{tg:Expr}(a it:Addr):Turn P w K tg (Kr K a) [it] it (λi h=>h.IsListIter it a i) where
 mem:=`s
 obj:=λi h st b hb=>by
  have e:b=it:=by simpa using hb
  subst e;obtain⟨o,e,c,d⟩:=st;exact{o,e,λv z=>by rw[d] at z;cases z}
 keep:=λi h h' st k=>st.at λo e=>k it `s o e
 item:=by
  intro X hP hw hK hc i pins s σ H E I hf st hg;subst hP hw hK;obtain⟨xs,x,hq,hx⟩:=hg;obtain⟨its,rv,p,hz⟩:=I.list hq;obtain⟨u,hu,ru⟩:=rv.get hx;obtain⟨f0,f1,f2,f3,f4,f5⟩:=hf it `s
  refine wpAny_pyNext_list_item st p.isList (x:=u) (by simpa using hu) λh' st' sb=>?_
  have I1:Inv X pins σ H {s with heap:=h'}:=I.turned (t':=s.toks) (λb o hb e=>(sb.2 b hb).trans e) f0 f1 f3 f4 f5
  obtain⟨o,e,c,d⟩:=id st';exact{u,rfl,oS (s:={s with heap:=h'}) e c d `d {x,H,I1,ru,{rfl,λys hy=>by rw[I.list_inj hy hq];exact hx},st',λb hb=>(hf b hb).1}}
 done:=by
  intro X hP hw hK hc i pins s σ H E I hf st hg;subst hP hw hK;obtain⟨xs,hq,hx⟩:=hg;obtain⟨its,rv,p,hz⟩:=I.list hq;obtain⟨f0,f1,f2,f3,f4,f5⟩:=hf it `s
  have hl:=rv.length;exact wpAny_pyNext_list_end (I.ok.hd hc) st p.isList `o λh' eb=>{rfl,I.turned (t':=s.toks) (λb o hb e=>eb b o hb e) f0 f1 f3 f4 f5}
 self:=λ_ _ _ _ _ st h=>wpAny_pyIter_listiter st h
def vL {P:O2}{w:O9}{K:Ow}{tg:Expr}(a it:Addr):Turn P w K tg (Kq K a) [it] it (λi h=>h.IsTupleIter it a i) where
 mem:=`s
 obj:=λi h st b hb=>by
  have e:b=it:=by simpa using hb
  subst e;obtain⟨o,e,c,d⟩:=st;exact{o,e,λv z=>by rw[d] at z;cases z}
 keep:=λi h h' st k=>st.at λo e=>k it `s o e
 item:=by
  intro X hP hw hK hc i pins s σ H E I hf st hg;subst hP hw hK;obtain⟨xs,x,hq,hx⟩:=hg;obtain⟨its,rv,p,hz⟩:=I.tuple hq;obtain⟨u,hu,ru⟩:=rv.get hx;obtain⟨f0,f1,f2,f3,f4,f5⟩:=hf it `s
  refine wpAny_pyNext_tuple_item st (show s.heap.IsTuple a its.toArray from p) (x:=u) (by simpa using hu) λh' st' sb=>?_
  have I1:Inv X pins σ H {s with heap:=h'}:=I.turned (t':=s.toks) (λb o hb e=>(sb.2 b hb).trans e) f0 f1 f3 f4 f5
  obtain⟨o,e,c,d⟩:=id st';exact{u,rfl,oS (s:={s with heap:=h'}) e c d `d {x,H,I1,ru,{rfl,λys hy=>by rw[I.tuple_inj hy hq];exact hx},st',λb hb=>(hf b hb).1}}
 done:=by
  intro X hP hw hK hc i pins s σ H E I hf st hg;subst hP hw hK;obtain⟨xs,hq,hx⟩:=hg;obtain⟨its,rv,p,hz⟩:=I.tuple hq;obtain⟨f0,f1,f2,f3,f4,f5⟩:=hf it `s
  have hl:=rv.length;exact wpAny_pyNext_tuple_end (I.ok.hd hc) st (show s.heap.IsTuple a its.toArray from p) `o λh' eb=>{rfl,I.turned (t':=s.toks) (λb o hb e=>eb b o hb e) f0 f1 f3 f4 f5}
 self:=λ_ _ _ _ _ st h=>wpAny_pyIter_tupleiter st h
def vM {P:O2}{w:O9}{K:Ow}{tg:Expr}(it:Addr)(lo:Int)(n:Nat):Turn P w K tg (Ac lo n) [it] it (λi h=>IsRangeIter h it (lo+(i:Nat)*1) ((n:Int)-(i:Nat)) 1) where
 mem:=`s
 obj:=λi h st b hb=>by
  have e:b=it:=by simpa using hb
  subst e;exact{_,st,λv z=>by
   have z':Data.fields _=Data.cell v:=z;cases z'}
 keep:=λi h h' st k=>k it `s _ st
 item:=by
  intro X hP hw hK hc i pins s σ H E I hf st hg;subst hP hw hK;obtain⟨f0,f1,f2,f3,f4,f5⟩:=hf it `s
  have W:=Walks.range (prog:=X.prog) (w:=X.w) (I.ok.hd hc) it lo 1 n;refine W.item i s _ _ hg st λv h' tk hv st' kk=>?_;obtain⟨t,rfl⟩:=hv;have I1:Inv X pins σ H {s with heap:=h',toks:=tk}:=I.turned (λb o hb e=>kk b o (by simpa using hb) e) f0 f1 f3 f4 f5
  refine{_,rfl,oS (s:={s with heap:=h',toks:=tk}) (n:="range_iterator") st' rfl rfl `d {.int (lo+i),H,I1,{t,?_},⟨rfl,rfl⟩,st',λb hb=>(hf b hb).1}}
  rw[Int.mul_one]
 done:=by
  intro X hP hw hK hc i pins s σ H E I hf st hg;subst hP hw hK;obtain⟨f0,f1,f2,f3,f4,f5⟩:=hf it `s
  exact wpAny_pyNext_range_end (I.ok.hd hc) st (by have:n<=i:=hg;omega) λh' eb=>{rfl,I.turned (t':=s.toks) (λb o hb e=>eb b o hb e) f0 f1 f3 f4 f5}
 self:=λ_ _ _ _ _ st h=>wpAny_pyIter_rangeiter st h
section
variable{X:Cx}{tg:Expr}
def Lu (K:Ow)(tl:TE):TI:=λσ H R=>tl σ H λx H1=>∃a,x=.ref a/\(∃xs,cX K H1 a xs)/\R (Kr K a) H1
def NP (K:Ow)(tl:TE):TI:=λσ H R=>tl σ H λx H1=>∃a,x=.ref a/\(∃xs,dH K H1 a xs)/\R (Kq K a) H1
def Fs {l:Expr}{tl:TE}(hl:PE X l tl):PI X tg l (Lu X.K tl):=by
 intro pins s σ H R I h;refine aQ (hl pins s σ H _ I h) λv s1 ⟨x,H1,I1,r1,q1⟩=>?_;obtain⟨a,e,⟨xs,hq⟩,q⟩:=q1;subst e;cases r1;obtain⟨its,rv,p,hz⟩:=I1.list hq;refine wpAny_pyIter_list p.isList ?_;refine{s1.heap.objs.size,[s1.heap.objs.size],_,_,H1,rfl,I1.kept (t':=s1.toks) λb o e=>OA _ e,xN a _,{_,OJ _ rfl,rfl,rfl},λb hb=>?_,q};have e:b=s1.heap.objs.size:=by simpa using hb
 subst e;exact I1.fpOk (OC _) (I1.hok.fresh (OC _))
def Ib {l:Expr}{tl:TE}(hl:PE X l tl):PI X tg l (NP X.K tl):=by
 intro pins s σ H R I h;refine aQ (hl pins s σ H _ I h) λv s1 ⟨x,H1,I1,r1,q1⟩=>?_;obtain⟨a,e,⟨xs,hq⟩,q⟩:=q1;subst e;cases r1;obtain⟨its,rv,p,hz⟩:=I1.tuple hq;refine wpAny_pyIter_tuple (show s1.heap.IsTuple a its.toArray from p) ?_;refine{s1.heap.objs.size,[s1.heap.objs.size],_,_,H1,rfl,I1.kept (t':=s1.toks) λb o e=>OA _ e,vL a _,{_,OJ _ rfl,rfl,rfl},λb hb=>?_,q};have e:b=s1.heap.objs.size:=by simpa using hb
 subst e;exact I1.fpOk (OC _) (I1.hok.fresh (OC _))
def sq {pins:List (Addr×Obj)}{σ:St}{H:Hp}{s:Oy}{R:It->Hp->Prop}{E:Ox->Oy->Prop}{lo hi:Int}{t u v:Tok}{tk:Nat}(I:Inv X pins σ H s)(h1:-(2^62)<=lo)(h2:lo<2^62)(h3:-(2^62)<=hi)(h4:hi<2^62)
 (q:R (Ac lo (hi-lo).toNat) H):wpAny (model X.prog X.w) X.A (pyIter (.ref s.heap.objs.size)) (Eb X pins σ tg R) E {s with heap:=s.heap.push {cls:=.type "range",data:=.fields #[.int lo t,.int hi u,.int 1 v]},toks:=tk}:=by
 refine wpAny_pyIter_range (IsRange.new ..) (small_one h1 h2 h3 h4) ?_;have I1:Inv X pins σ H {s with heap:=s.heap.push {cls:=.type "range",data:=.fields #[.int lo t,.int hi u,.int 1 v]},toks:=tk}:=I.kept λb o e=>OA _ e
 refine{(s.heap.push {cls:=.type "range",data:=.fields #[.int lo t,.int hi u,.int 1 v]}).objs.size,[(s.heap.push {cls:=.type "range",data:=.fields #[.int lo t,.int hi u,.int 1 v]}).objs.size],_,_,H,rfl,
  I1.kept (t':=tk) λb o e=>OA _ e,vM _ lo (hi-lo).toNat,?_,λb hb=>?_,q}
 ·have e1:lo+((0:Nat):Int)*1=lo:=`s
  have e2:(((hi-lo).toNat:Nat):Int)-((0:Nat):Int)=Builtin.Range.rangeSize lo hi 1:=by rw[rangeSize_one];split<;>omega
  show IsRangeIter _ _ (lo+((0:Nat):Int)*1) ((((hi-lo).toNat:Nat):Int)-((0:Nat):Int)) 1;rw[e1,e2];exact OJ _ rfl
 ·have e:b=(s.heap.push {cls:=.type "range",data:=.fields #[.int lo t,.int hi u,.int 1 v]}).objs.size:=by simpa using hb
  subst e;exact I1.fpOk (OC _) (I1.hok.fresh (OC _))
def Lr (ta:TA):TI:=λσ H R=>ta σ H λvs H1=>∃j:Int,vs=[.int j]/\-(2^62)<=j/\j<2^62/\R (Ac 0 j.toNat) H1
def Lq (ta:TA):TI:=λσ H R=>ta σ H λvs H1=>∃i j:Int,vs=[.int i,.int j]/\(-(2^62)<=i/\i<2^62/\-(2^62)<=j/\j<2^62)/\R (Ac i (j-i).toNat) H1
def yD {a:Expr}{ta:TA}{p pos:Pos}(hg:Gl X "range")(hm:X.mg "range"=none)(ha:PA X [a] ta)(hs:starEach [a] X.env=[(false,eval a X.env)]:=by rfl):PI X tg (.Call (.Name "range" p) [a] [] pos) (Lr ta):=by
 intro pins s σ H R I h;refine Call_ (gZ I hg hm boot_range (PU (aQ (ha pos pins s σ H _ I h) λus s1 ⟨vs,H1,I1,r1,q1⟩=>?_) hs rfl));obtain⟨j,e,q1,q2,q⟩:=q1;subst e;cases r1 with
 | cons r rr =>
   cases rr;obtain⟨t,rfl⟩:=r;exact call_range_1 (sq I1 `a `a q1 q2 (by simpa using q))
def yC {a b:Expr}{ta:TA}{p pos:Pos}(hg:Gl X "range")(hm:X.mg "range"=none)(ha:PA X [a,b] ta)(hs:starEach [a,b] X.env=[(false,eval a X.env),(false,eval b X.env)]:=by rfl)(hs2:starEach [b] X.env=[(false,eval b X.env)]:=by rfl) :
 PI X tg (.Call (.Name "range" p) [a,b] [] pos) (Lq ta):=by
 intro pins s σ H R I h;refine Call_ (gZ I hg hm boot_range (PU (aQ (ha pos pins s σ H _ I h) λus s1 ⟨vs,H1,I1,r1,q1⟩=>?_) (by rw[hs,hs2]) (by rw[hs2];rfl)))
 obtain⟨i,j,e,⟨q1,q2,q3,q4⟩,q⟩:=q1;subst e;cases r1 with
 | cons r rr =>
   cases rr with
   | cons r' rr =>
     cases rr;obtain⟨t,rfl⟩:=r;obtain⟨t',rfl⟩:=r';exact call_range_2 (sq I1 q1 q2 q3 q4 q)
def Nf (wi:TI)(g:TG)(tb:TS):TS:=λD σ H=>wi σ H λJ H1=>∃W:Nat->Nat->St->Hp->Prop,(∃m,W 0 m σ H1)/\∀i m σ H,W i m σ H->
 (J.stop i H/\D.nx σ H)\/(J.go i H/\∃N:St->Hp->Prop,(∀σ' H',N σ' H'->∃m',m'<m/\W (i+1) m' σ' H')/\∀x H',J.yld i H x H'->g x σ H' λσ2 H2=>tb {D with nx:=N,ct:=N,bk:=D.nx} σ2 H2)
def oz (fp:List Addr)(h:Heap):List (Addr×Obj):=fp.filterMap λb=>(h.get? b).map λo=>(b,o)
def i3 {fp:List Addr}{h:Heap}{b:Addr}{o:Obj}(hb:b∈fp)(e:h.get? b=some o):(b,o)∈oz fp h:=List.mem_filterMap.mpr {b,hb,by rw[e];rfl}
def yN {fp:List Addr}{h:Heap}{p:Addr×Obj}(hp:p∈oz fp h):p.1∈fp/\h.get? p.1=some p.2:=by
 obtain⟨b,hb,e⟩:=List.mem_filterMap.mp hp;cases q:h.get? b with
 |none=>rw[q] at e;cases e
 | some o =>
   rw[q] at e;have e':(b,o)=p:=OD e;subst e';exact⟨hb,q⟩
def Inv.pinned {pins:List (Addr×Obj)}{σ:St}{H:Hp}{s:Oy}{fp:List Addr}(I:Inv X pins σ H s)(hf:∀b∈fp,fG X pins H b)(ho:∀b∈fp,∃o,s.heap.get? b=some o/\∀v,o.data≠.cell v):Inv X (pins++oz fp s.heap) σ H s:=
 I.pins_of λp hp=>(Pk.mp hp).elim (λz=>I.pin p (Pd _ z)) λz=>by
  obtain⟨hb,e⟩:=yN z;obtain⟨f0,f1,f2,_⟩:=hf p.1 hb;obtain⟨o,e',d⟩:=ho p.1 hb;rw[e] at e';cases e';exact⟨e,f0,f1,f2,d⟩
def Inv.unpinned {pins pl:List (Addr×Obj)}{σ:St}{H:Hp}{s:Oy}(I:Inv X (pins++pl) σ H s):Inv X pins σ H s:=I.pins_of λp hp=>I.pin p (Pd _ (Pt _ hp))
def H9 {iter:Expr}{body:List Stmt}{wi:TI}{g:TG}{tb:TS}{pos:Pos}(hp:PassesOwn (model X.prog X.w) X.A X.env X.xe)(hc:X.calm=true)(hi:PI X tg iter wi)(hg:PG X tg g)(hb:lT X body tb)
 (hs:∀x,foldedSetIterable iter X.env x=pure x:=by intro _;rfl):PS X (.For tg iter body [] pos) (Nf wi g tb):=by
 intro pins s σ H D I h;refine wpAny_For (aQ (hi pins s σ H _ I h) λv s1 h1=>aQ h1 λitv s2 h2=>?_) hs;obtain⟨it,fp,tn,J,H2,e,I2,T,st2,f2,W,⟨m0,w0⟩,turn⟩:=h2;subst e;have stat:∀{H':Hp},(∀b∈fp,H' b=none)->∀b∈fp,fG X pins H' b:=λhn b hb=>{hn b hb,(f2 b hb).2};refine codeAny_forLoop_any (λn s'=>∃i σ' H',Inv X pins σ' H' s'/\tn i s'.heap/\(∀b∈fp,H' b=none)/\W i n σ' H') ?_ m0 {0,σ,H2,I2,st2,λb hb=>(f2 b hb).1,w0};rintro n s3 ⟨i,σ3,H3,I3,st3,fr3,w3⟩;rcases turn i n σ3 H3 w3 with⟨stop,qn⟩|⟨go,N,hN,step⟩
 ·refine wpAny_passesOwn hp (aQ (T.done X rfl rfl rfl hc i pins s3 σ3 H3 X.xe I3 (stat fr3) st3 stop) λr s4 ⟨hr,I4⟩=>?_);subst hr;exact wpAny_execs_nil ⟨σ3,H3,I4,qn⟩
 ·refine wpAny_passesOwn hp (aQ (T.item X rfl rfl rfl hc i pins s3 σ3 H3 X.xe I3 (stat fr3) st3 go) λr s4 ⟨u,hr,h4⟩=>?_);subst hr;refine wpAny_passesOwn hp (aQ h4 λ_ s5 ⟨x,H5,I5,r5,y5,st5,fr5⟩=>?_);have I5':=I5.pinned (stat fr5) (T.obj _ _ st5);refine wpAny_passesOwn hp (aQ (hg _ s5 σ3 H5 x u _ I5' r5 (step x H5 y5)) λ_ s6 ⟨σ6,H6,I6,q6⟩=>?_);refine wpAny_passesOwn hp (aQ (hb _ s6 σ6 H6 _ I6 q6) λf s7 q7=>?_);have again:∀{σ7:St}{H7:Hp},Inv X (pins++oz fp s5.heap) σ7 H7 s7->N σ7 H7->∃m,m<n/\∃i σ' H',Inv X pins σ' H' s7/\tn i s7.heap/\(∀b∈fp,H' b=none)/\W i m σ' H':=λ{σ7 H7} I7 n7=>by
   obtain⟨m',hm,w7⟩:=hN σ7 H7 n7;refine{m',hm,i+1,σ7,H7,I7.unpinned,T.keep _ _ _ st5 λb hb o e=>(I7.pin (b,o) (Pd _ (Pd _ (i3 hb e)))).1,λb hb=>?_,w7};obtain⟨o,e,d⟩:=T.obj _ _ st5 b hb;exact(I7.pin (b,o) (Pd _ (Pd _ (i3 hb e)))).2.1
  cases f with
  |next=>obtain⟨σ7,H7,I7,n7⟩:=q7;exact again I7 n7
  |cont=>obtain⟨σ7,H7,I7,n7⟩:=q7;exact again I7 n7
  |brk=>obtain⟨σ7,H7,I7,q7⟩:=q7;exact⟨σ7,H7,I7.unpinned,q7⟩
  |ret v=>obtain⟨x7,σ7,H7,I7,r7,q7⟩:=q7;exact⟨x7,σ7,H7,I7.unpinned,r7,q7⟩
end
abbrev R2:=V->V->Hp->VK->Prop
def bE (X:Cx)(f:Ox->Ox->Sem Ox)(r:R2):Prop:=
 ∀(pins:List (Addr×Obj)) (s:Oy) (σ:St) (H:Hp) (x y:V) (v u:Ox) (Q:VK),Inv X pins σ H s->RelV x v->RelV y u->r x y H Q->
  wpAny (model X.prog X.w) X.A (f v u) (EP X pins σ Q) X.xe s
def Kk (X:Cx)(f:Ox->Sem Ox)(r:V->Hp->VK->Prop):Prop:=
 ∀(pins:List (Addr×Obj)) (s:Oy) (σ:St) (H:Hp) (x:V) (v:Ox) (Q:VK),Inv X pins σ H s->RelV x v->r x H Q->
  wpAny (model X.prog X.w) X.A (f v) (EP X pins σ Q) X.xe s
def cy (X:Cx)(f:Ox)(r:List V->Hp->VK->Prop):Prop:=
 ∀(pins:List (Addr×Obj)) (s:Oy) (σ:St) (H:Hp) (xs:List V) (us:List Ox) (Q:VK),Inv X pins σ H s->Vals xs us->r xs H Q->
  wpAny (model X.prog X.w) X.A (call f us) (EP X pins σ Q) X.xe s
def N9 (X:Cx)(r:V->Hp->(Bool->Hp->Prop)->Prop):Prop:=
 ∀(pins:List (Addr×Obj)) (s:Oy) (σ:St) (H:Hp) (x:V) (v:Ox) (Q:Bool->Hp->Prop),Inv X pins σ H s->RelV x v->r x H Q->
  wpAny (model X.prog X.w) X.A (truthy v) (TP X pins σ Q) X.xe s
def xU (r:R2)(ta tb:TE):TE:=λσ H Q=>ta σ H λx H1=>tb σ H1 λy H2=>r x y H2 Q
def tUn (r:V->Hp->VK->Prop)(ta:TE):TE:=λσ H Q=>ta σ H λx H1=>r x H1 Q
def rI (C:Int->Int->Prop)(g:Int->Int->V):R2:=λx y H Q=>∃i j,x=.int i/\y=.int j/\C i j/\Q (g i j) H
def qy (g:Int->Int->V):R2:=λx y H Q=>∃i j,x=.int i/\y=.int j/\Q (g i j) H
def rU (g:Int->V):V->Hp->VK->Prop:=λx H Q=>∃i,x=.int i/\Q (g i) H
section
variable{X:Cx}{a b c:Expr}{ta tb tc:TE}{pos:Pos}
def Cn (ha:PE X a ta)(hb:PE X b tb){pins:List (Addr×Obj)}{s:Oy}{σ:St}{H:Hp}{R:V->V->Hp->Prop}(I:Inv X pins σ H s)
 (h:ta σ H λx H1=>tb σ H1 λy H2=>R x y H2) {Q:Ox->Oy->Prop}{f:Ox->Ox->Sem Ox}
 (hf:∀v u s2 x y H2,Inv X pins σ H2 s2->RelV x v->RelV y u->R x y H2->wpAny (model X.prog X.w) X.A (f v u) Q X.xe s2) :
 wpAny (model X.prog X.w) X.A (eval a X.env) (λv s₁=>wpAny (model X.prog X.w) X.A (eval b X.env) (λu s₂=>wpAny (model X.prog X.w) X.A (f v u) Q X.xe s₂) X.xe s₁) X.xe s:=by
 refine aQ (ha pins s σ H _ I h) λv s1 ⟨x,H1,I1,r1,q1⟩=>?_;refine aQ (hb pins s1 σ H1 _ I1 q1) λu s2 ⟨y,H2,I2,r2,q2⟩=>?_;exact hf v u s2 x y H2 I2 r1 r2 q2
def K0 {op:Operator}{r:R2}(ho:bE X (binaryOp op) r)(ha:PE X a ta)(hb:PE X b tb):PE X (.BinOp a op b pos) (xU r ta tb):=by
 intro pins s σ H Q I h;exact wpAny_BinOp (Cn ha hb I h λv u s2 x y H2 I2 rx ry q=>ho pins s2 σ H2 x y v u Q I2 rx ry q)
def KY {op:UnaryOp}{r:V->Hp->VK->Prop}(ho:Kk X (unaryOp op) r)(ha:PE X a ta):PE X (.UnaryOp op a pos) (tUn r ta):=by
 intro pins s σ H Q I h;exact UnaryOp_ (aQ (ha pins s σ H _ I h) λv s1 ⟨x,H1,I1,r1,q1⟩=>ho pins s1 σ H1 x v Q I1 r1 q1)
def Dh {f:Ox->Ox->Sem Ox}{C:Int->Int->Prop}{g:Int->Int->Int}
 (rule:∀(i j:Int) (t u:Tok) (s:Oy) (Q:Ox->Oy->Prop) (E:Ox->Oy->Prop),C i j->Q (.int (g i j) s.toks) {s with toks:=s.toks+1}->wpAny (model X.prog X.w) X.A (f (.int i t) (.int j u)) Q E s) :
 bE X f (rI C λi j=>.int (g i j)):=by
 intro pins s σ H x y v u Q I rx ry h;obtain⟨i,j,rfl,rfl,hc,q⟩:=h;obtain⟨t,rfl⟩:=rx;obtain⟨t',rfl⟩:=ry;exact rule i j t t' s _ _ hc {.int (g i j),H,I.tok _,{_,rfl},q}
def IB {f:Ox->Ox->Sem Ox}{g:Int->Int->Int}
 (rule:∀(i j:Int) (t u:Tok) (s:Oy) (Q:Ox->Oy->Prop) (E:Ox->Oy->Prop),Q (.int (g i j) s.toks) {s with toks:=s.toks+1}->wpAny (model X.prog X.w) X.A (f (.int i t) (.int j u)) Q E s) :
 bE X f (qy λi j=>.int (g i j)):=by
 intro pins s σ H x y v u Q I rx ry h;obtain⟨i,j,rfl,rfl,q⟩:=h;obtain⟨t,rfl⟩:=rx;obtain⟨t',rfl⟩:=ry;exact rule i j t t' s _ _ {.int (g i j),H,I.tok _,{_,rfl},q}
def wa {f:Ox->Ox->Sem Ox}{g:Int->Int->Bool}
 (rule:∀(i j:Int) (t u:Tok) (s:Oy) (Q:Ox->Oy->Prop) (E:Ox->Oy->Prop),Q (.bool (g i j)) s->wpAny (model X.prog X.w) X.A (f (.int i t) (.int j u)) Q E s) :
 bE X f (qy λi j=>.bl (g i j)):=by
 intro pins s σ H x y v u Q I rx ry h;obtain⟨i,j,rfl,rfl,q⟩:=h;obtain⟨t,rfl⟩:=rx;obtain⟨t',rfl⟩:=ry;exact rule i j t t' s _ _ {.bl (g i j),H,I,rfl,q}
def Kv (i j:Int):Prop:=0<j/\j<1073741824
def Ku (i j:Int):Prop:=0<=j/\j<=1000000/\i.natAbs<2^64
def CB (i j:Int):Prop:=(-(2^64)<i/\i<2^64)\/(-(2^64)<j/\j<2^64)
def CB.ok {i j:Int}(h:CB i j):IntMulOk i j:=by
 rcases h with⟨h1,h2⟩|⟨h1,h2⟩
 ·exact .of_left (intBits_le_64 h1 h2)
 ·exact .of_right (intBits_le_64 h1 h2)
def Iz:bE X (binaryOp .Add) (qy λi j=>.int (i+j)):=IB λ_ _ _ _ _ _ _ q=>add_int q
def Ip:bE X (binaryOp .Sub) (qy λi j=>.int (i-j)):=IB λ_ _ _ _ _ _ _ q=>sub_int q
def Iu:bE X (binaryOp .Mult) (rI CB λi j=>.int (i*j)):=Dh λ_ _ _ _ _ _ _ hc q=>mul_int q hc.ok
def Fx:bE X (binaryOp .FloorDiv) (rI Kv λi j=>.int (i / j)):=Dh λi j _ _ _ _ _ hc q=>by
 have h1:(0:Int)<j:=hc.1;have h2:j<1073741824:=hc.2;exact floordiv_int `a (by rw[Int.fdiv_eq_ediv_of_nonneg i `a];exact q) (.inl (PyProof.noPylong_small `a))
def Iv:bE X (binaryOp .Mod) (rI (λ_ j=>0<j) λi j=>.int (i % j)):=Dh λi j _ _ _ _ _ hc q=>by
 have h1:(0:Int)<j:=hc;exact mod_int' `a (by rw[Int.fmod_eq_emod_of_nonneg i `a];exact q)
def Ir:bE X (binaryOp .Pow) (rI Ku λi j=>.int (i^j.toNat)):=Dh λ_ _ _ _ _ _ _ hc q=>pow_int_small hc.1 hc.2.1 hc.2.2 q
def unI {f:Ox->Sem Ox}{g:Int->Int}
 (rule:∀(i:Int) (t:Tok) (s:Oy) (Q:Ox->Oy->Prop) (E:Ox->Oy->Prop),Q (.int (g i) s.toks) {s with toks:=s.toks+1}->wpAny (model X.prog X.w) X.A (f (.int i t)) Q E s) :
 Kk X f (rU λi=>.int (g i)):=by
 intro pins s σ H x v Q I rx h;obtain⟨i,rfl,q⟩:=h;obtain⟨t,rfl⟩:=rx;exact rule i t s _ _ {.int (g i),H,I.tok _,{_,rfl},q}
def G0:Kk X (unaryOp .USub) (rU λi=>.int (-i)):=unI λ_ _ _ _ _ q=>neg_int q
end
def Hs:V->V->Bool
 |.non,.non=>true|.non,.int _=>true|.int _,.non=>true|.non,.bl _=>true|.bl _,.non=>true|.non,.str _=>true|.str _,.non=>true
 |.int _,.int _=>true|.bl _,.bl _=>true|.str _,.str _=>true|.byt _,.byt _=>true
 |.int _,.str _=>true|.str _,.int _=>true|.bl _,.str _=>true|.str _,.bl _=>true
 |_,_=>false
def rEq:R2:=λx y H Q=>Hs x y=true/\Q (.bl (decide (x=y))) H
def rNe:R2:=λx y H Q=>Hs x y=true/\Q (.bl (!decide (x=y))) H
def vt {i j:Int}:decide (V.int i=V.int j)=(i==j):=by
 rw[P6];simp
def zG {i j:Bool}:decide (V.bl i=V.bl j)=(i==j):=by
 rw[P6];simp
def mU {i j:Str}:decide (V.str i=V.str j)=(i==j):=by
 rw[P6];simp
def vw {i j:Array UInt8}:decide (V.byt i=V.byt j)=(i.toList==j.toList):=by
 rw[P6];cases i;cases j;simp
section
variable{X:Cx}{a b c:Expr}{ta tb tc:TE}{pos:Pos}
def bf {pins:List (Addr×Obj)}{σ:St}{H:Hp}{s:Oy}{Q:VK}{k k':Bool}(I:Inv X pins σ H s)(q:Q (.bl k) H)(e:k=k'):EP X pins σ Q (.bool k') s:=by
 subst e;exact{.bl k,H,I,rfl,q}
def Ld:bE X (compareOp .Eq) rEq:=by
 intro pins s σ H x y v u Q I rx ry h;obtain⟨hs,q⟩:=h;cases x with
 | non =>
   cases rx;cases y with
   |non=>cases ry;exact PySem.EqNone.eq_none_none (bf I q `s)
   |bl j=>cases ry;exact PySem.EqNone.eq_none_bool (bf I q `s)
   |int j=>obtain⟨t',rfl⟩:=ry;exact PySem.EqNone.eq_none_int (bf I q `s)
   |str j=>obtain⟨t',rfl⟩:=ry;exact PySem.EqNone.eq_none_str (bf I q `s)
   |_=>exact absurd (show false=true from hs) OR
 | bl i =>
   cases rx;cases y with
   |non=>cases ry;exact PySem.EqNone.eq_bool_none (bf I q `s)
   |bl j=>cases ry;exact eq_bool (bf I q zG)
   |str j=>obtain⟨t',rfl⟩:=ry;exact PySem.EqMixed.eq_bool_str (bf I q `s)
   |_=>exact absurd (show false=true from hs) OR
 | int i =>
   obtain⟨t,rfl⟩:=rx;cases y with
   |non=>cases ry;exact PySem.EqNone.eq_int_none (bf I q `s)
   |int j=>obtain⟨t',rfl⟩:=ry;exact eq_int (bf I q vt)
   |str j=>obtain⟨t',rfl⟩:=ry;exact PySem.EqMixed.eq_int_str (bf I q `s)
   |_=>exact absurd (show false=true from hs) OR
 | str i =>
   obtain⟨t,rfl⟩:=rx;cases y with
   |non=>cases ry;exact PySem.EqNone.eq_str_none (bf I q `s)
   |bl j=>cases ry;exact PySem.EqMixed.eq_str_bool (bf I q `s)
   |int j=>obtain⟨t',rfl⟩:=ry;exact PySem.EqMixed.eq_str_int (bf I q `s)
   |str j=>obtain⟨t',rfl⟩:=ry;exact eq_str (bf I q mU)
   |_=>exact absurd (show false=true from hs) OR
 | byt i =>
   obtain⟨t,rfl⟩:=rx;cases y with
   |byt j=>obtain⟨t',rfl⟩:=ry;exact PySem.W.eq_bytes (bf I q vw)
   |_=>exact absurd (show false=true from hs) OR
 |_=>cases y<;>exact absurd (show false=true from hs) OR
def K8:bE X (compareOp .NotEq) rNe:=by
 intro pins s σ H x y v u Q I rx ry h;obtain⟨hs,q⟩:=h;cases x with
 | non =>
   cases rx;cases y with
   |non=>cases ry;exact PySem.EqNone.ne_none_none (bf I q `s)
   |bl j=>cases ry;exact PySem.EqNone.ne_none_bool (bf I q `s)
   |int j=>obtain⟨t',rfl⟩:=ry;exact PySem.EqNone.ne_none_int (bf I q `s)
   |str j=>obtain⟨t',rfl⟩:=ry;exact PySem.EqNone.ne_none_str (bf I q `s)
   |_=>exact absurd (show false=true from hs) OR
 | bl i =>
   cases rx;cases y with
   |non=>cases ry;exact PySem.EqNone.ne_bool_none (bf I q `s)
   |bl j=>cases ry;exact ne_bool (bf I q (congrArg not zG))
   |str j=>obtain⟨t',rfl⟩:=ry;exact PySem.EqMixed.ne_bool_str (bf I q `s)
   |_=>exact absurd (show false=true from hs) OR
 | int i =>
   obtain⟨t,rfl⟩:=rx;cases y with
   |non=>cases ry;exact PySem.EqNone.ne_int_none (bf I q `s)
   |int j=>obtain⟨t',rfl⟩:=ry;exact ne_int (bf I q (congrArg not vt))
   |str j=>obtain⟨t',rfl⟩:=ry;exact PySem.EqMixed.ne_int_str (bf I q `s)
   |_=>exact absurd (show false=true from hs) OR
 | str i =>
   obtain⟨t,rfl⟩:=rx;cases y with
   |non=>cases ry;exact PySem.EqNone.ne_str_none (bf I q `s)
   |bl j=>cases ry;exact PySem.EqMixed.ne_str_bool (bf I q `s)
   |int j=>obtain⟨t',rfl⟩:=ry;exact PySem.EqMixed.ne_str_int (bf I q `s)
   |str j=>obtain⟨t',rfl⟩:=ry;exact ne_str (bf I q (congrArg not mU))
   |_=>exact absurd (show false=true from hs) OR
 | byt i =>
   obtain⟨t,rfl⟩:=rx;cases y with
   |byt j=>obtain⟨t',rfl⟩:=ry;exact PySem.W.ne_bytes (bf I q (congrArg not vw))
   |_=>exact absurd (show false=true from hs) OR
 |_=>cases y<;>exact absurd (show false=true from hs) OR
def K9:bE X (compareOp .Lt) (qy λi j=>.bl (decide (i<j))):=wa λ_ _ _ _ _ _ _ q=>lt_int q
def La:bE X (compareOp .LtE) (qy λi j=>.bl (decide (i<=j))):=wa λ_ _ _ _ _ _ _ q=>le_int q
def Lb:bE X (compareOp .Gt) (qy λi j=>.bl (decide (j<i))):=wa λ_ _ _ _ _ _ _ q=>gt_int q
def Lc:bE X (compareOp .GtE) (qy λi j=>.bl (decide (j<=i))):=wa λ_ _ _ _ _ _ _ q=>ge_int q
def yM:bE X (compareOp .In) (λx y H Q=>∃i j,x=.str i/\y=.str j/\Q (.bl (!(Builtin.Str.occurrences j i 0 j.length 1).isEmpty)) H):=by
 intro pins s σ H x y v u Q I rx ry h;obtain⟨i,j,rfl,rfl,q⟩:=h;obtain⟨t,rfl⟩:=rx;obtain⟨t',rfl⟩:=ry;exact in_str (bf I q rfl)
def Iw:bE X (compareOp .Is) (λx y H Q=>y=.non/\Q (.bl (decide (x=.non))) H):=by
 intro pins s σ H x y v u Q I rx ry h;obtain⟨rfl,q⟩:=h;cases ry;refine is_none_gen (bf I q ?_);cases x<;>first
  |(cases rx;rfl)
  |(obtain⟨t,rfl⟩:=rx;rfl)
def Fw:bE X (compareOp .IsNot) (λx y H Q=>y=.non/\Q (.bl (!decide (x=.non))) H):=by
 intro pins s σ H x y v u Q I rx ry h;obtain⟨rfl,q⟩:=h;cases ry;refine isnot_none_gen (bf I q ?_);cases x<;>first
  |(cases rx;rfl)
  |(obtain⟨t,rfl⟩:=rx;rfl)
def sI:bE X (compareOp .NotIn) (λx y H Q=>∃i j,x=.str i/\y=.str j/\Q (.bl (!(!(Builtin.Str.occurrences j i 0 j.length 1).isEmpty))) H):=by
 intro pins s σ H x y v u Q I rx ry h;obtain⟨i,j,rfl,rfl,q⟩:=h;obtain⟨t,rfl⟩:=rx;obtain⟨t',rfl⟩:=ry;exact notIn_str (bf I q rfl)
def pL {op:CmpOp}{r:R2}(ho:bE X (compareOp op) r)(ha:PE X a ta)(hb:PE X b tb)(hm:behindInMarks op b=false):PE X (.Compare a [op] [b] pos) (xU r ta tb):=by
 intro pins s σ H Q I h;exact wpAny_Compare1 (Cn ha hb I h λv u s2 x y H2 I2 rx ry q=>ho pins s2 σ H2 x y v u Q I2 rx ry q) hm
def C3 (t:TE):TT:=λσ H Q=>t σ H λx H'=>∃k,x=.bl k/\Q k H'
def pJ {op:CmpOp}{r:R2}(ho:bE X (compareOp op) r)(ha:PE X a ta)(hb:PE X b tb)(hm:behindInMarks op b=false):PT X (.Compare a [op] [b] pos) (C3 (xU r ta tb)):=by
 intro pins s σ H Q I h;refine wpAny_isTrue_Compare1 (aQ (ha pins s σ H _ I h) λv s1 ⟨x,H1,I1,r1,q1⟩=>aQ (hb pins s1 σ H1 _ I1 q1) λu s2 ⟨y,H2,I2,r2,q2⟩=>
  aQ (ho pins s2 σ H2 x y v u _ I2 r1 r2 q2) λc s3 ⟨z,H3,I3,r3,k,e,q3⟩=>?_) hm
 subst e;cases r3;exact tqp ⟨H3,I3,q3⟩
def rX (r r':R2)(ta tb tc:TE):TE:=λσ H Q=>ta σ H λx H1=>tb σ H1 λy H2=>r x y H2 λz H3=>∃k,z=.bl k/\
 (if k=true then tc σ H3 λw' H4=>r' y w' H4 Q else Q (.bl false) H3)
def Bn {op op':CmpOp}{r r':R2}(ho:bE X (compareOp op) r)(ho':bE X (compareOp op') r')(ha:PE X a ta)(hb:PE X b tb)(hc:PE X c tc)
 (hm:lastMarks [op,op'] [b,c]=false:=by with_unfolding_all rfl):PE X (.Compare a [op,op'] [b,c] pos) (rX r r' ta tb tc):=by
 intro pins s σ H Q I h;refine Compare_chain (aQ (ha pins s σ H _ I h) λv s1 ⟨x,H1,I1,r1,q1⟩=>chain_link (aQ (hb pins s1 σ H1 _ I1 q1) λu s2 ⟨y,H2,I2,r2,q2⟩=>
  aQ (ho pins s2 σ H2 x y v u _ I2 r1 r2 q2) λd s3 ⟨z,H3,I3,r3,k,e,q3⟩=>?_)) hm
 subst e;cases r3;refine tqp ?_;cases k with
 |false=>exact ite_ff {.bl false,H3,I3,rfl,q3}
 |true=>exact ite_tt (chain_last (aQ (hc pins s3 σ H3 _ I3 q3) λw' s4 ⟨z',H4,I4,r4,q4⟩=>ho' pins s4 σ H4 y z' u w' Q I4 r2 r4 q4))
def Bf {op op':CmpOp}{r r':R2}(ho:bE X (compareOp op) r)(ho':bE X (compareOp op') r')(ha:PE X a ta)(hb:PE X b tb)(hc:PE X c tc)
 (hm:lastMarks [op,op'] [b,c]=false:=by with_unfolding_all rfl):PT X (.Compare a [op,op'] [b,c] pos) (C3 (rX r r' ta tb tc)):=by
 intro pins s σ H Q I h;refine isTrue_chain (aQ (ha pins s σ H _ I h) λv s1 ⟨x,H1,I1,r1,q1⟩=>test_link (aQ (hb pins s1 σ H1 _ I1 q1) λu s2 ⟨y,H2,I2,r2,q2⟩=>
  aQ (ho pins s2 σ H2 x y v u _ I2 r1 r2 q2) λd s3 ⟨z,H3,I3,r3,k,e,q3⟩=>?_)) hm
 subst e;cases r3;refine tqp ?_;cases k with
 | false =>
   obtain⟨k',e',q'⟩:=q3;cases e';exact ite_ff ⟨H3,I3,q'⟩
 | true =>
   refine ite_tt (test_last (aQ (hc pins s3 σ H3 _ I3 q3) λw' s4 ⟨z',H4,I4,r4,q4⟩=>aQ (ho' pins s4 σ H4 y z' u w' _ I4 r2 r4 q4) λd' s5 ⟨z2,H5,I5,r5,k2,e2,q5⟩=>?_));subst e2;cases r5;exact tqp ⟨H5,I5,q5⟩
def Ct (K:Ow)(x:V)(H:Hp)(k:Bool):Prop:=
 match x with
 |.non=>k=false
 |.bl b=>k=b
 |.int i=>k=(i != 0)
 |.str y=>y.length<=sizeLine/\k=((y.length:Int) != 0)
 |.byt y=>y.size<=sizeLine/\k=((y.size:Int) != 0)
 |.ref p=>(∃xs,cX K H p xs/\k=!xs.isEmpty)\/(∃xs,dH K H p xs/\k=!xs.isEmpty)\/∃kvs,H p=some (.dK kvs)/\k=!kvs.isEmpty
 |_=>False
def wD {κ:Type}{kvs:List (κ×V)}{vs:List (κ×Ox)}(r:KV kvs vs):(!vs.isEmpty)=!kvs.isEmpty:=by
 cases r<;>rfl
def lB {xs:List V}{its:List Ox}(r:Vals xs its):(!its.toArray.isEmpty)=!xs.isEmpty:=by
 cases r<;>simp
def jy:(sizeLine:Nat)<2^63:=by rw[sizeLine_eq];decide
def He:N9 X (λx H Q=>∃k,Ct X.K x H k/\Q k H):=by
 intro pins s σ H x v Q I rx h;obtain⟨k,e,q⟩:=h;have hl:=jy;have hs:sizeLine=16777216:=sizeLine_eq;cases x with
 | non =>
   cases rx;have e':k=false:=e;subst e';exact truthy_none ⟨H,I,q⟩
 | bl b =>
   cases rx;have e':k=b:=e;subst e';exact tqp ⟨H,I,q⟩
 | int i =>
   obtain⟨t,rfl⟩:=rx;have e':k=(i != 0):=e;subst e';exact PySem.P.truthy_int ⟨H,I,q⟩
 | str y =>
   obtain⟨t,rfl⟩:=rx;obtain⟨hy,e'⟩:y.length<=sizeLine/\k=((y.length:Int) != 0):=e;subst e';exact PySem.P.truthy_str `a {H,I.tok _,q}
 | byt y =>
   obtain⟨t,rfl⟩:=rx;obtain⟨hy,e'⟩:y.size<=sizeLine/\k=((y.size:Int) != 0):=e;subst e';exact PySem.W.truthy_bytes `a {H,I.tok _,q}
 | ref p =>
   cases rx;have e':(∃xs,cX X.K H p xs/\k=!xs.isEmpty)\/(∃xs,dH X.K H p xs/\k=!xs.isEmpty)\/∃kvs,H p=some (.dK kvs)/\k=!kvs.isEmpty:=e;rcases e' with⟨xs,hx,e'⟩|⟨xs,hx,e'⟩|⟨kvs,hx,e'⟩
   ·subst e';obtain⟨its,r,pl,hz⟩:=I.list hx;have hlen:=r.length;exact wpAny_truthy_list pl.isList (by simp only[OH];omega) {H,I.tok _,by rw[lB r];exact q}
   ·subst e';obtain⟨its,r,pl,hz⟩:=I.tuple hx;have hlen:=r.length;exact truthy_tuple pl (by simp only[OH];omega) {H,I.tok _,by rw[lB r];exact q}
   ·subst e';obtain⟨hz,hS,vs,r,m⟩:kvs.length<=sizeLine/\(p==sysModules)=false/\∃vs,KV kvs vs/\s.heap.DictOf (kC X.prog X.w) p vs:=I.hok p _ hx;have hlen:kvs.length=vs.length:=Paired.length r;exact wpAny_truthy_dict hS m `a {H,I.tok _,by rw[wD r];exact q}
 |_=>exact(show False from e).elim
def Be (ha:PE X a ta)(he:∀whole,isTrue a X.env whole=(do let v <- whole;standAt a.pos;holding [v] (truthy v))) :
 PT X a (λσ H Q=>ta σ H λx H'=>∃k,Ct X.K x H' k/\Q k H'):=by
 intro pins s σ H Q I h;exact isTrue_plain (aQ (ha pins s σ H _ I h) λv s1 ⟨x,H1,I1,r1,q1⟩=>He pins s1 σ H1 x v Q I1 r1 q1) (he _)
def v9:bE X (binaryOp .Add) (λx y H Q=>∃i j,x=.str i/\y=.str j/\i.length+j.length<=sizeLine/\Q (.str (i++j)) H):=by
 intro pins s σ H x y v u Q I rx ry h;obtain⟨i,j,rfl,rfl,hz,q⟩:=h;obtain⟨t,rfl⟩:=rx;obtain⟨t',rfl⟩:=ry;exact add_str (λt' tk=>{.str (i++j),H,I.tok _,{_,rfl},q}) hz
def vals1 {x:V}{us:List Ox}(r:Vals [x] us):∃u,us=[u]/\RelV x u:=by
 cases r with
 |cons r1 r2=>cases r2;exact{_,rfl,r1}
def vals2 {x y:V}{us:List Ox}(r:Vals [x,y] us):∃u w',us=[u,w']/\RelV x u/\RelV y w':=by
 cases r with
 | cons r1 r2 =>
   cases r2 with
   |cons r3 r4=>cases r4;exact{_,_,rfl,r1,r3}
end
structure Cz (h:Heap) (x dx C:Addr) (mA:Str->Option Ox):Prop where
 obj:h.get? x=some (PySem.W.instObj C dx)
 ns:h.Ns1 dx mA
 ne:dx≠x
def yY {h:Heap}{dx:Addr}{mA:Str->Option Ox}(n:h.Ns1 dx mA):∃od,h.get? dx=some od/\∀name,PySem.W.lookIn name od=some (mA name):=by
 obtain⟨o,es,ep,ho,hd,hk,_,hm⟩:=n;refine{o,ho,λname=>?_};have e:=hm name;unfold nsFind findBy at e;rw[<- Array.find?_toList] at e;unfold PySem.W.lookIn;rw[hd];dsimp only;split
 ·rename_i y q;rw[q] at e;exact congrArg some e
 ·rename_i q;rw[q] at e;have a:es.toList.any (·.refKey)=false:=by
   rw[List.any_eq_false];intro y hy;obtain⟨z,t,hkey⟩:=hk y (Array.mem_toList_iff.mp hy);simp[DictEntry.refKey,hkey]
  have a':¬ es.toList.any (·.refKey)=true:=by rw[a];exact OR
  rw[if_neg a'];exact congrArg some e
def Cz.look {h:Heap}{x dx C:Addr}{mA:Str->Option Ox}(I:Cz h x dx C mA):∃od,PySem.W.InstAt h x (PySem.W.instObj C dx) C (some od)/\∀name,PySem.W.lookIn name od=some (mA name):=
 let⟨od,ho,hl⟩:=yY I.ns
 {od,⟨I.obj,rfl,rfl,ho⟩,hl}
section
variable{P:O2}{w:O9}{H H':Hp}{h h':Heap}{a C dx:Addr}{fs fs':List (Str×V)}
def FT (hok:eK P w H h)(e:H a=some (.ins C dx fs)):∃mA,Cz h a dx C mA/\(∀f,Cw (fs.lookup f) (mA f))/\PySem.Within mA (fs.map (·.1))/\fs.length<=1000/\H dx=some (.own a):=by
 obtain⟨d,z,ne,ob,mA,n,r,q⟩:=(show bI P w H h a (.ins C dx fs) from hok a _ e);exact{mA,⟨ob,n,ne⟩,r,q,z,d}
end
structure vH (K:Ow) (C:Addr):Prop where
 pg:PySem.W.plainGet K C Str.empty=true
 hd:PySem.W.hasDictIn K C=true
 po:PySem.W.plainOver K C=true
 sa:PySem.W.findIn K (.ref C) "__setattr__"=some (some (.builtin "object.__setattr__"))
def vH.get {K:Ow}{C:Addr}(c:vH K C)(f:Str):PySem.W.plainGet K C f=true:=c.pg
def Kn (K:Ow)(C:Addr)(f:Str):Prop:=PySem.W.findIn K (.ref C) f=some none
structure Meth (K:Ow) (C:Addr) (m:Str) (f:Addr):Prop where
 at_:PySem.W.findIn K (.ref C) m=some (some (.ref f))
 fn:PySem.W.isFn K (.ref f)=true
 kp:PySem.W.keepIn K (.ref f)=true
section
variable{X:Cx}{pins:List (Addr×Obj)}{σ:St}{H:Hp}{s:Oy}{A:PR}{E:Ox->Oy->Prop}{Q:Ox->Oy->Prop}{c:Ox}{b:Bool}
inductive iV (K:Ow) (H:Hp):V->Ox->Prop where
 |non:iV K H .non (.type "NoneType")
 |bl (x:Bool):iV K H (.bl x) (.type "bool")
 |int (i:Int):iV K H (.int i) (.type "int")
 |str (x:Str):iV K H (.str x) (.type "str")
 |flt (x:UInt64):iV K H (.flt x) (.type "float")
 |lst {a:Addr}{xs:List V} (e:H a=some (.lst xs)):iV K H (.ref a) (.type "list")
 |frz {a:Addr}{o:Obj}{xs:List V} (e:H a=some (.frz o (.lst xs))):iV K H (.ref a) (.type "list")
 |tup {a:Addr}{xs:List V} (e:H a=some (.tup xs)):iV K H (.ref a) (.type "tuple")
 |dK {a:Addr}{kvs:List (Key×V)} (e:H a=some (.dK kvs)):iV K H (.ref a) (.type "dict")
 |dT {a:Addr}{kvs:List (List Key×V)} (e:H a=some (.dT kvs)):iV K H (.ref a) (.type "dict")
 |ins {a C dx:Addr}{fs:List (Str×V)} (e:H a=some (.ins C dx fs)) (cl:vH K C) (ha:PySem.W.findIn K (.ref C) "__class__"=some (some (.builtin "object.__class__")))
  (hn:PySem.W.specialIn K (.builtin "object.__class__") "__get__"=some (some (.builtin "getset_descriptor.__get__"))) (htk:PySem.W.takesIn K (.builtin "object.__class__")=some true)
  (hm:PySem.W.mroIn K C (.type "object")=some true):iV K H (.ref a) (.ref C)
def jR {x:V}{u t:Ox}(I:Inv X pins σ H s)(rx:RelV x u)(ty:iV X.K H x t)(e:PySem.W.kitOne X.K t c=some b)(h:∀tk,Q (.bool b) {s with toks:=tk}) :
 wpAny (model X.prog X.w) A (call (.builtin "isinstance") [u,c]) Q E s:=by
 cases ty with
 |non=>cases (show u=Value.none from rx);exact PD PySem.W.kitx_none I.kIn True.intro e (λz=>nomatch z) h
 |bl y=>cases (show u=Value.bool y from rx);exact PD PySem.W.kitx_bool I.kIn True.intro e (λz=>nomatch z) h
 |int i=>obtain⟨t,q⟩:=(show ∃t,u=Value.int i t from rx);cases q;exact PD PySem.W.kitx_int I.kIn True.intro e (λz=>nomatch z) h
 |str y=>obtain⟨t,q⟩:=(show ∃t,u=Value.str y t from rx);cases q;exact PD PySem.W.kitx_str I.kIn True.intro e (λz=>nomatch z) h
 |flt y=>obtain⟨t,q⟩:=(show ∃t,u=Value.float y t from rx);cases q;exact PD PySem.W.kitx_float I.kIn True.intro e (λz=>nomatch z) h
 | @lst a xs ea =>
   cases (show u=Value.ref a from rx);obtain⟨_,_,n,_,h1⟩:=(show bI X.prog X.w H s.heap a (.lst xs) from I.hok a _ ea);exact PD PySem.W.kitx_list I.kIn {_,h1,rfl} e (λz=>nomatch z) h
 | @frz a ob xs ea =>
   cases (show u=Value.ref a from rx);obtain⟨_,_,_,n,_,h1⟩:=(show bI X.prog X.w H s.heap a (.frz ob (.lst xs)) from I.hok a _ ea);exact PD PySem.W.kitx_list I.kIn {_,h1,rfl} e (λz=>nomatch z) h
 | @tup a xs ea =>
   cases (show u=Value.ref a from rx);obtain⟨_,_,_,p⟩:=(show bI X.prog X.w H s.heap a (.tup xs) from I.hok a _ ea);obtain⟨o,h1,h2,_⟩:=p;exact PD PySem.W.kitx_tuple I.kIn ⟨o,h1,h2⟩ e (λz=>nomatch z) h
 | @dK a kvs ea =>
   cases (show u=Value.ref a from rx);obtain⟨_,_,vs,_,p⟩:=(show bI X.prog X.w H s.heap a (.dK kvs) from I.hok a _ ea);obtain⟨o,es,ep,h1,h2,_⟩:=p;exact PD PySem.W.kitx_dict I.kIn ⟨o,h1,h2.1⟩ e (λz=>nomatch z) h
 | @dT a kvs ea =>
   cases (show u=Value.ref a from rx);obtain⟨_,_,xs,_,o,es,ep,h1,h2,_⟩:=(show bI X.prog X.w H s.heap a (.dT kvs) from I.hok a _ ea);exact PD PySem.W.kitx_dict I.kIn ⟨o,h1,h2.1⟩ e (λz=>nomatch z) h
 | @ins a C dx fs ea cl ha hn htk hm =>
   cases (show u=Value.ref a from rx);obtain⟨mA,O,_⟩:=FT I.hok ea;obtain⟨od,J,_⟩:=O.look;exact PD (PySem.W.kitx_own (cl.get _) cl.hd ha hn htk hm) I.kIn J e (λz=>nomatch z) h
end
structure dD (k:Nat) (A:PR):Prop where
 hd:A.handled=none
 dp:A.depth+3*k+5<recursionLimit
 un:A.units+16*k+200<cLine
 gd:A.guards=some []
def dD.mono {j k:Nat}{A:PR}(r:dD k A)(h:j<=k):dD j A:={r.hd,by have:=r.dp;omega,by have:=r.un;omega,r.gd}
def dD.deeper {k:Nat}{A:PR}(r:dD (k+1) A)(env:Env):dD k (A.deeper env):=
 {r.hd,by have:=r.dp;show A.depth+1+3*k+5<_;omega,by have:=r.un;show A.units+3+16*k+200<_;omega,r.gd}
def dD.depth {k:Nat}{A:PR}(r:dD k A):A.depth<recursionLimit:=by have:=r.dp;omega
def dD.units {k:Nat}{A:PR}(r:dD k A):A.units+64<cLine:=by have:=r.un;omega
def Nb:TA:=λ_ H Q=>Q [] H
def KJ (ta:TE)(tr:TA):TA:=λσ H Q=>ta σ H λx H1=>tr σ H1 λxs H2=>Q (x::xs) H2
section
variable{X:Cx}{e:Expr}{es:List Expr}{te:TE}{t:TA}{pos:Pos}
def ft:PA X [] Nb:=λ_ _ _ _ H Q I h=>Calls.spliced_nil {[],H,I,.nil,h}
def c7 (ha:PE X e te)(hr:PA X es t)(hs:starEach (e::es) X.env=(false,eval e X.env)::starEach es X.env:=by rfl):PA X (e::es) (KJ te t):=by
 intro pos pins s σ H Q I h;rw[hs];show wpAny _ _ (spliced ((false,eval e X.env)::backTo pos (starEach es X.env))) _ _ s;refine Calls.spliced_cons (aQ (ha pins s σ H _ I h) λu s1 ⟨x,H1,I1,r1,q1⟩=>?_);exact aQ (hr pos pins s1 σ H1 _ I1 q1) λus s2 ⟨xs,H2,I2,r2,q2⟩=>{x::xs,H2,I2,.cons r1 r2,q2}
def MZ (t:TA):TE:=λσ H Q=>t σ H λxs H1=>xs.length<=sizeLine/\∀p,H1 p=none->Q (.ref p) (upd H1 p (.tup xs))
def Nc (t:TA):TE:=λσ H Q=>t σ H λxs H1=>xs.length<=sizeLine/\∀p,H1 p=none->Q (.ref p) (upd H1 p (.lst xs))
def Ic {x1}(h:PA X es t):PE X (.Tuple es x1 pos) (MZ t):=by
 intro pins s σ H Q I hq;refine wpAny_Tuple_spliced (aQ (h pos pins s σ H _ I hq) λus s1 ⟨xs,H1,I1,r,z,q⟩=>{by rw[<- r.length];exact z,?_})
 have hf:H1 s1.heap.objs.size=none:=I1.hok.fresh (OC _);refine{.ref s1.heap.objs.size,upd H1 s1.heap.objs.size (.tup xs),I1.laid (t':=s1.toks) (λb u e=>OA _ e) (OC _) ?_,rfl,q _ hf};exact{z,us,r,{_,OJ _ rfl,rfl,_,rfl}}
def Ij (h:PA X es t):PE X (.List es pos) (Nc t):=by
 intro pins s σ H Q I hq;refine wpAny_List_spliced (aQ (h pos pins s σ H _ I hq) λus s1 ⟨xs,H1,I1,r,z,q⟩=>{by rw[<- r.length];exact z,?_})
 have hf:H1 s1.heap.objs.size=none:=I1.hok.fresh (OC _);refine{.ref s1.heap.objs.size,upd H1 s1.heap.objs.size (.lst xs),I1.laid (t':=s1.toks) (λb u e=>OA _ e) (OC _) ?_,rfl,q _ hf};exact{z,us,0,r,OJ _ rfl}
end
abbrev Sp:=List V->Hp->VK->XK->Prop
abbrev nq:=List Env->Hp->Oy->XK->Ox->Oy->Prop
structure xj (P:O2) (w:O9) (K:Ow) (mg:Str->Option Ox) (base:Heap) (A:PR) (outer:List Env) (s:Oy) (H:Hp):Prop where
 frames:A.frames=some outer
 mod:Mod K mg base
 bs:∀b o,base.get? b=some o->s.heap.get? b=some o/\H b=none
 bsz:base.objs.size<=s.heap.objs.size
 funs:s.heap.FunFrames base outer
 frf:∀b∈fB outer,H b=none
 hok:eK P w H s.heap
 bare:AllBare s.gens
def CE (outer:List Env)(P:O2)(w:O9)(H:Hp)(s:Oy)(Q:VK)(u:Ox)(s':Oy):Prop:=
 ∃v H',s'.os=s.os/\AllBare s'.gens/\Un (fB outer) [] H H' s.heap s'.heap/\eK P w H' s'.heap/\RelV v u/\Q v H'
def CR (CX:nq)(outer:List Env)(P:O2)(w:O9)(H:Hp)(s:Oy)(Q:VK)(E:XK)(r:Result)(s':Oy):Prop:=
 match r with
 |.ok (.ret u)=>CE outer P w H s Q u s'
 |.ok _=>False
 |.error e=>CX outer H s E e s'
structure lO (P:O2) (w:O9) (K:Ow) (mg:Str->Option Ox) (base:Heap) (CX:nq) (k:Nat) (f:Addr) (fd:QU) (ps:List Str) (sp:Sp):Prop where
 len:∀vs H Q E,sp vs H Q E->vs.length=ps.length
 run:∀(A:PR) (outer:List Env) (s:Oy) (H:Hp) (args:Args) (us:List Ox) (vs:List V) (Q:VK) (E:XK),dD k A->xj P w K mg base A outer s H->BindsTo s fd args (ps.zip us)->Vals vs us->sp vs H Q E->
  codeAny (model P w) A (.call (.ref f) args) (CR CX outer P w H s Q E) s
section
variable{X:Cx}{pins:List (Addr×Obj)}{σ:St}{H:Hp}{s s':Oy}
def Inv.env0 (I:Inv X pins σ H s):xj X.prog X.w X.K X.mg X.base X.A X.stack s H:=
 {I.ok.frames,I.ok.mod,I.bs,OZ I.ok.bsz I.sz,I.stack,I.stkFree,I.hok,I.bare}
def Inv.after {Q:VK}{u:Ox}(I:Inv X pins σ H s)(h:CE X.stack X.prog X.w H s Q u s'):EP X pins σ Q u s':=by
 obtain⟨v,H',os,bare,un,hok,r,q⟩:=h;obtain⟨hh,g,d,t,os'⟩:=s';obtain rfl:os'=s.os:=os;exact{v,H',I.call (h':=hh) (g':=g) (d':=d) (t':=t) (ch:=[]) un hok bare (λb z=>absurd z `s),r,q}
end
def C5 (sp:Sp)(dvs:List V)(E:XK)(t:TA):TE:=λσ H Q=>t σ H λvs H1=>sp (vs++dvs) H1 Q E
def Binds (K:Ow)(fd:QU)(ps:List Str)(ds:List Ox):Prop:=
 ∀(s:Oy) (us:List Ox),K.In s.heap->(us++ds).length=ps.length->BindsTo s fd {us,[]} (ps.zip (us++ds))
def Binds.all {K:Ow}{fd:QU}{ps:List Str}(h:∀us:List Ox,us.length=ps.length->bindArgs fd {us,[]}=pure (ps.zip us)):Binds K fd ps []:=λs us _ hl=>by
 rw[Po] at hl ⊢;exact .of_eq (h us hl)
def Passes (CX:nq)(X:Cx)(E:XK):Prop:=∀(pins:List (Addr×Obj)) (σ:St) (H:Hp) (s:Oy) (e:Ox) (s':Oy),Inv X pins σ H s->CX X.stack H s E e s'->X.xe e s'
section
variable{X:Cx}{CX:nq}{k:Nat}{f C:Addr}{fd:QU}{ps:List Str}{sp:Sp}{dvs:List V}{ds:List Ox}{E:XK}{x m:Str}{p pos apos:Pos}{e o:Expr}{es:List Expr}{ta:TE}{t:TA}
def yq {pins:List (Addr×Obj)}{σ:St}{H:Hp}{s:Oy}{Q:VK}{us:List Ox}{vs:List V}(F:lO X.prog X.w X.K X.mg X.base CX k f fd ps sp)(hr:dD k X.A)(hb:Binds X.K fd ps ds)(hd:Vals dvs ds)(hx:Passes CX X E)
 (I:Inv X pins σ H s) (r:Vals vs us) (h:sp (vs++dvs) H Q E):wpAny (model X.prog X.w) X.A (call (.ref f) us) (EP X pins σ Q) X.xe s:=by
 have r2:Vals (vs++dvs) (us++ds):=r.append hd;have hl:(us++ds).length=ps.length:=by rw[<- r2.length];exact F.len _ _ _ _ h
 refine wpAny_call (codeAny_mono (F.run X.A X.stack s H {us,[]} (us++ds) (vs++dvs) Q E hr I.env0 (hb s us I.kIn hl) r2 h) λr s' hq=>?_);cases r with
 |error e=>exact hx pins σ H s e s' I hq
 | ok fl =>
   cases fl with
   |ret u=>exact I.after hq
   |next=>exact False.elim hq
   |brk=>exact False.elim hq
   |cont=>exact False.elim hq
def Ft (F:lO X.prog X.w X.K X.mg X.base CX k f fd ps sp)(hr:dD k X.A)(hg:Gl X x)(hm:X.mg x=some (.ref f))(hk:PySem.W.keepIn X.K (.ref f)=true)(hb:Binds X.K fd ps ds)(hd:Vals dvs ds)(hx:Passes CX X E)
 (ha:PA X (e::es) t) (hdb:(x==("__debug__":Str))=false:=by decide) (he:starEach (e::es) X.env=(false,eval e X.env)::starEach es X.env:=by rfl) (hpl:(backTo pos (starEach es X.env)).any (·.1)=false:=by rfl) :
 PE X (.Call (.Name x p) (e::es) [] pos) (C5 sp dvs E t):=by
 intro pins s σ H Q I h;refine wpAny_Call_Name_kw (kD I hg hm ?_ hdb);refine PySem.W.callWith_K (h₀:=X.base) I.ok.mod.kin hk (aQ (ha pos pins s σ H _ I h) λus s1 ⟨vs,H1,I1,r,q⟩=>{I1.kIn,?_}) he hpl;exact yq F hr hb hd hx I1 r q
structure Mk (K:Ow) (C f:Addr):Prop where
 makes:PySem.W.makesIn K C=true
 init:PySem.W.findIn K (.ref C) "__init__"=some (some (.ref f))
 fn:PySem.W.isFn K (.ref f)=true
 kp:PySem.W.keepIn K (.ref C)=true
end
structure jl (N P:List Str) (sc:Scope):Prop where
 kind:sc.kind=.function
 co:sc.isCoroutine=false
 gen:sc.isGenerator=false
 nd:N.Nodup
 pre:N.take P.length=P
 par:∀x∈P,sc.names.lookup x=some .local\/sc.names.lookup x=some .cell
 nofree:∀y∈sc.names,y.2≠.free
def qN {kindOf:Str->Option NameKind}{x:Str}:∀{binds:List (Str×Ox)}{m:Str->Option Ox},(∀v,(x,v)∉binds)->bindL kindOf binds m x=m x
 |[],_,_=>rfl
 | (n, v) :: r, m, h => by
   unfold bindL;rw[qN λw hw=>h w (OP _ hw)];split
   ·have:x≠n:=by rintro rfl;exact h v O4
    simp[this]
   ·rfl
def qP {kindOf:Str->Option NameKind}{x:Str}:∀{binds:List (Str×Ox)}{m:Str->Option Ox},(∀v,(x,v)∉binds)->bindC kindOf binds m x=m x
 |[],_,_=>rfl
 | (n, v) :: r, m, h => by
   unfold bindC;rw[qP λw hw=>h w (OP _ hw)];split
   ·rfl
   ·have:x≠n:=by rintro rfl;exact h v O4
    simp[this]
def qO {kindOf:Str->Option NameKind}{x:Str}{v:Ox}:∀{P:List Str}{vs:List Ox}{i:Nat}{m:Str->Option Ox},P.Nodup->P[i]?=some x->vs[i]?=some v->kindOf x=some .local->
 bindL kindOf (P.zip vs) m x=some v
 |[],_,_,_,_,h,_,_=>by simp at h
 |_::_,[],_,_,_,_,h,_=>by simp at h
 | p :: P, w :: vs, 0, m, nd, h1, h2, hk => by
   simp at h1 h2;subst h1;subst h2;show bindL kindOf ((p,w)::P.zip vs) m p=_;unfold bindL;rw[qN λv hv=>(Pz.mp nd).1 (List.of_mem_zip hv).1,if_pos hk];simp
 | p :: P, w :: vs, i + 1, m, nd, h1, h2, hk => by
   show bindL kindOf ((p,w)::P.zip vs) m x=_;unfold bindL;exact qO (i:=i) (Pz.mp nd).2 (by simpa using h1) (by simpa using h2) hk
def qQ {kindOf:Str->Option NameKind}{x:Str}{v:Ox}:∀{P:List Str}{vs:List Ox}{i:Nat}{m:Str->Option Ox},P.Nodup->P[i]?=some x->vs[i]?=some v->kindOf x≠some .local->
 bindC kindOf (P.zip vs) m x=some v
 |[],_,_,_,_,h,_,_=>by simp at h
 |_::_,[],_,_,_,_,h,_=>by simp at h
 | p :: P, w :: vs, 0, m, nd, h1, h2, hk => by
   simp at h1 h2;subst h1;subst h2;show bindC kindOf ((p,w)::P.zip vs) m p=_;unfold bindC;rw[qP λv hv=>(Pz.mp nd).1 (List.of_mem_zip hv).1,if_neg hk];simp
 | p :: P, w :: vs, i + 1, m, nd, h1, h2, hk => by
   show bindC kindOf ((p,w)::P.zip vs) m x=_;unfold bindC;exact qQ (i:=i) (Pz.mp nd).2 (by simpa using h1) (by simpa using h2) hk
def start (N:List Str)(vs:List V):St:=vs.map some++List.replicate (N.length-vs.length) none
def gx (CX:nq)(P:O2)(w:O9)(K:Ow)(mg:Str->Option Ox)(base:Heap)(N:List Str)(qual:Str)(scope:Scope)(f:Addr)(cd:Ox)(A:PR)(outer:List Env)(s:Oy)(H:Hp)(E:XK):Cx where
 prog:=P
 w:=w
 K:=K
 mg:=mg
 base:=base
 A:=A.deeper (envOfC qual scope s.heap.objs.size f cd)
 N:=N
 s₀:=s
 H₀:=H
 env:=envOfC qual scope s.heap.objs.size f cd
 outer:=outer
 stack:=envOfC qual scope s.heap.objs.size f cd::outer
 ex:=[]
 calm:=true
 fn:=λ_=>true
 pn:=[]
 xe:=λe s'=>wpAny (model P w) (A.deeper (envOfC qual scope s.heap.objs.size f cd)) (leaving (envOfC qual scope s.heap.objs.size f cd) e) (λ_ s''=>CX outer H s E e s'') (λe' s''=>CX outer H s E e' s'') s'
def tZ {sc:Scope}{n:Nat}{x:Str}(h:sc.names.lookup x=some .cell):∃c,(cellsFrom n sc.names []).lookup x=some c:=by
 have q:=PySem.W.cellsFrom_some sc.names n [] (.inl h);exact Option.isSome_iff_exists.mp q
def zq {CX:nq}{P:O2}{w:O9}{K:Ow}{mg:Str->Option Ox}{base:Heap}{N ps:List Str}{qual:Str}{scope:Scope}{f:Addr}{cd:Ox}{A:PR}{outer:List Env}{s s1:Oy}{H:Hp}{E:XK}{us:List Ox}{vs:List V}
 (S:jl N ps scope) (hd:A.handled=none) (e0:xj P w K mg base A outer s H) (hl:vs.length=ps.length) (r:Vals vs us)
 (x:InCallC s s.heap.objs.size (bindL (envOfC qual scope s.heap.objs.size f cd).kindOf (ps.zip us) λ_=>none) (cellsFrom (s.heap.objs.size+1) scope.names []) (bindC (envOfC qual scope s.heap.objs.size f cd).kindOf (ps.zip us) λ_=>none) s1) :
 Inv (gx CX P w K mg base N qual scope f cd A outer s H E) [] (start N vs) H s1:=by
 have hpl:ps.length<=N.length:=by have:=congrArg List.length S.pre;rw[List.length_take] at this;omega
 obtain⟨h1,tk,rfl,hk⟩:=x.done;have noA:∀b:Addr,b∉(gx CX P w K mg base N qual scope f cd A outer s H E).ex:=λb z=>absurd (show b∈([]:List Addr) from z) `s
 refine{{e0.mod,S.kind,rfl,rfl,OC _,λy z c h1 h2=>?_,λy hy=>?_,λy c _ h=>?_,λ_=>hd,Around.frames_deeper e0.frames,.inr ⟨rfl,rfl⟩,λb z=>absurd z (noA b),e0.bs,e0.bsz,λb _ _=>noA b,λb z=>absurd z (noA b),e0.funs,e0.frf},
  rfl,e0.bare,Un.kept hk,{_,x.toInCall.ns,λi y v h1 h2 h3=>?_},λy c h=>{_,x.cell y c h},e0.hok.fresh (OC _),λy c h=>?_,λp hp=>absurd (show p∈([]:List (Addr×Obj)) from hp) `s,e0.hok.kept hk,?_}
 ·exact name_of_addr x.apart (QT h1) (QT h2)
 ·have hy:scope.names.lookup y=some .cell\/scope.names.lookup y=some .free:=hy;rcases hy with hy|hy
  ·exact tZ hy
  ·exact absurd rfl (S.nofree _ (QT hy))
 ·exact Nat.le_of_lt (x.above y c (QT h))
 ·have hi:i<vs.length:=by
   unfold start at h2;by_cases hi:i<vs.length
   ·exact hi
   ·rw[O5 (by simpa using hi)] at h2
    rw[QG] at h2;split at h2<;>cases h2
  have ha:vs[i]?=some v:=by
   unfold start at h2;rw[OG (by simpa using hi),OL] at h2
   cases e:vs[i]? with
   |none=>rw[e] at h2;cases h2
   |some a=>rw[e] at h2;cases h2;rfl
  obtain⟨u,hu,rv⟩:=r.get ha;have hp:ps[i]?=some y:=by
   rw[<- S.pre,List.getElem?_take_of_lt `a];exact h1
  have ndP:ps.Nodup:=by rw[<- S.pre];exact S.nd.sublist (List.take_sublist _ _)
  refine{u,rv,?_};rcases S.par y (Pj hp) with k|k
  ·exact .inl {k,qO ndP hp hu k}
  ·obtain⟨c,e⟩:=tZ (n:=s.heap.objs.size+1) k;refine .inr {.inl k,c,e,?_};have q:=x.cell y c e;rw[qQ ndP hp hu (by show scope.names.lookup y≠_;rw[k];decide)] at q
   exact q
 ·exact e0.hok.fresh (Nat.le_of_lt (x.above y c (QT h)))
 ·unfold start;show _=N.length;rw[Pn,Oz,List.length_replicate];omega
def Lw {CX:nq}{P:O2}{w:O9}{K:Ow}{mg:Str->Option Ox}{base:Heap}{k:Nat}{f:Addr}{name qual:Str}{params:Arguments}{body:List Stmt}{scope:Scope}{dV kV doc pm cdv ct oc:Ox}{an od:Option Addr}
 {osl:Array (Option Ox)}{N ps:List Str}{sp:Sp} (lk:K.lookup f=some {oc,od,.func (PySem.W.fnOf name qual params body scope dV kV doc pm an cdv ct),osl}) (hcd:PySem.W.codeIn K cdv qual=true) (S:jl N ps scope)
 (len:∀vs H Q E,sp vs H Q E->vs.length=ps.length)
 (hbody:∀(A:PR) (outer:List Env) (s:Oy) (H:Hp) (vs:List V) (Q:VK) (E:XK),dD k (A.deeper (envOfC qual scope s.heap.objs.size f cdv))->sp vs H Q E->
  ∃t,lT (gx CX P w K mg base N qual scope f cdv A outer s H E) body t/\t {nx:=λ_ H'=>Q .non H',rt:=Q} (start N vs) H) :
 lO P w K mg base CX (k+1) f (PySem.W.fnOf name qual params body scope dV kV doc pm an cdv ct) ps sp:=by
 refine{len,λA outer s H args us vs Q E hr e0 hb r hsp=>?_};have hl:=len _ _ _ _ hsp;have KX:K.In s.heap:=e0.mod.kin.keeps λb o e=>(e0.bs b o e).1;have lim:s.heap.NoLimit:=e0.mod.nolimit.keeps λb o e=>(e0.bs b o e).1;have hkind:∀y∈ps.zip us,scope.names.lookup y.1=some .local\/(scope.names.lookup y.1=some .cell/\((cellsFrom (s.heap.objs.size+1) scope.names []).lookup y.1).isSome=true):=λ⟨n,v⟩ hy=>by
  rcases S.par n (List.of_mem_zip hy).1 with q|q
  ·exact .inl q
  ·exact .inr {q,PySem.W.cellsFrom_some _ _ _ (.inl q)}
 refine codeAny_call_function hr.depth (KX _ _ lk) rfl S.co S.gen rfl (PySem.W.codeRec_of KX hcd) (hb _ _ _ _ ?_);refine wpAny_newFunctionEnv_cells S.kind hkind λenv he s1 x=>?_;subst he;refine{lim.keeps x.toInCall.keep,codeAny_func ?_};obtain⟨t,ht,hq⟩:=hbody A outer s H vs Q E (hr.deeper _) hsp;have I:Inv (gx CX P w K mg base N qual scope f cdv A outer s H E) [] (start N vs) H s1:=zq S hr.hd e0 hl r x;refine wpAny_mono (ht [] s1 (start N vs) H _ I hq) (λfl s' hs=>?_) λe s' hs=>hs;have fin:∀{σ':St}{H':Hp}{v:V}{u:Ox},Inv (gx CX P w K mg base N qual scope f cdv A outer s H E) [] σ' H' s'->RelV v u->Q v H'->CE outer P w H s Q u s':=
  λ{σ' H' v u} J rv q=>⟨v,H',J.os,J.bare,J.base,J.hok,rv,q⟩
 cases fl with
 | ret u =>
   obtain⟨v,σ',H',J,rv,q⟩:=hs;exact fin J rv q
 | next =>
   obtain⟨σ',H',J,q⟩:=hs;exact fin (v:=V.non) (u:=Value.none) J rfl q
 | brk =>
   obtain⟨_,_,_,q⟩:=hs;exact False.elim q
 | cont =>
   obtain⟨_,_,_,q⟩:=hs;exact False.elim q
section
variable{X:Cx}{x:Str}{p pos:Pos}{e:Expr}{es:List Expr}{t:TA}{id T:String}{r:List V->Hp->VK->Prop}
def Mp (r:List V->Hp->VK->Prop)(t:TA):TE:=λσ H Q=>t σ H λvs H1=>r vs H1 Q
def kZ (hc:cy X (.builtin id) r)(hg:Gl X x)(hm:X.mg x=none)(hv:bootBuiltins x=some (.builtin id))(ha:PA X (e::es) t)(hn:x≠"__name__":=by decide)(hdb:(x==("__debug__":Str))=false:=by decide)
 (he:starEach (e::es) X.env=(false,eval e X.env)::starEach es X.env:=by rfl) (hpl:(backTo pos (starEach es X.env)).any (·.1)=false:=by rfl):PE X (.Call (.Name x p) (e::es) [] pos) (Mp r t):=by
 intro pins s σ H Q I h;refine wpAny_Call_Name_kw (gZ I hg hm hv ?_ hn hdb);exact PyProof.Rows.callWith_builtin1 (aQ (ha pos pins s σ H _ I h) λus s1 ⟨vs,H1,I1,r1,q1⟩=>hc pins s1 σ H1 vs us Q I1 r1 q1) he hpl
def yG (hc:cy X (.type T) r)(hg:Gl X x)(hm:X.mg x=none)(hv:bootBuiltins x=some (.type T))(ha:PA X (e::es) t)(hn:x≠"__name__":=by decide)(hdb:(x==("__debug__":Str))=false:=by decide)
 (he:starEach (e::es) X.env=(false,eval e X.env)::starEach es X.env:=by rfl) (hpl:(backTo pos (starEach es X.env)).any (·.1)=false:=by rfl):PE X (.Call (.Name x p) (e::es) [] pos) (Mp r t):=by
 intro pins s σ H Q I h;refine wpAny_Call_Name_kw (gZ I hg hm hv ?_ hn hdb);exact PU (aQ (ha pos pins s σ H _ I h) λus s1 ⟨vs,H1,I1,r1,q1⟩=>hc pins s1 σ H1 vs us Q I1 r1 q1) he hpl
end
end L2
namespace HT
open PySem PyProof.Rows
section
variable{prog:O2}{w:O9}{A:PR}{E:Ox->Oy->Prop}{s:Oy}
def Gu {t b:Addr}{vs ws:List Ox}{Q:Ox->Oy->Prop}(ht:IsTup s.heap t vs.toArray)(hb:IsTup s.heap b ws.toArray)(hv:vs≠[])
 (h1:ws=[]->Q (.ref t) s) (h2:ws≠[]->Q (.ref s.heap.objs.size) {s with heap:=s.heap.push {cls:=.type "tuple",data:=.seq (vs++ws).toArray}})
 (hsz:vs.length+ws.length<=sizeLine):wpAny (model prog w) A (binaryOp .Add (.ref t) (.ref b)) Q E s:=by
 obtain⟨⟨cls,dd,data,sl⟩,ho,hc,n,hd⟩:=id ht;obtain⟨⟨cls2,dd2,data2,sl2⟩,ho2,hc2,n2,hd2⟩:=id hb;simp only at hc hd hc2 hd2;subst hc hd hc2 hd2;have e:vs.toArray++ws.toArray=(vs++ws).toArray:=`s
 by_cases hw:ws=[]
 ·exact concat_meets {_,ho,rfl} {_,ho2,rfl} noFill_tuple_add seq_tuple_add PySem.F.slot_tuple_add PySem.F.entry_tuple_add (PySem.F.args_tuple_add_2 _ _)
   (tuple_addW1 t b vs.toArray ws.toArray n n2 dd dd2 sl sl2 (by simpa using hv) (by simp[hw])) {ho,ho2,h1 hw}
 ·refine concat_meets {_,ho,rfl} {_,ho2,rfl} noFill_tuple_add seq_tuple_add PySem.F.slot_tuple_add PySem.F.entry_tuple_add (PySem.F.args_tuple_add_2 _ _)
   (tuple_addW2 t b vs.toArray ws.toArray n n2 dd dd2 sl sl2 (by simpa using hv) (by simpa using hw) (by rw[OH,OH];exact hsz)) {ho,ho2,?_}
  rw[e];exact h2 hw
def aT (n d:Nat):Option Int->Nat
 |none=>d
 |some v=>if v<0 then(v+(n:Int)).toNat else min v.toNat n
def HF (n d:Nat)(hd:d<=n)(o:Option Int):aT n d o<=n:=by
 cases o with
 |none=>exact hd
 | some v =>
   show(if v<0 then(v+(n:Int)).toNat else min v.toNat n)<=n;by_cases hv:v<0
   ·rw[if_pos hv];omega
   ·rw[if_neg hv];exact Nat.min_le_right _ _
def vB (v:Int)(n d:Nat):(if v<0 then max (v+(n:Int)) 0 else min v (n:Int))=((aT n d (some v):Nat):Int):=by
 show(if v<0 then max (v+(n:Int)) 0 else min v (n:Int))=(((if v<0 then(v+(n:Int)).toNat else min v.toNat n):Nat):Int);by_cases hv:v<0
 ·simp only[if_pos hv];omega
 ·simp only[if_neg hv];omega
def wX (lo hi:Option Int)(n:Nat):Builtin.Slice.sliceAdjust lo hi 1 (n:Int)=(((aT n 0 lo:Nat):Int),((aT n n hi:Nat):Int)):=by
 have h1:¬ ((1:Int)<0):=`a
 unfold Builtin.Slice.sliceAdjust;simp only[h1,if_false];refine Prod.ext ?_ ?_
 ·cases lo with
  |none=>rfl
  |some v=>exact vB v n 0
 ·cases hi with
  |none=>rfl
  |some v=>exact vB v n n
def vY (i j:Nat):Builtin.Slice.slicePlaces (i:Int) (j:Int) 1=j-i:=by
 unfold Builtin.Slice.slicePlaces;have h1:(1:Int) > 0:=`a
 simp only[h1,if_true,Int.ediv_one];split<;>omega
def oh {v:Ox}{o:Option Int}{Q:Option Int->Oy->Prop}(p:IsPart v o)(h:Q o s):wpAny (model prog w) A (Builtin.Slice.slicePartIndex v) Q E s:=by
 cases p with
 |none=>exact slicePart_none h
 |int i t=>exact slicePart_int h
def jr {sl:Addr}{vl vu:Ox}{lo hi:Option Int}{n:Nat}{Q:Int×Int×Nat->Oy->Prop}(hs:s.heap.IsSliceOf sl vl vu .none)(pl:IsPart vl lo)(pu:IsPart vu hi)
 (h:Q (((aT n 0 lo:Nat):Int),1,aT n n hi-aT n 0 lo) s):wpAny (model prog w) A (Builtin.Slice.sliceApplied (.ref sl) (pure (n:Int))) Q E s:=by
 obtain⟨os,hos,hcs,hds⟩:=id hs;unfold Builtin.Slice.sliceApplied Builtin.Slice.sliceFields;refine tqa (tqa (tqf hos hds (x:=vl) rfl (tqa (tqf hos hds (x:=vu) rfl (tqa (tqf hos hds (x:=.none) rfl (tqb ?_)))))));refine tqa (slicePart_none ?_);show wpAny _ _ (if ((1:Int)==0)=true then _ else _) _ _ s;rw[if_neg `d]
 refine tqa (oh pl (tqa (oh pu (tqa (tqb ?_)))));show wpAny _ _ (match Builtin.Slice.sliceAdjust lo hi 1 (n:Int) with|(lo,hi)=>pure (lo,(1:Int),Builtin.Slice.slicePlaces lo hi 1)) _ _ s
 rw[wX lo hi n];show wpAny _ _ (pure (((aT n 0 lo:Nat):Int),(1:Int),Builtin.Slice.slicePlaces ((aT n 0 lo:Nat):Int) ((aT n n hi:Nat):Int) 1)) _ _ s;rw[vY];exact tqb h
def Bl (xs:Array Ox)(i k:Nat):((List.range k).filterMap λ(m:Nat)=>xs[((i:Int)+(m:Int)*1).toNat]?).toArray=((xs.toList.drop i).take k).toArray:=by
 have e:(λ(m:Nat)=>xs[((i:Int)+(m:Int)*1).toNat]?)=λm=>xs[i+m]?:=by
  funext m
  have:((i:Int)+(m:Int)*1).toNat=i+m:=`a
  rw[this]
 rw[e];have:=pick_run xs i k;rw[List.filterMap_map] at this;have e2:((λx=>xs[x]?)∘λx=>i+x)=λm=>xs[i+m]?:=rfl;rw[e2] at this;rw[this]
def m8 {t sl:Addr}{items:Array Ox}{vl vu:Ox}{lo hi:Option Int}{Q:Ox->Oy->Prop}(ht:IsTup s.heap t items)(hs:s.heap.IsSliceOf sl vl vu .none)(pl:IsPart vl lo)(pu:IsPart vu hi)
 (hw:¬ (aT items.size 0 lo=0/\aT items.size items.size hi=items.size))
 (h:Q (.ref s.heap.objs.size) {s with heap:=s.heap.push {cls:=.type "tuple",data:=.seq ((items.toList.drop (aT items.size 0 lo)).take (aT items.size items.size hi-aT items.size 0 lo)).toArray}})
 (hsz:items.size<=sizeLine):wpAny (model prog w) A (getItem (.ref t) (.ref sl)) Q E s:=by
 have htake:sizeOk (.seq ((items.toList.drop (aT items.size 0 lo)).take (aT items.size items.size hi-aT items.size 0 lo)).toArray):=by
  show((items.toList.drop (aT items.size 0 lo)).take (aT items.size items.size hi-aT items.size 0 lo)).toArray.size<=sizeLine;rw[OH,List.length_take,List.length_drop,QC];omega
 have hj:aT items.size items.size hi<=items.size:=HF _ _ (OC _) hi;obtain⟨os,hos,hcs,hds⟩:=id hs;have hTs:s.TypeIs (.ref sl) "slice":=⟨os,hos,hcs⟩;unfold getItem;try with_reducible refine tqo ?_
 first|refine tqa (tqb ?_)|skip
 refine tqa (wpAny_sequenceKey ht.typeIs `d ?_)
 refine tqa (wpAny_callSpecial?_slot (name:=Str.ofString "__getitem__") ht.typeIs PY
  (wpAny_call_entry PY ht.typeIs entry_tuple_getitem ?_ (args_tuple_getitem _ _)))
 show wpAny _ _ (Builtin.Tuple.tupleItemsOf (.ref t) >>= _) _ _ s;refine tqa (tupleItemsOf_ ht ?_);refine tqa (wpAny_typeOf hTs ?_);rw[if_pos `d]
 refine tqa (jr hs pl pu ?_);have hno:¬ ((((aT items.size 0 lo:Nat):Int)==0&&(1:Int)==1&&(aT items.size items.size hi-aT items.size 0 lo)==items.size)=true):=by
  intro q;rw[OF,OF] at q;have q1:((aT items.size 0 lo:Nat):Int)=0:=eq_of_beq q.1.1;have q2:aT items.size items.size hi-aT items.size 0 lo=items.size:=eq_of_beq q.2;exact hw {`a,`a}
 show wpAny _ _ (if (((aT items.size 0 lo:Nat):Int)==0&&(1:Int)==1&&(aT items.size items.size hi-aT items.size 0 lo)==items.size)=true then _ else _) _ _ s;rw[if_neg hno,Bl];first
  |exact tqa (m:=Builtin.Tuple.tupleExact _) (wpAny_newObj_type (tqb {_,rfl,tqb h}) htake)
  |exact tqa (m:=Builtin.Tuple.tupleExact _) (wpAny_newObj_type (tqa (tqb (tqb {_,rfl,tqb h}))) htake)
  |exact tqa (tqa (m:=Builtin.Tuple.tupleExact _) (wpAny_newObj_type (tqb (tqb {_,rfl,tqb h})) htake))
  |exact tqa (tqa (m:=Builtin.Tuple.tupleExact _) (wpAny_newObj_type (tqb {_,rfl,tqb h}) htake))
end
end HT
namespace L2
open PySem PySem.Spec PyProof.Rows
abbrev TO:=St->Hp->(Option Int->Hp->Prop)->Prop
def PO (X:Cx)(e:Option Expr)(t:TO):Prop:=
 ∀(pins:List (Addr×Obj)) (s:Oy) (σ:St) (H:Hp) (Q:Option Int->Hp->Prop),Inv X pins σ H s->t σ H Q->
  wpAny (model X.prog X.w) X.A (evalPart e X.env) (λu s'=>∃o H',Inv X pins σ H' s'/\IsPart u o/\Q o H') X.xe s
def EL:TO:=λ_ H Q=>Q none H
def KG (t:TE):TO:=λσ H Q=>t σ H λx H1=>∃i,x=.int i/\Q (some i) H1
section
variable{X:Cx}{e:Expr}{te:TE}{lo hi:Option Expr}{tl th:TO}{pos p2:Pos}
def Fq:PO X none EL:=by
 intro pins s σ H Q I h;rw[evalPart_none];exact tqb {none,H,I,.none,h}
def Fp (h:PE X e te):PO X (some e) (KG te):=by
 intro pins s σ H Q I hw;rw[evalPart_some];refine aQ (h pins s σ H _ I hw) λu s1 ⟨x,H1,I1,r1,q1⟩=>?_;obtain⟨i,rfl,q⟩:=q1;obtain⟨t,rfl⟩:=r1;exact{some i,H1,I1,.int i t,q}
def mC (X:Cx)(r:V->Option Int->Option Int->Hp->VK->Prop):Prop:=
 ∀(pins:List (Addr×Obj)) (s:Oy) (σ:St) (H:Hp) (x:V) (v vl vu:Ox) (lo hi:Option Int) (sl:Addr) (Q:VK),Inv X pins σ H s->RelV x v->s.heap.IsSliceOf sl vl vu .none->IsPart vl lo->IsPart vu hi->r x lo hi H Q->
  ∃T id,typeLookup (.type T) "__getitem__"=pure (some (.builtin id))/\s.TypeIs v T/\wpAny (model X.prog X.w) X.A (getItem v (.ref sl)) (EP X pins σ Q) X.xe s
def mC.or {r r':V->Option Int->Option Int->Hp->VK->Prop}(h:mC X r)(h':mC X r'):mC X (λx lo hi H Q=>r x lo hi H Q\/r' x lo hi H Q):=by
 intro pins s σ H x v vl vu lo hi sl Q I rx hs pl pu q;rcases q with q|q
 ·exact h pins s σ H x v vl vu lo hi sl Q I rx hs pl pu q
 ·exact h' pins s σ H x v vl vu lo hi sl Q I rx hs pl pu q
def tSl (r:V->Option Int->Option Int->Hp->VK->Prop)(te:TE)(tl th:TO):TE:=λσ H Q=>te σ H λx H1=>tl σ H1 λl H2=>th σ H2 λu H3=>r x l u H3 Q
def Bm {r:V->Option Int->Option Int->Hp->VK->Prop}(hr:mC X r)(he:PE X e te)(hl:PO X lo tl)(hu:PO X hi th):PE X (.Subscript e (.Slice lo hi none p2) pos) (tSl r te tl th):=by
 intro pins s σ H Q I h;refine Subscript_ (aQ (he pins s σ H _ I h) λv s1 ⟨x,H1,I1,r1,q1⟩=>?_);refine wpAny_Slice (aQ (hl pins s1 σ H1 _ I1 q1) λvl s2 ⟨l,H2,I2,pl,q2⟩=>aQ (hu pins s2 σ H2 _ I2 q2) λvu s3 ⟨u,H3,I3,pu,q3⟩=>?_);rw[evalPart_none];refine tqb ?_;have I4:Inv X pins σ H3 {s3 with heap:=s3.heap.push {cls:=.type "slice",data:=.fields #[vl,vu,.none]}}:=I3.kept (t':=s3.toks) λb ob q=>OA _ q
 obtain⟨T,id,hT,ht,hg⟩:=hr pins {s3 with heap:=s3.heap.push {cls:=.type "slice",data:=.fields #[vl,vu,.none]}} σ H3 x v vl vu l u s3.heap.objs.size Q I4 r1 (Heap.IsSliceOf.new ..) pl pu q3
 show wpAny (model X.prog X.w) X.A (subscriptTail e (.Slice lo hi none p2) v (.ref s3.heap.objs.size)) (EP X pins σ Q) X.xe {s3 with heap:=s3.heap.push {cls:=.type "slice",data:=.fields #[vl,vu,.none]}}
 exact tail_any (ops:=[.ref s3.heap.objs.size,v]) ht hT hg (by with_unfolding_all rfl)
def mx (xs:List V)(lo hi:Option Int):List V:=(xs.drop (HT.aT xs.length 0 lo)).take (HT.aT xs.length xs.length hi-HT.aT xs.length 0 lo)
def nh (xs:List V)(lo hi:Option Int):(mx xs lo hi).length<=xs.length:=by
 unfold mx;rw[List.length_take,List.length_drop];omega
def HM (K:Ow):V->Option Int->Option Int->Hp->VK->Prop:=λx lo hi H Q=>∃a xs,x=.ref a/\dH K H a xs/\
 ¬ (HT.aT xs.length 0 lo=0/\HT.aT xs.length xs.length hi=xs.length)/\∀p,H p=none->Q (.ref p) (upd H p (.tup (mx xs lo hi)))
def Hn:mC X (HM X.K):=by
 intro pins s σ H x v vl vu lo hi sl Q I rx hs pl pu h;obtain⟨a,xs,rfl,hx,hw,q⟩:=h;cases rx;obtain⟨its,r,ht,hz⟩:=I.tuple hx;have hlen:its.toArray.size=xs.length:=by rw[OH];exact r.length.symm
 refine{"tuple",_,PY.lookup,ht.typeIs,?_};refine HT.m8 ht hs pl pu (by rw[hlen];exact hw) ?_ (by rw[hlen];exact hz)
 rw[hlen];refine{.ref s.heap.objs.size,_,I.laid (t':=s.toks) (o:=.tup (mx xs lo hi)) (λb ob q=>OA _ q) (OC _) ?_,rfl,q _ (I.hok.fresh (OC _))};exact{OZ (nh xs lo hi) hz,_,(r.drop (HT.aT xs.length 0 lo)).take (HT.aT xs.length xs.length hi-HT.aT xs.length 0 lo),IsTup.new _ _}
def KS (K:Ow):R2:=λx y H Q=>∃a b xs ys,x=.ref a/\y=.ref b/\dH K H a xs/\dH K H b ys/\xs≠[]/\xs.length+ys.length<=sizeLine/\
 (ys=[]->Q (.ref a) H)/\(ys≠[]->∀p,H p=none->Q (.ref p) (upd H p (.tup (xs++ys))))
def Vals.nil_iff {xs:List V}{us:List Ox}(r:Vals xs us):us=[]↔xs=[]:=by
 cases r with
 |nil=>simp
 |cons _ _=>simp
def Fy:bE X (binaryOp .Add) (KS X.K):=by
 intro pins s σ H x y v u Q I rx ry h;obtain⟨a,b,xs,ys,rfl,rfl,ha,hb,hx,hz,q1,q2⟩:=h;cases rx;cases ry;obtain⟨its,r1,p1,_⟩:=I.tuple ha;obtain⟨its2,r2,p2,_⟩:=I.tuple hb;refine HT.Gu p1 p2 (λz=>hx (r1.nil_iff.mp z)) (λz=>{.ref a,H,I,rfl,q1 (r2.nil_iff.mp z)}) (λz=>?_) (by rw[<- r1.length,<- r2.length];exact hz)
 refine{.ref s.heap.objs.size,_,I.laid (t':=s.toks) (o:=.tup (xs++ys)) (λb ob q=>OA _ q) (OC _) ?_,rfl,q2 (λw=>z (r2.nil_iff.mpr w)) _ (I.hok.fresh (OC _))};exact{by rw[Pn];exact hz,_,r1.append r2,IsTup.new _ _}
end
def bW (n:Nat)(i:Int):Option Nat:=if 0<=i then(if i<n then some i.toNat else none) else if -(n:Int)<=i then some (i+n).toNat else none
def qS {α:Type}(xs:List α)(i:Int):Option α:=(bW xs.length i).bind λj=>xs[j]?
def vd {n:Nat}{i:Int}{j:Nat}(h:bW n i=some j):seqIndex? i n=some j/\j<n/\-(n:Int)<=i/\i<n:=by
 unfold bW at h;by_cases h0:0<=i
 ·rw[if_pos h0] at h;by_cases h1:i<n
  ·rw[if_pos h1] at h;have e:i.toNat=j:=OD h;exact{by rw[seqIndex_of h0 h1,e],`a,`a,h1}
  ·rw[if_neg h1] at h;cases h
 ·rw[if_neg h0] at h;by_cases h1:-(n:Int)<=i
  ·rw[if_pos h1] at h;have e:(i+n).toNat=j:=OD h;exact{by rw[seqIndex_neg `a h1,e],`a,h1,`a}
  ·rw[if_neg h1] at h;cases h
def qj {α:Type}{xs:List α}{i:Int}{v:α}(h:qS xs i=some v):∃j,seqIndex? i xs.length=some j/\xs[j]?=some v/\j<xs.length/\-(xs.length:Int)<=i/\i<xs.length:=by
 unfold qS at h;cases e:bW xs.length i with
 |none=>rw[e] at h;cases h
 | some j =>
   rw[e] at h;obtain⟨h1,h2,h3,h4⟩:=vd e;exact⟨j,h1,h,h2,h3,h4⟩
def jj (b:Expr):Prop:=∀o i,subscripted b false o i=operate [o,i] (getItem o i)
def j3 (X:Cx)(r:R2):Prop:=
 ∀(value slice:Expr) (pins:List (Addr×Obj)) (s:Oy) (σ:St) (H:Hp) (x y:V) (v u:Ox) (Q:VK),Inv X pins σ H s->RelV x v->RelV y u->r x y H Q->
  subscripted slice false v u=operate [v,u] (getItem v u)->wpAny (model X.prog X.w) X.A (subscriptTail value slice v u) (EP X pins σ Q) X.xe s
def Ko (X:Cx)(id:String)(r:V->List V->Hp->VK->Prop):Prop:=
 ∀(pins:List (Addr×Obj)) (s:Oy) (σ:St) (H:Hp) (x:V) (xs:List V) (v:Ox) (us:List Ox) (Q:VK),Inv X pins σ H s->RelV x v->Vals xs us->r x xs H Q->
  wpAny (model X.prog X.w) X.A (call (.builtin id) (v::us)) (EP X pins σ Q) X.xe s
section
variable{X:Cx}{a b:Expr}{ta tb:TE}{pos:Pos}
def j3.or {r r':R2}(h:j3 X r)(h':j3 X r'):j3 X (λx y H Q=>r x y H Q\/r' x y H Q):=by
 intro value slice pins s σ H x y v u Q I rx ry q hs;rcases q with q|q
 ·exact h value slice pins s σ H x y v u Q I rx ry q hs
 ·exact h' value slice pins s σ H x y v u Q I rx ry q hs
def vZ {r:R2}(hr:j3 X r)(ha:PE X a ta)(hb:PE X b tb)(hs:jj b):PE X (.Subscript a b pos) (xU r ta tb):=by
 intro pins s σ H Q I h;exact Subscript_ (Cn ha hb I h λv u s2 x y H2 I2 rx ry q=>hr a b pins s2 σ H2 x y v u Q I2 rx ry q (hs _ _))
def HR (K:Ow):R2:=λx y H Q=>∃p xs i v,x=.ref p/\y=.int i/\cX K H p xs/\qS xs i=some v/\Q v H
def HP (K:Ow):R2:=λx y H Q=>∃p xs i v,x=.ref p/\y=.int i/\dH K H p xs/\qS xs i=some v/\Q v H
def HQ:R2:=λx y H Q=>∃z i c,x=.str z/\y=.int i/\z.length<=sizeLine/\qS z.cps.toList i=some c/\Q (.str {#[c]}) H
def FQ:j3 X (HR X.K):=by
 intro value slice pins s σ H x y v u Q I rx ry h hs;obtain⟨p,xs,i,z,rfl,rfl,hq,he,q⟩:=h;cases rx;obtain⟨t,rfl⟩:=ry;obtain⟨its,r,pl,hz⟩:=I.list hq;obtain⟨j,h1,h2,h3,h4,h5⟩:=qj he;obtain⟨w,ew,rw'⟩:=r.get h2;have hl:=r.length;have hn:=jy;have fin:EP X pins σ Q w s:=⟨z,H,I,rw',q⟩;by_cases h0:0<=i
 ·have hj:i.toNat=j:=by
   rw[seqIndex_of h0 h5] at h1;exact OD h1
  exact item_listR pl.isList h0 `a (by rw[hj];simpa using ew) fin hs
 ·have hj:(i+(its.toArray.size:Int)).toNat=j:=by
   rw[seqIndex_neg `a h4] at h1
   rw[OH,<- hl];exact OD h1
  exact subscriptTail_builtinR (x:=w) pl.isList.typeIs slot_list_getitem.lookup
   (wpAny_getItem_list_neg (Q:=λr s'=>r=w/\EP X pins σ Q r s') pl.isList `a (by rw[OH]<;>omega) `a (by rw[hj];simpa using ew) ⟨rfl,fin⟩) hs
def Jm:j3 X (HP X.K):=by
 intro value slice pins s σ H x y v u Q I rx ry h hs;obtain⟨p,xs,i,z,rfl,rfl,hq,he,q⟩:=h;cases rx;obtain⟨t,rfl⟩:=ry;obtain⟨its,r,pl,hz⟩:=I.tuple hq;obtain⟨j,h1,h2,h3,h4,h5⟩:=qj he;obtain⟨w,ew,rw'⟩:=r.get h2;have hl:=r.length;have hn:=jy;have fin:EP X pins σ Q w s:=⟨z,H,I,rw',q⟩;exact subscriptTail_builtinR (x:=w) pl.typeIs slot_tuple_getitem.lookup
  (getItem_tuple (j:=j) (Q:=λr s'=>r=w/\EP X pins σ Q r s') pl `a `a (by rw[OH,<- hl];exact h1) (by simpa using ew) ⟨rfl,fin⟩) hs
def Jn:j3 X HQ:=by
 intro value slice pins s σ H x y v u Q I rx ry h hs;obtain⟨z,i,c,rfl,rfl,hz,he,q⟩:=h;obtain⟨t,rfl⟩:=rx;obtain⟨t',rfl⟩:=ry;obtain⟨j,h1,h2,h3,h4,h5⟩:=qj he;have hl:z.cps.toList.length=z.length:=by simp[Str.length]
 rw[hl] at h1 h4 h5;have hn:=jy;exact tail_any (typeIs_str s z t) slot_str_getitem.lookup (getItem_str (c:=c) (by
  have e1:decide (i < -(2^63:Int))=false:=decide_eq_false `a
  have e2:decide (i≥2^63)=false:=decide_eq_false `a
  rw[e1,e2,Bool.or_false]) (by rw[h1];simpa using h2) {.str {#[c]},H,I.tok _,{_,rfl},q}) hs
def HS (K:Ow):R2:=λx y H Q=>HR K x y H Q\/HP K x y H Q\/HQ x y H Q
def Jo:j3 X (HS X.K):=FQ.or (Jm.or Jn)
def we (its:List Ox)(n j:Nat)(u:Ox):Obj.mapSeq (·.setIfInBounds j u) {cls:=.type "list",data:=.seq its.toArray n}={cls:=.type "list",data:=.seq (its.set j u).toArray n}:=by
 simp[Obj.mapSeq]
def Inv.lst {pins:List (Addr×Obj)}{σ:St}{H:Hp}{s:Oy}{p:Addr}{xs:List V}(I:Inv X pins σ H s)(h:H p=some (.lst xs)) :
 ∃(its:List Ox) (n:Nat),Vals xs its/\s.heap.get? p=some {cls:=.type "list",data:=.seq its.toArray n}/\xs.length<=sizeLine:=by
 obtain⟨z,its,n,r,e⟩:=I.hok p _ h;exact⟨its,n,r,e,z⟩
def Inv.lstUpd {pins:List (Addr×Obj)}{σ:St}{H:Hp}{s:Oy}{p:Addr}{xs ys:List V}{its its':List Ox}{n n':Nat}{f:Obj->Obj}(I:Inv X pins σ H s)(h:H p=some (.lst xs))
 (ho:s.heap.get? p=some {cls:=.type "list",data:=.seq its.toArray n}) (hf:f {cls:=.type "list",data:=.seq its.toArray n}={cls:=.type "list",data:=.seq its'.toArray n'}) (r:Vals ys its') (hz:ys.length<=sizeLine) (t:Nat) :
 Inv X pins σ (upd H p (.lst ys)) {s with heap:=s.heap.update p f,toks:=t}:=by
 have e:(s.heap.update p f).get? p=some {cls:=.type "list",data:=.seq its'.toArray n'}:=by
  rw[PX f ho (by rw[hf]<;>rfl),hf]
 refine I.write (x:=p) (e:=p) (by rw[h];trivial) (.inl rfl) (λb u hb q=>(Qk _ _ (PN hb)).trans q) {_,e} ?_
 exact⟨hz,its',n',r,e⟩
def Dd:V->V->V->Hp->(Hp->Prop)->Prop:=λo i v H Q=>∃p xs k j,o=.ref p/\i=.int k/\H p=some (.lst xs)/\bW xs.length k=some j/\Q (upd H p (.lst (xs.set j v)))
def set_list:Cy X Dd:=by
 intro pins s σ H o i v ov iv u Q I ro ri rv h;obtain⟨p,xs,k,j,rfl,rfl,hp,hj,q⟩:=h;cases ro;obtain⟨t,rfl⟩:=ri;obtain⟨its,n,r,ho,hz⟩:=I.lst hp;obtain⟨h1,h2,h3,h4⟩:=vd hj;have hl:=r.length;have hn:=jy;have I':Inv X pins σ (upd H p (.lst (xs.set j v))) {s with heap:=s.heap.update p (Obj.mapSeq (·.setIfInBounds j u))}:=
  I.lstUpd hp ho (we its n j u) (r.set rv j) (by rw[List.length_set];exact hz) s.toks
 by_cases h0:0<=k
 ·have hk:k.toNat=j:=by
   rw[seqIndex_of h0 h4] at h1;exact OD h1
  exact PySem.W.ki_setAt ho h0 `a (by rw[OH,<- hl];exact h4) (by rw[hk];exact{_,I',q})
 ·have hk:(k+(its.toArray.size:Int)).toNat=j:=by
   rw[seqIndex_neg `a h3] at h1
   rw[OH,<- hl];exact OD h1
  exact PySem.W.ki_setBack ho `a (by rw[OH,<- hl];exact h3) `a (by rw[hk];exact{_,I',q})
def sd (lo hi:Option Int)(n:Nat):(sliceBounds lo hi none n).1=((HT.aT n 0 lo:Nat):Int)/\(sliceBounds lo hi none n).2.1=((HT.aT n n hi:Nat):Int)/\(sliceBounds lo hi none n).2.2=1:=by
 refine{?_,?_,rfl}
 ·cases lo with
  |none=>simp[sliceBounds,HT.aT]
  | some i =>
    simp only[sliceBounds,HT.aT,Option.getD_none,show(1:Int) > 0 by decide,if_true]
    by_cases h:i<0
    ·simp only[h,if_true]<;>omega
    ·simp only[h,if_false]<;>omega
 ·cases hi with
  |none=>simp[sliceBounds,HT.aT]
  | some i =>
    simp only[sliceBounds,HT.aT,Option.getD_none,show(1:Int) > 0 by decide,if_true]
    by_cases h:i<0
    ·simp only[h,if_true]<;>omega
    ·simp only[h,if_false]<;>omega
def qV (its:List Ox)(lo hi:Option Int):slicePick its.toArray lo hi none=((its.drop (HT.aT its.length 0 lo)).take (HT.aT its.length its.length hi-HT.aT its.length 0 lo)).toArray:=by
 obtain⟨h1,h2,h3⟩:=sd lo hi its.toArray.size;unfold slicePick;rw[h1,h2,h3];simp only[sliceRange_one,pick_run,OH]<;>rfl
def HN (K:Ow):V->Option Int->Option Int->Hp->VK->Prop:=λx lo hi H Q=>∃a xs,x=.ref a/\cX K H a xs/\∀p,H p=none->Q (.ref p) (upd H p (.lst (mx xs lo hi)))
def E2:mC X (HN X.K):=by
 intro pins s σ H x v vl vu lo hi sl Q I rx hs pl pu h;obtain⟨a,xs,rfl,hx,q⟩:=h;cases rx;obtain⟨its,r,ht,hz⟩:=I.list hx;have hlen:=r.length;refine{"list",_,slot_list_getitem.lookup,ht.isList.typeIs,?_};refine wpAny_getItem_list_slice ht.isList hs pl pu .none `s ?_ (by rw[OH]<;>omega)
 rw[qV,<- hlen];refine{.ref s.heap.objs.size,_,I.laid (t':=s.toks) (o:=.lst (mx xs lo hi)) (λb ob q=>OA _ q) (OC _) ?_,rfl,q _ (I.hok.fresh (OC _))};exact{OZ (nh xs lo hi) hz,_,0,(r.drop (HT.aT xs.length 0 lo)).take (HT.aT xs.length xs.length hi-HT.aT xs.length 0 lo),OJ _ rfl}
def ub:cy X (.builtin "len") (λxs H Q=>∃p ys,xs=[.ref p]/\(cX X.K H p ys\/dH X.K H p ys)/\Q (.int ys.length) H):=by
 intro pins s σ H xs us Q I r h;obtain⟨p,ys,rfl,hq,q⟩:=h;obtain⟨u,rfl,rx⟩:=vals1 r;cases rx;have hn:=jy;rcases hq with hq|hq
 ·obtain⟨its,r',pl,hz⟩:=I.list hq;have hlen:=r'.length;exact Calls.call_len_list pl.isList (by simp only[OH]<;>omega) {.int ys.length,H,I.tok _,{s.toks+1,by rw[OH,hlen]},q}
 ·obtain⟨its,r',pl,hz⟩:=I.tuple hq;have hlen:=r'.length;exact len_tuple pl (by simp only[OH]<;>omega) {.int ys.length,H,I.tok _,{s.toks+1,by rw[OH,hlen]},q}
def ua:cy X (.builtin "len") (λxs H Q=>∃z,xs=[.str z]/\z.length<=sizeLine/\Q (.int z.length) H):=by
 intro pins s σ H xs us Q I r h;obtain⟨z,rfl,hz,q⟩:=h;obtain⟨u,rfl,t,rfl⟩:=vals1 r;have hn:=jy;exact len_str `a {.int z.length,H,I.tok _,{_,rfl},q}
def cy.or {f:Ox}{r r':List V->Hp->VK->Prop}(h:cy X f r)(h':cy X f r'):cy X f (λxs H Q=>r xs H Q\/r' xs H Q):=by
 intro pins s σ H xs us Q I rs q;rcases q with q|q
 ·exact h pins s σ H xs us Q I rs q
 ·exact h' pins s σ H xs us Q I rs q
def t9:cy X (.type "list") (λxs H Q=>∃p ys,xs=[.ref p]/\(cX X.K H p ys\/dH X.K H p ys)/\∀l,H l=none->Q (.ref l) (upd H l (.lst ys))):=by
 intro pins s σ H xs us Q I r h;obtain⟨p,ys,rfl,hq,q⟩:=h;obtain⟨u,rfl,rx⟩:=vals1 r;cases rx;have fin:∀(its:List Ox),Vals ys its->ys.length<=sizeLine->∀(h':Heap) (c':Nat),(∀b o',s.heap.get? b=some o'->h'.get? b=some o')->
  h'.get? s.heap.objs.size=some {cls:=.type "list",dict:=none,data:=.seq its.toArray c',slots:=#[]}->EP X pins σ Q (.ref s.heap.objs.size) {s with heap:=h'}:=λits r' hz h' c' kp e=>
  {.ref s.heap.objs.size,_,I.laid (t':=s.toks) kp (OC _) (show bI X.prog X.w _ h' _ (.lst ys) from⟨hz,its,c',r',e⟩),rfl,q _ (I.hok.fresh (OC _))}
 rcases hq with hq|hq
 ·obtain⟨its,r',pl,hz⟩:=I.list hq;have hlen:=r'.length;obtain⟨o,ho,hc,n,hd⟩:=pl.isList;exact call_list_seq p (.inl rfl) ho hc hd (λh' c' kp e=>fin its r' hz h' c' kp e) (by simp only[OH]<;>omega)
 ·obtain⟨its,r',pl,hz⟩:=I.tuple hq;have hlen:=r'.length;obtain⟨o,ho,hc,n,hd⟩:=pl;exact call_list_seq p (.inr rfl) ho hc hd (λh' c' kp e=>fin its r' hz h' c' kp e) (by simp only[OH]<;>omega)
def qX:cy X (.type "tuple") (λxs H Q=>∃p ys,xs=[.ref p]/\((cX X.K H p ys/\∀l,H l=none->Q (.ref l) (upd H l (.tup ys)))\/(dH X.K H p ys/\Q (.ref p) H))):=by
 intro pins s σ H xs us Q I r h;obtain⟨p,ys,rfl,h⟩:=h;obtain⟨u,rfl,rx⟩:=vals1 r;cases rx;rcases h with⟨hq,q⟩|⟨hq,q⟩
 ·obtain⟨its,r',pl,hz⟩:=I.list hq;have hlen:=r'.length;refine call_tuple_list pl.isList (λh' kp=>?_) (by simp only[OH]<;>omega)
  have I1:Inv X pins σ H {s with heap:=h'}:=I.kept (t':=s.toks) kp
  have I2:Inv X pins σ (upd H h'.objs.size (.tup ys)) {s with heap:=h'.push {cls:=.type "tuple",data:=.seq its.toArray}}:=
   I1.laid (t':=s.toks) (λb o e=>OA _ e) (OC _) (show bI X.prog X.w _ _ _ (.tup ys) from{hz,its,r',IsTup.new _ _})
  exact{.ref h'.objs.size,_,I2,rfl,q _ (I1.hok.fresh (OC _))}
 ·obtain⟨its,r',pl,hz⟩:=I.tuple hq;exact call_tuple_same pl {.ref p,H,I,rfl,q}
def Hc (K:Ow)(T:String)(x:V)(H:Hp):Prop:=match x with
 |.str _=>T="str"
 |.int _=>T="int"
 |.ref p=>(T="list"/\∃xs,cX K H p xs)\/(T="tuple"/\∃o,K.lookup p=some o/\o.cls=.type "tuple"/\o.dict=none)\/
  (T="dict"/\((∃kvs,H p=some (.dK kvs))\/∃kvs,H p=some (.dT kvs)))\/(T="set"/\∃S n,H p=some (.set S n))
 |_=>False
def xJ {pins:List (Addr×Obj)}{σ:St}{H:Hp}{s:Oy}{T:String}{x:V}{v:Ox}(I:Inv X pins σ H s)(r:RelV x v)(ty:Hc X.K T x H) :
 s.TypeIs v T/\∀a,v=.ref a->∃ob,s.heap.get? a=some ob/\ob.dict=none:=by
 cases x with
 | str z =>
   obtain⟨t,rfl⟩:=r;cases (show T="str" from ty);exact{typeIs_str s z t,λ_ e=>nomatch e}
 | int i =>
   obtain⟨t,rfl⟩:=r;cases (show T="int" from ty);exact{typeIs_int s i t,λ_ e=>nomatch e}
 | ref p =>
   cases r;rcases ty with⟨rfl,xs,hq⟩|⟨rfl,o,hk,hc,hd⟩|⟨rfl,hk⟩|⟨rfl,S,n,hk⟩
   ·obtain⟨its,_,pl,_⟩:=I.list hq;refine{pl.isList.typeIs,λa e=>?_};cases e;obtain⟨o,n,e,c,hd,_⟩:=pl;exact⟨o,e,hd⟩
   ·refine{{o,I.kIn p o hk,hc},λa e=>?_};cases e;exact{o,I.kIn _ o hk,hd}
   ·have z:∃o,s.heap.get? p=some o/\o.ExactDict:=by
     rcases hk with⟨kvs,hk⟩|⟨kvs,hk⟩
     ·obtain⟨_,_,_,_,o,_,_,e,ex,_⟩:=I.hok p _ hk;exact⟨o,e,ex⟩
     ·obtain⟨_,_,_,_,o,_,_,e,ex,_⟩:=I.hok p _ hk;exact⟨o,e,ex⟩
    obtain⟨o,e,ex⟩:=z;refine{⟨o,e,ex.1⟩,λa e2=>?_};cases e2;exact⟨o,e,ex.2.1⟩
   ·obtain⟨o,_,_,_,e,ex,_⟩:=I.hok p _ hk;refine{⟨o,e,ex.1⟩,λa e2=>?_};cases e2;exact⟨o,e,ex.2.1⟩
 |_=>exact False.elim ty
def Ng (K:Ow)(T:String)(r:V->List V->Hp->VK->Prop)(to:TE):TE:=λσ H Q=>to σ H λx H1=>Hc K T x H1/\r x [] H1 Q
def tBM (K:Ow)(T:String)(r:V->List V->Hp->VK->Prop)(to:TE)(t:TA):TE:=λσ H Q=>to σ H λx H1=>Hc K T x H1/\t σ H1 λxs H2=>r x xs H2 Q
variable{o e:Expr}{es:List Expr}{to:TE}{t:TA}{name:Str}{apos cpos:Pos}{T id:String}{r:V->List V->Hp->VK->Prop}
def Il (pa:PlainAttrs T)(slot:Slot T name id)(hty:typeOf (.builtin id)=pure (.type "method_descriptor"))(hm:Ko X id r)(ho:PE X o to)
 (hbase:attributeBase o name X.env (eval o X.env)=eval o X.env:=by rfl) (hline:(apos.endLine==cpos.line)=true:=by rfl):PE X (.Call (.Attribute o name apos) [] [] cpos) (Ng X.K T r to):=by
 intro pins s σ H Q I h;refine wpAny_Call_method0_late hbase hline (aQ (ho pins s σ H _ I h) λv s1 ⟨x,H1,I1,r1,ty,q1⟩=>?_);obtain⟨h1,h2⟩:=xJ I1 r1 ty;exact{T,id,pa,slot,hty,h1,h2,Calls.callWith_builtin rfl (PySem.evalArgs_none (hm pins s1 σ H1 x [] v [] Q I1 r1 .nil q1))}
def v7 (pa:PlainAttrs T)(slot:Slot T name id)(hty:typeOf (.builtin id)=pure (.type "method_descriptor"))(hm:Ko X id r)(ho:PE X o to)(ha:PA X (e::es) t)
 (hbase:attributeBase o name X.env (eval o X.env)=eval o X.env:=by rfl)
 (hfew:((backTo cpos (starEach (e::es) X.env)).all (λx=>!x.1)&&(backToKw cpos (keywordEach [] X.env)).all (λx=>x.1.isSome)
  && decide ((e::es).length+([]:List Keyword).length+(if ([]:List Keyword).isEmpty then 0 else 1)<30))=true:=by rfl)
 (hline:(apos.endLine==cpos.line)=true:=by rfl) (hs:starEach (e::es) X.env=(false,eval e X.env)::starEach es X.env:=by rfl) (hplain:(backTo cpos (starEach es X.env)).any (·.1)=false:=by rfl) :
 PE X (.Call (.Attribute o name apos) (e::es) [] cpos) (tBM X.K T r to t):=by
 intro pins s σ H Q I h;refine wpAny_Call_method_late hbase hfew hline rfl (aQ (ho pins s σ H _ I h) λv s1 ⟨x,H1,I1,r1,ty,q1⟩=>?_);obtain⟨h1,h2⟩:=xJ I1 r1 ty;refine{T,id,pa,slot,hty,h1,h2,?_};have hA:=ha cpos pins s1 σ H1 _ I1 q1;rw[hs] at hA ⊢;refine Calls.callWith_builtin (by show(false||(backTo cpos (starEach es X.env)).any (·.1))=false;rw[hplain]<;>rfl) (Calls.evalArgs_plain ?_)
 exact aQ hA λus s2 ⟨vs,H2,I2,r2,q2⟩=>hm pins s2 σ H2 x vs v us Q I2 r1 r2 q2
end
def MR (X:Cx)(id:String)(r:V->List V->Hp->VK->Prop):Prop:=
 ∀(pins:List (Addr×Obj)) (s:Oy) (σ:St) (H:Hp) (x:V) (xs:List V) (v:Ox) (us:List Ox) (Q:VK),Inv X pins σ H s->RelV x v->Vals xs us->r x xs H Q->
  wpAny (model X.prog X.w) X.A (call (.builtin id) (v::us)) (EP X pins σ Q) X.xe s
def Vals.one:∀{x:V}{us:List Ox},Vals [x] us->∃u,us=[u]/\RelV x u
 |_,_,.cons r .nil=>{_,rfl,r}
def Vals.zero:∀{us:List Ox},Vals [] us->us=[]
 |_,.nil=>rfl
def Vals.rep {xs:List V}{us:List Ox}(h:Vals xs us):∀k:Nat,Vals (List.replicate k xs).flatten (List.replicate k us).flatten
 |0=>.nil
 | k + 1 => by
   rw[Qr,Qr,QN,QN];exact Vals.append h (Vals.rep h k)
def foldl_rep (its:List Ox):∀(k:Nat) (acc:List Ox),
 List.foldl (λx1 x2=>x1++x2) acc.toArray (List.replicate k its.toArray)=(acc++(List.replicate k its).flatten).toArray
 |0,acc=>`s
 | k + 1, acc => by
   have e:acc.toArray++its.toArray=(acc++its).toArray:=`s
   have e2:(acc++its)++(List.replicate k its).flatten=acc++(List.replicate (k+1) its).flatten:=by
    rw[Qr,QN,PK]
   rw[<- e2,<- foldl_rep its k (acc++its),<- e,Qr,List.foldl_cons]
section
variable{X:Cx}{pins:List (Addr×Obj)}{σ:St}{H:Hp}{s:Oy}{l b:Addr}{xs ys zs:List V}
def Inv.lset {its its':List Ox}{n:Nat}{f:Array Ox->Array Ox}{t':Nat}(I:Inv X pins σ H s)(hH:H l=some (.lst xs))
 (e:s.heap.get? l=some {cls:=.type "list",data:=.seq its.toArray n}) (hf:f its.toArray=its'.toArray) (hv:Vals ys its') (hz:ys.length<=sizeLine) :
 Inv X pins σ (upd H l (.lst ys)) {s with heap:=s.heap.update l (Obj.mapSeq f),toks:=t'}:=by
 have q:=PySem.IsL.update e f;rw[hf] at q;refine I.write (x:=l) (e:=l) (by rw[hH];exact trivial) (.inl rfl) (λb' u hb hu=>(Qk s.heap (Obj.mapSeq f) (PN hb)).trans hu) {_,q} ?_
 exact{hz,its',_,hv,q}
def Inv.lnew {its:List Ox}{t':Nat}(I:Inv X pins σ H s)(hv:Vals ys its)(hz:ys.length<=sizeLine) :
 Inv X pins σ (upd H s.heap.objs.size (.lst ys)) {s with heap:=s.heap.push {cls:=.type "list",data:=.seq its.toArray},toks:=t'}:=
 I.laid (λ_ _ q=>OA _ q) (OC _) {hz,its,0,hv,OJ _ rfl}
def Inv.fresh (I:Inv X pins σ H s):H s.heap.objs.size=none:=I.hok.fresh (OC _)
def Inv.lstM (I:Inv X pins σ H s)(hH:H l=some (.lst xs)):xs.length<=sizeLine/\∃(its:List Ox) (n:Nat),Vals xs its/\xs.length=its.length/\s.heap.get? l=some {cls:=.type "list",data:=.seq its.toArray n}:=by
 obtain⟨z,its,n,r,e⟩:=I.hok l _ hH;exact⟨z,its,n,r,r.length,e⟩
def Bt {n:Nat}(h:n<=sizeLine):Builtin.List.listTooLong n=false:=by
 unfold Builtin.List.listTooLong;exact decide_eq_false `a
end
section
variable{X:Cx}
def Fe:V->List V->Hp->VK->Prop:=λx vs H Q=>∃l xs y,x=.ref l/\vs=[y]/\H l=some (.lst xs)/\xs.length<sizeLine/\Q .non (upd H l (.lst (xs++[y])))
def l5:MR X "list.append" Fe:=by
 intro pins s σ H x vs v us Q I rx rv h;obtain⟨l,xs,y,rfl,rfl,hH,hz,q⟩:=h;cases rx;obtain⟨u,rfl,ru⟩:=rv.one;obtain⟨z,its,n,r,hl,e⟩:=I.lstM hH;refine call_meets F.slot_list_append {_,e,rfl} F.entry_list_append (F.args_list_append_2 _ _) (PySem.list_append l its.toArray n u (by rw[OH];omega)) {e,?_}
 refine{.non,_,I.lset (its':=its++[u]) hH e `s (r.append (.cons ru .nil)) ?_,rfl,q}
 rw[Pn,List.length_singleton];omega
def HU:V->List V->Hp->VK->Prop:=λx vs H Q=>∃l xs,x=.ref l/\vs=[]/\H l=some (.lst xs)/\Q .non (upd H l (.lst []))
def BA:MR X "list.clear" HU:=by
 intro pins s σ H x vs v us Q I rx rv h;obtain⟨l,xs,rfl,rfl,hH,q⟩:=h;cases rx;have hus:=rv.zero;subst hus;obtain⟨z,its,n,r,hl,e⟩:=I.lstM hH;refine call_meets F.slot_list_clear {_,e,rfl} F.entry_list_clear (F.args_list_clear_1 _) (AutoSeq1.list_clear_list_0 l its.toArray n (by rw[OH];omega)) {e,?_}
 exact{.non,_,I.lset (its':=[]) (ys:=[]) hH e rfl .nil (Qc _),rfl,q}
def Nl:R2:=λx y H Q=>∃l b xs zs,x=.ref l/\y=.ref b/\H l=some (.lst xs)/\H b=some (.lst zs)/\xs.length+zs.length<=sizeLine/\∀p,H p=none->Q (.ref p) (upd H p (.lst (xs++zs)))
def Iy:bE X (binaryOp .Add) Nl:=by
 intro pins s σ H x y v u Q I rx ry h;obtain⟨l,b,xs,zs,rfl,rfl,hH,hB,hz,q⟩:=h;cases rx;cases ry;obtain⟨z,its,n,r,hl,e⟩:=I.lstM hH;obtain⟨z2,its2,n2,r2,hl2,e2⟩:=I.lstM hB;refine PySem.P.add_list e e2 ?_ (by rw[OH,OH];omega)
 have ea:its.toArray++its2.toArray=(its++its2).toArray:=`s
 rw[ea];exact{.ref _,_,I.lnew (t':=s.toks) (r.append r2) (by rw[Pn];omega),rfl,q _ I.fresh}
def Nk:R2:=λx y H Q=>∃l k xs,x=.ref l/\y=.int k/\H l=some (.lst xs)/\-(2^63)<=k/\k<2^63/\xs.length*k.toNat<=sizeLine/\
 ∀p,H p=none->Q (.ref p) (upd H p (.lst (List.replicate k.toNat xs).flatten))
def len_rep {α:Type}(xs:List α)(k:Nat):(List.replicate k xs).flatten.length=k*xs.length:=by
 induction k with
 |zero=>simp
 |succ k ih=>rw[Qr,QN,Pn,ih,Nat.succ_mul,Nat.add_comm]
def Iq:bE X (binaryOp .Mult) Nk:=by
 intro pins s σ H x y v u Q I rx ry h;obtain⟨l,k,xs,rfl,rfl,hH,h1,h2,hz,q⟩:=h;cases rx;obtain⟨t,rfl⟩:=ry;obtain⟨z,its,n,r,hl,e⟩:=I.lstM hH;have hlen:its.toArray.size*k.toNat<=sizeLine:=by rw[OH,<- hl];exact hz
 have hcap:¬ its.toArray.size*k.toNat > (2^63-1) / 8:=by
  have:(sizeLine:Nat)<=(2^63-1) / 8:=`d
  omega
 have hfit:¬ (!Builtin.List.listFitsIndex k)=true:=by
  rw[fitsIndex_both h1 h2];exact OR
 have hlong:¬ Builtin.List.listTooLong (its.toArray.size*k.toNat)=true:=by
  rw[Bt hlen];exact OR
 have hnew:List.foldl (λx1 x2=>x1++x2) #[] (List.replicate (if its.toArray.isEmpty=true then 0 else k.toNat) its.toArray)=(List.replicate k.toNat its).flatten.toArray:=by
  have f0:∀m:Nat,List.foldl (λx1 x2=>x1++x2) #[] (List.replicate m its.toArray)=(List.replicate m its).flatten.toArray:=λm=>by
   have:=foldl_rep its m [];rw[Qi] at this;exact this
  rw[f0];cases its with
  |nil=>simp
  |cons a r'=>rw[if_neg `s]
 refine wpAny_binaryOp_repeat_ref (T:="list") (U:="int") `d {_,e,rfl} (λs'=>typeIs_int s' k t) noFill_list_mul F.fills_int_mul F.slot_int_rmul repeat_list F.slot_int_index.lookup
  (call_meets F.slot_int_rmul (typeIs_int s k t) F.entry_int_rmul (F.args_int_rmul_2 _ _) (int___rmul___int_list k t l its.toArray n)
   {e,rfl,{_,e,rfl},call_meets F.slot_list_mul {_,e,rfl} F.entry_list_mul (F.args_list_mul_2 _ _) (AutoListH.list___mul___list_int_3 l its.toArray n k t hfit hcap hlong) {e,?_}})
 rw[hnew];exact{.ref _,_,I.lnew (t':=s.toks) (r.rep k.toNat) (by rw[len_rep,Nat.mul_comm];exact hz),rfl,q _ I.fresh}
end
end L2
namespace Att
open PySem PySem.W PySem.Calls PyProof.Rows
def oQ {P:Qh}{h:Heap}:∀(ns:List Int) (vs:List Ox),WellAll P h vs (ns.map WData.int)->IntsAre vs ns:=by
 intro ns;induction ns with
 | nil =>
   intro vs w;rw[QK] at w;cases w;exact .nil
 | cons n ns ih =>
   intro vs w;rw[Pr] at w;cases w with
   | cons a b =>
     cases a;exact .cons _ _ (ih _ b)
def yj {l:OpenLaw}{n:Nat}(hn:l.most=some n){P:Qh}{h:Heap}{args:List WData}{vals:List Ox}
 (hpre:l.row.toRowW.claim.pre args=true) (hwl:WellAll P h vals args) :
 ∃a vs ns,vals=[Value.ref a]/\args=[WData.list (ns.map WData.int)]/\h.get? a=some {cls:=.type "list",data:=.seq vs.toArray}/\IntsAre vs ns/\ns.length<=n:=by
 have hsh:WShape.hasAll [] args [.list .int]=true:=(pre_splitW hpre).1;have hc:l.pre.holds [] {args:=args}=true:=(pre_splitW hpre).2;obtain⟨d,r,rfl,h1,h2⟩:=hasAllW_cons hsh;obtain rfl:=hasAllW_nil h2;obtain⟨xs,rfl,h3⟩:=hasW_list h1;obtain⟨ns,rfl⟩:=items_int h3;have hlen:ns.length<=n:=by
  unfold OpenLaw.pre at hc;have h4:(WTm.not (.lt (.lit (.int (n:Int))) (.len (.arg 0)))).holds [] {args:=[.list (ns.map .int)]}=true:=by
   have h4:=(holds_andW hc).1;rw[hn] at h4;exact h4
  have h5:=condW_of h4 (w_not (w_lt w_lit (w_len_list (w_arg rfl))));rw[Oz] at h5;refine Nat.le_of_not_lt λq=>?_;have q':(n:Int)<((ns.length:Nat):Int):=`a
  first
   |(rw[decide_eq_true q'] at h5;exact absurd h5 `d)
   |(simp at h5;omega)
 cases hwl with
 | cons w1 w2 =>
   cases w2;cases w1 with
   |list ho hall=>exact{_,_,ns,rfl,rfl,ho,oQ ns _ hall,hlen}
def yB (l:OpenLaw)(args:List WData):l.row.toRowW.claim.post args (.bool true) args=true:=
 postW_of (r:=l.row.toRowW) (X:=(true==true))
  (show WShape.has [] (.bool true) .bool=true by first|rfl|decide|simp[WShape.has,WShape.arms,WShape.armsAll])
  (show(WTm.eq .res (.lit (.bool true))).value [] {args:=args,res:=some (.bool true),after:=args}=some (.bool (true==true)) from w_eq_bool (w_res rfl) w_lit) rfl
def attach_call {l:OpenLaw}{n:Nat}{q:O2}{loose:List Str}{XP:(Str->Option Ox)->Heap->Prop}{YP:O9->Heap->Prop}{d:DefRec}
 (hn:l.most=some n) (hdf:d.params.defaults=[])
 (call:∀(w:O9) (s₀ s₁:Oy) (mg mb:Str->Option Ox) (fa:Addr) (o:Obj) (pm cd doc:Ox) (a:Addr) (vs:List Ox) (ns:List Int),
  Ground q loose [] XP w s₀ mg mb s₁.heap->YP w s₁.heap->
  s₁.heap.get? fa=some o->o.data=.func (docDef d.name d.params d.body d.scope pm cd doc)->s₁.heap.CodeRec cd d.name->mg d.name=some (.ref fa)->
  s₁.heap.get? a=some {cls:=.type "list",data:=.seq vs.toArray}->IntsAre vs ns->ns.length<=n->s₁.gens=#[]->
  codeAny (model l.prog w) callerA (.call (.ref fa) {[.ref a],[]}) (λr s'=>r=.ok (.ret (.bool true))/\OldK s₁.heap s'.heap/\s'.os=s₁.os/\AllBare s'.gens) s₁) :
 WalkO q loose XP YP l.row.toRowW d [] (λf vs=>PySem.call f vs):=by
 intro w s₀ s₁ mg mb G Y fa o pm cd doc dV kV ho hd hcd hD hmg hg args vals as hpre hlay hrd hwl hlo;obtain rfl:dV=.none:=Dflts.none hD hdf;obtain rfl:kV=.none:=Dflts.noKw hD;obtain⟨a,vs,ns,rfl,rfl,hobj,hints,hlen⟩:=yj hn hpre hwl;refine enter_call (codeAny_mono (call w s₀ s₁ mg mb fa o pm cd doc a vs ns G Y ho (fd_plain hd) hcd hmg hobj hints hlen hg) λr s' hq=>?_);obtain⟨rfl,h2,h3,h4⟩:=hq;exact{.inl {.bool true,.bool true,[],rfl,λ_=>rfl,.bool true,yB l _,λ_=>{List.Pairwise.nil,λ_ hm=>(nomatch hm)}},h2,h3,h4}
end Att
namespace L2
open PySem PySem.Spec PyProof.Rows
def qr:∀{vs:List Ox}{ns:List Int},IntsAre vs ns->Vals (ns.map V.int) vs
 |_,_,.nil=>.nil
 |_,_,.cons n t h=>.cons ⟨t,rfl⟩ (qr h)
def xb (H:Hp):Prop:=∀b,H b=none\/∃o xs,H b=some (.frz o (.lst xs))
def BK {P:O2}{w:O9}{K:Ow}{mg mb:Str->Option Ox}{CX:nq}{k:Nat}{fa a:Addr}{fd:QU}{x:Str}{sp:Sp}{s₁:Oy}{vs:List Ox}{ns:List Int}
 (KX:K.In s₁.heap) (hns:s₁.heap.Ns mainGlobals mg) (hb:s₁.heap.Ns builtinsNs mb) (hbb:∀x:Str,x≠"__name__"->mb x=bootBuiltins x) (hlim:s₁.heap.NoLimit) (hg:s₁.gens=#[])
 (ha:s₁.heap.get? a=some {cls:=.type "list",data:=.seq vs.toArray}) (hi:IntsAre vs ns) (hl:ns.length<=sizeLine) (hr:dD k callerA)
 (F:∀base:Heap,K.In base->base.Ns mainGlobals mg->lO P w K mg base CX k fa fd [x] sp) (hbind:∀(s:Oy) (u:Ox),BindsTo s fd {[u],[]} [(x,u)])
 (hsp:∀H:Hp,xb H->cX K H a (ns.map V.int)->sp [.ref a] H (λv _=>v=.bl true) λ_ _ _=>False)
 (hCX:∀H e s',CX [] H s₁ (λ_ _ _=>False) e s'->False) :
 codeAny (model P w) callerA (.call (.ref fa) {[.ref a],[]}) (λr s'=>r=.ok (.ret (.bool true))/\OldK s₁.heap s'.heap/\s'.os=s₁.os/\AllBare s'.gens) s₁:=by
 have rv:=qr hi;have lenV:=hi.length;have core:∀H:Hp,xb H->cX K H a (ns.map V.int)->eK P w H s₁.heap->(∀b,H b≠none->b=a)->(H a≠none->K.lookup a=none)->
  codeAny (model P w) callerA (.call (.ref fa) {[.ref a],[]}) (λr s'=>r=.ok (.ret (.bool true))/\OldK s₁.heap s'.heap/\s'.os=s₁.os/\AllBare s'.gens) s₁:=by
  intro H hO hS hok hA hK;have ia:∀{b:Addr}{o:Obj},s₁.heap.get? b=some o->H b=none->(lC s₁.heap H).get? b=some o:=λe n=>B2 e n;have noA:∀{b:Addr}{o:Obj}{es:Array Pu}{ep:Nat},s₁.heap.get? b=some o->o.data=.dict es ep->H b=none:=λ{b o es ep} e d=>by
   cases q:H b with
   |none=>rfl
   | some u =>
     have e':b=a:=hA b (by rw[q];simp)
     subst e';rw[ha] at e;cases e;have d':Data.seq vs.toArray _=Data.dict es ep:=d;cases d'
  have nsK:∀{b:Addr}{m:Str->Option Ox},s₁.heap.Ns b m->(lC s₁.heap H).Ns b m:=λ{b m} ⟨o,es,ep,e,d,r⟩=>{o,es,ep,ia e (noA e d),d,r};have hKb:K.In (lC s₁.heap H):=λb o e=>ia (KX b o e) (by
   cases q:H b with
   |none=>rfl
   | some u =>
     have e':b=a:=hA b (by rw[q];simp)
     subst e';rw[hK (by rw[q];simp)] at e;cases e)
  have hM:Mod K mg (lC s₁.heap H):={hKb,nsK hns,{mb,nsK hb,hbb},let⟨mc,h1,h2⟩:=hlim;{mc,nsK h1,h2}}
  have e0:xj P w K mg (lC s₁.heap H) callerA [] s₁ H:={rfl,hM,λb o e=>Fz e,Nat.le_of_eq (zx _ _),trivial,λb hb=>absurd (show b∈([]:List Addr) from hb) `s,hok,.of_eq hg}
  refine codeAny_mono ((F _ hKb (nsK hns)).run callerA [] s₁ H {[.ref a],[]} [.ref a] [.ref a] _ _ hr e0 (hbind s₁ (.ref a)) (.cons rfl .nil) (hsp H hO hS)) λr s' h=>?_;cases r with
  |error e=>exact(hCX H e s' h).elim
  | ok fl =>
    cases fl with
    |next=>exact False.elim h
    |brk=>exact False.elim h
    |cont=>exact False.elim h
    | ret u =>
      obtain⟨v,H',os,bare,un,hok',r',q⟩:=h;have q':v=.bl true:=q;subst q';obtain rfl:u=Value.bool true:=r';refine{rfl,OldK.of_keep λb o e=>?_,os,bare};cases q:H b with
      |none=>exact un.keep b o e q (by intro z;exact absurd (show b∈([]:List Addr) from z) `s) `s
      | some u =>
        rcases hO b with z|⟨ob,xs,z⟩
        ·rw[q] at z;cases z
        ·have z2:=un.frzs b ob _ z;obtain⟨e1,_⟩:=hok b _ z;obtain⟨e2,_⟩:=hok' b _ z2;rw[e] at e1;cases e1;exact e2
 cases hk:K.lookup a with
 | some o =>
   have e:=KX a o hk;rw[ha] at e;cases e;refine core (λ_=>none) (λ_=>.inl rfl) (.inr {_,vs.toArray,_,hk,rfl,rfl,rfl,by rw[OH,lenV];exact hl,by simpa using rv}) (λb u z=>by have z':(none:Option HO)=some u:=z;cases z') (λb z=>absurd rfl z) λz=>absurd rfl z
 | none =>
   refine core (λb=>if b=a then some (.frz {cls:=.type "list",data:=.seq vs.toArray} (.lst (ns.map V.int))) else none) (λb=>?_) (.inl (.inr {{cls:=.type "list",data:=.seq vs.toArray},if_pos rfl})) (λb u z=>?_) (λb z=>?_) λ_=>hk
   ·by_cases hb:b=a
    ·exact .inr {_,_,if_pos hb}
    ·exact .inl (if_neg hb)
   ·by_cases hb:b=a
    ·have z':=(if_pos hb).symm.trans z;cases z';subst hb;exact{ha,by rw[Oz];exact hl,vs,_,rv,ha}
    ·have z':=(if_neg hb).symm.trans z;cases z'
   ·by_cases hb:b=a
    ·exact hb
    ·exact absurd (if_neg hb) z
def Ep {l:PySem.W.OpenLaw}{n k:Nat}{q:O2}{loose:List Str}{XP:(Str->Option Ox)->Heap->Prop}{YP:O9->Heap->Prop}{d:DefRec}{K:Qh->Ow}{CX:O9->nq}{sp:O9->Sp}{x:Str}
 (hn:l.most=some n) (hn2:n<=sizeLine) (hdf:d.params.defaults=[]) (hr:dD k callerA)
 (hY:∀(w:O9) (h:Heap),YP w h->(K w.params).In h)
 (F:∀(w:O9) (mg:Str->Option Ox) (fa:Addr) (h:Heap),(K w.params).In h->h.Ns mainGlobals mg->mg d.name=some (.ref fa)->
  ∃fd:QU,(∀(s:Oy) (u:Ox),BindsTo s fd {[u],[]} [(x,u)])/\
   ∀base:Heap,(K w.params).In base->base.Ns mainGlobals mg->lO l.prog w (K w.params) mg base (CX w) k fa fd [x] (sp w))
 (hsp:∀(w:O9) (H:Hp) (a:Addr) (ns:List Int),ns.length<=n->xb H->cX (K w.params) H a (ns.map V.int)->sp w [.ref a] H (λv _=>v=.bl true) λ_ _ _=>False)
 (hCX:∀(w:O9) (H:Hp) (s:Oy) (e:Ox) (s':Oy),CX w [] H s (λ_ _ _=>False) e s'->False) :
 PySem.W.WalkO q loose XP YP l.row.toRowW d [] (λf vs=>PySem.call f vs):=by
 refine Att.attach_call hn hdf λw s₀ s₁ mg mb fa o pm cd doc a vs ns G Y ho hd hcd hmg hobj hints hlen hg=>?_;have KX:=hY w _ Y;obtain⟨fd,hb,hF⟩:=F w mg fa _ KX G.T.g hmg;exact BK KX G.T.g G.T.b G.T.builtins G.T.nolimit hg hobj hints (OZ hlen hn2) hr hF hb (λH hO hS=>hsp w H a ns hlen hO hS) λH e s'=>hCX w H s₁ e s'
def gD (s:Stmt):Arguments:=match s with
 |.FunctionDef _ a _ _ _ _ _ _ _ _=>a
 |_=>{posonlyargs:=[],args:=[],vararg:=none,kwonlyargs:=[],kw_defaults:=[],kwarg:=none,defaults:=[]}
def dI (s:Stmt):List Stmt:=match s with
 |.FunctionDef _ _ b _ _ _ _ _ _ _=>b
 |_=>[]
def bc (s:Stmt):Scope:=match s with
 |.FunctionDef _ _ _ _ _ _ sc _ _ _=>sc
 |_=>{kind:=.function,names:=[],isGenerator:=false,isCoroutine:=false}
abbrev E0:XK:=λ_ _ _=>False
structure vG (K:Ow) (x qual:Str) (st:Stmt) (f:Addr) (fd:QU):Prop where
 ex:∃(oc:Ox) (od:Option Addr) (kV doc pm:Ox) (an:Option Addr) (cdv ct:Ox) (osl:Array (Option Ox)),
  fd=PySem.W.fnOf x qual (gD st) (dI st) (bc st) .none kV doc pm an cdv ct/\K.lookup f=some {oc,od,.func fd,osl}/\PySem.W.codeIn K cdv qual=true
 kp:PySem.W.keepIn K (.ref f)=true
section
variable{P:O2}{w:O9}{K:Ow}{mg:Str->Option Ox}{base:Heap}
def Ju {x qual:Str}{st:Stmt}{f:Addr}{oc:Ox}{od an:Option Addr}{osl:Array (Option Ox)}{kV doc pm cdv ct:Ox}(l:K.lookup f=some {oc,od,.func (PySem.W.fnOf x qual (gD st) (dI st) (bc st) .none kV doc pm an cdv ct),osl})
 (c:PySem.W.codeIn K cdv qual=true) (k:PySem.W.keepIn K (.ref f)=true):vG K x qual st f (PySem.W.fnOf x qual (gD st) (dI st) (bc st) .none kV doc pm an cdv ct):={⟨oc,od,kV,doc,pm,an,cdv,ct,osl,rfl,l,c⟩,k}
end
end L2
namespace LD
open PySem
inductive D where
 |non|bl (b:Bool)|int (i:Int)|str (x:Str)|tup (ds:List D)|lst (ds:List D)|frz (ds:List D)|cell (k:Nat)|fn (f:Nat)|exc (c:Nat) (p:Option Int)
 deriving Inhabited
abbrev Mem:=List (List D)
abbrev Env:=List (Option D)
inductive Res (α:Type) where
 |ok (a:α) (M:Mem)
 |err (x:D) (M:Mem)
 |bad
def Res.bind {α β:Type}(r:Res α)(f:α->Mem->Res β):Res β:=match r with
 |.ok a M=>f a M
 |.err x M=>.err x M
 |.bad=>.bad
@[simp] theorem Res.bind_ok {α β:Type}(a:α)(M:Mem)(f:α->Mem->Res β):(Res.ok a M).bind f=f a M:=rfl
@[simp] theorem Res.bind_err {α β:Type}(x:D)(M:Mem)(f:α->Mem->Res β):(Res.err x M:Res α).bind f=.err x M:=rfl
@[simp] theorem Res.bind_bad {α β:Type}(f:α->Mem->Res β):(Res.bad:Res α).bind f=.bad:=rfl
inductive kJ where
 |add|sub|mul|fdiv|mod|pow
 deriving DecidableEq
inductive jI where
 |eq|ne|lt|le|gt|ge|isN|notN|isin|notin
 deriving DecidableEq
inductive Ty where
 |int|bool|str|tuple|list|own (c:Str)
 deriving DecidableEq
inductive vI where
 |len|tuple|list (m:Bool)|listR (m:Bool)|all|sum|repr
 deriving DecidableEq
inductive cf where
 |one (i:Nat)
 |tup (l:List Nat)
 |two (i:Nat) (l:List Nat)
noncomputable def sz:Nat:=16777216
def br (m:Bool)(ds:List D)(M:Mem):Res D:=if ds.length<=sz then(if m then .ok (.cell M.length) (M++[ds]) else .ok (.lst ds) M) else .bad
def lh (ds:List D)(M:Mem):Res D:=if ds.length<=sz then .ok (.tup ds) M else .bad
def b5 (M:Mem):D->Option (List D)
 |.lst ds=>some ds
 |.tup ds=>some ds
 |.frz ds=>some ds
 |.cell k=>M[k]?
 |_=>none
def dE (M:Mem):D->Option (List D)
 |.lst ds=>some ds
 |.frz ds=>some ds
 |.cell k=>M[k]?
 |_=>none
def jx (M:Mem):D->Option (List D)
 |.lst ds=>some ds
 |.cell k=>M[k]?
 |_=>none
def aA:Nat->D->Bool
 |_,.non=>true
 |_,.bl _=>true
 |_,.int _=>true
 |_,.str x=>x.cps.all (· < 0x110000)
 |n+1,.tup ds=>ds.all (aA n)
 |n+1,.lst ds=>ds.all (aA n)
 |0,.tup _=>false
 |0,.lst _=>false
 |_,.frz _=>false
 |_,.cell _=>false
 |_,.fn _=>false
 |_,.exc _ _=>false
mutual
def bV:D->D->Bool
 |.non,.non=>true
 |.bl a,.bl b=>a==b
 |.bl a,.int b=>(if a then 1 else 0)==b
 |.int a,.bl b=>a==(if b then 1 else 0)
 |.int a,.int b=>a==b
 |.str a,.str b=>a==b
 |.tup a,.tup b=>d7 a b
 |.lst a,.lst b=>d7 a b
 |_,_=>false
def d7:List D->List D->Bool
 |[],[]=>true
 |a::r,b::t=>bV a b&&d7 r t
 |[],_::_=>false
 |_::_,[]=>false
end
def g8:D->Bool
 |.str _=>true
 |_=>false
def jB (a b:D):Option Bool:=if g8 a&&g8 b||aA 64 a&&aA 64 b then some (bV a b) else none
def view (M:Mem):D->D
 | .cell k => match M[k]? with
   |some ds=>.lst ds
   |none=>.cell k
 |.frz ds=>.lst ds
 |d=>d
def bL:Nat->Mem->D->D
 |0,_,d=>d
 | n + 1, M, .cell k => match M[k]? with
   |some ds=>.lst (ds.map (bL n M))
   |none=>.cell k
 |n+1,M,.frz ds=>.lst (ds.map (bL n M))
 |n+1,M,.lst ds=>.lst (ds.map (bL n M))
 |n+1,M,.tup ds=>.tup (ds.map (bL n M))
 |_+1,_,d=>d
def lQ (M:Mem)(a b:D):Option Bool:=match jB (view M a) (view M b) with
 |some r=>some r
 |none=>jB (bL 64 M a) (bL 64 M b)
def j7 (M:Mem):D->Option Bool
 |.non=>some false
 |.bl b=>some b
 |.int i=>some (i != 0)
 |.str x=>if x.cps.size<=sz then some (x.cps.size != 0) else none
 |.tup ds=>some (!ds.isEmpty)
 |.lst ds=>some (!ds.isEmpty)
 |.frz ds=>some (!ds.isEmpty)
 |.cell k=>(M[k]?).map λds=>!ds.isEmpty
 |.fn _=>none
 |.exc _ _=>none
def bW (n:Nat)(i:Int):Option Nat:=if 0<=i then(if i<n then some i.toNat else none) else if -(n:Int)<=i then some (i+n).toNat else none
def fU (m:Bool)(o:kJ)(a b:D)(M:Mem):Res D:=match o,a,b with
 |.add,.int i,.int j=>.ok (.int (i+j)) M
 |.add,.str x,.str y=>if x.cps.size+y.cps.size<=sz then .ok (.str {x.cps++y.cps}) M else .bad
 |.add,.tup x,.tup y=>lh (x++y) M
 | .add, a, b => match jx M a, jx M b with
   |some x,some y=>br m (x++y) M
   |_,_=>.bad
 |.sub,.int i,.int j=>.ok (.int (i-j)) M
 |.mul,.int i,.int j=>if (-(2^64)<i/\i<2^64)\/(-(2^64)<j/\j<2^64) then .ok (.int (i*j)) M else .bad
 |.mul,.tup x,.int j=>if x.length*j.toNat<=sz/\-(2^63)<=j/\j<2^63 then .ok (.tup (List.replicate j.toNat x).flatten) M else .bad
 | .mul, a, .int j => match jx M a with
   |some x=>if x.length*j.toNat<=sz/\-(2^63)<=j/\j<2^63 then br m (List.replicate j.toNat x).flatten M else .bad
   |none=>.bad
 |.fdiv,.int i,.int j=>if 0<j/\j<1073741824 then .ok (.int (i / j)) M else .bad
 |.mod,.int i,.int j=>if 0<j then .ok (.int (i % j)) M else .bad
 |.pow,.int i,.int j=>if 0<=j/\j<=1000000/\i.natAbs<2^64 then .ok (.int (i^j.toNat)) M else .bad
 |_,_,_=>.bad
def m9 (x:D)(ds:List D):Option Bool:=if aA 64 x&&ds.all (aA 63) then some (ds.any λy=>bV y x) else none
def n8 (x y:Str):Bool:=!(Builtin.Str.occurrences y x 0 y.length 1).isEmpty
def intsOf:List D->Option (List Int)
 |[]=>some []
 |.int b::r=>(intsOf r).map (b::·)
 |_=>none
def md:D->Option (List Int)
 |.tup ds=>intsOf ds
 |_=>none
def jP:List D->Option (List (List Int))
 |[]=>some []
 |d::r=>(md d).bind λk=>(jP r).map (k::·)
def pU:D->Option (List (List Int))
 |.tup ds=>jP ds
 |_=>none
def isKey (c:Int)(d:D):Bool:=if c=77 then(md d).isSome else if c=78 then(pU d).isSome else false
def bK (M:Mem)(o:Nat):Option (Int×List D):=if 5000<=o then(match M[o-5000]? with
 |some (.int c::es)=>if c=77\/c=78 then some (c,es) else none
 |_=>none) else none
def gu:D->D
 |.tup [k,_]=>k
 |d=>d
def eV:D->D
 |.tup [_,v]=>v
 |d=>d
def cL (es:List D)(k:D):Option D:=(es.find? λe=>bV (gu e) k).map eV
def putD (es:List D)(k v:D):List D:=if (cL es k).isSome then es.map (λe=>if bV (gu e) k then .tup [gu e,v] else e) else es++[.tup [k,v]]
def inD (M:Mem)(o:Nat)(k:D):Option Bool:=(bK M o).bind λq=>if isKey q.1 k then some (cL q.2 k).isSome else none
def getD (M:Mem)(o:Nat)(k:D):Option D:=(bK M o).bind λq=>if isKey q.1 k then cL q.2 k else none
def lA:D->Bool
 |.non=>true
 |_=>false
def bC (o:jI)(a b:D)(M:Mem):Option Bool:=match o,a,b with
 |.eq,a,b=>lQ M a b
 |.ne,a,b=>(lQ M a b).map (!·)
 |.lt,.int i,.int j=>some (decide (i<j))
 |.le,.int i,.int j=>some (decide (i<=j))
 |.gt,.int i,.int j=>some (decide (j<i))
 |.ge,.int i,.int j=>some (decide (j<=i))
 |.isN,a,.non=>some (lA a)
 |.notN,a,.non=>some (!lA a)
 |.isin,.str x,.str y=>some (n8 x y)
 |.notin,.str x,.str y=>some (!n8 x y)
 |.isin,a,b=>(b5 M b).bind (m9 (view M a))
 |.notin,a,b=>((b5 M b).bind (m9 (view M a))).map (!·)
 |_,_,_=>none
def bS (a i:D)(M:Mem):Option D:=match a,i with
 |.str x,.int i=>if x.cps.size<=sz then(bW x.cps.size i).bind λj=>(x.cps[j]?).map λc=>.str {#[c]} else none
 |a,.int i=>(b5 M a).bind λds=>(bW ds.length i).bind λj=>ds[j]?
 |_,_=>none
def aT (n d:Nat):D->Option Nat
 |.non=>some d
 |.int v=>some (if v<0 then(v+(n:Int)).toNat else min v.toNat n)
 |_=>none
def eT:Bool->D->Bool
 |true,.int _=>true
 |false,.non=>true
 |_,_=>false
def cut {α:Type}(xs:List α)(lo hi:Nat):List α:=(xs.drop lo).take (hi-lo)
def hU (m:Bool)(a lo hi:D)(M:Mem):Res D:=match a with
 | .tup xs => match aT xs.length 0 lo, aT xs.length xs.length hi with
   |some l,some h=>.ok (.tup (cut xs l h)) M
   |_,_=>.bad
 | a => match dE M a with
   | some xs => match aT xs.length 0 lo, aT xs.length xs.length hi with
     |some l,some h=>br m (cut xs l h) M
     |_,_=>.bad
   |none=>.bad
def eO (t:Ty):D->Option Bool
 |.non=>some false
 |.bl _=>some (t==.bool||t==.int)
 |.int _=>some (t==.int)
 |.str _=>some (t==.str)
 |.tup _=>some (t==.tuple)
 |.lst _=>some (t==.list)
 |.frz _=>some (t==.list)
 |.cell _=>some (t==.list)
 |.fn _=>none
 |.exc _ _=>none
def boolsOf:List D->Option (List Bool)
 |[]=>some []
 |.bl b::r=>(boolsOf r).map (b::·)
 |_=>none
def fh (f:vI)(ds:List D)(M:Mem):Res D:=match f,ds with
 |.len,[.str x]=>if x.cps.size<=sz then .ok (.int x.cps.size) M else .bad
 | .len, [d] => match b5 M d with
   |some xs=>.ok (.int xs.length) M
   |none=>.bad
 |.tuple,[.tup xs]=>.ok (.tup xs) M
 | .tuple, [d] => match dE M d with
   |some xs=>.ok (.tup xs) M
   |none=>.bad
 | .list m, [d] => match b5 M d with
   |some xs=>br m xs M
   |none=>.bad
 |.listR m,[.int n]=>if n<2^20 then br m ((List.range n.toNat).map λ(k:Nat)=>D.int (k:Int)) M else .bad
 | .all, [d] => match dE M d with
   | some xs => match boolsOf xs with
     |some bs=>.ok (.bl (bs.all id)) M
     |none=>.bad
   |none=>.bad
 | .sum, [d] => match dE M d with
   | some xs => match intsOf xs with
     |some is=>.ok (.int is.sum) M
     |none=>.bad
   |none=>.bad
 |_,_=>.bad
def eR:List Nat->List D->Env->Option Env
 |[],[],Z=>some Z
 |i::l,d::ds,Z=>eR l ds (Z.set i (some d))
 |_,_,_=>none
def bU (t:cf)(d:D)(Z:Env):Option Env:=match t,d with
 |.one i,d=>some (Z.set i (some d))
 |.tup l,.tup ds=>eR l ds Z
 |.two i l,.tup [d,.tup ds]=>eR l ds (Z.set i (some d))
 |.tup _,_=>none
 |.two _ _,_=>none
abbrev Walk:=Mem->Option (List D)
def dY:Nat->List D->List D
 |_,[]=>[]
 |k,d::r=>.tup [.int k,d]::dY (k+1) r
def iQ:List D->List D->List D
 |a::r,b::t=>.tup [a,b]::iQ r t
 |_,_=>[]
def fO {α:Type}(f:α->D->Mem->Res α)(w:Walk):Nat->Nat->α->Mem->Res α
 |0,_,_,_=>.bad
 | n + 1, i, a, M => match w M with
   |none=>.bad
   | some ds => match ds[i]? with
     |none=>.ok a M
     |some d=>(f a d M).bind (fO f w n (i+1))
def dg {α:Type}(f:α->D->Mem->Res α)(w:Walk)(a:α)(M:Mem):Res α:=fO f w (((w M).getD []).length+1) 0 a M
def b6 {α:Type}(M:Mem):Option α->Res α
 |some a=>.ok a M
 |none=>.bad
@[simp] theorem Bs {α:Type}(M:Mem)(a:α):b6 M (some a)=.ok a M:=rfl
@[simp] theorem Nm {α:Type}(M:Mem):(b6 M none:Res α)=.bad:=rfl
inductive Fl where
 |next (Z:Env)
 |ret (d:D)
 |exc (x:D) (Z:Env)
def Mb {a b:Int}:bV (.int a) (.int b)=(a==b):=rfl
end LD
namespace LD
open PySem PySem.Spec PyProof.Rows L2
structure Mu where
 pub:Nat->Option Addr
 priv:List Addr
 ob:Nat->Option Addr
def Mu.Mt (μ:Mu)(a:Addr):Prop:=(∃k,μ.pub k=some a)\/a∈μ.priv
abbrev Fa:=Nat->Option Addr
def KL (K:Ow)(a:Addr)(xs:List V):Prop:=
 ∃(o:Obj) (its:Array Ox) (n:Nat),K.lookup a=some o/\o.cls=.type "list"/\o.dict=none/\o.data=.seq its n/\its.size<=sizeLine/\Vals xs its.toList
def XAt (C:Addr)(dx:Option Addr)(a:Addr)(h:Heap):Prop:=∃o vs,h.get? a=some o/\o.cls=.ref C/\o.dict=dx/\o.data=.fields vs/\1<vs.size
def Ak (c:Nat):Str:=if c=1 then "number" else "place"
def w5 (H:Hp)(c:Nat)(dx:Option Addr):Option Int->Prop
 |none=>dx=none
 |some i=>∃d,dx=some d/\H d=some (.xd [(Ak c,.int i)])
def gE (c:Nat):Nat:=1000+c
def jN (c:Nat):Nat:=900+c
section
variable(fa:Fa)(K:Ow)(μ:Mu)(H:Hp)
mutual
def Rep:D->V->Prop
 |.non,v=>v=.non
 |.bl b,v=>v=.bl b
 |.int i,v=>v=.int i
 |.str x,v=>v=.str x
 |.tup ds,v=>∃a vs,v=.ref a/\dH K H a vs/\aI ds vs
 |.lst ds,v=>∃a vs,v=.ref a/\(H a=some (.lst vs)/\¬ μ.Mt a)/\aI ds vs
 |.frz ds,v=>∃a vs,v=.ref a/\((∃ob,H a=some (.frz ob (.lst vs)))\/KL K a vs)/\aI ds vs
 |.cell k,v=>∃a,v=.ref a/\μ.pub k=some a
 |.fn f,v=>∃a,v=.ref a/\(fa f=some a\/(fa f=none/\μ.ob f=some a))
 |.exc c p,v=>∃a C dx,v=.ref a/\fa (gE c)=some C/\H a=some (.ext (XAt C dx a))/\w5 H c dx p
def aI:List D->List V->Prop
 |[],vs=>vs=[]
 |d::ds,vs=>∃v r,vs=v::r/\Rep d v/\aI ds r
end
end
def IsX (o:HO):Prop:=(∃φ,o=.ext φ)\/∃fs,o=.xd fs
structure ExtW (μ:Mu) (H:Hp) (μ':Mu) (H':Hp):Prop where
 mu:∀k a,μ.pub k=some a->μ'.pub k=some a
 tups:∀a vs,Rd H a (.tup vs)->Rd H' a (.tup vs)
 lsts:∀a vs,H a=some (.lst vs)->¬ μ.Mt a->H' a=some (.lst vs)/\¬ μ'.Mt a
 frzs:∀a ob u,H a=some (.frz ob u)->H' a=some (.frz ob u)
 exts:∀a o,IsX o->H a=some o->H' a=some o
 obs:∀k a,μ.ob k=some a->μ'.ob k=some a
structure Ext (μ:Mu) (H:Hp) (μ':Mu) (H':Hp):Prop extends ExtW μ H μ' H' where
 pr:μ'.priv=μ.priv
 pk:∀a∈μ.priv,H' a=H a
def ExtW.refl {μ:Mu}{H:Hp}:ExtW μ H μ H:={λ_ _ h=>h,λ_ _ h=>h,λ_ _ h n=>⟨h,n⟩,λ_ _ _ h=>h,λ_ _ _ h=>h,λ_ _ h=>h}
def ExtW.trans {μ μ1 μ2:Mu}{H H1 H2:Hp}(a:ExtW μ H μ1 H1)(b:ExtW μ1 H1 μ2 H2):ExtW μ H μ2 H2:=
 {λk x h=>b.mu k x (a.mu k x h),λx vs h=>b.tups x vs (a.tups x vs h),λx vs h n=>b.lsts x vs (a.lsts x vs h n).1 (a.lsts x vs h n).2,λx ob u h=>b.frzs x ob u (a.frzs x ob u h),λx o i h=>b.exts x o i (a.exts x o i h),λk x h=>b.obs k x (a.obs k x h)}
def Ext.refl {μ:Mu}{H:Hp}:Ext μ H μ H:={.refl,rfl,λ_ _=>rfl}
def Ext.trans {μ μ1 μ2:Mu}{H H1 H2:Hp}(a:Ext μ H μ1 H1)(b:Ext μ1 H1 μ2 H2):Ext μ H μ2 H2:=
 {a.toExtW.trans b.toExtW,b.pr.trans a.pr,λx hx=>(b.pk x (by rw[a.pr];exact hx)).trans (a.pk x hx)}
section
variable{fa:Fa}{K:Ow}{μ μ':Mu}{H H':Hp}
def ExtW.sqT {a:Addr}{vs:List V}(x:ExtW μ H μ' H')(h:dH K H a vs):dH K H' a vs:=h.elim (λz=>.inl (x.tups a vs z)) .inr
mutual
def Rep.extW (x:ExtW μ H μ' H'):∀{d:D}{v:V},Rep fa K μ H d v->Rep fa K μ' H' d v
 |.non,v,h=>h
 |.bl b,v,h=>h
 |.int i,v,h=>h
 |.str y,v,h=>h
 | .tup ds, v, h => by
   obtain⟨a,vs,e,s,r⟩:=h;exact{a,vs,e,x.sqT s,aI.extW x r}
 | .lst ds, v, h => by
   obtain⟨a,vs,e,s,r⟩:=h;exact{a,vs,e,x.lsts a vs s.1 s.2,aI.extW x r}
 | .frz ds, v, h => by
   obtain⟨a,vs,e,s,r⟩:=h;exact{a,vs,e,s.elim (λ⟨ob,z⟩=>.inl {ob,x.frzs a ob _ z}) .inr,aI.extW x r}
 | .cell k, v, h => by
   obtain⟨a,e,m⟩:=h;exact{a,e,x.mu k a m}
 | .fn f, v, h => by
   obtain⟨a,e,m⟩:=h;exact{a,e,m.imp id λz=>{z.1,x.obs _ _ z.2}}
 | .exc c p, v, h => by
   obtain⟨a,C,dx,e,f,g,n⟩:=h;refine{a,C,dx,e,f,x.exts _ _ (.inl {_,rfl}) g,?_};cases p with
   |none=>exact n
   |some i=>exact let⟨d,h1,h2⟩:=n;{d,h1,x.exts _ _ (.inr {_,rfl}) h2}
def aI.extW (x:ExtW μ H μ' H'):∀{ds:List D}{vs:List V},aI fa K μ H ds vs->aI fa K μ' H' ds vs
 |[],vs,h=>h
 | d :: ds, vs, h => by
   obtain⟨v,r,e,p,q⟩:=h;exact{v,r,e,Rep.extW x p,aI.extW x q}
end
def Rep.ext (x:Ext μ H μ' H'){d:D}{v:V}(h:Rep fa K μ H d v):Rep fa K μ' H' d v:=Rep.extW x.toExtW h
def aI.ext (x:Ext μ H μ' H'){d:List D}{v:List V}(h:aI fa K μ H d v):aI fa K μ' H' d v:=aI.extW x.toExtW h
def aI.length:∀{ds:List D}{vs:List V},aI fa K μ H ds vs->vs.length=ds.length
 | [], vs, h => by
   have h:vs=[]:=h;subst h;rfl
 | d :: ds, vs, h => by
   obtain⟨v,r,e,p,q⟩:=h;subst e;simp[aI.length q]
def aI.get:∀{ds:List D}{vs:List V}{i:Nat}{d:D},aI fa K μ H ds vs->ds[i]?=some d->∃v,vs[i]?=some v/\Rep fa K μ H d v
 |[],_,_,_,_,e=>by simp at e
 | d :: ds, vs, 0, d', h, e => by
   obtain⟨v,r,rfl,p,q⟩:=h;simp at e;subst e;exact⟨v,rfl,p⟩
 | d :: ds, vs, i + 1, d', h, e => by
   obtain⟨v,r,rfl,p,q⟩:=h;obtain⟨u,h1,h2⟩:=aI.get (i:=i) q (by simpa using e)
   exact{u,by simpa using h1,h2}
def aI.getV:∀{ds:List D}{vs:List V}{i:Nat}{v:V},aI fa K μ H ds vs->vs[i]?=some v->∃d,ds[i]?=some d/\Rep fa K μ H d v:=by
 intro ds vs i v h e;have hl:=h.length;have hi:i<vs.length:=(Ov.mp e).1;obtain⟨d,hd⟩:∃d,ds[i]?=some d:={ds[i]'(`a),`s}
 obtain⟨u,h1,h2⟩:=h.get hd;rw[e] at h1;cases h1;exact⟨d,hd,h2⟩
def aI.append:∀{ds es:List D}{vs ws:List V},aI fa K μ H ds vs->aI fa K μ H es ws->aI fa K μ H (ds++es) (vs++ws)
 | [], _, vs, _, h, g => by
   have h:vs=[]:=h;subst h;exact g
 | d :: ds, es, vs, ws, h, g => by
   obtain⟨v,r,rfl,p,q⟩:=h;exact{v,r++ws,rfl,p,aI.append q g}
def aI.one {d:D}{v:V}(h:Rep fa K μ H d v):aI fa K μ H [d] [v]:={v,[],rfl,h,rfl}
def aI.drop:∀(n:Nat) {ds:List D}{vs:List V},aI fa K μ H ds vs->aI fa K μ H (ds.drop n) (vs.drop n)
 |0,_,_,h=>h
 | n + 1, [], vs, h => by
   have h:vs=[]:=h;subst h;exact rfl
 | n + 1, d :: ds, vs, h => by
   obtain⟨v,r,rfl,p,q⟩:=h;exact aI.drop n q
def aI.take:∀(n:Nat) {ds:List D}{vs:List V},aI fa K μ H ds vs->aI fa K μ H (ds.take n) (vs.take n)
 |0,_,_,h=>rfl
 | n + 1, [], vs, h => by
   have h:vs=[]:=h;subst h;exact rfl
 | n + 1, d :: ds, vs, h => by
   obtain⟨v,r,rfl,p,q⟩:=h;exact{v,r.take n,rfl,p,aI.take n q}
def aI.set:∀(n:Nat) {ds:List D}{vs:List V}{d:D}{v:V},aI fa K μ H ds vs->Rep fa K μ H d v->aI fa K μ H (ds.set n d) (vs.set n v)
 | _, [], vs, _, _, h, _ => by
   have h:vs=[]:=h;subst h;exact rfl
 | 0, d :: ds, vs, _, v', h, g => by
   obtain⟨v,r,rfl,p,q⟩:=h;exact⟨v',r,rfl,g,q⟩
 | n + 1, d :: ds, vs, _, v', h, g => by
   obtain⟨v,r,rfl,p,q⟩:=h;exact{v,r.set n v',rfl,p,aI.set n q g}
def aI.rep:∀(n:Nat) {ds:List D}{vs:List V},aI fa K μ H ds vs->aI fa K μ H (List.replicate n ds).flatten (List.replicate n vs).flatten
 |0,_,_,_=>rfl
 | n + 1, ds, vs, h => by
   rw[Qr,Qr,QN,QN];exact h.append (aI.rep n h)
def aI.ints:∀(ns:List Int),aI fa K μ H (ns.map D.int) (ns.map V.int)
 |[]=>rfl
 |n::ns=>{.int n,ns.map V.int,rfl,rfl,aI.ints ns}
end
def lF:Nat->List Str
 |40=>["machine","standing","earlier"]
 |_=>[]
def aE (k:Nat):Nat:=5000+k
def DM (ks:List Int):Int:=reduceHash (Builtin.Tuple.tupleHashOf (ks.map hashInt))
def Lh (kss:List (List Int)):Int:=reduceHash (Builtin.Tuple.tupleHashOf (kss.map DM))
def mM (c:Int)(d:D):Option Int:=if c=77 then(md d).map DM else if c=78 then(pU d).map Lh else none
def mF (fa:Fa)(K:Ow)(μ:Mu)(H:Hp)(c:Int)(p:D×D)(e:Pu):Prop:=∃b v,e.key=.ref b/\mM c p.1=some e.hash/\Rep fa K μ H p.1 (.ref b)/\RelV v e.val/\Rep fa K μ H p.2 v
def jG (fa:Fa)(K:Ow)(μ:Mu)(H:Hp)(a:Addr)(ds:List D):Prop:=
 (∃(c:Nat) (C dx:Addr) (fs:List (Str×V)) (es:List D),fa (jN c)=some C/\H a=some (.ins C dx fs)/\fs.map (·.1)=(lF c).take fs.length/\ds=.int c::es/\aI fa K μ H es (fs.map (·.2)))\/
 ∃(c:Int) (es:List Pu) (kvs:List (D×D)),H a=some (.dn es)/\(c=77\/c=78)/\ds=.int c::kvs.map (λp=>.tup [p.1,p.2])/\Qn (mF fa K μ H c) kvs es/\(kvs.map (·.1)).Nodup
def jG.extW {fa:Fa}{K:Ow}{μ μ':Mu}{H H':Hp}{a:Addr}{ds:List D}(h:jG fa K μ H a ds)(x:ExtW μ H μ' H')(e:H' a=H a):jG fa K μ' H' a ds:=
 h.imp (λ⟨c,C,dx,fs,es,h1,h2,h3,h4,h5⟩=>{c,C,dx,fs,es,h1,e.trans h2,h3,h4,h5.extW x})
  λ⟨c,es,kvs,h1,h2,h3,h4,h5⟩=>{c,es,kvs,e.trans h1,h2,h3,Qn.mapP h4 λp q ⟨b,v,e1,e2,e3,e4,e5⟩=>{b,v,e1,e2,e3.extW x,e4,e5.extW x},h5}
def jG.hold {fa:Fa}{K:Ow}{μ:Mu}{H:Hp}{a:Addr}{ds:List D}(h:jG fa K μ H a ds):∃o,H a=some o/\(∀vs,o≠.lst vs):=by
 rcases h with⟨_,_,_,_,_,_,h,_⟩|⟨_,_,_,h,_⟩
 ·exact{_,h,λ_ z=>by cases z}
 ·exact{_,h,λ_ z=>by cases z}
def jG.new {fa:Fa}{K:Ow}{μ:Mu}{H:Hp}{a p:Addr}{ds:List D}(h:jG fa K μ H a ds)(hp:H p=none):a≠p:=let{_,e,_}:=h.hold;aW e hp
def jG.nl {fa:Fa}{K:Ow}{μ:Mu}{H:Hp}{a p:Addr}{ds:List D}{vs:List V}(h:jG fa K μ H a ds)(hp:H p=some (.lst vs)):a≠p:=λz=>by
 obtain⟨o,e,n⟩:=h.hold;rw[z,hp] at e;cases e;exact n _ rfl
def Mi (fa:Fa)(K:Ow)(μ:Mu)(H:Hp)(k:Nat)(ds:List D):Prop:=
 (∃a vs,μ.pub k=some a/\H a=some (.lst vs)/\aI fa K μ H ds vs)\/∃a,μ.ob (aE k)=some a/\μ.pub k=none/\jG fa K μ H a ds
structure RelM (fa:Fa) (K:Ow) (μ:Mu) (H:Hp) (M:Mem):Prop where
 at':∀(k:Nat) (ds:List D),M[k]?=some ds->Mi fa K μ H k ds
 out:∀(k:Nat),M.length<=k->μ.pub k=none
 oout:∀(k:Nat),M.length<=k->μ.ob (aE k)=none
 inj:∀j k a,μ.pub j=some a->μ.pub k=some a->j=k
 oinj:∀j k a,μ.ob (aE j)=some a->μ.ob (aE k)=some a->j=k
 sep:∀k a,μ.pub k=some a->μ.ob (aE k)=none
 pv:∀a∈μ.priv,(∃vs,H a=some (.lst vs))/\∀k,μ.pub k≠some a
structure bb (fa:Fa) (K:Ow) (μ:Mu) (H:Hp) (σ:L2.St) (Z:Env):Prop where
 len:σ.length=Z.length
 at':∀(i:Nat) (d:D),Z[i]?=some (some d)->∃v,σ[i]?=some (some v)/\Rep fa K μ H d v
section
variable{fa:Fa}{K:Ow}{μ μ':Mu}{H H':Hp}{σ:L2.St}{Z:Env}{M:Mem}
def bb.ext (h:bb fa K μ H σ Z)(x:Ext μ H μ' H'):bb fa K μ' H' σ Z:=
 {h.len,λi d e=>let⟨v,h1,h2⟩:=h.at' i d e;{v,h1,h2.ext x}}
def bb.set (h:bb fa K μ H σ Z){i:Nat}{d:D}{v:V}(r:Rep fa K μ H d v):bb fa K μ H (σ.set i (some v)) (Z.set i (some d)):=by
 refine{by simp[h.len],λj d' e=>?_}
 by_cases hj:j=i
 ·subst hj;have hl:j<Z.length:=by
   have:=(Ov.mp e).1;simpa using this
  rw[O3 hl] at e;cases e;exact{v,O3 (by rw[h.len];exact hl),r}
 ·rw[OE (PN hj)] at e;obtain⟨u,h1,h2⟩:=h.at' j d' e;exact{u,by rw[OE (PN hj)];exact h1,h2}
def bb.extW (h:bb fa K μ H σ Z)(x:ExtW μ H μ' H'):bb fa K μ' H' σ Z:=
 {h.len,λi d e=>let⟨v,h1,h2⟩:=h.at' i d e;{v,h1,h2.extW x}}
def RelM.mu_lt (h:RelM fa K μ H M){k:Nat}{a:Addr}(e:μ.pub k=some a):∃ds vs,M[k]?=some ds/\H a=some (.lst vs)/\aI fa K μ H ds vs:=by
 by_cases hk:k<M.length
 ·rcases h.at' k M[k] (by simp[hk]) with⟨a',vs,h1,h2,h3⟩|⟨_,_,z,_⟩
  ·rw[e] at h1;cases h1;exact{_,vs,by simp[hk],h2,h3}
  ·rw[e] at z;cases z
 ·rw[h.out k `a] at e;cases e
def RelM.at_ (h:RelM fa K μ H M){k:Nat}{ds:List D}{a:Addr}(e:M[k]?=some ds)(p:μ.pub k=some a):∃vs,H a=some (.lst vs)/\aI fa K μ H ds vs:=by
 obtain⟨ds',vs,h1,h2,h3⟩:=h.mu_lt p;rw[e] at h1;cases h1;exact⟨vs,h2,h3⟩
def RelM.fresh (h:RelM fa K μ H M){p:Addr}(hp:H p=none):¬ μ.Mt p:=λe=>by
 rcases e with⟨k,e⟩|e
 ·obtain⟨ds,vs,_,h2,_⟩:=h.mu_lt e;rw[hp] at h2;cases h2
 ·obtain⟨⟨vs,h2⟩,_⟩:=h.pv p e;rw[hp] at h2;cases h2
def RelM.pne (h:RelM fa K μ H M){p a:Addr}(hp:H p=none)(ha:a∈μ.priv):a≠p:=λe=>by
 obtain⟨⟨vs,h2⟩,_⟩:=h.pv a ha;rw[e,hp] at h2;cases h2
def Ext.alloc {p:Addr}{o:HO}(h:RelM fa K μ H M)(hp:H p=none):Ext μ H μ (upd H p o):=by
 have rd:∀a u,Rd H a u->Rd (upd H p o) a u:=λa u h=>by
  rcases h with h|⟨ob,h⟩
  ·exact .inl (by rw[aD (aW h hp)];exact h)
  ·exact .inr {ob,by rw[aD (aW h hp)];exact h}
 exact{{λ_ _ h=>h,λa vs h=>rd a _ h,λa vs h n=>{by rw[aD (aW h hp)];exact h,n},λa ob u h=>by rw[aD (aW h hp)];exact h,λa o _ h=>by rw[aD (aW h hp)];exact h,λ_ _ h=>h},rfl,λa ha=>by rw[aD (h.pne hp ha)]}
def RelM.alloc (h:RelM fa K μ H M){p:Addr}{o:HO}(hp:H p=none):RelM fa K μ (upd H p o) M:=
 {λk ds e=>(h.at' k ds e).imp (λ⟨a,vs,h1,h2,h3⟩=>{a,vs,h1,by rw[aD (aW h2 hp)];exact h2,h3.ext (Ext.alloc h hp)}) λ⟨a,h1,h2,h3⟩=>{a,h1,h2,h3.extW (Ext.alloc h hp).toExtW (aD (h3.new hp))},h.out,h.oout,h.inj,h.oinj,h.sep,λa ha=>{let{⟨vs,e⟩,_}:=h.pv a ha;{vs,by rw[aD (h.pne hp ha)];exact e},(h.pv a ha).2}}
def fN (μ:Mu)(n:Nat)(p:Addr):Mu:={λk=>if k=n then some p else μ.pub k,μ.priv,μ.ob}
def Ext.cell {p:Addr}{o:HO}(h:RelM fa K μ H M)(hp:H p=none):Ext μ H (fN μ M.length p) (upd H p o):=by
 have rd:∀a u,Rd H a u->Rd (upd H p o) a u:=λa u h=>by
  rcases h with h|⟨ob,h⟩
  ·exact .inl (by rw[aD (aW h hp)];exact h)
  ·exact .inr {ob,by rw[aD (aW h hp)];exact h}
 refine{{λk a e=>?_,λa vs g=>rd a _ g,λa vs g n=>{by rw[aD (aW g hp)];exact g,λe=>?_},λa ob u h=>by rw[aD (aW h hp)];exact h,λa o _ h=>by rw[aD (aW h hp)];exact h,λ_ _ h=>h},rfl,λa ha=>by rw[aD (h.pne hp ha)]}
 ·show(if k=M.length then some p else μ.pub k)=some a;split
  ·next q=>rw[q,h.out _ (OC _)] at e;cases e
  ·exact e
 ·rcases e with⟨k,e⟩|e
  ·have e:(if k=M.length then some p else μ.pub k)=some a:=e;split at e
   ·cases e;exact aW g hp rfl
   ·exact n (.inl ⟨k,e⟩)
  ·exact n (.inr e)
def RelM.cell (h:RelM fa K μ H M){p:Addr}{ds:List D}{vs:List V}(hp:H p=none)(r:aI fa K μ H ds vs) :
 RelM fa K (fN μ M.length p) (upd H p (.lst vs)) (M++[ds]):=by
 have x:Ext μ H (fN μ M.length p) (upd H p (.lst vs)):=Ext.cell h hp;have np:=h.fresh hp;refine{λk ds' e=>?_,λk hk=>?_,λk hk=>h.oout k (by simp at hk;omega),λj k a h1 h2=>?_,h.oinj,λk a z=>?_,λa ha=>?_}
 ·by_cases hk:k<M.length
  ·rw[OG hk] at e;rcases h.at' k ds' e with⟨a,ws,h1,h2,h3⟩|⟨a,h1,h2,h3⟩
   ·exact .inl {a,ws,x.mu k a h1,by rw[aD (aW h2 hp)];exact h2,h3.ext x}
   ·exact .inr {a,h1,by show(if k=M.length then some p else μ.pub k)=none;rw[if_neg (Pm hk)];exact h2,h3.extW x.toExtW (aD (h3.new hp))}
  ·have hk':k=M.length:=by
    have:=(Ov.mp e).1;simp at this;omega
   subst hk';rw[O5 (OC _)] at e;simp at e;subst e;exact .inl {p,vs,by simp[fN],cm,r.ext x}
 ·simp at hk;show(if k=M.length then some p else μ.pub k)=none;rw[if_neg `a]
  exact h.out k `a
 ·have h1:(if j=M.length then some p else μ.pub j)=some a:=h1;have h2:(if k=M.length then some p else μ.pub k)=some a:=h2;split at h1<;>split at h2
  ·omega
  ·cases h1;exact absurd (.inl ⟨k,h2⟩) np
  ·cases h2;exact absurd (.inl ⟨j,h1⟩) np
  ·exact h.inj j k a h1 h2
 ·have z:(if k=M.length then some p else μ.pub k)=some a:=z;show μ.ob (aE k)=none;split at z
  ·next e=>rw[e];exact h.oout _ (OC _)
  ·exact h.sep k a z
 ·obtain⟨⟨ws,e⟩,n⟩:=h.pv a ha;refine{{ws,by rw[aD (h.pne hp ha)];exact e},λk e2=>?_}
  have e2:(if k=M.length then some p else μ.pub k)=some a:=e2;split at e2
  ·cases e2;exact h.pne hp ha rfl
  ·exact n k e2
def ExtW.write {a:Addr}{vs ws:List V}(h2:H a=some (.lst vs))(e:μ.Mt a):ExtW μ H μ (upd H a (.lst ws)):=by
 have ne:∀b u,Rd H b u->(∀xs,u≠.lst xs)->b≠a:=λb u g nu q=>by
  subst q;rcases g with g|⟨ob,g⟩
  ·rw[h2] at g;cases g;exact nu _ rfl
  ·rw[h2] at g;cases g
 have rd:∀b u,b≠a->Rd H b u->Rd (upd H a (.lst ws)) b u:=λb u nb g=>by
  rcases g with g|⟨ob,g⟩
  ·exact .inl (by rw[aD nb];exact g)
  ·exact .inr {ob,by rw[aD nb];exact g}
 exact{λ_ _ q=>q,λb us g=>rd b _ (ne b _ g (λxs q=>by cases q)) g,λb us g n=>{by rw[aD (λq=>n (by rw[q];exact e))];exact g,n},λb ob u g=>by rw[aD (λq=>by rw[q,h2] at g;cases g)];exact g,λb o i g=>by rw[aD (λq=>by rw[q,h2] at g;cases g;rcases i with⟨_,i⟩|⟨_,i⟩<;>cases i)];exact g,λ_ _ q=>q}
def Ext.write {k:Nat}{a:Addr}{vs ws:List V}(h:RelM fa K μ H M)(e:μ.pub k=some a):Ext μ H μ (upd H a (.lst ws)):=by
 obtain⟨ds,vs,_,h2,_⟩:=h.mu_lt e;exact{ExtW.write h2 (.inl ⟨k,e⟩),rfl,λb hb=>by rw[aD (λq=>(h.pv b hb).2 k (by rw[q];exact e))]}
def RelM.write (h:RelM fa K μ H M){k:Nat}{a:Addr}{ds:List D}{ws:List V}(e:μ.pub k=some a)(r:aI fa K μ H ds ws):RelM fa K μ (upd H a (.lst ws)) (M.set k ds):=by
 have x:Ext μ H μ (upd H a (.lst ws)):=Ext.write (vs:=ws) h e;refine{λj es q=>?_,λj hj=>h.out j (by simpa using hj),λj hj=>h.oout j (by simpa using hj),h.inj,h.oinj,h.sep,λb hb=>{let{⟨vs,g⟩,_}:=h.pv b hb;{vs,by rw[x.pk b hb];exact g},(h.pv b hb).2}}
 by_cases hj:j=k
 ·subst hj;have hl:j<M.length:=by have:=(Ov.mp q).1;simpa using this
  rw[O3 hl] at q;cases q;exact .inl {a,ws,e,cm,r.ext x}
 ·rw[OE (PN hj)] at q;rcases h.at' j es q with⟨b,vs,h1,h2,h3⟩|⟨b,h1,h2,h3⟩
  ·have nb:b≠a:=λz=>hj (h.inj j k a (z ▸ h1) e);exact .inl {b,vs,h1,by rw[aD nb];exact h2,h3.ext x}
  ·obtain⟨_,_,_,hl,_⟩:=h.mu_lt e;exact .inr {b,h1,h2,h3.extW x.toExtW (aD (h3.nl hl))}
end
def ag {α:Type}(r:Res α)(k:α->Mem->Prop):Prop:=match r with
 |.ok a M=>k a M
 |_=>False
def aG {α β:Type}{r:Res α}{f:α->Mem->Res β}{k:β->Mem->Prop}(h:ag (r.bind f) k):∃a M,r=.ok a M/\ag (f a M) k:=by
 cases r with
 |ok a M=>exact⟨a,M,rfl,h⟩
 |err=>exact h.elim
 |bad=>exact h.elim
def ky {α:Type}{M:Mem}{o:Option α}{k:α->Mem->Prop}(h:ag (b6 M o) k):∃a,o=some a/\k a M:=by
 cases o with
 |none=>exact h.elim
 |some a=>exact⟨a,rfl,h⟩
def aP {α:Type}{r:Res α}{k k':α->Mem->Prop}(h:ag r k)(m:∀a M,k a M->k' a M):ag r k':=by
 cases r with
 |ok a M=>exact m a M h
 |err=>exact h
 |bad=>exact h
section
variable(fa:Fa)(K:Ow)
def aX (μ:Mu)(H:Hp)(Q:VK)(d:D)(M':Mem):Prop:=∀v H' μ',Ext μ H μ' H'->RelM fa K μ' H' M'->Rep fa K μ' H' d v->Q v H'
def tE (g:Env->Mem->Res D):TE:=λσ H Q=>∃μ Z M,bb fa K μ H σ Z/\RelM fa K μ H M/\ag (g Z M) (aX fa K μ H Q)
def tT (g:Env->Mem->Res Bool):TT:=λσ H Q=>∃μ Z M,bb fa K μ H σ Z/\RelM fa K μ H M/\ag (g Z M) λb M'=>∀H' μ',Ext μ H μ' H'->RelM fa K μ' H' M'->Q b H'
def tA (g:Env->Mem->Res (List D)):TA:=λσ H Q=>∃μ Z M,bb fa K μ H σ Z/\RelM fa K μ H M/\ag (g Z M) λds M'=>∀vs H' μ',Ext μ H μ' H'->RelM fa K μ' H' M'->aI fa K μ' H' ds vs->Q vs H'
end
def mE (New:Addr->Prop)(C:Addr)(dx:Option Addr)(a:Addr)(h:Heap)(H:Hp):Prop:=New a/\H a=none/\∃o vs,h.get? a=some o/\o.cls=.ref C/\o.dict=dx/\o.data=.fields vs/\
 (vs[1]?=some .none\/∃T oT ts,vs[1]?=some (.ref T)/\T≠a/\New T/\H T=none/\h.get? T=some oT/\oT.data=.fields ts/\ts[3]?=some .none)
def uw (X:Cx)(b:Addr):Prop:=X.s₀.heap.get? b=none/\∀p∈X.pn,p.1≠b
def XW (fa:Fa)(X:Cx)(μ:Mu)(H:Hp)(x:D)(Z:Env)(M:Mem):Prop:=∀pins σ' H' μ' s' a C dx c p,Inv X pins σ' H' s'->Ext μ H μ' H'->bb fa X.K μ' H' σ' Z->RelM fa X.K μ' H' M->x=.exc c p->fa (gE c)=some C->w5 H' c dx p->mE (uw X) C dx a s'.heap H'->X.xe (.ref a) s'
def j5 (fa:Fa)(X:Cx)(μ:Mu)(H:Hp)(D:Ends):Fl->Mem->Prop
 |.next ρ',M'=>∀σ' H' μ',Ext μ H μ' H'->bb fa X.K μ' H' σ' ρ'->RelM fa X.K μ' H' M'->D.nx σ' H'
 |.ret d,M'=>aX fa X.K μ H D.rt d M'
 |.exc x ρ',M'=>XW fa X μ H x ρ' M'
def tF (fa:Fa)(X:Cx)(g:Env->Mem->Res Fl):TS:=λD σ H=>∃μ Z M,bb fa X.K μ H σ Z/\RelM fa X.K μ H M/\ag (g Z M) (j5 fa X μ H D)
def XW.ext {fa:Fa}{X:Cx}{μ μ':Mu}{H H':Hp}{x:D}{Z:Env}{M:Mem}(h:XW fa X μ H x Z M)(y:Ext μ H μ' H'):XW fa X μ' H' x Z M:=λpins σ1 H1 μ1 s1 a C dx c p I e=>h pins σ1 H1 μ1 s1 a C dx c p I (y.trans e)
section
variable{fa:Fa}{K:Ow}{μ μ':Mu}{H H':Hp}{Q:VK}
def aX.ext {d:D}{M:Mem}(h:aX fa K μ H Q d M)(x:Ext μ H μ' H'):aX fa K μ' H' Q d M:=λv H'' μ'' y m r=>h v H'' μ'' (x.trans y) m r
def lP {r:Res D}(h:ag r (aX fa K μ H Q))(x:Ext μ H μ' H'):ag r (aX fa K μ' H' Q):=aP h λ_ _ w=>w.ext x
end
def bB {X:Cx}{e:Expr}{t t':TE}(h:PE X e t)(i:∀σ H Q,t' σ H Q->t σ H Q):PE X e t':=λpins s σ H Q I q=>h pins s σ H Q I (i σ H Q q)
def kn {X:Cx}{e:Expr}{t t':TT}(h:PT X e t)(i:∀σ H Q,t' σ H Q->t σ H Q):PT X e t':=λpins s σ H Q I q=>h pins s σ H Q I (i σ H Q q)
def yx {X:Cx}{e:Expr}{t t':TT}(h:PW X e t)(i:∀σ H Q,t' σ H Q->t σ H Q):PW X e t':=λw pins s σ H Q I q=>h w pins s σ H Q I (i σ H Q q)
def yL {X:Cx}{e:List Expr}{t t':TA}(h:PA X e t)(i:∀σ H Q,t' σ H Q->t σ H Q):PA X e t':=λpos pins s σ H Q I q=>h pos pins s σ H Q I (i σ H Q q)
def dJ {X:Cx}{e:Stmt}{t t':TS}(h:PS X e t)(i:∀D σ H,t' D σ H->t D σ H):PS X e t':=λpins s σ H D I q=>h pins s σ H D I (i D σ H q)
def uQ {X:Cx}{e:List Stmt}{t t':TS}(h:lT X e t)(i:∀D σ H,t' D σ H->t D σ H):lT X e t':=λpins s σ H D I q=>h pins s σ H D I (i D σ H q)
section
variable{fa:Fa}{K:Ow}{μ:Mu}{H:Hp}{σ:L2.St}{Z:Env}{M:Mem}
def t1 {g:Env->Mem->Res D}{β:Type}{f:D->Mem->Res β}{P:β->Mem->Prop}{R:V->Hp->Prop}(hE:bb fa K μ H σ Z)(hM:RelM fa K μ H M)(h:ag ((g Z M).bind f) P)
 (k:∀x M1 v H1 μ1,Ext μ H μ1 H1->bb fa K μ1 H1 σ Z->RelM fa K μ1 H1 M1->Rep fa K μ1 H1 x v->ag (f x M1) P->R v H1):tE fa K g σ H R:=by
 obtain⟨x,M1,e,q⟩:=aG h;refine{μ,Z,M,hE,hM,?_};rw[e];exact λv H1 μ1 x1 m1 r1=>k x M1 v H1 μ1 x1 (hE.ext x1) m1 r1 q
def xS {g:Env->Mem->Res Bool}{β:Type}{f:Bool->Mem->Res β}{P:β->Mem->Prop}{R:Bool->Hp->Prop}(hE:bb fa K μ H σ Z)(hM:RelM fa K μ H M)(h:ag ((g Z M).bind f) P)
 (k:∀b M1 H1 μ1,Ext μ H μ1 H1->bb fa K μ1 H1 σ Z->RelM fa K μ1 H1 M1->ag (f b M1) P->R b H1):tT fa K g σ H R:=by
 obtain⟨b,M1,e,q⟩:=aG h;refine{μ,Z,M,hE,hM,?_};rw[e];exact λH1 μ1 x1 m1=>k b M1 H1 μ1 x1 (hE.ext x1) m1 q
def uJ {g:Env->Mem->Res (List D)}{β:Type}{f:List D->Mem->Res β}{P:β->Mem->Prop}{R:List V->Hp->Prop}(hE:bb fa K μ H σ Z)(hM:RelM fa K μ H M)(h:ag ((g Z M).bind f) P)
 (k:∀ds M1 vs H1 μ1,Ext μ H μ1 H1->bb fa K μ1 H1 σ Z->RelM fa K μ1 H1 M1->aI fa K μ1 H1 ds vs->ag (f ds M1) P->R vs H1):tA fa K g σ H R:=by
 obtain⟨ds,M1,e,q⟩:=aG h;refine{μ,Z,M,hE,hM,?_};rw[e];exact λv H1 μ1 x1 m1 r1=>k ds M1 v H1 μ1 x1 (hE.ext x1) m1 r1 q
end
mutual
def toPy:D->PyData
 |.non=>.none
 |.bl b=>.bool b
 |.int i=>.int i
 |.str x=>.str x
 |.tup ds=>.tuple (cw ds)
 |.lst ds=>.list (cw ds)
 |.frz _=>.none
 |.cell _=>.none
 |.fn _=>.none
 |.exc _ _=>.none
def cw:List D->List PyData
 |[]=>[]
 |d::r=>toPy d::cw r
end
def pC:∀(n:Nat) (d:D),aA n d=true->(toPy d).canLay0=true/\(toPy d).depth<=n:=by
 have all:∀(n:Nat),(∀d,aA n d=true->(toPy d).canLay0=true/\(toPy d).depth<=n)->∀ds:List D,ds.all (aA n)=true->PyData.canLayAll0 (cw ds)=true/\PyData.depthAll (cw ds)<=n:=by
  intro n h ds;induction ds with
  |nil=>intro _;simp[cw,PyData.canLayAll0,PyData.depthAll]
  | cons d r ih =>
    intro q;simp only[PL,OF] at q;obtain⟨h1,h2⟩:=h d q.1;obtain⟨h3,h4⟩:=ih q.2;simp only[cw,PyData.canLayAll0,PyData.depthAll,h1,h3,Bool.and_self,true_and];omega
 intro n;induction n with
 | zero =>
   intro d h;cases d with
   |str x=>exact{by simpa[toPy,PyData.canLay0,PyData.strOk,aA] using h,by simp[toPy,PyData.depth]}
   |tup _=>simp[aA] at h
   |lst _=>simp[aA] at h
   |frz _=>simp[aA] at h
   |cell _=>simp[aA] at h
   |fn _=>simp[aA] at h
   |exc y p=>simp[aA] at h
   |_=>exact{by simp[toPy,PyData.canLay0],by simp[toPy,PyData.depth]}
 | succ n ih =>
   intro d h;cases d with
   |str x=>exact{by simpa[toPy,PyData.canLay0,PyData.strOk,aA] using h,by simp[toPy,PyData.depth]}
   | tup ds =>
     obtain⟨h1,h2⟩:=all n ih ds (by simpa[aA] using h)
     simp only[toPy,PyData.canLay0,PyData.depth,h1,true_and];omega
   | lst ds =>
     obtain⟨h1,h2⟩:=all n ih ds (by simpa[aA] using h)
     simp only[toPy,PyData.canLay0,PyData.depth,h1,true_and];omega
   |frz _=>simp[aA] at h
   |cell _=>simp[aA] at h
   |fn _=>simp[aA] at h
   |exc y p=>simp[aA] at h
   |_=>exact{by simp[toPy,PyData.canLay0],by simp[toPy,PyData.depth]}
def jK {d:D}(h:aA 64 d=true):SeqAt.shaped (toPy d)=true:=by
 obtain⟨h1,h2⟩:=pC 64 d h;simp[SeqAt.shaped,h1,h2]
mutual
def mQ:∀(n m:Nat) (a b:D),aA n a=true->aA m b=true->PyData.eqv (toPy a) (toPy b)=bV a b
 | n, m, .tup a, .tup b, ha, hb => by
   cases n with
   |zero=>simp[aA] at ha
   | succ n =>
     cases m with
     |zero=>simp[aA] at hb
     | succ m =>
       exact nV n m a b (by simpa[aA] using ha) (by simpa[aA] using hb)
 | n, m, .lst a, .lst b, ha, hb => by
   cases n with
   |zero=>simp[aA] at ha
   | succ n =>
     cases m with
     |zero=>simp[aA] at hb
     | succ m =>
       exact nV n m a b (by simpa[aA] using ha) (by simpa[aA] using hb)
 |n,m,.frz _,_,ha,hb=>by cases n<;>simp[aA] at ha
 |n,m,.cell _,_,ha,hb=>by cases n<;>simp[aA] at ha
 |n,m,.fn _,_,ha,hb=>by cases n<;>simp[aA] at ha
 |n,m,.exc _ _,_,ha,hb=>by cases n<;>simp[aA] at ha
 |n,m,_,.frz _,ha,hb=>by cases m<;>simp[aA] at hb
 |n,m,_,.cell _,ha,hb=>by cases m<;>simp[aA] at hb
 |n,m,_,.fn _,ha,hb=>by cases m<;>simp[aA] at hb
 |n,m,_,.exc _ _,ha,hb=>by cases m<;>simp[aA] at hb
 |_,_,.non,.non,_,_=>by first|rfl|simp[toPy,PyData.eqv];rfl
 |_,_,.non,.bl _,_,_=>by first|rfl|simp[toPy,PyData.eqv];rfl
 |_,_,.non,.int _,_,_=>by first|rfl|simp[toPy,PyData.eqv];rfl
 |_,_,.non,.str _,_,_=>by first|rfl|simp[toPy,PyData.eqv];rfl
 |_,_,.non,.tup _,_,_=>by first|rfl|simp[toPy,PyData.eqv];rfl
 |_,_,.non,.lst _,_,_=>by first|rfl|simp[toPy,PyData.eqv];rfl
 |_,_,.bl _,.non,_,_=>by first|rfl|simp[toPy,PyData.eqv];rfl
 |_,_,.bl _,.bl _,_,_=>by first|rfl|simp[toPy,PyData.eqv];rfl
 |_,_,.bl _,.int _,_,_=>by first|rfl|simp[toPy,PyData.eqv];rfl
 |_,_,.bl _,.str _,_,_=>by first|rfl|simp[toPy,PyData.eqv];rfl
 |_,_,.bl _,.tup _,_,_=>by first|rfl|simp[toPy,PyData.eqv];rfl
 |_,_,.bl _,.lst _,_,_=>by first|rfl|simp[toPy,PyData.eqv];rfl
 |_,_,.int _,.non,_,_=>by first|rfl|simp[toPy,PyData.eqv];rfl
 |_,_,.int _,.bl _,_,_=>by first|rfl|simp[toPy,PyData.eqv];rfl
 |_,_,.int _,.int _,_,_=>by first|rfl|simp[toPy,PyData.eqv];rfl
 |_,_,.int _,.str _,_,_=>by first|rfl|simp[toPy,PyData.eqv];rfl
 |_,_,.int _,.tup _,_,_=>by first|rfl|simp[toPy,PyData.eqv];rfl
 |_,_,.int _,.lst _,_,_=>by first|rfl|simp[toPy,PyData.eqv];rfl
 |_,_,.str _,.non,_,_=>by first|rfl|simp[toPy,PyData.eqv];rfl
 |_,_,.str _,.bl _,_,_=>by first|rfl|simp[toPy,PyData.eqv];rfl
 |_,_,.str _,.int _,_,_=>by first|rfl|simp[toPy,PyData.eqv];rfl
 |_,_,.str _,.str _,_,_=>by first|rfl|simp[toPy,PyData.eqv];rfl
 |_,_,.str _,.tup _,_,_=>by first|rfl|simp[toPy,PyData.eqv];rfl
 |_,_,.str _,.lst _,_,_=>by first|rfl|simp[toPy,PyData.eqv];rfl
 |_,_,.tup _,.non,_,_=>by first|rfl|simp[toPy,PyData.eqv];rfl
 |_,_,.tup _,.bl _,_,_=>by first|rfl|simp[toPy,PyData.eqv];rfl
 |_,_,.tup _,.int _,_,_=>by first|rfl|simp[toPy,PyData.eqv];rfl
 |_,_,.tup _,.str _,_,_=>by first|rfl|simp[toPy,PyData.eqv];rfl
 |_,_,.tup _,.lst _,_,_=>by first|rfl|simp[toPy,PyData.eqv];rfl
 |_,_,.lst _,.non,_,_=>by first|rfl|simp[toPy,PyData.eqv];rfl
 |_,_,.lst _,.bl _,_,_=>by first|rfl|simp[toPy,PyData.eqv];rfl
 |_,_,.lst _,.int _,_,_=>by first|rfl|simp[toPy,PyData.eqv];rfl
 |_,_,.lst _,.str _,_,_=>by first|rfl|simp[toPy,PyData.eqv];rfl
 |_,_,.lst _,.tup _,_,_=>by first|rfl|simp[toPy,PyData.eqv];rfl
def nV:∀(n m:Nat) (a b:List D),a.all (aA n)=true->b.all (aA m)=true->PyData.eqvAll (cw a) (cw b)=d7 a b
 |n,m,[],[],_,_=>by simp[cw,PyData.eqvAll,d7]
 |n,m,[],_::_,_,_=>by simp[cw,PyData.eqvAll,d7]
 |n,m,_::_,[],_,_=>by simp[cw,PyData.eqvAll,d7]
 | n, m, x :: a, y :: b, ha, hb => by
   simp only[PL,OF] at ha hb;simp only[cw,PyData.eqvAll,d7];rw[mQ n m x y ha.1 hb.1,nV n m a b ha.2 hb.2]
end
section
variable{fa:Fa}{X:Cx}{μ:Mu}{H:Hp}{σ:L2.St}{pins:List (Addr×Obj)}{s:Oy}{M:Mem}
def ju {d:D}{v:V}{ds:List D}(hM:RelM fa X.K μ H M)(h:Rep fa X.K μ H d v)(e:jx M d=some ds):∃a vs,v=.ref a/\H a=some (.lst vs)/\aI fa X.K μ H ds vs:=by
 cases d with
 | lst xs =>
   cases e;obtain⟨a,vs,e,s,r⟩:=h;exact⟨a,vs,e,s.1,r⟩
 | cell k =>
   obtain⟨a,rfl,hk⟩:=h;obtain⟨vs,h2,h3⟩:=hM.at_ e hk;exact⟨a,vs,rfl,h2,h3⟩
 |_=>cases e
def bx {d:D}{v:V}{ds:List D}(hM:RelM fa X.K μ H M)(h:Rep fa X.K μ H d v)(e:dE M d=some ds):∃a vs,v=.ref a/\cX X.K H a vs/\aI fa X.K μ H ds vs:=by
 cases d with
 | lst xs =>
   obtain⟨a,vs,h1,h2,h3⟩:=ju (ds:=ds) hM h e;exact{a,vs,h1,.of h2,h3}
 | frz xs =>
   cases e;obtain⟨a,vs,e,s,r⟩:=h;exact{a,vs,e,s.elim (λz=>.inl (.inr z)) .inr,r}
 | cell k =>
   obtain⟨a,vs,h1,h2,h3⟩:=ju (ds:=ds) hM h e;exact{a,vs,h1,.of h2,h3}
 |_=>cases e
def jt {d:D}{v:V}{ds:List D}(hM:RelM fa X.K μ H M)(h:Rep fa X.K μ H d v)(e:b5 M d=some ds):∃a vs,v=.ref a/\(cX X.K H a vs\/dH X.K H a vs)/\aI fa X.K μ H ds vs:=by
 cases d with
 | tup xs =>
   cases e;obtain⟨a,vs,rfl,h1,h2⟩:=h;exact{a,vs,rfl,.inr h1,h2}
 | lst xs =>
   obtain⟨a,vs,h1,h2,h3⟩:=bx (ds:=ds) hM h e;exact{a,vs,h1,.inl h2,h3}
 | frz xs =>
   obtain⟨a,vs,h1,h2,h3⟩:=bx (ds:=ds) hM h e;exact{a,vs,h1,.inl h2,h3}
 | cell k =>
   obtain⟨a,vs,h1,h2,h3⟩:=bx (ds:=ds) hM h e;exact{a,vs,h1,.inl h2,h3}
 |_=>cases e
mutual
def eB (I:Inv X pins σ H s):∀(d:D) (n:Nat) (v:V) (u:Ox),aA n d=true->Rep fa X.K μ H d v->RelV v u->∃as,Reads s.heap u (toPy d) as
 | .non, n, v, u, _, h, r => by
   obtain rfl:v=.non:=h;obtain rfl:u=Value.none:=r;exact{_,.none}
 | .bl b, n, v, u, _, h, r => by
   obtain rfl:v=.bl b:=h;obtain rfl:u=Value.bool b:=r;exact{_,.bool b}
 | .int i, n, v, u, _, h, r => by
   obtain rfl:v=.int i:=h;obtain⟨t,rfl⟩:=r;exact{_,.int i t}
 | .str x, n, v, u, _, h, r => by
   obtain rfl:v=.str x:=h;obtain⟨t,rfl⟩:=r;exact{_,.str x t}
 | .tup ds, n, v, u, hp, h, r => by
   cases n with
   |zero=>simp[aA] at hp
   | succ n =>
     obtain⟨a,vs,rfl,h1,h2⟩:=h;obtain rfl:u=Value.ref a:=r;obtain⟨its,rv,⟨o,e1,e2,k,e3⟩,_⟩:=I.tuple h1;obtain⟨as,q⟩:=fL I ds n vs its (by simpa[aA] using hp) h2 rv
     exact{_,.tuple e1 e2 e3 (by simpa using q)}
 | .lst ds, n, v, u, hp, h, r => by
   cases n with
   |zero=>simp[aA] at hp
   | succ n =>
     obtain⟨a,vs,rfl,h1,h2⟩:=h;obtain rfl:u=Value.ref a:=r;obtain⟨its,rv,⟨o,k,e1,e2,e4,e3⟩,_⟩:=I.list (cX.of h1.1);obtain⟨as,q⟩:=fL I ds n vs its (by simpa[aA] using hp) h2 rv
     exact{_,.list e1 e2 e3 (by simpa using q)}
 |.frz k,n,v,u,hp,_,_=>by cases n<;>simp[aA] at hp
 |.cell k,n,v,u,hp,_,_=>by cases n<;>simp[aA] at hp
 |.fn f,n,v,u,hp,_,_=>by cases n<;>simp[aA] at hp
 |.exc _ _,n,v,u,hp,_,_=>by cases n<;>simp[aA] at hp
def fL (I:Inv X pins σ H s):∀(ds:List D) (n:Nat) (vs:List V) (us:List Ox),ds.all (aA n)=true->aI fa X.K μ H ds vs->Vals vs us->∃as,ReadsAll s.heap us (cw ds) as
 | [], n, vs, us, _, h, r => by
   obtain rfl:vs=[]:=h;cases r;exact{_,.nil}
 | d :: ds, n, vs, us, hp, h, r => by
   obtain⟨v,vr,rfl,h1,h2⟩:=h;simp only[PL,OF] at hp;cases r with
   | cons r1 r2 =>
     obtain⟨as,q1⟩:=eB I d n v _ hp.1 h1 r1;obtain⟨bs,q2⟩:=fL I ds n vr _ hp.2 h2 r2;exact{_,.cons q1 q2}
end
def Es {d:D}{n:Nat}(h:aA n (view M d)=true):(view M d=d/\aA n d=true)\/∃ds,dE M d=some ds/\view M d=.lst ds:=by
 cases d with
 | cell k =>
   cases e:M[k]? with
   | none =>
     have ev:view M (.cell k)=.cell k:=by simp[view,e]
     rw[ev] at h;cases n<;>simp[aA] at h
   |some ds=>exact .inr {ds,e,by simp[view,e]}
 |frz ds=>exact .inr ⟨ds,rfl,rfl⟩
 |_=>exact .inl ⟨rfl,h⟩
def kK (I:Inv X pins σ H s)(hM:RelM fa X.K μ H M){d:D}{v:V}{u:Ox}(hp:aA 64 (view M d)=true)(h:Rep fa X.K μ H d v)(r:RelV v u):∃as,Reads s.heap u (toPy (view M d)) as:=by
 rcases Es hp with⟨e,hp'⟩|⟨ds,e,ev⟩
 ·rw[e];exact eB I _ 64 v u hp' h r
 ·rw[ev] at hp ⊢;obtain⟨a,vs,rfl,h1,h2⟩:=bx (ds:=ds) hM h e;obtain rfl:u=Value.ref a:=r;obtain⟨its,rv,⟨o,k,e1,e2,e4,e3⟩,_⟩:=I.list h1;obtain⟨as,q⟩:=fL I ds 63 vs its (by simpa[aA] using hp) h2 rv
  exact{_,.list e1 e2 e3 (by simpa using q)}
def j6 (I:Inv X pins σ H s)(hM:RelM fa X.K μ H M):∀(n m:Nat) (d:D) (v:V) (u:Ox),aA m (bL n M d)=true->Rep fa X.K μ H d v->RelV v u->∃as,Reads s.heap u (toPy (bL n M d)) as
 |0,m,d,v,u,hp,h,r=>eB I d m v u hp h r
 | n + 1, m, d, v, u, hp, h, r => by
   have ih:=j6 I hM n;have all:∀(m:Nat) (ds:List D) (vs:List V) (us:List Ox),(ds.map (bL n M)).all (aA m)=true->aI fa X.K μ H ds vs->Vals vs us->∃as,ReadsAll s.heap us (cw (ds.map (bL n M))) as:=by
    intro m ds;induction ds with
    | nil =>
      intro vs us _ h r;obtain rfl:vs=[]:=h;cases r;exact{_,.nil}
    | cons d ds ihl =>
      intro vs us hp h r;obtain⟨v,vr,rfl,h1,h2⟩:=h;simp only[Pr,PL,OF] at hp;cases r with
      | cons r1 r2 =>
        obtain⟨as,q1⟩:=ih m d v _ hp.1 h1 r1;obtain⟨bs,q2⟩:=ihl vr _ hp.2 h2 r2;exact{_,.cons q1 q2}
   have lst:∀(ds:List D) (a:Addr) (vs:List V),aA m (.lst (ds.map (bL n M)))=true->cX X.K H a vs->aI fa X.K μ H ds vs->u=.ref a->∃as,Reads s.heap u (toPy (.lst (ds.map (bL n M)))) as:=by
    intro ds a vs hp h1 h2 e;subst e;cases m with
    |zero=>simp[aA] at hp
    | succ m =>
      obtain⟨its,rv,⟨o,k,e1,e2,e4,e3⟩,_⟩:=I.list h1;obtain⟨as,q⟩:=all m ds vs its (by simpa[aA] using hp) h2 rv
      exact{_,.list e1 e2 e3 (by simpa using q)}
   cases d with
   | cell k =>
     cases e:M[k]? with
     | none =>
       have ev:bL (n+1) M (.cell k)=.cell k:=by simp[bL,e]
       rw[ev] at hp;cases m<;>simp[aA] at hp
     | some ds =>
       have ev:bL (n+1) M (.cell k)=.lst (ds.map (bL n M)):=by simp[bL,e]
       rw[ev] at hp ⊢;obtain⟨a,vs,rfl,h1,h2⟩:=bx (ds:=ds) hM h e;exact lst ds a vs hp h1 h2 r
   | frz ds =>
     obtain⟨a,vs,rfl,h1,h2⟩:=bx (ds:=ds) hM h rfl;exact lst ds a vs hp h1 h2 r
   | lst ds =>
     obtain⟨a,vs,rfl,h1,h2⟩:=bx (ds:=ds) hM h rfl;exact lst ds a vs hp h1 h2 r
   | tup ds =>
     have hp:aA m (.tup (ds.map (bL n M)))=true:=hp;cases m with
     |zero=>simp[aA] at hp
     | succ m =>
       obtain⟨a,vs,rfl,h1,h2⟩:=h;obtain rfl:u=Value.ref a:=r;obtain⟨its,rv,⟨o,e1,e2,k,e3⟩,_⟩:=I.tuple h1;obtain⟨as,q⟩:=all m ds vs its (by simpa[aA] using hp) h2 rv
       exact{_,.tuple e1 e2 e3 (by simpa using q)}
   |non=>exact eB I .non m v u hp h r
   |bl b=>exact eB I (.bl b) m v u hp h r
   |int i=>exact eB I (.int i) m v u hp h r
   |str x=>exact eB I (.str x) m v u hp h r
   |fn f=>exact eB I (.fn f) m v u hp h r
   |exc y p=>exact eB I (.exc y p) m v u hp h r
abbrev Rm (X:Cx):Prop:=X.A.units+100<cLine
def gU (fa:Fa)(K:Ow)(o:jI):R2:=λx y H Q=>∃μ M dx dy b,RelM fa K μ H M/\Rep fa K μ H dx x/\Rep fa K μ H dy y/\bC o dx dy M=some b/\Q (.bl b) H
def tN {a b:D}{k:Bool}(hs:(g8 a&&g8 b)=false)(h:jB a b=some k):aA 64 a=true/\aA 64 b=true/\k=bV a b:=by
 unfold jB at h;rw[hs,Bool.false_or] at h;split at h
 ·next q=>
  simp only[OF] at q;exact{q.1,q.2,(OD h).symm}
 ·cases h
def tq (d:D):g8 (view M d)=g8 d:=by
 cases d with
 |cell k=>cases e:M[k]?<;>simp[view,e,g8]
 |_=>rfl
def qD (n:Nat)(d:D):g8 (bL n M d)=g8 d:=by
 cases n with
 |zero=>rfl
 | succ n =>
   cases d with
   |cell k=>cases e:M[k]?<;>simp[bL,e,g8]
   |_=>rfl
def qF (I:Inv X pins σ H s)(hM:RelM fa X.K μ H M){a b:D}{x y:V}{v u:Ox}{k:Bool}(hs:(g8 a&&g8 b)=false)(h:lQ M a b=some k)(h1:Rep fa X.K μ H a x)(h2:Rep fa X.K μ H b y)(rx:RelV x v)(ry:RelV y u) :
 ∃c e as bs,aA 64 c=true/\aA 64 e=true/\k=bV c e/\Reads s.heap v (toPy c) as/\Reads s.heap u (toPy e) bs:=by
 unfold lQ at h;cases q:jB (view M a) (view M b) with
 | some r =>
   rw[q] at h;cases h;obtain⟨p1,p2,e⟩:=tN (by rw[tq,tq];exact hs) q
   obtain⟨as,r1⟩:=kK I hM p1 h1 rx;obtain⟨bs,r2⟩:=kK I hM p2 h2 ry;exact{_,_,as,bs,p1,p2,e,r1,r2}
 | none =>
   rw[q] at h;obtain⟨p1,p2,e⟩:=tN (by rw[qD,qD];exact hs) h
   obtain⟨as,r1⟩:=j6 I hM 64 64 a x v p1 h1 rx;obtain⟨bs,r2⟩:=j6 I hM 64 64 b y u p2 h2 ry;exact{_,_,as,bs,p1,p2,e,r1,r2}
def rZ {a b:D}(h:(g8 a&&g8 b)=true):∃x y,a=.str x/\b=.str y:=by
 cases a with
 | str x =>
   cases b with
   |str y=>exact⟨x,y,rfl,rfl⟩
   |_=>cases h
 |_=>cases h
def vi {x y:Str}:lQ M (.str x) (.str y)=some (x==y):=by
 have e:bV (.str x) (.str y)=(x==y):=rfl;rw[<- e];rfl
def N6 (hu:Rm X):bE X (compareOp .Eq) (gU fa X.K .eq):=by
 intro pins s σ H x y v u Q I rx ry h;obtain⟨μ,M,dx,dy,b,hM,h1,h2,e,q⟩:=h;cases hs:g8 dx&&g8 dy with
 | true =>
   obtain⟨i,j,rfl,rfl⟩:=rZ hs;obtain rfl:x=.str i:=h1;obtain rfl:y=.str j:=h2;obtain rfl:(i==j)=b:=OD (vi.symm.trans e);exact Ld pins s σ H _ _ v u Q I rx ry {rfl,by rw[mU];exact q}
 | false =>
   obtain⟨_,_,as,bs,p1,p2,rfl,r1,r2⟩:=qF I hM hs (show lQ M dx dy=some b from e) h1 h2 rx ry;refine SeqAt.compareEq_shaped r1 r2 (jK p1) (jK p2) (by unfold Rm at hu;omega) ?_
   rw[mQ 64 64 _ _ p1 p2];exact{.bl _,H,I,rfl,q}
def N0 (hu:Rm X):bE X (compareOp .NotEq) (gU fa X.K .ne):=by
 intro pins s σ H x y v u Q I rx ry h;obtain⟨μ,M,dx,dy,b,hM,h1,h2,e,q⟩:=h;have e:(lQ M dx dy).map (!·)=some b:=e;cases e':lQ M dx dy with
 |none=>rw[e'] at e;cases e
 | some k =>
   rw[e'] at e;obtain rfl:(!k)=b:=OD e;cases hs:g8 dx&&g8 dy with
   | true =>
     obtain⟨i,j,rfl,rfl⟩:=rZ hs;obtain rfl:x=.str i:=h1;obtain rfl:y=.str j:=h2;obtain rfl:(i==j)=k:=OD (vi.symm.trans e');exact K8 pins s σ H _ _ v u Q I rx ry {rfl,by rw[mU];exact q}
   | false =>
     obtain⟨_,_,as,bs,p1,p2,rfl,r1,r2⟩:=qF I hM hs e' h1 h2 rx ry;refine SeqAt.compareNe_shaped r1 r2 (jK p1) (jK p2) (by unfold Rm at hu;omega) ?_
     rw[mQ 64 64 _ _ p1 p2];exact{.bl _,H,I,rfl,q}
end
section
variable{fa:Fa}{X:Cx}{μ:Mu}{H:Hp}{σ:L2.St}{pins:List (Addr×Obj)}{s:Oy}{M:Mem}
def iC {f:Ox->Ox->Sem Ox}{r r':R2}(h:bE X f r)(i:∀x y H Q,r' x y H Q->r x y H Q):bE X f r':=λpins s σ H x y v u Q I rx ry q=>h pins s σ H x y v u Q I rx ry (i x y H Q q)
def jD {f:Ox}{r r':List V->Hp->VK->Prop}(h:cy X f r)(i:∀xs H Q,r' xs H Q->r xs H Q):cy X f r':=λpins s σ H xs us Q I rx q=>h pins s σ H xs us Q I rx (i xs H Q q)
def mV {o:jI}{g:Int->Int->Bool}(ho:o=.lt\/o=.le\/o=.gt\/o=.ge)(hg:∀i j,bC o (.int i) (.int j) []=some (g i j)){x y:V}{Q:VK}(h:gU fa X.K o x y H Q) :
 ∃i j,x=.int i/\y=.int j/\Q (.bl (g i j)) H:=by
 obtain⟨μ,M,dx,dy,b,hM,h1,h2,e,q⟩:=h;have key:∀i j,dx=.int i->dy=.int j->∃i j,x=.int i/\y=.int j/\Q (.bl (g i j)) H:=λi j e1 e2=>by
  subst e1 e2;have e3:bC o (.int i) (.int j) M=some (g i j):=by
   have:=hg i j;rcases ho with rfl|rfl|rfl|rfl<;>exact this
  rw[e] at e3;have e4:=OD e3;subst e4;exact⟨i,j,h1,h2,q⟩
 rcases ho with rfl|rfl|rfl|rfl<;>
 ·cases dx with
  |int i=>cases dy<;>first|exact key _ _ rfl rfl|cases e
  |_=>cases e
def N1:bE X (compareOp .Lt) (gU fa X.K .lt):=iC K9 λx y H Q h=>mV (.inl rfl) (λ_ _=>rfl) h
def N2:bE X (compareOp .LtE) (gU fa X.K .le):=iC La λx y H Q h=>mV (.inr (.inl rfl)) (λ_ _=>rfl) h
def N4:bE X (compareOp .Gt) (gU fa X.K .gt):=iC Lb λx y H Q h=>mV (.inr (.inr (.inl rfl))) (λ_ _=>rfl) h
def N5:bE X (compareOp .GtE) (gU fa X.K .ge):=iC Lc λx y H Q h=>mV (.inr (.inr (.inr rfl))) (λ_ _=>rfl) h
def uO {d:D}{v:V}{K:Ow}(h:Rep fa K μ H d v):decide (v=.non)=lA d:=by
 cases d with
 |non=>obtain rfl:v=.non:=h;rfl
 |bl b=>obtain rfl:v=.bl b:=h;rfl
 |int b=>obtain rfl:v=.int b:=h;rfl
 |str b=>obtain rfl:v=.str b:=h;rfl
 |tup b=>obtain⟨a,vs,rfl,_⟩:=h;rfl
 |lst b=>obtain⟨a,vs,rfl,_⟩:=h;rfl
 |frz b=>obtain⟨a,vs,rfl,_⟩:=h;rfl
 |cell b=>obtain⟨a,rfl,_⟩:=h;rfl
 |fn b=>obtain⟨a,rfl,_⟩:=h;rfl
 |exc y p=>obtain⟨a,_,_,rfl,_⟩:=h;rfl
def L9:bE X (compareOp .Is) (gU fa X.K .isN):=iC Iw λx y H Q h=>by
 obtain⟨μ,M,dx,dy,b,hM,h1,h2,e,q⟩:=h;cases dy<;>first|cases (show(none:Option Bool)=some b from e)|skip
 refine{h2,?_};rw[uO h1];have e:some (lA dx)=some b:=e;rw[OD e];exact q
def J9:bE X (compareOp .IsNot) (gU fa X.K .notN):=iC Fw λx y H Q h=>by
 obtain⟨μ,M,dx,dy,b,hM,h1,h2,e,q⟩:=h;cases dy<;>first|cases (show(none:Option Bool)=some b from e)|skip
 refine{h2,?_};rw[uO h1];have e:some (!lA dx)=some b:=e;rw[OD e];exact q
def uo (x:D)(hx:aA 64 x=true):∀(ds:List D),ds.all (aA 63)=true->((cw ds).any λy=>PyData.eqv y (toPy x))=ds.any λy=>bV y x
 |[],_=>rfl
 | d :: r, h => by
   simp only[PL,OF] at h;simp only[cw,List.any_cons,mQ 63 64 d x h.1 hx,uo x hx r h.2]
def rS (n:Nat):∀ds:List D,ds.all (aA n)=true->PyData.canLayAll0 (cw ds)=true/\PyData.depthAll (cw ds)<=n
 |[],_=>by simp[cw,PyData.canLayAll0,PyData.depthAll]
 | d :: r, h => by
   simp only[PL,OF] at h;obtain⟨h1,h2⟩:=pC n d h.1;obtain⟨h3,h4⟩:=rS n r h.2;simp only[cw,PyData.canLayAll0,PyData.depthAll,h1,h3,Bool.and_self,true_and];omega
def yi (I:Inv X pins σ H s)(hM:RelM fa X.K μ H M){d:D}{v:V}{u:Ox}{ds:List D}(hp:ds.all (aA 63)=true)(h:Rep fa X.K μ H d v)(r:RelV v u)(e:b5 M d=some ds) :
 (∃as,Reads s.heap u (.list (cw ds)) as)\/∃as,Reads s.heap u (.tuple (cw ds)) as:=by
 obtain⟨a,vs,rfl,h1,h2⟩:=jt (ds:=ds) hM h e;obtain rfl:u=Value.ref a:=r;rcases h1 with h1|h1
 ·obtain⟨its,rv,⟨o,k,e1,e2,e4,e3⟩,_⟩:=I.list h1;obtain⟨as,q⟩:=fL I ds 63 vs its hp h2 rv;exact .inl {_,.list e1 e2 e3 (by simpa using q)}
 ·obtain⟨its,rv,⟨o,e1,e2,k,e3⟩,_⟩:=I.tuple h1;obtain⟨as,q⟩:=fL I ds 63 vs its hp h2 rv;exact .inr {_,.tuple e1 e2 e3 (by simpa using q)}
def zu (hu:Rm X){x y:V}{v u:Ox}{dx dy:D}{ds:List D}{b:Bool}{Q:Ox->Oy->Prop}(I:Inv X pins σ H s)(hM:RelM fa X.K μ H M)(h1:Rep fa X.K μ H dx x)(h2:Rep fa X.K μ H dy y)(rx:RelV x v)(ry:RelV y u)
 (e1:b5 M dy=some ds) (e2:m9 (view M dx) ds=some b) (neg:Bool) (q:Q (.bool (if neg then !b else b)) s):wpAny (model X.prog X.w) X.A (compareOp (if neg then .NotIn else .In) v u) Q X.xe s:=by
 unfold m9 at e2;split at e2
 ·next z=>
  simp only[OF] at z;obtain⟨p1,p2⟩:=z;have e3:=OD e2;subst e3;obtain⟨as,r1⟩:=kK I hM p1 h1 rx;obtain⟨c1,d1⟩:=pC 64 _ p1;obtain⟨c2,d2⟩:=rS 63 ds p2;have hu':X.A.units+1+min (PyData.depthAll (cw ds)) (toPy (view M dx)).depth<cLine:=by unfold Rm at hu;omega
  rw[<- uo _ p1 ds p2] at q;rcases yi I hM p2 h2 ry e1 with⟨bs,r2⟩|⟨bs,r2⟩
  ·cases neg
   ·exact SeqAt.in_list_reads r2 r1 c2 c1 hu' q
   ·exact SeqAt.notIn_list_reads r2 r1 c2 c1 hu' q
  ·cases neg
   ·exact SeqAt.in_tuple_reads r2 r1 c2 c1 hu' q
   ·exact SeqAt.notIn_tuple_reads r2 r1 c2 c1 hu' q
 ·cases e2
def N3 (hu:Rm X):bE X (compareOp .In) (gU fa X.K .isin):=by
 intro pins s σ H x y v u Q I rx ry h;obtain⟨μ,M,dx,dy,b,hM,h1,h2,e,q⟩:=h;have gen:(b5 M dy).bind (m9 (view M dx))=some b->wpAny (model X.prog X.w) X.A (compareOp .In v u) (EP X pins σ Q) X.xe s:=λe=>by
  cases e1:b5 M dy with
  |none=>rw[e1] at e;cases e
  | some ds =>
    rw[e1] at e;exact zu hu I hM h1 h2 rx ry e1 e false {.bl b,H,I,rfl,q}
 by_cases hs:(∃a,dx=.str a)/\∃c,dy=.str c
 ·obtain⟨⟨a,rfl⟩,c,rfl⟩:=hs;have e:some (n8 a c)=some b:=e;have e':=OD e;subst e';exact yM pins s σ H x y v u Q I rx ry ⟨a,c,h1,h2,q⟩
 ·refine gen ?_;cases dx<;>first|exact e|(cases dy<;>first|exact e|exact absurd {{_,rfl},_,rfl} hs)
def Gv (hu:Rm X):bE X (compareOp .NotIn) (gU fa X.K .notin):=by
 intro pins s σ H x y v u Q I rx ry h;obtain⟨μ,M,dx,dy,b,hM,h1,h2,e,q⟩:=h;have gen:((b5 M dy).bind (m9 (view M dx))).map (!·)=some b->wpAny (model X.prog X.w) X.A (compareOp .NotIn v u) (EP X pins σ Q) X.xe s:=λe=>by
  cases e1:b5 M dy with
  |none=>rw[e1] at e;cases e
  | some ds =>
    rw[e1] at e;cases e2:m9 (view M dx) ds with
    |none=>rw[Option.bind_some,e2] at e;cases e
    | some k =>
      rw[Option.bind_some,e2] at e;have e':=OD e;subst e';exact zu hu I hM h1 h2 rx ry e1 e2 true {.bl _,H,I,rfl,q}
 by_cases hs:(∃a,dx=.str a)/\∃c,dy=.str c
 ·obtain⟨⟨a,rfl⟩,c,rfl⟩:=hs;have e:some (!n8 a c)=some b:=e;have e':=OD e;subst e';exact sI pins s σ H x y v u Q I rx ry ⟨a,c,h1,h2,q⟩
 ·refine gen ?_;cases dx<;>first|exact e|(cases dy<;>first|exact e|exact absurd {{_,rfl},_,rfl} hs)
def ff:jI->CmpOp
 |.eq=>.Eq|.ne=>.NotEq|.lt=>.Lt|.le=>.LtE|.gt=>.Gt|.ge=>.GtE|.isN=>.Is|.notN=>.IsNot|.isin=>.In|.notin=>.NotIn
def mW (hu:Rm X):∀o:jI,bE X (compareOp (ff o)) (gU fa X.K o)
 |.eq=>N6 hu|.ne=>N0 hu|.lt=>N1|.le=>N2|.gt=>N4|.ge=>N5|.isN=>L9|.notN=>J9|.isin=>N3 hu|.notin=>Gv hu
def lY (fa:Fa)(K:Ow)(m:Bool)(o:kJ):R2:=λx y H Q=>∃μ M dx dy,RelM fa K μ H M/\Rep fa K μ H dx x/\Rep fa K μ H dy y/\ag (fU m o dx dy M) (aX fa K μ H Q)
def aR {Q:VK}{d:D}{v:V}(hM:RelM fa X.K μ H M)(h:aX fa X.K μ H Q d M)(r:Rep fa X.K μ H d v):Q v H:=h v H μ .refl hM r
def g9 {Q:VK}{m:Bool}{ds:List D}{vs:List V}(hM:RelM fa X.K μ H M)(r:aI fa X.K μ H ds vs)(h:ag (br m ds M) (aX fa X.K μ H Q)):ds.length<=sz/\∀p,H p=none->Q (.ref p) (upd H p (.lst vs)):=by
 unfold br at h;split at h
 ·next hz=>
  refine{hz,λp hp=>?_};cases m with
  | true =>
    have h:aX fa X.K μ H Q (.cell M.length) (M++[ds]):=h;exact h (.ref p) _ (fN μ M.length p) (Ext.cell hM hp) (hM.cell hp r) {p,rfl,by simp[fN]}
  | false =>
    have h:aX fa X.K μ H Q (.lst ds) M:=h;exact h (.ref p) _ μ (Ext.alloc hM hp) (hM.alloc hp) {p,vs,rfl,{cm,hM.fresh hp},r.ext (Ext.alloc hM hp)}
 ·exact h.elim
def jn {Q:VK}{ds:List D}{vs:List V}(hM:RelM fa X.K μ H M)(r:aI fa X.K μ H ds vs)(h:aX fa X.K μ H Q (.tup ds) M):∀p,H p=none->Q (.ref p) (upd H p (.tup vs)):=λp hp=>
 h (.ref p) _ μ (Ext.alloc hM hp) (hM.alloc hp) {p,vs,rfl,.of cm,r.ext (Ext.alloc hM hp)}
def dS:sz=sizeLine:=by rw[sizeLine_eq];rfl
def Bp:bE X (binaryOp .Add) (λx y H Q=>∃a b ys,x=.ref a/\y=.ref b/\dH X.K H a []/\dH X.K H b ys/\Q (.ref b) H):=by
 intro pins s σ H x y v u Q I rx ry h;obtain⟨a,b,ys,rfl,rfl,ha,hb,q⟩:=h;cases rx;cases ry;obtain⟨its,r1,p1,_⟩:=I.tuple ha;obtain⟨its2,r2,p2,_⟩:=I.tuple hb;cases r1;obtain⟨⟨cls,dd,data,sl⟩,ho,hc,n,hd⟩:=id p1;obtain⟨⟨cls2,dd2,data2,sl2⟩,ho2,hc2,n2,hd2⟩:=id p2;simp only at hc hd hc2 hd2;subst hc hd hc2 hd2;exact concat_meets {_,ho,rfl} {_,ho2,rfl} noFill_tuple_add seq_tuple_add PySem.F.slot_tuple_add PySem.F.entry_tuple_add (PySem.F.args_tuple_add_2 _ _)
  (tuple_addW0 a b #[] its2.toArray n n2 dd dd2 sl sl2 rfl) {ho,ho2,{.ref b,H,I,rfl,q}}
def Ci {m:Bool}{x y:V}{v u:Ox}{dx dy:D}{Q:VK}(I:Inv X pins σ H s)(hM:RelM fa X.K μ H M)(h1:Rep fa X.K μ H dx x)(h2:Rep fa X.K μ H dy y)(rx:RelV x v)(ry:RelV y u)
 (h:ag (match jx M dx,jx M dy with|some x,some y=>br m (x++y) M|_,_=>.bad) (aX fa X.K μ H Q)):wpAny (model X.prog X.w) X.A (binaryOp .Add v u) (EP X pins σ Q) X.xe s:=by
 cases e1:jx M dx with
 |none=>rw[e1] at h;exact h.elim
 | some xs =>
   cases e2:jx M dy with
   |none=>rw[e1,e2] at h;exact h.elim
   | some ys =>
     rw[e1,e2] at h;obtain⟨a,vs,rfl,ha,ra⟩:=ju hM h1 e1;obtain⟨b,ws,rfl,hb,rb⟩:=ju hM h2 e2;obtain⟨hz,k⟩:=g9 hM (ra.append rb) h;refine Iy pins s σ H _ _ v u Q I rx ry {a,b,vs,ws,rfl,rfl,ha,hb,?_,k};rw[ra.length,rb.length,<- Pn,<- dS];exact hz
def Mh (m:Bool):bE X (binaryOp .Add) (lY fa X.K m .add):=by
 intro pins s σ H x y v u Q I rx ry h;obtain⟨μ,M,dx,dy,hM,h1,h2,h⟩:=h;have hi:∀i j,dx=.int i->dy=.int j->wpAny (model X.prog X.w) X.A (binaryOp .Add v u) (EP X pins σ Q) X.xe s:=λi j e1 e2=>by
  subst e1 e2;exact Iz pins s σ H x y v u Q I rx ry {i,j,h1,h2,aR (v:=.int (i+j)) hM h rfl}
 have hs:∀i j,dx=.str i->dy=.str j->wpAny (model X.prog X.w) X.A (binaryOp .Add v u) (EP X pins σ Q) X.xe s:=λi j e1 e2=>by
  subst e1 e2;have h:ag (if i.cps.size+j.cps.size<=sz then .ok (.str {i.cps++j.cps}) M else .bad) (aX fa X.K μ H Q):=h;split at h
  ·next hz=>exact v9 pins s σ H x y v u Q I rx ry {i,j,h1,h2,by rw[<- dS];exact hz,aR (v:=.str {i.cps++j.cps}) hM h rfl}
  ·exact h.elim
 have ht:∀i j,dx=.tup i->dy=.tup j->wpAny (model X.prog X.w) X.A (binaryOp .Add v u) (EP X pins σ Q) X.xe s:=λi j e1 e2=>by
  subst e1 e2;have h:ag (if (i++j).length<=sz then .ok (.tup (i++j)) M else .bad) (aX fa X.K μ H Q):=h;split at h
  ·next hz=>
   have h:aX fa X.K μ H Q (.tup (i++j)) M:=h;obtain⟨a,vs,e1,ha,ra⟩:=id h1;obtain⟨b,ws,e2,hb,rb⟩:=id h2;by_cases h0:i=[]
   ·subst h0;obtain rfl:vs=[]:=ra;exact Bp pins s σ H x y v u Q I rx ry {a,b,ws,e1,e2,ha,hb,aR hM h ⟨b,ws,rfl,hb,rb⟩}
   ·have hv:vs≠[]:=λz=>h0 (by have:=ra.length;rw[z] at this;exact QF.mp this.symm)
    refine Fy pins s σ H x y v u Q I rx ry {a,b,vs,ws,e1,e2,ha,hb,hv,?_,λz=>?_,λ_=>jn hM (ra.append rb) h}
    ·rw[ra.length,rb.length,<- Pn,<- dS];exact hz
    ·subst z;have ej:j=[]:=QF.mp rb.length.symm;subst ej;exact aR hM h {a,vs,rfl,ha,by simpa using ra}
  ·exact h.elim
 cases dx<;>cases dy<;>first|exact hi _ _ rfl rfl|exact hs _ _ rfl rfl|exact ht _ _ rfl rfl|exact Ci (m:=m) I hM h1 h2 rx ry h
def rD {op:Operator}{o:kJ}{m:Bool}{C:Int->Int->Prop}{g:Int->Int->Int}(hr:bE X (binaryOp op) (rI C λi j=>.int (g i j)))
 (hD:∀dx dy M (P:D->Mem->Prop),ag (fU m o dx dy M) P->∃i j,dx=.int i/\dy=.int j/\C i j/\P (.int (g i j)) M):bE X (binaryOp op) (lY fa X.K m o):=iC hr λx y H Q h=>by
 obtain⟨μ,M,dx,dy,hM,h1,h2,h⟩:=h;obtain⟨i,j,rfl,rfl,c,q⟩:=hD dx dy M _ h;exact{i,j,h1,h2,c,aR (v:=.int (g i j)) hM q rfl}
def Mc (m:Bool):bE X (binaryOp .Sub) (lY fa X.K m .sub):=rD (C:=λ_ _=>True) (g:=λi j=>i-j) (iC Ip λx y H Q ⟨i,j,e1,e2,_,q⟩=>⟨i,j,e1,e2,q⟩) λdx dy M P h=>by
 cases dx<;>cases dy<;>first|exact{_,_,rfl,rfl,trivial,h}|exact h.elim
def Ke (m:Bool):bE X (binaryOp .FloorDiv) (lY fa X.K m .fdiv):=rD Fx λdx dy M P h=>by
 have key:∀i j,dx=.int i->dy=.int j->∃i j,dx=.int i/\dy=.int j/\Kv i j/\P (.int (i / j)) M:=λi j e1 e2=>by
  subst e1 e2;have h:ag (if 0<j/\j<1073741824 then .ok (.int (i / j)) M else .bad) P:=h;split at h
  ·next c=>exact⟨i,j,rfl,rfl,c,h⟩
  ·exact h.elim
 cases dx<;>cases dy<;>first|exact key _ _ rfl rfl|exact h.elim
def Mf (m:Bool):bE X (binaryOp .Mod) (lY fa X.K m .mod):=rD Iv λdx dy M P h=>by
 have key:∀i j,dx=.int i->dy=.int j->∃i j,dx=.int i/\dy=.int j/\0<j/\P (.int (i % j)) M:=λi j e1 e2=>by
  subst e1 e2;have h:ag (if 0<j then .ok (.int (i % j)) M else .bad) P:=h;split at h
  ·next c=>exact⟨i,j,rfl,rfl,c,h⟩
  ·exact h.elim
 cases dx<;>cases dy<;>first|exact key _ _ rfl rfl|exact h.elim
def Md (m:Bool):bE X (binaryOp .Pow) (lY fa X.K m .pow):=rD Ir λdx dy M P h=>by
 have key:∀i j,dx=.int i->dy=.int j->∃i j,dx=.int i/\dy=.int j/\Ku i j/\P (.int (i^j.toNat)) M:=λi j e1 e2=>by
  subst e1 e2;have h:ag (if 0<=j/\j<=1000000/\i.natAbs<2^64 then .ok (.int (i^j.toNat)) M else .bad) P:=h;split at h
  ·next c=>exact⟨i,j,rfl,rfl,c,h⟩
  ·exact h.elim
 cases dx<;>cases dy<;>first|exact key _ _ rfl rfl|exact h.elim
def Bc {m:Bool}{x y:V}{v u:Ox}{dx:D}{j:Int}{Q:VK}(I:Inv X pins σ H s)(hM:RelM fa X.K μ H M)(h1:Rep fa X.K μ H dx x)(h2:Rep fa X.K μ H (.int j) y)(rx:RelV x v)(ry:RelV y u)
 (h:ag (match jx M dx with|some x=>if x.length*j.toNat<=sz/\-(2^63)<=j/\j<2^63 then br m (List.replicate j.toNat x).flatten M else .bad|none=>.bad) (aX fa X.K μ H Q)) :
 wpAny (model X.prog X.w) X.A (binaryOp .Mult v u) (EP X pins σ Q) X.xe s:=by
 cases e1:jx M dx with
 |none=>rw[e1] at h;exact h.elim
 | some xs =>
   rw[e1] at h;simp only at h;split at h
   ·next c=>
    obtain⟨a,vs,rfl,ha,ra⟩:=ju hM h1 e1;obtain⟨hz,k⟩:=g9 hM (ra.rep j.toNat) h;exact Iq pins s σ H _ _ v u Q I rx ry {a,j,vs,rfl,h2,ha,c.2.1,c.2.2,by rw[ra.length,<- dS];exact c.1,k}
   ·exact h.elim
end
end LD
namespace LD
open PySem PySem.Spec PyProof.Rows L2 PySem.Builtin
open PySem.Sem (wp)
def nK:fillsNumberSlot (.type "tuple") "mul"=pure false:=
 PySem.fillsNumberSlot_seq (id:="tuple.__mul__") (r:=some (.builtin "tuple.__rmul__")) F.slot_tuple_mul.lookup `k F.slot_tuple_rmul.lookup `k
def sj:seqRepeat? (.type "tuple")=pure (some (.builtin "tuple.__mul__")):=by
 unfold seqRepeat?;rw[PySem.seqSlot_of (T:="tuple") (name:="__mul__") (id:="tuple.__mul__") F.slot_tuple_mul.lookup `k,PySem.seqSlot_of (T:="tuple") (name:="__rmul__") (id:="tuple.__rmul__") F.slot_tuple_rmul.lookup `k]
 rfl
def pG (a:Int)(t:Tok)(l:Addr)(items:Array Ox)(n:Nat)(dd:Option Addr)(sl:Array (Option Ox)) :
 Meets (Builtin.«int.__rmul__» {[.int a t,.ref l],[]}) (λ_ R s=>s.heap.get? l=some {cls:=.type "tuple",dict:=dd,data:=.seq items n,slots:=sl}/\R (.ok (.ret Value.notImplemented)) s):=
 .of_wp λprog w A R s h=>by obtain⟨hp,g,d,tk,os⟩:=s;obtain⟨hl,h⟩:=h;wp_walk using wpAny_loadPart' hl;exact{_,rfl,h}
def v8 {x:Int}(h0:-(2^63)<=x)(h1:x<2^63):(decide (x < -2^63)||decide (x≥2^63))=false:=by
 rw[decide_eq_false `a,decide_eq_false `a];rfl
def pR (l:Addr)(items:Array Ox)(n:Nat)(dd:Option Addr)(sl:Array (Option Ox))(x:Int)(u:Tok)(h0:-(2^63)<=x)(h1:x<2^63)(hc:(items.isEmpty||x==1)=true) :
 Meets (Builtin.«tuple.__mul__» {[.ref l,.int x u],[]}) (λ_ R s=>s.heap.get? l=some {cls:=.type "tuple",dict:=dd,data:=.seq items n,slots:=sl}/\R (.ok (.ret (.ref l))) s):=
 .of_wp λprog w A R s h=>by
  obtain⟨hp,g,d,tk,os⟩:=s;obtain⟨hl,h⟩:=h;have f1:=AutoSeq1.idx_int;wp_walk using wpAny_loadPart' hl
  refine wpAny_ite_false (by rw[v8 h0 h1];rfl) ?_
  wp_walk using wpAny_loadPart' hl
  exact{_,rfl,h}
def pS (l:Addr)(items:Array Ox)(n:Nat)(dd:Option Addr)(sl:Array (Option Ox))(x:Int)(u:Tok)(h0:-(2^63)<=x)(h1:x<2^63)(hc:(items.isEmpty||x==1)=false)(hc1:(decide (x<=0)||items.isEmpty)=true) :
 Meets (Builtin.«tuple.__mul__» {[.ref l,.int x u],[]}) (λ_ R s=>s.heap.get? l=some {cls:=.type "tuple",dict:=dd,data:=.seq items n,slots:=sl}/\R (.ok (.ret (.ref s.heap.objs.size))) {s with heap:=s.heap.push {cls:=Value.type "tuple",data:=Data.seq #[]},toks:=s.toks}):=
 .of_wp λprog w A R s h=>by
  obtain⟨hp,g,d,tk,os⟩:=s;obtain⟨hl,h⟩:=h;have f1:=AutoSeq1.idx_int;wp_walk using wpAny_loadPart' hl
  refine wpAny_ite_false (by rw[v8 h0 h1];rfl) ?_
  wp_walk using wpAny_loadPart' hl
  exact{_,rfl,h}
def pT (l:Addr)(items:Array Ox)(n:Nat)(dd:Option Addr)(sl:Array (Option Ox))(x:Int)(u:Tok)(h0:-(2^63)<=x)(h1:x<2^63)(hc:(items.isEmpty||x==1)=false)(hc1:(decide (x<=0)||items.isEmpty)=false)
 (hs:(items.size:Int)*x<=16777216) (hs2:(List.foldl (λx1 x2=>x1++x2) #[] (List.replicate x.toNat items)).size<=sizeLine) :
 Meets (Builtin.«tuple.__mul__» {[.ref l,.int x u],[]}) (λ_ R s=>s.heap.get? l=some {cls:=.type "tuple",dict:=dd,data:=.seq items n,slots:=sl}/\R (.ok (.ret (.ref s.heap.objs.size))) {s with heap:=s.heap.push {cls:=Value.type "tuple",data:=Data.seq (List.foldl (λx1 x2=>x1++x2) #[] (List.replicate x.toNat items))},toks:=s.toks}):=
 .of_wp λprog w A R s h=>by
  obtain⟨hp,g,d,tk,os⟩:=s;obtain⟨hl,h⟩:=h;have f1:=AutoSeq1.idx_int;wp_walk using wpAny_loadPart' hl
  refine wpAny_ite_false (by rw[v8 h0 h1];rfl) ?_
  wp_walk using wpAny_loadPart' hl
  refine wpAny_ite_false (decide_eq_false `a) ?_
  wp_walk using wpAny_loadPart' hl
  refine wpAny_ite_false (decide_eq_false (by unfold Tuple.tupleTooMany;rw[sizeLine_eq];simp;omega)) ?_
  wp_walk using wpAny_loadPart' hl
  exact{_,rfl,h}
section
variable{fa:Fa}{X:Cx}{μ:Mu}{H:Hp}{σ:L2.St}{pins:List (Addr×Obj)}{s:Oy}{M:Mem}
def qx (its:List Ox)(m:Nat):List.foldl (λx1 x2=>x1++x2) #[] (List.replicate m its.toArray)=(List.replicate m its).flatten.toArray:=by
 have:=foldl_rep its m [];rw[Qi] at this;exact this
def Fv:bE X (binaryOp .Mult) (λx y H Q=>∃l k xs,x=.ref l/\y=.int k/\dH X.K H l xs/\-(2^63)<=k/\k<2^63/\xs.length*k.toNat<=sz/\
 ((List.replicate k.toNat xs).flatten=xs->Q (.ref l) H)/\∀p,H p=none->Q (.ref p) (upd H p (.tup (List.replicate k.toNat xs).flatten))):=by
 intro pins s σ H x y v u Q I rx ry h;obtain⟨l,k,xs,rfl,rfl,hq,h1,h2,hz,q1,q2⟩:=h;cases rx;obtain⟨t,rfl⟩:=ry;obtain⟨its,r,p,hzz⟩:=I.tuple hq;have hl:=r.length;obtain⟨⟨cls,dd,data,sl⟩,ho,hc,n,hd⟩:=id p;simp only at hc hd;subst hc hd;refine wpAny_binaryOp_repeat_ref (T:="tuple") (U:="int") `d {_,ho,rfl} (λs'=>typeIs_int s' k t) nK F.fills_int_mul F.slot_int_rmul sj F.slot_int_index.lookup
  (call_meets F.slot_int_rmul (typeIs_int s k t) F.entry_int_rmul (F.args_int_rmul_2 _ _) (pG k t l its.toArray n dd sl) {ho,rfl,{_,ho,rfl},?_})
 have new:∀(its':List Ox),Vals (List.replicate k.toNat xs).flatten its'->EP X pins σ Q (.ref s.heap.objs.size) {s with heap:=s.heap.push {cls:=Value.type "tuple",data:=Data.seq its'.toArray}}:=λits' r'=>by
  refine{.ref s.heap.objs.size,_,I.laid (t':=s.toks) (o:=.tup (List.replicate k.toNat xs).flatten) (λb ob q=>OA _ q) (OC _) ?_,rfl,q2 _ (I.hok.fresh (OC _))};exact{by rw[len_rep,Nat.mul_comm,<- dS];exact hz,_,r',IsTup.new _ _}
 by_cases c1:(its.toArray.isEmpty||k==1)=true
 ·refine call_meets F.slot_tuple_mul {_,ho,rfl} F.entry_tuple_mul (F.args_tuple_mul_2 _ _) (pR l its.toArray n dd sl k t h1 h2 c1) {ho,{.ref l,H,I,rfl,q1 ?_}};rcases Bool.or_eq_true_iff.mp c1 with z|z
  ·have e:its=[]:=by simpa using z
   subst e;have e2:xs=[]:=QF.mp hl;subst e2;simp
  ·have e:k=1:=by simpa using z
   subst e;simp
 ·have c1':(its.toArray.isEmpty||k==1)=false:=by simpa using c1
  by_cases c2:(decide (k<=0)||its.toArray.isEmpty)=true
  ·refine call_meets F.slot_tuple_mul {_,ho,rfl} F.entry_tuple_mul (F.args_tuple_mul_2 _ _) (pS l its.toArray n dd sl k t h1 h2 c1' c2) {ho,new [] ?_};have hk:k<=0:=by
    rcases Bool.or_eq_true_iff.mp c2 with z|z
    ·simpa using z
    ·rw[z] at c1';cases c1'
   have hk0:k.toNat=0:=`a
   rw[hk0];exact .nil
  ·have c2':(decide (k<=0)||its.toArray.isEmpty)=false:=by simpa using c2
   have hk:0<k:=by
    have:=(Bool.or_eq_false_iff.mp c2').1;simpa using this
   have hs:(its.toArray.size:Int)*k<=16777216:=by
    have e1:(its.toArray.size:Int)*k=((xs.length*k.toNat:Nat):Int):=by
     rw[OH,<- hl,Int.natCast_mul,Int.toNat_of_nonneg `a]
    rw[e1];have:xs.length*k.toNat<=16777216:=hz;omega
   have hs2:(List.foldl (λx1 x2=>x1++x2) #[] (List.replicate k.toNat its.toArray)).size<=sizeLine:=by
    rw[qx,OH,len_rep,Nat.mul_comm,<- hl,<- dS];exact hz
   refine call_meets F.slot_tuple_mul {_,ho,rfl} F.entry_tuple_mul (F.args_tuple_mul_2 _ _) (pT l its.toArray n dd sl k t h1 h2 c1' c2' hs hs2) {ho,?_};rw[qx];exact new _ (r.rep k.toNat)
def Me (m:Bool):bE X (binaryOp .Mult) (lY fa X.K m .mul):=by
 intro pins s σ H x y v u Q I rx ry h;obtain⟨μ,M,dx,dy,hM,h1,h2,h⟩:=h;have hi:∀i j,dx=.int i->dy=.int j->wpAny (model X.prog X.w) X.A (binaryOp .Mult v u) (EP X pins σ Q) X.xe s:=λi j e1 e2=>by
  subst e1 e2;have h:ag (if (-(2^64)<i/\i<2^64)\/(-(2^64)<j/\j<2^64) then .ok (.int (i*j)) M else .bad) (aX fa X.K μ H Q):=h;split at h
  ·next c=>exact Iu pins s σ H x y v u Q I rx ry {i,j,h1,h2,c,aR (v:=.int (i*j)) hM h rfl}
  ·exact h.elim
 have ht:∀i j,dx=.tup i->dy=.int j->wpAny (model X.prog X.w) X.A (binaryOp .Mult v u) (EP X pins σ Q) X.xe s:=λi j e1 e2=>by
  subst e1 e2;have h:ag (if i.length*j.toNat<=sz/\-(2^63)<=j/\j<2^63 then .ok (.tup (List.replicate j.toNat i).flatten) M else .bad) (aX fa X.K μ H Q):=h;split at h
  ·next c=>
   have h:aX fa X.K μ H Q (.tup (List.replicate j.toNat i).flatten) M:=h;obtain⟨a,vs,e1,ha,ra⟩:=id h1;refine Fv pins s σ H x y v u Q I rx ry {a,j,vs,e1,h2,ha,c.2.1,c.2.2,by rw[ra.length];exact c.1,λz=>?_,jn hM (ra.rep j.toNat) h}
   refine aR hM h {a,vs,rfl,ha,?_};have:=ra.rep j.toNat;rw[z] at this;exact this
  ·exact h.elim
 have hl:∀j,dy=.int j->ag (match jx M dx with|some x=>if x.length*j.toNat<=sz/\-(2^63)<=j/\j<2^63 then br m (List.replicate j.toNat x).flatten M else .bad|none=>.bad) (aX fa X.K μ H Q)->
  wpAny (model X.prog X.w) X.A (binaryOp .Mult v u) (EP X pins σ Q) X.xe s:=λj e1 h'=>by
  subst e1;exact Bc (m:=m) I hM h1 h2 rx ry h'
 cases dy with
 |int j=>cases dx<;>first|exact hi _ _ rfl rfl|exact ht _ _ rfl rfl|exact hl _ rfl h
 |_=>cases dx<;>exact h.elim
def binOp:kJ->Operator
 |.add=>.Add|.sub=>.Sub|.mul=>.Mult|.fdiv=>.FloorDiv|.mod=>.Mod|.pow=>.Pow
def Mg (m:Bool):∀o:kJ,bE X (binaryOp (binOp o)) (lY fa X.K m o)
 |.add=>Mh m|.sub=>Mc m|.mul=>Me m|.fdiv=>Ke m|.mod=>Mf m|.pow=>Md m
end
end LD
namespace LD
open PySem PySem.Spec PyProof.Rows L2
section
variable{fa:Fa}{X:Cx}{μ:Mu}{H:Hp}{σ:L2.St}{pins:List (Addr×Obj)}{s:Oy}{M:Mem}
def Jp {r r':R2}(h:j3 X r)(i:∀x y H Q,r' x y H Q->r x y H Q):j3 X r':=λvalue slice pins s σ H x y v u Q I rx ry q hs=>h value slice pins s σ H x y v u Q I rx ry (i x y H Q q) hs
def rIdx (fa:Fa)(K:Ow):R2:=λx y H Q=>∃μ M dx dy d,RelM fa K μ H M/\Rep fa K μ H dx x/\Rep fa K μ H dy y/\bS dx dy M=some d/\aX fa K μ H Q d M
def tm (n:Nat)(i:Int):LD.bW n i=L2.bW n i:=rfl
def Lp:j3 X (rIdx fa X.K):=Jp Jo λx y H Q h=>by
 obtain⟨μ,M,dx,dy,d,hM,h1,h2,e,q⟩:=h;have gen:∀i,dy=.int i->((b5 M dx).bind λds=>(LD.bW ds.length i).bind λj=>ds[j]?)=some d->HS X.K x y H Q:=λi e0 e'=>by
  subst e0;clear e;have e:=e';clear e';cases e1:b5 M dx with
  |none=>rw[e1] at e;cases e
  | some ds =>
    rw[e1,Option.bind_some] at e;obtain⟨a,vs,rfl,hq,r⟩:=jt hM h1 e1;cases e2:LD.bW ds.length i with
    |none=>rw[e2] at e;cases e
    | some j =>
      rw[e2,Option.bind_some] at e;obtain⟨v,hv,rv⟩:=r.get e;have he:qS vs i=some v:=by
       unfold qS;rw[r.length,<- tm,e2];exact hv
      rcases hq with hq|hq
      ·exact .inl {a,vs,i,v,rfl,h2,hq,he,aR hM q rv}
      ·exact .inr (.inl {a,vs,i,v,rfl,h2,hq,he,aR hM q rv})
 have str:∀z i,dx=.str z->dy=.int i->HS X.K x y H Q:=λz i e1 e2=>by
  subst e1 e2;have e:(if z.cps.size<=sz then(LD.bW z.cps.size i).bind λj=>(z.cps[j]?).map λc=>D.str {#[c]} else none)=some d:=e;split at e
  ·next hz=>
   cases e2:LD.bW z.cps.size i with
   |none=>rw[e2] at e;cases e
   | some j =>
     rw[e2,Option.bind_some] at e;cases e3:z.cps[j]? with
     |none=>rw[e3] at e;cases e
     | some c =>
       rw[e3] at e;have e4:D.str {#[c]}=d:=OD e;subst e4;refine .inr (.inr {z,i,c,h1,h2,by rw[<- dS];exact hz,?_,aR hM q rfl})
       unfold qS;rw[show z.cps.toList.length=z.cps.size by simp,<- tm,e2]
       simpa using e3
  ·cases e
 cases dy with
 |int i=>cases dx<;>first|exact str _ _ rfl rfl|exact gen _ rfl e
 |_=>cases dx<;>cases (show(none:Option D)=some d from e)
def Ho {r r':V->Option Int->Option Int->Hp->VK->Prop}(h:mC X r)(i:∀x lo hi H Q,r' x lo hi H Q->r x lo hi H Q):mC X r':=λpins s σ H x v vl vu lo hi sl Q I rx hs pl pu q=>h pins s σ H x v vl vu lo hi sl Q I rx hs pl pu (i x lo hi H Q q)
def oA:D->Option (Option Int)
 |.non=>some none
 |.int i=>some (some i)
 |_=>none
def sh (n d:Nat)(x:D):LD.aT n d x=(oA x).map (HT.aT n d):=by
 cases x<;>rfl
def se:mC X (λx lo hi H Q=>∃a xs,x=.ref a/\dH X.K H a xs/\(HT.aT xs.length 0 lo=0/\HT.aT xs.length xs.length hi=xs.length)/\Q (.ref a) H):=by
 intro pins s σ H x v vl vu lo hi sl Q I rx hs pl pu h;obtain⟨a,xs,rfl,hx,hw,q⟩:=h;cases rx;obtain⟨its,r,ht,hz⟩:=I.tuple hx;refine{"tuple",_,PY.lookup,ht.typeIs,?_};have hlen:its.toArray.size=xs.length:=by rw[OH];exact r.length.symm
 rw[<- hlen] at hw;obtain⟨os,hos,hcs,hds⟩:=id hs;have hTs:s.TypeIs (.ref sl) "slice":=⟨os,hos,hcs⟩;unfold getItem;try with_reducible refine tqo ?_
 first|refine tqa (tqb ?_)|skip
 refine tqa (wpAny_sequenceKey ht.typeIs `d ?_)
 refine tqa (wpAny_callSpecial?_slot (name:=Str.ofString "__getitem__") ht.typeIs PY
  (wpAny_call_entry PY ht.typeIs entry_tuple_getitem ?_ (args_tuple_getitem _ _)))
 show wpAny _ _ (Builtin.Tuple.tupleItemsOf (.ref a) >>= _) _ _ s;refine tqa (tupleItemsOf_ ht ?_);refine tqa (wpAny_typeOf hTs ?_);rw[if_pos `d]
 refine tqa (HT.jr hs pl pu ?_);have hyes:(((HT.aT its.toArray.size 0 lo:Nat):Int)==0&&(1:Int)==1&&(HT.aT its.toArray.size its.toArray.size hi-HT.aT its.toArray.size 0 lo)==its.toArray.size)=true:=by
  rw[hw.1,hw.2];simp
 show wpAny _ _ (if (((HT.aT its.toArray.size 0 lo:Nat):Int)==0&&(1:Int)==1&&(HT.aT its.toArray.size its.toArray.size hi-HT.aT its.toArray.size 0 lo)==its.toArray.size)=true then _ else _) _ _ s;rw[if_pos hyes];refine tqa (m:=Builtin.Tuple.tupleIsExact (.ref a)) ?_;unfold Builtin.Tuple.tupleIsExact;refine tqa (wpAny_typeOf ht.typeIs ?_);refine tqb ?_;rw[if_pos `d]
 exact tqa (wpAny_rule (tqb {_,rfl,tqb {.ref a,H,I,rfl,q}}))
def Nj (fa:Fa)(K:Ow)(m:Bool):V->Option Int->Option Int->Hp->VK->Prop:=λx lo hi H Q=>∃μ M dx dl dh,RelM fa K μ H M/\Rep fa K μ H dx x/\oA dl=some lo/\oA dh=some hi/\ag (hU m dx dl dh M) (aX fa K μ H Q)
def E1 (m:Bool):mC X (Nj fa X.K m):=by
 refine Ho (E2.or (Hn.or se)) λx lo hi H Q h=>?_;obtain⟨μ,M,dx,dl,dh,hM,h1,e1,e2,h⟩:=h;have gen:ag (match dE M dx with
  | some xs => match LD.aT xs.length 0 dl, LD.aT xs.length xs.length dh with
    |some l,some h=>br m (cut xs l h) M
    |_,_=>.bad
  |none=>.bad) (aX fa X.K μ H Q)->HN X.K x lo hi H Q:=λh=>by
  cases e:dE M dx with
  |none=>rw[e] at h;exact h.elim
  | some xs =>
    rw[e] at h;simp only[sh,e1,e2,Option.map_some] at h;obtain⟨a,vs,rfl,hq,r⟩:=bx hM h1 e;have hl:=r.length;obtain⟨_,k⟩:=g9 hM ((r.drop (HT.aT xs.length 0 lo)).take (HT.aT xs.length xs.length hi-HT.aT xs.length 0 lo)) h;refine{a,vs,rfl,hq,?_};unfold mx;rw[hl];exact k
 have tup:∀xs,dx=.tup xs->HM X.K x lo hi H Q\/∃a xs,x=.ref a/\dH X.K H a xs/\(HT.aT xs.length 0 lo=0/\HT.aT xs.length xs.length hi=xs.length)/\Q (.ref a) H:=λxs e=>by
  subst e;have h:ag (match LD.aT xs.length 0 dl,LD.aT xs.length xs.length dh with
   |some l,some h=>.ok (.tup (cut xs l h)) M
   |_,_=>.bad) (aX fa X.K μ H Q):=h
  simp only[sh,e1,e2,Option.map_some] at h;have h:aX fa X.K μ H Q (.tup (cut xs (HT.aT xs.length 0 lo) (HT.aT xs.length xs.length hi))) M:=h;obtain⟨a,vs,rfl,hq,r⟩:=h1;have hl:=r.length;by_cases hw:HT.aT vs.length 0 lo=0/\HT.aT vs.length vs.length hi=vs.length
  ·refine .inr {a,vs,rfl,hq,hw,?_};rw[hl] at hw;have e3:cut xs (HT.aT xs.length 0 lo) (HT.aT xs.length xs.length hi)=xs:=by rw[hw.1,hw.2];simp[cut]
   rw[e3] at h;exact aR hM h ⟨a,vs,rfl,hq,r⟩
  ·refine .inl {a,vs,rfl,hq,hw,?_};have k:=jn hM ((r.drop (HT.aT xs.length 0 lo)).take (HT.aT xs.length xs.length hi-HT.aT xs.length 0 lo)) h;unfold mx;rw[hl];exact k
 cases dx<;>first|exact .inr (tup _ rfl)|exact .inl (gen h)
def nA (fa:Fa)(K:Ow)(f:vI):List V->Hp->VK->Prop:=λvs H Q=>∃μ M ds,RelM fa K μ H M/\aI fa K μ H ds vs/\ag (fh f ds M) (aX fa K μ H Q)
def oq {d:D}{vs:List V}{K:Ow}(h:aI fa K μ H [d] vs):∃v,vs=[v]/\Rep fa K μ H d v:=by
 obtain⟨v,r,rfl,h1,h2⟩:=h;obtain rfl:r=[]:=h2;exact⟨v,rfl,h1⟩
def Lz:cy X (.builtin "len") (nA fa X.K .len):=jD (ub.or ua) λvs H Q h=>by
 obtain⟨μ,M,ds,hM,r,h⟩:=h
 match ds,r,h with
 |[],_,h=>exact h.elim
 |d::_::_,_,h=>cases d<;>exact h.elim
 | [d], r, h =>
   obtain⟨v,rfl,hv⟩:=oq r;have gen:ag (match b5 M d with|some xs=>.ok (.int xs.length) M|none=>.bad) (aX fa X.K μ H Q)->∃p ys,[v]=[.ref p]/\(cX X.K H p ys\/dH X.K H p ys)/\Q (.int ys.length) H:=λh=>by
    cases e:b5 M d with
    |none=>rw[e] at h;exact h.elim
    | some xs =>
      rw[e] at h;obtain⟨a,vs,rfl,hq,r⟩:=jt hM hv e;refine{a,vs,rfl,hq,?_};rw[r.length];exact aR (v:=.int xs.length) hM h rfl
   have str:∀x,d=.str x->∃z,[v]=[V.str z]/\z.length<=sizeLine/\Q (.int z.length) H:=λx e=>by
    subst e;have h:ag (if x.cps.size<=sz then .ok (.int x.cps.size) M else .bad) (aX fa X.K μ H Q):=h;split at h
    ·next c=>exact{x,by rw[show v=.str x from hv],by rw[<- dS];exact c,aR (v:=.int x.cps.size) hM h rfl}
    ·exact h.elim
   cases d<;>first|exact .inr (str _ rfl)|exact .inl (gen h)
def FX:cy X (.type "tuple") (nA fa X.K .tuple):=jD qX λvs H Q h=>by
 obtain⟨μ,M,ds,hM,r,h⟩:=h
 match ds,r,h with
 |[],_,h=>exact h.elim
 |d::_::_,_,h=>cases d<;>exact h.elim
 | [d], r, h =>
   obtain⟨v,rfl,hv⟩:=oq r;have gen:ag (match dE M d with|some xs=>.ok (.tup xs) M|none=>.bad) (aX fa X.K μ H Q)->∃p ys,[v]=[.ref p]/\((cX X.K H p ys/\∀l,H l=none->Q (.ref l) (upd H l (.tup ys)))\/(dH X.K H p ys/\Q (.ref p) H)):=λh=>by
    cases e:dE M d with
    |none=>rw[e] at h;exact h.elim
    | some xs =>
      rw[e] at h;obtain⟨a,vs,rfl,hq,r⟩:=bx hM hv e;exact{a,vs,rfl,.inl {hq,jn hM r h}}
   have tup:∀x,d=.tup x->∃p ys,[v]=[.ref p]/\((cX X.K H p ys/\∀l,H l=none->Q (.ref l) (upd H l (.tup ys)))\/(dH X.K H p ys/\Q (.ref p) H)):=λx e=>by
    subst e;obtain⟨a,vs,rfl,hq,r⟩:=id hv;exact{a,vs,rfl,.inr {hq,aR hM h hv}}
   cases d<;>first|exact tup _ rfl|exact gen h
def Jx (m:Bool):cy X (.type "list") (nA fa X.K (.list m)):=jD t9 λvs H Q h=>by
 obtain⟨μ,M,ds,hM,r,h⟩:=h
 match ds,r,h with
 |[],_,h=>exact h.elim
 |_::_::_,_,h=>exact h.elim
 | [d], r, h =>
   obtain⟨v,rfl,hv⟩:=oq r;have h:ag (match b5 M d with|some xs=>br m xs M|none=>.bad) (aX fa X.K μ H Q):=h
   cases e:b5 M d with
   |none=>rw[e] at h;exact h.elim
   | some xs =>
     rw[e] at h;obtain⟨a,vs,rfl,hq,r⟩:=jt hM hv e;obtain⟨_,k⟩:=g9 hM r h;exact⟨a,vs,rfl,hq,k⟩
end
section
variable{fa:Fa}{X:Cx}{μ:Mu}{H:Hp}{σ:L2.St}{pins:List (Addr×Obj)}{s:Oy}{M:Mem}
def MU {d:D}{v:V}{k:Bool}(hM:RelM fa X.K μ H M)(h:Rep fa X.K μ H d v)(e:j7 M d=some k):Ct X.K v H k:=by
 cases d with
 |non=>obtain rfl:v=.non:=h;exact(OD e).symm
 |bl b=>obtain rfl:v=.bl b:=h;exact(OD e).symm
 |int i=>obtain rfl:v=.int i:=h;exact(OD e).symm
 | str x =>
   obtain rfl:v=.str x:=h;have e:(if x.cps.size<=sz then some (x.cps.size != 0) else none)=some k:=e;split at e
   ·next c=>
    refine{by rw[<- dS];exact c,?_}
    rw[<- OD e];show(x.cps.size != 0)=((x.cps.size:Int) != 0);rw[P6];simp
   ·cases e
 | tup ds =>
   obtain⟨a,vs,rfl,hq,r⟩:=h;refine .inr (.inl {vs,hq,?_});rw[<- OD e];have:=r.length;cases vs<;>cases ds<;>simp_all
 | lst ds =>
   obtain⟨a,vs,rfl,hq,r⟩:=bx (ds:=ds) hM h rfl;refine .inl {vs,hq,?_};rw[<- OD e];have:=r.length;cases vs<;>cases ds<;>simp_all
 | frz ds =>
   obtain⟨a,vs,rfl,hq,r⟩:=bx (ds:=ds) hM h rfl;refine .inl {vs,hq,?_};rw[<- OD e];have:=r.length;cases vs<;>cases ds<;>simp_all
 | cell c =>
   have e:(M[c]?).map (λds=>!ds.isEmpty)=some k:=e;cases e1:M[c]? with
   |none=>rw[e1] at e;cases e
   | some ds =>
     rw[e1] at e;obtain⟨a,vs,rfl,hq,r⟩:=bx (ds:=ds) hM h e1;refine .inl {vs,hq,?_};rw[<- OD e];have:=r.length;cases vs<;>cases ds<;>simp_all
 |fn f=>cases e
 |exc y p=>cases e
def yu:∀{ds:List D}{bs:List Bool}{vs:List V}{us:List Ox},boolsOf ds=some bs->aI fa X.K μ H ds vs->Vals vs us->PyProof.Rows.LSm.BoolsAre us bs:=by
 intro ds;induction ds with
 | nil =>
   intro bs vs us e h r;obtain rfl:vs=[]:=h;cases r;cases e;exact .nil
 | cons d ds ih =>
   intro bs vs us e h r;obtain⟨v,vr,rfl,h1,h2⟩:=h;cases r with
   | cons r1 r2 =>
     cases d with
     | bl b =>
       have e:(boolsOf ds).map (b::·)=some bs:=e;cases e1:boolsOf ds with
       |none=>rw[e1] at e;cases e
       | some cs =>
         rw[e1] at e;have e2:b::cs=bs:=OD e;subst e2;obtain rfl:v=.bl b:=h1;obtain rfl:_=Value.bool b:=r1;exact .cons b (ih e1 h2 r2)
     |_=>cases e
def qf:cy X (.builtin "all") (λxs H Q=>∃μ ds bs p vs,xs=[.ref p]/\X.calm=true/\cX X.K H p vs/\aI fa X.K μ H ds vs/\boolsOf ds=some bs/\Q (.bl (bs.all id)) H):=by
 intro pins s σ H xs us Q I r h;obtain⟨μ,ds,bs,p,vs,rfl,hc,hq,rl,eb,q⟩:=h;obtain⟨u,rfl,rx⟩:=vals1 r;cases rx;obtain⟨its,rv,pl,hz⟩:=I.list hq;have hb:=yu eb rl rv;have hlt:p<s.heap.objs.size:=pl.lt;refine call_all_walk (wpAny_pyIter_list pl.isList ?_);refine{s.heap.objs.size,[s.heap.objs.size,p],[s.heap.objs.size],its.toArray.size,_,_,λi=>(bs[i]?).getD true,rfl,Walks.list (A:=X.A.in1) (I.ok.hd hc) _ p (Pm hlt) its.toArray,
  {{_,OJ _ rfl,rfl,rfl},pl.isList.push _},λi v s' Q' E' hP hQ=>?_,λh' tk hk=>?_}
 ·obtain⟨b,e,rfl⟩:=hb.get i v (by simpa using hP)
  simp only[e,Option.getD_some] at hQ;exact tqp hQ
 ·have e:((List.range its.toArray.size).all λi=>(bs[i]?).getD true)=bs.all id:=by
   rw[OH,hb.length];exact PyProof.Rows.LSm.range_all bs
  rw[e];exact{.bl _,H,I.kept (PyProof.Rows.LSm.kept_iter hk),rfl,q}
def sk:∀{ds:List D}{bs:List Int}{vs:List V}{us:List Ox},intsOf ds=some bs->aI fa X.K μ H ds vs->Vals vs us->IntsAre us bs:=by
 intro ds;induction ds with
 | nil =>
   intro bs vs us e h r;obtain rfl:vs=[]:=h;cases r;cases e;exact .nil
 | cons d ds ih =>
   intro bs vs us e h r;obtain⟨v,vr,rfl,h1,h2⟩:=h;cases r with
   | cons r1 r2 =>
     cases d with
     | int b =>
       have e:(intsOf ds).map (b::·)=some bs:=e;cases e1:intsOf ds with
       |none=>rw[e1] at e;cases e
       | some cs =>
         rw[e1] at e;have e2:b::cs=bs:=OD e;subst e2;obtain rfl:v=.int b:=h1;obtain⟨t,rfl⟩:=r1;exact .cons b t (ih e1 h2 r2)
     |_=>cases e
def qY:cy X (.builtin "sum") (λxs H Q=>∃μ ds bs p vs,xs=[.ref p]/\X.calm=true/\cX X.K H p vs/\aI fa X.K μ H ds vs/\intsOf ds=some bs/\Q (.int bs.sum) H):=by
 intro pins s σ H xs us Q I r h;obtain⟨μ,ds,ns,p,vs,rfl,hc,hq,rl,eb,q⟩:=h;obtain⟨u,rfl,rx⟩:=vals1 r;cases rx;obtain⟨its,rv,pl,hz⟩:=I.list hq;have hi:=sk eb rl rv;obtain⟨xs,hx⟩:=hi.allInts.items;have hl':s.heap.IsList p (intItems xs):=hx ▸ pl.isList;refine sum_intListG (I.ok.hd hc) hl' λh' tk t' hk=>?_;have e1:ns=xs.toList.map (·.1):=by
  rw[<- nums_intItems,<- hx];exact(show numsOf its.toArray.toList=ns from hi.numsOf).symm
 have e2:preSum (numAt xs) xs.size=ns.sum:=by
  rw[preSum_eq,PJ `s,e1]
 rw[e2];exact{.int _,H,I.kept hk,⟨t',rfl⟩,q}
def LC (hc:X.calm=true):cy X (.builtin "all") (nA fa X.K .all):=jD (qf (fa:=fa)) λvs H Q h=>by
 obtain⟨μ,M,ds,hM,r,h⟩:=h
 match ds,r,h with
 |[],_,h=>exact h.elim
 |d::_::_,_,h=>exact h.elim
 | [d], r, h =>
   obtain⟨v,rfl,hv⟩:=oq r;have h:ag (match dE M d with|some xs=>(match boolsOf xs with|some bs=>.ok (.bl (bs.all id)) M|none=>.bad)|none=>.bad) (aX fa X.K μ H Q):=h
   cases e:dE M d with
   |none=>rw[e] at h;exact h.elim
   | some xs =>
     rw[e] at h;simp only at h;cases e2:boolsOf xs with
     |none=>rw[e2] at h;exact h.elim
     | some bs =>
       rw[e2] at h;obtain⟨a,vs,rfl,hq,r⟩:=bx hM hv e;exact{μ,xs,bs,a,vs,rfl,hc,hq,r,e2,aR (v:=.bl (bs.all id)) hM h rfl}
def Ly (hc:X.calm=true):cy X (.builtin "sum") (nA fa X.K .sum):=jD (qY (fa:=fa)) λvs H Q h=>by
 obtain⟨μ,M,ds,hM,r,h⟩:=h
 match ds,r,h with
 |[],_,h=>exact h.elim
 |d::_::_,_,h=>exact h.elim
 | [d], r, h =>
   obtain⟨v,rfl,hv⟩:=oq r;have h:ag (match dE M d with|some xs=>(match intsOf xs with|some bs=>.ok (.int bs.sum) M|none=>.bad)|none=>.bad) (aX fa X.K μ H Q):=h
   cases e:dE M d with
   |none=>rw[e] at h;exact h.elim
   | some xs =>
     rw[e] at h;simp only at h;cases e2:intsOf xs with
     |none=>rw[e2] at h;exact h.elim
     | some bs =>
       rw[e2] at h;obtain⟨a,vs,rfl,hq,r⟩:=bx hM hv e;exact{μ,xs,bs,a,vs,rfl,hc,hq,r,e2,aR (v:=.int bs.sum) hM h rfl}
def tyName:Ty->String
 |.int=>"int" | .bool=>"bool" | .str=>"str" | .tuple=>"tuple" | .list=>"list" | .own _=>""
def Mm:D->String
 |.non=>"NoneType" | .bl _=>"bool" | .int _=>"int" | .str _=>"str" | .tup _=>"tuple" | _=>"list"
def Ky (t:Ty)(d:D)(b:Bool)(ht:∀c,t≠.own c)(e:eO t d=some b):PySem.W.kitOne X.K (.type (Mm d)) (.type (tyName t))=some b:=by
 cases t with
 |own c=>exact absurd rfl (ht c)
 |_=>cases d<;>first|(cases (show(none:Option Bool)=some b from e))|(have e':=OD e;subst e';(first|rfl|decide +kernel))
def AE {d:D}{v:V}{b:Bool}{t:Ty}(hM:RelM fa X.K μ H M)(h:Rep fa X.K μ H d v)(e:eO t d=some b)(I:Inv X pins σ H s){u c:Ox}(r:RelV v u){Q:Ox->Oy->Prop}
 (ek:PySem.W.kitOne X.K (.type (Mm d)) c=some b) (q:∀tk,Q (.bool b) {s with toks:=tk}):wpAny (model X.prog X.w) X.A (call (.builtin "isinstance") [u,c]) Q X.xe s:=by
 cases d with
 |non=>obtain rfl:v=.non:=h;exact jR I r .non ek q
 |bl x=>obtain rfl:v=.bl x:=h;exact jR I r (.bl x) ek q
 |int x=>obtain rfl:v=.int x:=h;exact jR I r (.int x) ek q
 |str x=>obtain rfl:v=.str x:=h;exact jR I r (.str x) ek q
 | tup ds =>
   obtain⟨a,vs,rfl,hq,_⟩:=h;obtain rfl:u=Value.ref a:=r;obtain⟨its,rv,⟨o,h1,h2,_⟩,_⟩:=I.tuple hq;exact PD PySem.W.kitx_tuple I.kIn ⟨o,h1,h2⟩ ek (λz=>nomatch z) q
 | lst ds =>
   obtain⟨a,vs,rfl,hq,_⟩:=bx (ds:=ds) hM h rfl;obtain rfl:u=Value.ref a:=r;obtain⟨its,rv,⟨o,n,h1,h2,_⟩,_⟩:=I.list hq;exact PD PySem.W.kitx_list I.kIn ⟨o,h1,h2⟩ ek (λz=>nomatch z) q
 | frz ds =>
   obtain⟨a,vs,rfl,hq,_⟩:=bx (ds:=ds) hM h rfl;obtain rfl:u=Value.ref a:=r;obtain⟨its,rv,⟨o,n,h1,h2,_⟩,_⟩:=I.list hq;exact PD PySem.W.kitx_list I.kIn ⟨o,h1,h2⟩ ek (λz=>nomatch z) q
 | cell k =>
   obtain⟨a,rfl,hk⟩:=h;obtain⟨ds,vs,_,hq,_⟩:=hM.mu_lt hk;obtain rfl:u=Value.ref a:=r;obtain⟨its,rv,⟨o,n,h1,h2,_⟩,_⟩:=I.list (cX.of hq);exact PD PySem.W.kitx_list I.kIn ⟨o,h1,h2⟩ ek (λz=>nomatch z) q
 |fn f=>cases e
 |exc y p=>cases e
def KR (fa:Fa)(K:Ow)(t:Ty):List V->Hp->VK->Prop:=λvs H Q=>∃μ M d v b,vs=[v,.ty (tyName t)]/\RelM fa K μ H M/\Rep fa K μ H d v/\eO t d=some b/\Q (.bl b) H
def Jy (t:Ty)(ht:∀c,t≠.own c):cy X (.builtin "isinstance") (KR fa X.K t):=by
 intro pins s σ H xs us Q I r h;obtain⟨μ,M,d,v,b,rfl,hM,hv,e,q⟩:=h;obtain⟨u,w,rfl,r1,r2⟩:=vals2 r;obtain rfl:w=Value.type (tyName t):=r2;exact AE hM hv e I r1 (Ky t d b ht e) λtk=>{.bl b,H,I.tok _,rfl,q}
end
section
variable{fa:Fa}{X:Cx}
abbrev DE (fa:Fa)(X:Cx)(e:Expr)(g:Env->Mem->Res D):Prop:=PE X e (tE fa X.K g)
abbrev DT (fa:Fa)(X:Cx)(e:Expr)(g:Env->Mem->Res Bool):Prop:=PT X e (tT fa X.K g)
abbrev DW (fa:Fa)(X:Cx)(e:Expr)(g:Env->Mem->Res Bool):Prop:=PW X e (tT fa X.K g)
abbrev DA (fa:Fa)(X:Cx)(es:List Expr)(g:Env->Mem->Res (List D)):Prop:=PA X es (tA fa X.K g)
abbrev DS (fa:Fa)(X:Cx)(st:Stmt)(g:Env->Mem->Res Fl):Prop:=PS X st (tF fa X g)
abbrev kI (fa:Fa)(X:Cx)(st:List Stmt)(g:Env->Mem->Res Fl):Prop:=lT X st (tF fa X g)
variable{a b d:Expr}{ga gb gd:Env->Mem->Res D}{pos:Pos}
def LM {i:Nat}{x:Str}(hN:X.N[i]?=some x)(hv:vE X.env.scope x)(hd:(x==("__debug__":Str))=false)(hcd:(x==("__classdict__":Str))=false) :
 DE fa X (.Name x pos) (λZ M=>b6 M (Z[i]?.getD none)):=bB (yF hN hv hd hcd) λσ H Q ⟨μ,Z,M,hE,hM,h⟩=>by
 obtain⟨d,e,w⟩:=ky h;have e':Z[i]?=some (some d):=by
  cases q:Z[i]? with
  |none=>rw[q] at e;cases e
  |some o=>rw[q] at e;simp at e;rw[e]
 obtain⟨v,h1,h2⟩:=hE.at' i d e';exact{v,h1,aR hM w h2}
def ji {e:Expr}{dc:D}{v:V}(h:PE X e (tC v))(r:∀μ H,Rep fa X.K μ H dc v):DE fa X e (λ_ M=>.ok dc M):=bB h λσ H Q ⟨μ,Z,M,hE,hM,h⟩=>aR hM h (r μ H)
def LW {i:Int}{j:Nat}:DE fa X (.Constant (.int i) j pos) (λ_ M=>.ok (.int i) M):=ji (v:=.int i) Ik λ_ _=>rfl
def NX {i:Bool}{j:Nat}:DE fa X (.Constant (.bool i) j pos) (λ_ M=>.ok (.bl i) M):=ji (v:=.bl i) K5 λ_ _=>rfl
def LO {i:Str}{j:Nat}:DE fa X (.Constant (.str i) j pos) (λ_ M=>.ok (.str i) M):=ji (v:=.str i) Ie λ_ _=>rfl
def LR {j:Nat}:DE fa X (.Constant .none j pos) (λ_ M=>.ok .non M):=ji (v:=.non) Ii λ_ _=>rfl
def t2 {μ:Mu}{H:Hp}{σ:L2.St}{Z:Env}{M:Mem}{β:Type}{f:D->D->Mem->Res β}{P:β->Mem->Prop}{R:V->V->Hp->Prop}(hE:bb fa X.K μ H σ Z)(hM:RelM fa X.K μ H M)
 (h:ag ((ga Z M).bind λx M=>(gb Z M).bind λy M=>f x y M) P)
 (k:∀x y M2 v u H2 μ2,Ext μ H μ2 H2->bb fa X.K μ2 H2 σ Z->RelM fa X.K μ2 H2 M2->Rep fa X.K μ2 H2 x v->Rep fa X.K μ2 H2 y u->ag (f x y M2) P->R v u H2) :
 tE fa X.K ga σ H λv H1=>tE fa X.K gb σ H1 λu H2=>R v u H2:=
 t1 hE hM h λx M1 v H1 μ1 x1 hE1 hM1 r1 h1=>t1 hE1 hM1 h1 λy M2 u H2 μ2 x2 hE2 hM2 r2 h2=>k x y M2 v u H2 μ2 (x1.trans x2) hE2 hM2 (r1.ext x2) r2 h2
def L5 (m:Bool)(o:kJ)(ha:DE fa X a ga)(hb:DE fa X b gb):DE fa X (.BinOp a (binOp o) b pos) (λZ M=>(ga Z M).bind λx M=>(gb Z M).bind λy M=>fU m o x y M):=
 bB (K0 (Mg m o) ha hb) λσ H Q ⟨μ,Z,M,hE,hM,h⟩=>t2 hE hM h λx y M2 v u H2 μ2 x2 hE2 hM2 r1 r2 h2=>{μ2,M2,x,y,hM2,r1,r2,lP h2 x2}
def oD {r:Option Bool}{M:Mem}{P:D->Mem->Prop}(h:ag ((b6 M r).bind λb M=>.ok (.bl b) M) P):∃b,r=some b/\P (.bl b) M:=by
 obtain⟨b,M1,e,q⟩:=aG h;cases r with
 |none=>cases e
 |some b'=>cases e;exact{_,rfl,q}
def LZ (hu:Rm X)(o:jI)(ha:DE fa X a ga)(hb:DE fa X b gb)(hm:behindInMarks (ff o) b=false) :
 DE fa X (.Compare a [ff o] [b] pos) (λZ M=>(ga Z M).bind λx M=>(gb Z M).bind λy M=>(b6 M (bC o x y M)).bind λb M=>.ok (.bl b) M):=
 bB (pL (mW hu o) ha hb hm) λσ H Q ⟨μ,Z,M,hE,hM,h⟩=>t2 hE hM h λx y M2 v u H2 μ2 x2 hE2 hM2 r1 r2 h2=>by
  obtain⟨b,e,q⟩:=oD h2;exact{μ2,M2,x,y,b,hM2,r1,r2,e,aR (v:=.bl b) hM2 (q.ext x2) rfl}
def JL (hu:Rm X)(o:jI)(ha:DE fa X a ga)(hb:DE fa X b gb)(hm:behindInMarks (ff o) b=false) :
 DT fa X (.Compare a [ff o] [b] pos) (λZ M=>((ga Z M).bind λx M=>(gb Z M).bind λy M=>(b6 M (bC o x y M)).bind λb M=>.ok (.bl b) M).bind λx M=>b6 M (j7 M x)):=
 kn (pJ (mW hu o) ha hb hm) λσ H Q ⟨μ,Z,M,hE,hM,h⟩=>by
  obtain⟨z,M3,e,q⟩:=aG h;have h':ag ((ga Z M).bind λx M=>(gb Z M).bind λy M=>(b6 M (bC o x y M)).bind λb M=>.ok (.bl b) M) (λd M=>d=z/\M=M3):=by rw[e];exact⟨rfl,rfl⟩
  refine t2 hE hM h' λx y M2 v u H2 μ2 x2 hE2 hM2 r1 r2 h2=>?_;obtain⟨b,e1,e2,e3⟩:=oD h2;subst e2 e3;exact{μ2,M2,x,y,b,hM2,r1,r2,e1,b,rfl,q H2 μ2 x2 hM2}
def EI {g:Env->Mem->Res D}{σ:L2.St}{H:Hp}{Q:Bool->Hp->Prop}(hb:∀Z M x M',g Z M=.ok x M'->∃k,x=.bl k)(h:tT fa X.K (λZ M=>(g Z M).bind λx M=>b6 M (j7 M x)) σ H Q) :
 tE fa X.K g σ H (λx H'=>∃k,x=.bl k/\Q k H'):=by
 obtain⟨μ,Z,M,hE,hM,h⟩:=h;obtain⟨x,M1,e,q⟩:=aG h;obtain⟨k,rfl⟩:=hb Z M x M1 e;refine{μ,Z,M,hE,hM,?_};rw[e];intro v H1 μ1 x1 m1 r1;obtain rfl:v=.bl k:=r1;exact{k,rfl,q H1 μ1 x1 m1}
def DL {o o':jI}{gc:Env->Mem->Res D}(σ:L2.St)(H:Hp)(Q:VK):tE fa X.K (λZ M=>(ga Z M).bind λx M=>(gb Z M).bind λy M=>(b6 M (bC o x y M)).bind λk M=>
 if k then(gc Z M).bind λz M=>(b6 M (bC o' y z M)).bind λb M=>.ok (.bl b) M else .ok (.bl false) M) σ H Q->rX (gU fa X.K o) (gU fa X.K o') (tE fa X.K ga) (tE fa X.K gb) (tE fa X.K gc) σ H Q:=λ⟨μ,Z,M,hE,hM,h⟩=>by
 refine t2 hE hM h λx y M2 v u H2 μ2 x2 hE2 hM2 r1 r2 h2=>?_;obtain⟨k,M3,e,q⟩:=aG h2;cases ec:bC o x y M2 with
 |none=>rw[ec] at e;cases e
 | some k' =>
   rw[ec] at e;cases e;refine{μ2,_,x,y,k,hM2,r1,r2,ec,k,rfl,?_};cases k with
   |false=>exact aR (v:=.bl false) hM2 (aX.ext q x2) rfl
   | true =>
     refine t1 hE2 hM2 q λz M4 w H4 μ4 x4 hE4 hM4 r4 h4=>?_;obtain⟨b,e4,q4⟩:=oD h4;exact{μ4,M4,y,z,b,hM4,r2.ext x4,r4,e4,aR (v:=.bl b) hM4 (q4.ext (x2.trans x4)) rfl}
def L4 (hu:Rm X)(o o':jI){gc:Env->Mem->Res D}(ha:DE fa X a ga)(hb:DE fa X b gb)(hc:DE fa X d gc)(hm:lastMarks [ff o,ff o'] [b,d]=false) :
 DE fa X (.Compare a [ff o,ff o'] [b,d] pos) (λZ M=>(ga Z M).bind λx M=>(gb Z M).bind λy M=>(b6 M (bC o x y M)).bind λk M=>
  if k then(gc Z M).bind λz M=>(b6 M (bC o' y z M)).bind λb M=>.ok (.bl b) M else .ok (.bl false) M):=bB (Bn (mW hu o) (mW hu o') ha hb hc hm) DL
def Bq {r:Option Bool}{M M':Mem}{x:D}(h:((b6 M r).bind λb M=>Res.ok (.bl b) M)=.ok x M'):∃k,x=.bl k:=by
 cases r with
 |none=>cases h
 |some b=>cases h;exact⟨b,rfl⟩
def fj {α β:Type}{r:Res α}{f:α->Mem->Res β}{x:β}{M:Mem}(h:r.bind f=.ok x M):∃a M1,r=.ok a M1/\f a M1=.ok x M:=by
 cases r with
 |ok a M1=>exact⟨a,M1,rfl,h⟩
 |err=>cases h
 |bad=>cases h
def JM (hu:Rm X)(o o':jI){gc:Env->Mem->Res D}(ha:DE fa X a ga)(hb:DE fa X b gb)(hc:DE fa X d gc)(hm:lastMarks [ff o,ff o'] [b,d]=false) :
 DT fa X (.Compare a [ff o,ff o'] [b,d] pos) (λZ M=>((ga Z M).bind λx M=>(gb Z M).bind λy M=>(b6 M (bC o x y M)).bind λk M=>
  if k then(gc Z M).bind λz M=>(b6 M (bC o' y z M)).bind λb M=>.ok (.bl b) M else .ok (.bl false) M).bind λx M=>b6 M (j7 M x)):=
 kn (Bf (mW hu o) (mW hu o') ha hb hc hm) λσ H Q h=>DL σ H _ (EI (λZ M x M' e=>by
  obtain⟨x1,M1,_,e⟩:=fj e;obtain⟨x2,M2,_,e⟩:=fj e;obtain⟨k,M3,_,e⟩:=fj e;cases k with
  |false=>cases e;exact{_,rfl}
  | true =>
    obtain⟨x4,M4,_,e⟩:=fj e;exact Bq e) h)
def LS (ha:DE fa X a ga):DE fa X (.UnaryOp .USub a pos) (λZ M=>(ga Z M).bind λx M=>match x with|.int i=>.ok (.int (-i)) M|_=>.bad):=
 bB (KY G0 ha) λσ H Q ⟨μ,Z,M,hE,hM,h⟩=>t1 hE hM h λx M1 v H1 μ1 x1 hE1 hM1 r1 h1=>by
  cases x with
  |int i=>exact{i,r1,aR (v:=.int (-i)) hM1 (aX.ext h1 x1) rfl}
  |_=>exact h1.elim
def L7 {rest:List Expr}(ha:DE fa X a ga)(hb:DE fa X (.BoolOp .And (b::rest) pos) gb):DE fa X (.BoolOp .And (a::b::rest) pos) (λZ M=>(ga Z M).bind λx M=>match x with
 |.bl true=>gb Z M
 |.bl false=>.ok (.bl false) M
 |_=>.bad):=
 bB (Im ha hb) λσ H Q ⟨μ,Z,M,hE,hM,h⟩=>t1 hE hM h λx M1 v H1 μ1 x1 hE1 hM1 r1 h1=>by
  cases x with
  | bl k =>
    refine{k,r1,?_};cases k with
    |true=>exact{μ1,Z,M1,hE1,hM1,lP h1 x1}
    |false=>exact aR (v:=.bl false) hM1 (aX.ext h1 x1) rfl
  |_=>exact h1.elim
def NV {rest:List Expr}(ha:DE fa X a ga)(hb:DE fa X (.BoolOp .Or (b::rest) pos) gb):DE fa X (.BoolOp .Or (a::b::rest) pos) (λZ M=>(ga Z M).bind λx M=>match x with
 |.bl true=>.ok (.bl true) M
 |.bl false=>gb Z M
 |_=>.bad):=
 bB (KZ ha hb) λσ H Q ⟨μ,Z,M,hE,hM,h⟩=>t1 hE hM h λx M1 v H1 μ1 x1 hE1 hM1 r1 h1=>by
  cases x with
  | bl k =>
    refine{k,r1,?_};cases k with
    |true=>exact aR (v:=.bl true) hM1 (aX.ext h1 x1) rfl
    |false=>exact{μ1,Z,M1,hE1,hM1,lP h1 x1}
  |_=>exact h1.elim
def DR {op:PySem.BoolOp}(ha:DE fa X a ga):DE fa X (.BoolOp op [a] pos) ga:=Ig ha
def LQ (ha:DE fa X a ga):DE fa X (.UnaryOp .Not a pos) (λZ M=>(ga Z M).bind λx M=>match x with|.bl k=>.ok (.bl (!k)) M|_=>.bad):=
 bB (Ih ha) λσ H Q ⟨μ,Z,M,hE,hM,h⟩=>t1 hE hM h λx M1 v H1 μ1 x1 hE1 hM1 r1 h1=>by
  cases x with
  |bl k=>exact{k,r1,aR (v:=.bl (!k)) hM1 (aX.ext h1 x1) rfl}
  |_=>exact h1.elim
variable{ta tb:Env->Mem->Res Bool}
def F5 (ha:DT fa X a ta):DW fa X (.BoolOp .And [a] pos) ta:=Fg ha
def JH (ha:DT fa X a ta):DW fa X (.BoolOp .Or [a] pos) ta:=HW ha
def My {b':Res Bool}{μ μ':Mu}{H H':Hp}{Q:Bool->Hp->Prop}(x:Ext μ H μ' H')(h:ag b' λb M'=>∀H'' μ'',Ext μ H μ'' H''->RelM fa X.K μ'' H'' M'->Q b H''):ag b' λb M'=>∀H'' μ'',Ext μ' H' μ'' H''->RelM fa X.K μ'' H'' M'->Q b H'':=
 aP h λb M q H'' μ'' y m=>q H'' μ'' (x.trans y) m
def JI {rest:List Expr}(ha:DT fa X a ta)(hb:DW fa X (.BoolOp .And (b::rest) pos) tb):DW fa X (.BoolOp .And (a::b::rest) pos) (λZ M=>(ta Z M).bind λk M=>if k then tb Z M else .ok false M):=
 yx (HX ha hb) λσ H Q ⟨μ,Z,M,hE,hM,h⟩=>xS hE hM h λk M1 H1 μ1 x1 hE1 hM1 h1=>by
  cases k with
  |true=>exact{μ1,Z,M1,hE1,hM1,My x1 h1}
  |false=>exact h1 H1 μ1 x1 hM1
def LI {rest:List Expr}(ha:DT fa X a ta)(hb:DW fa X (.BoolOp .Or (b::rest) pos) tb):DW fa X (.BoolOp .Or (a::b::rest) pos) (λZ M=>(ta Z M).bind λk M=>if k then .ok true M else tb Z M):=
 yx (KU ha hb) λσ H Q ⟨μ,Z,M,hE,hM,h⟩=>xS hE hM h λk M1 H1 μ1 x1 hE1 hM1 h1=>by
  cases k with
  |true=>exact h1 H1 μ1 x1 hM1
  |false=>exact{μ1,Z,M1,hE1,hM1,My x1 h1}
def JJ (ha:DT fa X a ta):DT fa X (.UnaryOp .Not a pos) (λZ M=>(ta Z M).bind λk M=>.ok (!k) M):=
 kn (H8 ha) λσ H Q ⟨μ,Z,M,hE,hM,h⟩=>xS hE hM h λk M1 H1 μ1 x1 hE1 hM1 h1=>h1 H1 μ1 x1 hM1
def B8 (ha:DE fa X a ga)(he:∀whole,isTrue a X.env whole=(do let v <- whole;standAt a.pos;holding [v] (truthy v))):DT fa X a (λZ M=>(ga Z M).bind λx M=>b6 M (j7 M x)):=
 kn (Be ha he) λσ H Q ⟨μ,Z,M,hE,hM,h⟩=>t1 hE hM h λx M1 v H1 μ1 x1 hE1 hM1 r1 h1=>by
  obtain⟨k,e,q⟩:=ky h1;exact{k,MU hM1 r1 e,q H1 μ1 x1 hM1}
def LV {c:Expr}{gc:Env->Mem->Res Bool}(hc:DT fa X c gc)(ha:DE fa X a ga)(hb:DE fa X b gb):DE fa X (.IfExp c a b pos) (λZ M=>(gc Z M).bind λk M=>if k then ga Z M else gb Z M):=
 bB (sG hc ha hb) λσ H Q ⟨μ,Z,M,hE,hM,h⟩=>xS hE hM h λk M1 H1 μ1 x1 hE1 hM1 h1=>by
  cases k with
  |true=>exact{μ1,Z,M1,hE1,hM1,lP h1 x1}
  |false=>exact{μ1,Z,M1,hE1,hM1,lP h1 x1}
def LX (ha:DE fa X a ga)(hb:DE fa X b gb)(hs:jj b):DE fa X (.Subscript a b pos) (λZ M=>(ga Z M).bind λx M=>(gb Z M).bind λy M=>b6 M (bS x y M)):=
 bB (vZ Lp ha hb hs) λσ H Q ⟨μ,Z,M,hE,hM,h⟩=>t2 hE hM h λx y M2 v u H2 μ2 x2 hE2 hM2 r1 r2 h2=>by
  obtain⟨d,e,q⟩:=ky h2;exact{μ2,M2,x,y,d,hM2,r1,r2,e,q.ext x2}
def DO (fa:Fa)(X:Cx)(e:Option Expr)(hp:Bool)(g:Env->Mem->Res D):Prop:=PO X e λσ H Q=>∃μ Z M,bb fa X.K μ H σ Z/\RelM fa X.K μ H M/\ag (g Z M) λd M'=>∃o,eT hp d=true/\oA d=some o/\∀H' μ',Ext μ H μ' H'->RelM fa X.K μ' H' M'->Q o H'
def Gb:DO fa X none false (λ_ M=>.ok .non M):=λpins s σ H Q I ⟨μ,Z,M,hE,hM,o,_,e,k⟩=>by
 cases e;exact Fq pins s σ H Q I (k H μ .refl hM)
def Ga (ha:DE fa X a ga):DO fa X (some a) true ga:=λpins s σ H Q I ⟨μ,Z,M,hE,hM,h⟩=>Fp ha pins s σ H Q I {μ,Z,M,hE,hM,aP h λd M' ⟨o,p,e,k⟩ v H' μ' x m r=>by
 cases d with
 |int i=>cases e;exact{i,r,k H' μ' x m}
 |_=>cases p}
def part_of {hp:Bool}{d:D}(h:eT hp d=true):∃o,oA d=some o:=by
 cases hp<;>cases d<;>first|exact{_,rfl}|cases h
def LP (m hl hh:Bool){lo hi:Option Expr}{gl gh:Env->Mem->Res D}{p2:Pos}(ha:DE fa X a ga)(hlo:DO fa X lo hl gl)(hhi:DO fa X hi hh gh):DE fa X (.Subscript a (.Slice lo hi none p2) pos)
 (λZ M=>(ga Z M).bind λx M=>(gl Z M).bind λl M=>(gh Z M).bind λh M=>if eT hl l&&eT hh h then hU m x l h M else .bad):=
 bB (Bm (E1 (fa:=fa) m) ha hlo hhi) λσ H Q ⟨μ,Z,M,hE,hM,h⟩=>t1 hE hM h λx M1 v H1 μ1 x1 hE1 hM1 r1 h1=>by
  obtain⟨l,M2,e2,h2⟩:=aG h1;obtain⟨u,M3,e3,h3⟩:=aG h2;split at h3
  ·next c=>
   rw[OF] at c;obtain⟨ol,el⟩:=part_of c.1;obtain⟨ou,eu⟩:=part_of c.2;refine{μ1,Z,M1,hE1,hM1,?_};rw[e2];refine{ol,c.1,el,λH2 μ2 x2 hM2=>{μ2,Z,M2,hE1.ext x2,hM2,?_}};rw[e3];exact{ou,c.2,eu,λH3 μ3 x3 hM3=>{μ3,M3,x,l,u,hM3,(r1.ext x2).ext x3,el,eu,lP h3 ((x1.trans x2).trans x3)}}
  ·exact h3.elim
def J0:DA fa X [] (λ_ M=>.ok [] M):=yL ft λσ H Q ⟨μ,Z,M,hE,hM,h⟩=>h [] H μ .refl hM rfl
def Gm {es:List Expr}{gs:Env->Mem->Res (List D)}(ha:DE fa X a ga)(hs:DA fa X es gs)(h0:starEach (a::es) X.env=(false,eval a X.env)::starEach es X.env) :
 DA fa X (a::es) (λZ M=>(ga Z M).bind λx M=>(gs Z M).bind λxs M=>.ok (x::xs) M):=
 yL (c7 ha hs h0) λσ H Q ⟨μ,Z,M,hE,hM,h⟩=>t1 hE hM h λx M1 v H1 μ1 x1 hE1 hM1 r1 h1=>uJ hE1 hM1 h1 λxs M2 vs H2 μ2 x2 hE2 hM2 r2 h2=>h2 (v::vs) H2 μ2 (x1.trans x2) hM2 {v,vs,rfl,r1.ext x2,r2}
def LN {es:List Expr}{gs:Env->Mem->Res (List D)}{k:Nat}(hs:DA fa X es gs):DE fa X (.Tuple es k pos) (λZ M=>(gs Z M).bind lh):=
 bB (Ic hs) λσ H Q ⟨μ,Z,M,hE,hM,h⟩=>uJ hE hM h λxs M1 vs H1 μ1 x1 hE1 hM1 r1 h1=>by
  unfold lh at h1;split at h1
  ·next c=>exact{by rw[r1.length,<- dS];exact c,jn hM1 r1 (aX.ext h1 x1)}
  ·exact h1.elim
def LU (m:Bool){es:List Expr}{gs:Env->Mem->Res (List D)}(hs:DA fa X es gs):DE fa X (.List es pos) (λZ M=>(gs Z M).bind (br m)):=
 bB (Ij hs) λσ H Q ⟨μ,Z,M,hE,hM,h⟩=>uJ hE hM h λxs M1 vs H1 μ1 x1 hE1 hM1 r1 h1=>by
  obtain⟨c,k⟩:=g9 hM1 r1 (lP h1 x1);exact{by rw[r1.length,<- dS];exact c,k}
end
def qH (o:Obj)(f:Array Ox->Array Ox):(o.mapFields f).dict=o.dict:=by
 obtain⟨c,d,dt,sl⟩:=o;cases dt<;>rfl
section
variable{P:O2}{w:O9}{M:Model}{A:PR}{E:Ox->Oy->Prop}{base:Heap}{env:Pp}{outer:List Pp}{L a C:Addr}{dx:Option Addr}{New:Addr->Prop}{H:Hp}{s:Oy}{Q:Unit->Oy->Prop}
def uG {oe:Obj}{vs:Array Ox}{head:Ox}{had:Bool}(hfr:A.frames=some (env::outer))(hl:s.heap.FunFrames base (env::outer))(hf:env.frame=some L)
 (he:s.heap.get? a=some oe) (hd:oe.data=.fields vs) (hsz:1<vs.size)
 (h:∀h' T oT ts,(∀b o,b∉fB (env::outer)->b≠a->s.heap.get? b=some o->h'.get? b=some o)->(∀b o,b≠a->s.heap.get? b=some o->∃sl,h'.get? b=some {o with slots:=sl})->s.heap.objs.size<=T->T≠a->
  h'.get? a=some (oe.mapFields (·.setIfInBounds 1 (.ref T)))->h'.get? T=some oT->oT.data=.fields ts->ts[3]?=some .none->Q () {s with heap:=h'}) :
 wpAny M A (do let f <- frameOf env;let pl <- entryPlaceOf L had;let b <- EntryCells.newEntry head f .none (rawInt L) .none pl;setField (.ref a) 1 b) (λ_ s'=>wpAny M A (setFlight (.ref a) none) Q E s') E s:=by
 have hene:a∉fB (env::outer):=λhm=>by
  obtain⟨_,o,ho,hnf⟩:=hl.mem hm;rw[he] at ho;cases ho;exact hnf vs hd
 refine tqa (wpAny_frameOf_fun hfr hl hf λh₁ hs₁=>?_);refine tqa (wpAny_entryPlaceOf λpl hpl=>?_);unfold EntryCells.newEntry newFields;refine tqa (wpAny_newObj_type ?_ (hpl.sizeOk5 _ _ _ _ _));have he₁:h₁.get? a=some oe:=(hs₁.2.1 a hene).trans he;generalize ho:({cls:=.type "traceback",dict:=none,data:=.fields ([head,.ref L,.none,rawInt L,.none]++(if pl.isEmpty then List.replicate 6 Value.none else pl)).toArray}:Obj)=o;have hod:o.data=.fields ([head,.ref L,.none,rawInt L,.none]++(if pl.isEmpty then List.replicate 6 Value.none else pl)).toArray:=by rw[<- ho]
 have he₂:=OA (h:=h₁) o he₁;refine wpAny_setField he₂ hd hsz ?_;have hTe:h₁.objs.size≠a:=PM (OS he₁);have hd₃:=PQ hd (·.setIfInBounds 1 (Value.ref h₁.objs.size));have he₃:=PX (Obj.mapFields (·.setIfInBounds 1 (Value.ref h₁.objs.size))) he₂ (QB hd₃);have hT₃:=(Qk (h₁.push o) (Obj.mapFields (·.setIfInBounds 1 (Value.ref h₁.objs.size))) (PN hTe)).trans (OJ h₁ (QB hod));unfold setFlight;refine tqa (tqf he₃ hd₃ (x:=.ref h₁.objs.size) (by simp[hsz]) ?_)
 rw[if_pos (show(Value.ref h₁.objs.size != Value.none)=true from by simp)]
 refine wpAny_setField hT₃ hod (by simp only[OH,Pn,Ql,List.length_nil]<;>omega) ?_
 have keep:∀b u,b≠a->h₁.get? b=some u->(((h₁.push o).update a (Obj.mapFields (·.setIfInBounds 1 (Value.ref h₁.objs.size)))).update h₁.objs.size (Obj.mapFields (·.setIfInBounds 3 ((none:Option Addr).elim Value.none λf=>rawInt f)))).get? b=some u:=λb u hbe hb=>by
  have hbT:h₁.objs.size≠b:=PM (OS hb);rw[Qk _ _ hbT,Qk _ _ (PN hbe)];exact OA _ hb
 refine h _ h₁.objs.size _ _ (λb u hb hbe q=>keep b u hbe ((hs₁.2.1 b hb).trans q)) (λb u hbe q=>?_) (Nat.le_of_eq hs₁.1.symm) hTe ?_ (PX _ hT₃ (QB (PQ hod _))) (PQ hod _) ?_
 ·obtain⟨sl,e⟩:=hs₁.2.2 b u q;exact{sl,keep b _ hbe e}
 ·rw[Qk _ _ hTe];exact he₃
 ·first|(simp;done)|(rcases hpl with rfl|⟨_,_,_,_,_,_,_,rfl⟩<;>simp)
def uU (hfr:A.frames=some (env::outer))(hl:s.heap.FunFrames base (env::outer))(hf:env.frame=some L)(hF:mE New C dx a s.heap H)(hN:∀b,s.heap.objs.size<=b->New b)(hok:eK P w H s.heap)(hfree:∀b∈fB (env::outer),H b=none)
 (h:∀h' ch,(∀b∈ch,New b/\H b=none/\∃o vs,s.heap.get? b=some o/\o.data=.fields vs)->Un (fB (env::outer)) ch H H s.heap h'->eK P w H h'->mE New C dx a h' H->Q () {s with heap:=h'}) :
 wpAny M A (noteFrame (.ref a) env) (λ_ s1=>wpAny M A (setFlight (.ref a) none) Q E s1) E s:=by
 obtain⟨na,ha,oe,vs,he,hc,hdx,hd,tr⟩:=hF;have fin:∀h' ch,(∀b∈ch,New b/\H b=none/\∃o vs,s.heap.get? b=some o/\o.data=.fields vs)->(∀b o,b∉fB (env::outer)->b∉ch->s.heap.get? b=some o->h'.get? b=some o)->(∀b o,b∉ch->s.heap.get? b=some o->∃sl,h'.get? b=some {o with slots:=sl})->mE New C dx a h' H->Q () {s with heap:=h'}:=λh' ch hch keep slot fl=>by
  refine h h' ch hch {λb o q _ hb hx=>keep b o hb hx q,λb o q _ _ hx=>slot b o hx q,λ_ _ _ n _=>n,λb o q hx=>let⟨sl,e⟩:=slot b o hx q;{_,e},λ_ _ e=>e,λ_ _ _ e=>e,λb ps e=>{#[],by rw[e];simp}} (λb u e=>(hok b u e).stay (λc v hc q=>?_) (λ_ q=>q) λ_ _ q=>q) fl
  have nn:H c≠none:=by rcases hc with z|z<;>(intro z';first|(rw[z,e] at z';cases z')|(rw[z] at z';cases z'))
  exact keep c v (λz=>nn (hfree c z)) (λz=>nn (hch c z).2.1) q
 unfold noteFrame;simp only[hf];rcases tr with h1|⟨T,oT,ts,h1,hTa,nT,hT0,hT,hdT,h3⟩
 ·refine tqa (tqf he hd h1 ?_);rw[if_neg `d]
  refine uG hfr hl hf he hd (Qg.mp h1).1 λh' T oT ts k1 k2 k3 k4 k5 k6 k7 k8=>?_;refine fin h' [a] (λb hb=>?_) (λb o hb hx q=>k1 b o hb (λz=>hx (by simp[z])) q) (λb o hx q=>k2 b o (λz=>hx (by simp[z])) q) {na,ha,_,_,k5,?_,?_,PQ hd _,.inr {T,oT,ts,by simp[(Qg.mp h1).1],k4,hN _ k3,hok.fresh k3,k6,k7,k8}}
  ·rcases OQ.mp hb with rfl
   exact⟨na,ha,oe,vs,he,hd⟩
  ·rw[Obj.cls_mapFields];exact hc
  ·rw[qH];exact hdx
 ·refine tqa (tqf he hd h1 ?_);rw[if_pos (show(Value.ref T != Value.none)=true from by simp)]
  refine tqa (tqf hT hdT h3 ?_);rw[if_neg (show ¬ ((Value.none==rawInt L)=true) from by simp[rawInt])]
  refine tqa (wpAny_setField hT hdT (Qg.mp h3).1 ?_);have other:∀b,b≠T->(s.heap.update T (Obj.mapFields (·.setIfInBounds 3 Value.none))).get? b=s.heap.get? b:=λb hb=>Qk _ _ (PN hb);have noRec:∀b o,s.heap.get? b=some o->(∀vs,o.data≠.fields vs)->b≠T:=λb o hb hnf q=>by
   rw[q,hT] at hb;cases hb;exact hnf ts hdT
  have hz:(s.heap.update T (Obj.mapFields (·.setIfInBounds 3 Value.none))).objs.size=s.heap.objs.size:=Heap.size_after_update ..;refine uG (s:={s with heap:=s.heap.update T (Obj.mapFields (·.setIfInBounds 3 Value.none))}) hfr (hl.of_keeps λb o hb hnf=>{o,(other b (noRec b o hb hnf)).trans hb,rfl}) hf ((other a (PN hTa)).trans he) hd (Qg.mp h1).1 λh' T' oT' ts' k1 k2 k3 k4 k5 k6 k7 k8=>?_
  have k3:s.heap.objs.size<=T':=by rw[<- hz];exact k3
  refine fin h' [a,T] (λb hb=>?_) (λb o hb hx q=>k1 b o hb (λz=>hx (by simp[z])) ((other b (λz=>hx (by simp[z]))).trans q)) (λb o hx q=>k2 b o (λz=>hx (by simp[z])) ((other b (λz=>hx (by simp[z]))).trans q)) {na,ha,_,_,k5,?_,?_,PQ hd _,.inr {T',oT',ts',by simp[(Qg.mp h1).1],k4,hN _ k3,hok.fresh k3,k6,k7,k8}}
  ·rcases O6.mp hb with rfl|hb
   ·exact⟨na,ha,oe,vs,he,hd⟩
   ·rcases OQ.mp hb with rfl
    exact⟨nT,hT0,oT,ts,hT,hdT⟩
  ·rw[Obj.cls_mapFields];exact hc
  ·rw[qH];exact hdx
end
def iY (P:O2)(w:O9):nq:=λouter H s E e s'=>∃a C dx H',e=.ref a/\s'.os=s.os/\AllBare s'.gens/\Un (fB outer) [] H H' s.heap s'.heap/\eK P w H' s'.heap/\mE (λb=>s.heap.get? b=none) C dx a s'.heap H'/\E (.ref C) dx H'
def mE.imp {New New':Addr->Prop}{C a:Addr}{dx:Option Addr}{h:Heap}{H:Hp}(f:mE New C dx a h H)(i:∀b,New b->New' b):mE New' C dx a h H:=by
 obtain⟨na,ha,o,vs,h1,h2,h3,h4,tr⟩:=f;refine{i _ na,ha,o,vs,h1,h2,h3,h4,?_};rcases tr with t|⟨T,oT,ts,t1,t2,t3,t4⟩
 ·exact .inl t
 ·exact .inr {T,oT,ts,t1,t2,i _ t3,t4}
section
variable{P:O2}{w:O9}{K:Ow}{mg:Str->Option Ox}{base:Heap}{N:List Str}{qual:Str}{scope:Scope}{f:Addr}{cd:Ox}{A:PR}{outer:List Pp}{s:Oy}{H:Hp}{E:XK}
def BI {pins:List (Addr×Obj)}{σ:L2.St}{H':Hp}{s':Oy}{a C:Addr}{dx:Option Addr}(I:Inv (gx (iY P w) P w K mg base N qual scope f cd A outer s H E) pins σ H' s')(hF:mE (uw (gx (iY P w) P w K mg base N qual scope f cd A outer s H E)) C dx a s'.heap H')(hE:E (.ref C) dx H') :
 (gx (iY P w) P w K mg base N qual scope f cd A outer s H E).xe (.ref a) s':=by
 have hst:=I.stack;have hsz:s.heap.objs.size<=s'.heap.objs.size:=I.sz;have hL:∀b o,s.heap.get? b=some o->b∈fB (envOfC qual scope s.heap.objs.size f cd::outer)->b∈fB outer:=λb o q hb=>by
  rcases O6.mp (show b∈s.heap.objs.size::fB outer from hb) with e|e
  ·exact absurd (OS q) (by rw[e];exact P5 _)
  ·exact e
 unfold gx;dsimp only;unfold leaving;refine tqa (uU (P:=P) (w:=w) (New:=λb=>s.heap.get? b=none) I.ok.frames hst rfl (hF.imp λb z=>z.1) (λb z=>Heap.get?_none_of_le (OZ hsz z)) I.hok I.stkFree λh' ch hch u hok fl=>?_);have nch:∀b o,s.heap.get? b=some o->b∉ch:=λb o q z=>by have:=(hch b z).1;rw[q] at this;cases this
 have hb0:Un (fB outer) [] H H' s.heap s'.heap:=I.base;refine{a,C,dx,H',rfl,I.os,I.bare,{λb o q n hb hx=>?_,λb o q n hb hx=>?_,hb0.free,λb o q hx=>?_,hb0.tups,hb0.frzs,hb0.tbls},hok,fl,hE}
 ·exact u.keep b o (hb0.keep b o q n hb hx) (hb0.free b o q n hx) (λz=>hb (hL b o q z)) (nch b o q)
 ·obtain⟨sl,e⟩:=hb0.slot b o q n hb hx;obtain⟨sl',e'⟩:=u.any e (hb0.free b o q n hx) (nch b o q);exact⟨sl',e'⟩
 ·obtain⟨o',e⟩:=hb0.there b o q hx;exact u.there b o' e (nch b o q)
end
section
variable{X:Cx}{pins:List (Addr×Obj)}{σ:L2.St}{H H':Hp}{s s':Oy}{E:XK}{e:Ox}
def zr (I:Inv X pins σ H s)(hx:X.ex=[])(h:iY X.prog X.w X.stack H s E e s'):∃a C dx H',e=.ref a/\Inv X pins σ H' s'/\mE (uw X) C dx a s'.heap H'/\E (.ref C) dx H':=by
 obtain⟨a,C,dx,H',rfl,os,bare,un,hok,fl,q⟩:=h;refine{a,C,dx,H',rfl,I.call' os un hok bare (λb z=>absurd z `s),fl.imp λb z=>{?_,λp hp e=>?_},q}
 ·cases e:X.s₀.heap.get? b with
  |none=>rfl
  | some o =>
    obtain⟨o',e'⟩:=I.base.there b o e (by rw[hx];simp)
    rw[z] at e';cases e'
 ·have:=(I.pin p (Pt _ hp)).1;rw[e,z] at this;cases this
def BW {h':Heap}{ch:List Addr}(I:Inv X pins σ H s)(hch:∀b∈ch,X.s₀.heap.get? b=none/\(∃o vs,s.heap.get? b=some o/\o.data=.fields vs)/\∀p∈X.pn++pins,p.1≠b)(u:Un (fB X.stack) ch H H s.heap h')(hok:eK X.prog X.w H h'):Inv X pins σ H {s with heap:=h'}:=by
 obtain⟨m,⟨o,es,ep,ho,hd,r⟩,hl⟩:=id I.loc;have neL:X.env.locals∉ch:=λz=>by
  obtain⟨o',vs,e,d⟩:=(hch _ z).2.1;rw[ho] at e;cases e;rw[hd] at d;cases d
 have neC:∀x c,X.env.cells.lookup x=some c->c∉ch:=λx c e z=>by
  obtain⟨o',vs,e',d⟩:=(hch _ z).2.1;obtain⟨v,o2,e2,d2⟩:=I.cell x c e;rw[e2] at e';cases e';rw[d2] at d;cases d
 have n0:∀b o,X.s₀.heap.get? b=some o->b∉ch:=λb o e z=>by rw[(hch b z).1] at e;cases e
 have nst:∀b o,X.s₀.heap.get? b=some o->b∉X.fs->b∉fB X.stack:=λb o e n z=>(O6.mp (I.stkSub b z)).elim (λq=>absurd (OS e) (by rw[q];exact Nat.not_lt.mpr I.ok.above)) n
 obtain⟨sl,hL⟩:=u.any ho I.free neL;have cellK:∀x c,X.env.cells.lookup x=some c->∀v,s.heap.IsCell c v->h'.IsCell c v:=λx c e v ⟨o,ho,hd⟩=>by
  obtain⟨sl,q⟩:=u.any ho (I.freeC x c e) (neC x c e);exact{_,q,hd}
 refine{I.ok,I.os,I.bare,{λb o e n hb hx=>?_,λb o e n hb hx=>?_,I.base.free,λb o e hx=>?_,I.base.tups,I.base.frzs,I.base.tbls},{m,{_,es,ep,hL,hd,r},λi x v e1 e2 e3=>?_},λx c e=>?_,I.free,I.freeC,λp hp=>?_,hok,I.len}
 ·exact u.keep b o (I.base.keep b o e n hb hx) (I.base.free b o e n hx) (nst b o e hb) (n0 b o e)
 ·obtain⟨sl,e1⟩:=I.base.slot b o e n hb hx;obtain⟨sl',e2⟩:=u.any e1 (I.base.free b o e n hx) (n0 b o e);exact⟨sl',e2⟩
 ·obtain⟨o',e1⟩:=I.base.there b o e hx;exact u.there b o' e1 (n0 b o e)
 ·obtain⟨u',r',l⟩:=hl i x v e1 e2 e3;refine{u',r',?_};rcases l with l|⟨k,c,e,z⟩
  ·exact .inl l
  ·exact .inr {k,c,e,cellK x c e _ z}
 ·obtain⟨v,z⟩:=I.cell x c e;exact{v,cellK x c e v z}
 ·obtain⟨e,n,ne,nf,d⟩:=I.pin p hp;exact{u.keep p.1 p.2 e n (λz=>(O6.mp (I.stkSub _ z)).elim ne nf) λz=>(hch _ z).2.2 p hp rfl,n,ne,nf,d}
end
def fA {α:Type}(r:Res α)(k:α->Mem->Prop)(kx:D->Mem->Prop):Prop:=match r with
 |.ok a M=>k a M
 |.err x M=>kx x M
 |.bad=>False
def IC {α:Type}{r:Res α}{k:α->Mem->Prop}{kx:D->Mem->Prop}(h:ag r k):fA r k kx:=by
 cases r with
 |ok a M=>exact h
 |err=>exact h.elim
 |bad=>exact h
def w6 (fa:Fa)(K:Ow)(μ:Mu)(H:Hp)(E:XK)(x:D)(M':Mem):Prop:=∀C dx c p H' μ',Ext μ H μ' H'->RelM fa K μ' H' M'->x=.exc c p->fa (gE c)=some C->w5 H' c dx p->E (.ref C) dx H'
def De {P:O2}{w:O9}{X:Cx}:Passes (iY P w) X E0:=λ_ _ _ _ _ _ _ h=>let{_,_,_,_,_,_,_,_,_,_,z}:=h;z.elim
def Hl (fa:Fa)(K:Ow)(k:Nat)(call:List D->Mem->Res D):Sp:=λvs H Q E=>vs.length=k/\∃μ M ds,RelM fa K μ H M/\aI fa K μ H ds vs/\fA (call ds M) (aX fa K μ H Q) (w6 fa K μ H E)
def iP (fa:Fa)(P:O2)(w:O9)(K:Ow)(mg:Str->Option Ox)(base:Heap)(n:Nat)(f:Nat)(call:List D->Mem->Res D):Prop:=
 (∀ds M,call ds M=.bad)\/∃(ad:Addr) (fd:QU) (ps:List Str),fa f=some ad/\PySem.W.keepIn K (.ref ad)=true/\Binds K fd ps []/\(∀ds M,ds.length≠ps.length->call ds M=.bad)/\lO P w K mg base (iY P w) (2*n+4) ad fd ps (Hl fa K ps.length call)
section
variable{fa:Fa}{X:Cx}{a b d:Expr}{ga gb gd:Env->Mem->Res D}{pos p:Pos}{es:List Expr}{gs:Env->Mem->Res (List D)}{n:Nat}
def zY {call:List D->Mem->Res D}{P:D->Mem->Prop}{r:Res (List D)}(hb:∀ds M,call ds M=.bad)(h:ag (r.bind λds M=>call ds M) P):False:=by
 obtain⟨ds,M,_,q⟩:=aG h;rw[hb] at q;exact q
def qK {call:List D->Mem->Res D}{k:Nat}{σ:L2.St}{H:Hp}{Q:VK}{μ:Mu}{Z:Env}{M:Mem}(hE:bb fa X.K μ H σ Z)(hM:RelM fa X.K μ H M)(h:ag ((gs Z M).bind λds M=>call ds M) (aX fa X.K μ H Q))
 (hk:∀ds M1,ds.length≠k->call ds M1=.bad):C5 (Hl fa X.K k call) [] E0 (tA fa X.K gs) σ H Q:=by
 refine uJ hE hM h λds M1 vs H1 μ1 x1 hE1 hM1 r1 h1=>?_;rw[Po];refine{?_,μ1,M1,ds,hM1,r1,IC (lP h1 x1)};rw[r1.length];by_cases hl:ds.length=k
 ·exact hl
 ·rw[hk ds M1 hl] at h1;exact h1.elim
def J6 {f:Nat}{x:Str}{call:List D->Mem->Res D}(C:iP fa X.prog X.w X.K X.mg X.base n f call)(hr:dD (2*n+4) X.A)(hg:Gl X x)(hm:∀ad,fa f=some ad->X.mg x=some (.ref ad))(hs:DA fa X (a::es) gs)
 (hdb:(x==("__debug__":Str))=false) (he:starEach (a::es) X.env=(false,eval a X.env)::starEach es X.env) (hpl:(backTo pos (starEach es X.env)).any (·.1)=false) :
 DE fa X (.Call (.Name x p) (a::es) [] pos) (λZ M=>(gs Z M).bind λds M=>call ds M):=by
 rcases C with hb|⟨ad,fd,ps,h1,h2,h3,h4,F⟩
 ·exact λpins s σ H Q I ⟨μ,Z,M,hE,hM,h⟩=>(zY hb h).elim
 ·exact bB (Ft F hr hg (hm ad h1) h2 h3 .nil De hs hdb he hpl) λσ H Q ⟨μ,Z,M,hE,hM,h⟩=>qK hE hM h h4
def Gq {i:Nat}{x:Str}{call:Nat->List D->Mem->Res D}(C:∀f,iP fa X.prog X.w X.K X.mg X.base n f (call f))(hr:dD (2*n+4) X.A)(hN:X.N[i]?=some x)(hv:vE X.env.scope x)(hs:DA fa X (a::es) gs)
 (hd:(x==("__debug__":Str))=false) (hcd:(x==("__classdict__":Str))=false) (he:starEach (a::es) X.env=(false,eval a X.env)::starEach es X.env) (hpl:(backTo pos (starEach es X.env)).any (·.1)=false) :
 DE fa X (.Call (.Name x p) (a::es) [] pos) (λZ M=>match Z[i]?.getD none with|some (.fn f)=>(gs Z M).bind λds M=>call f ds M|_=>.bad):=by
 intro pins s σ H Q I ⟨μ,Z,M,hE,hM,h⟩;dsimp only at h;cases e:Z[i]?.getD none with
 |none=>rw[e] at h;exact h.elim
 | some df =>
   cases df with
   | fn f =>
     rw[e] at h;simp only at h;have e':Z[i]?=some (some (.fn f)):=by
      cases q:Z[i]? with
      |none=>rw[q] at e;cases e
      |some o=>rw[q] at e;simp at e;rw[e]
     obtain⟨v,hv1,hv2⟩:=hE.at' i _ e';obtain⟨ad,rfl,had⟩:=hv2;rcases C f with hb|⟨ad',fd,ps,h1,h2,h3,h4,F⟩
     ·exact(zY hb h).elim
     ·rcases had with had|⟨had,_⟩<;>rw[had] at h1<;>cases h1
      refine wpAny_Call_Name_kw (aQ (yF hN hv hd hcd pins s σ H (λv H'=>v=.ref ad/\H'=H) I {_,hv1,rfl,rfl}) λu s1 ⟨v,H1,I1,r1,e1,e2⟩=>?_);subst e1 e2;obtain rfl:u=Value.ref ad:=r1;refine PySem.W.callWith_K (h₀:=X.base) I1.ok.mod.kin h2 (aQ (hs pos pins s1 σ H1 _ I1 (qK hE hM h h4)) λus s2 ⟨vs,H2,I2,r,q⟩=>{I2.kIn,?_}) he hpl;exact yq F hr h3 .nil De I2 r q
   |_=>rw[e] at h;exact h.elim
def wL (f:vI){x:Str}{id:String}(hc:cy X (.builtin id) (nA fa X.K f))(hg:Gl X x)(hm:X.mg x=none)(hv:bootBuiltins x=some (.builtin id))(hs:DA fa X (a::es) gs)(hn:x≠"__name__")(hdb:(x==("__debug__":Str))=false)
 (he:starEach (a::es) X.env=(false,eval a X.env)::starEach es X.env) (hpl:(backTo pos (starEach es X.env)).any (·.1)=false):DE fa X (.Call (.Name x p) (a::es) [] pos) (λZ M=>(gs Z M).bind λds M=>fh f ds M):=
 bB (kZ hc hg hm hv hs hn hdb he hpl) λσ H Q ⟨μ,Z,M,hE,hM,h⟩=>uJ hE hM h λds M1 vs H1 μ1 x1 hE1 hM1 r1 h1=>{μ1,M1,ds,hM1,r1,lP h1 x1}
def zI (f:vI){x:Str}{T:String}(hc:cy X (.type T) (nA fa X.K f))(hg:Gl X x)(hm:X.mg x=none)(hv:bootBuiltins x=some (.type T))(hs:DA fa X (a::es) gs)(hn:x≠"__name__")(hdb:(x==("__debug__":Str))=false)
 (he:starEach (a::es) X.env=(false,eval a X.env)::starEach es X.env) (hpl:(backTo pos (starEach es X.env)).any (·.1)=false):DE fa X (.Call (.Name x p) (a::es) [] pos) (λZ M=>(gs Z M).bind λds M=>fh f ds M):=
 bB (yG hc hg hm hv hs hn hdb he hpl) λσ H Q ⟨μ,Z,M,hE,hM,h⟩=>uJ hE hM h λds M1 vs H1 μ1 x1 hE1 hM1 r1 h1=>{μ1,M1,ds,hM1,r1,lP h1 x1}
def J1 (t:Ty)(ht:∀c,t≠.own c){x:Str}{p1 p2:Pos}(ha:DE fa X a ga)(hg:Gl X "isinstance")(hm:X.mg "isinstance"=none)(hv:bootBuiltins "isinstance"=some (.builtin "isinstance"))(hgt:Gl X x)(hmt:X.mg x=none)(hvt:bootBuiltins x=some (.type (tyName t)))
 (hn:x≠"__name__") (hdb:(x==("__debug__":Str))=false)
 (he:starEach [a,.Name x p1] X.env=(false,eval a X.env)::starEach [.Name x p1] X.env):DE fa X (.Call (.Name "isinstance" p2) [a,.Name x p1] [] pos) (λZ M=>(ga Z M).bind λx M=>(b6 M (eO t x)).bind λb M=>.ok (.bl b) M):=
 bB (kZ (Jy (fa:=fa) t ht) hg hm hv (c7 ha (c7 (Fu hgt hmt hvt (v:=.ty (tyName t)) rfl hn hdb) ft `r) he) `d `d he `r) λσ H Q ⟨μ,Z,M,hE,hM,h⟩=>t1 hE hM h λx M1 v H1 μ1 x1 hE1 hM1 r1 h1=>by
  obtain⟨b,e,q⟩:=oD h1;exact{μ1,M1,x,v,b,rfl,hM1,r1,e,aR (v:=.bl b) hM1 (q.ext x1) rfl}
def gT (fa:Fa)(K:Ow)(t:cf):TG:=λv σ H Q=>∃μ Z M d ρ1,bb fa K μ H σ Z/\RelM fa K μ H M/\Rep fa K μ H d v/\bU t d Z=some ρ1/\∀σ1,bb fa K μ H σ1 ρ1->Q σ1 H
def sF {tg:Expr}{g g':TG}(h:PG X tg g)(i:∀v σ H Q,g' v σ H Q->g v σ H Q):PG X tg g':=λpins s σ H v u Q I r q=>h pins s σ H v u Q I r (i v σ H Q q)
def uT {tg:List Expr}{g g':pA}(h:uu X tg g)(i:∀v σ H Q,g' v σ H Q->g v σ H Q):uu X tg g':=λpins s σ H v u Q I r q=>h pins s σ H v u Q I r (i v σ H Q q)
def Gi {i:Nat}{x:Str}(hN:X.N.Nodup)(hi:X.N[i]?=some x)(hx:Loc X.env.scope x)(hf:X.fn x=true\/X.env.scope.names.lookup x=some .local):PG X (.Name x pos) (gT fa X.K (.one i)):=
 sF (pK hN hi hx hf) λv σ H Q ⟨μ,Z,M,d,ρ1,hE,hM,r,e,k⟩=>by
  have e':Z.set i (some d)=ρ1:=OD e;subst e';exact k _ (hE.set r)
def Jt (fa:Fa)(K:Ow)(l:List Nat):pA:=λvs σ H Q=>∃μ Z M ds ρ1,bb fa K μ H σ Z/\RelM fa K μ H M/\aI fa K μ H ds vs/\eR l ds Z=some ρ1/\∀σ1,bb fa K μ H σ1 ρ1->Q σ1 H
inductive je (X:Cx):List Nat->List Expr->Prop
 |nil:je X [] []
 |cons {i:Nat}{x:Str}{p:Pos}{l:List Nat}{ns:List Expr} (hi:X.N[i]?=some x) (hx:Loc X.env.scope x) (hf:X.fn x=true\/X.env.scope.names.lookup x=some .local) (r:je X l ns):je X (i::l) (.Name x p::ns)
def je.each {l:List Nat}{ns:List Expr}(h:je X l ns):(assignEach ns X.env).length=l.length/\(assignEach ns X.env).findIdx? (·.1)=none:=by
 induction h with
 |nil=>exact⟨rfl,rfl⟩
 | cons hi hx hf r ih =>
   rename_i i x p l ns;have e:assignEach (.Name x p::ns) X.env=(false,assign (.Name x p) X.env)::assignEach ns X.env:=rfl;rw[e];refine{by simp[ih.1],?_}
   rw[List.findIdx?_cons];simp[ih.2]
def tP (hN:X.N.Nodup){l:List Nat}{ns:List Expr}(h:je X l ns):uu X ns (Jt fa X.K l):=by
 induction h with
 | nil =>
   refine uT uS λvs σ H Q ⟨μ,Z,M,ds,ρ1,hE,hM,r,e,k⟩=>?_;cases ds with
   | nil =>
     obtain rfl:vs=[]:=r;have e':Z=ρ1:=OD e;subst e';exact{rfl,k _ hE}
   |cons=>cases e
 | cons hi hx hf r ih =>
   refine uT (nI (pK hN hi hx hf) ih `r) λvs σ H Q ⟨μ,Z,M,ds,ρ1,hE,hM,r,e,k⟩=>?_
   cases ds with
   |nil=>cases e
   | cons d ds =>
     obtain⟨v,vr,rfl,r1,r2⟩:=r;exact{v,vr,rfl,μ,_,M,ds,ρ1,hE.set r1,hM,r2,e,k}
def iR:∀{l:List Nat}{ds:List D}{Z ρ1:Env},eR l ds Z=some ρ1->ds.length=l.length
 |[],[],_,_,_=>rfl
 |_::_,[],_,_,h=>by cases h
 |[],_::_,_,_,h=>by cases h
 | _ :: l, _ :: ds, _, _, h => by
   have:=iR (l:=l) (ds:=ds) h;simp[this]
def JY (hc:X.calm=true)(hN:X.N.Nodup){l:List Nat}{ns:List Expr}{k:Nat}(h:je X l ns):PG X (.Tuple ns k pos) (gT fa X.K (.tup l)):=
 sF (sE (n:=l.length) hc (tP (fa:=fa) hN h) h.each.1 h.each.2) λv σ H Q ⟨μ,Z,M,d,ρ1,hE,hM,r,e,k⟩=>by
  cases d with
  | tup ds =>
    obtain⟨a,vs,rfl,hq,r⟩:=r;exact{a,vs,rfl,hq,by rw[r.length];exact iR e,μ,Z,M,ds,ρ1,hE,hM,r,e,k}
  |_=>cases e
def ue {Z ρ1:Env}{j:Nat}{l:List Nat}{d:D}(h:bU (.two j l) d Z=some ρ1):∃e ds,d=.tup [e,.tup ds]/\eR l ds (Z.set j (some e))=some ρ1:=by
 unfold bU at h;split at h
 ·next e=>cases e
 ·next e=>cases e
 ·next e=>cases e;exact{_,_,rfl,h}
 ·cases h
 ·cases h
def JX (hc:X.calm=true)(hN:X.N.Nodup){i:Nat}{x:Str}{px p2:Pos}{l:List Nat}{ns:List Expr}{k k2:Nat}(hi:X.N[i]?=some x)(hx:Loc X.env.scope x)(hf:X.fn x=true\/X.env.scope.names.lookup x=some .local)(h:je X l ns):PG X (.Tuple [.Name x px,.Tuple ns k2 p2] k pos) (gT fa X.K (.two i l)):=
 sF (sE (n:=2) hc (nI (pK hN hi hx hf) (nI (sE (n:=l.length) hc (tP (fa:=fa) hN h) h.each.1 h.each.2) uS))) λv σ H Q ⟨μ,Z,M,d,ρ1,hE,hM,r,e,k⟩=>by
  obtain⟨d0,ds,rfl,e⟩:=ue e;obtain⟨a,vs,rfl,hq,v0,vs1,rfl,r0,v1,vs2,rfl,r1,r2⟩:=r;obtain rfl:vs2=[]:=r2;obtain⟨b,ws,rfl,hq2,rr⟩:=r1;exact{a,_,rfl,hq,rfl,v0,_,rfl,.ref b,[],rfl,b,ws,rfl,hq2,by rw[rr.length];exact iR e,μ,Z.set i (some d0),M,ds,ρ1,hE.set r0,hM,rr,e,λσ1 h1=>{rfl,k σ1 h1}}
end
section
variable{fa:Fa}{X:Cx}{a b d:Expr}{ga gb gd:Env->Mem->Res D}{pos p:Pos}{es:List Expr}{gs:Env->Mem->Res (List D)}{n:Nat}
def JS {tg:Expr}{t:cf}(ha:DE fa X a ga)(hg:PG X tg (gT fa X.K t))(hs:swapsWithSole [tg] a pos.line X.env=pure false)(hw:swappedStores [tg] a X.env=pure none)(h1:(assignEach [tg] X.env).map (·.2)=[assign tg X.env]) :
 DS fa X (.Assign [tg] a pos) (λZ M=>(ga Z M).bind λx M=>(b6 M (bU t x Z)).bind λρ1 M=>.ok (.next ρ1) M):=
 dJ (oy ha hg hs hw h1) λD σ H ⟨μ,Z,M,hE,hM,h⟩=>t1 hE hM h λx M1 v H1 μ1 x1 hE1 hM1 r1 h1=>by
  obtain⟨ρ1,M2,e,q⟩:=aG h1;cases eb:bU t x Z with
  |none=>rw[eb] at e;cases e
  | some ρ2 =>
    rw[eb] at e;cases e;exact{μ1,Z,M1,x,ρ1,hE1,hM1,r1,eb,λσ1 hE2=>q σ1 H1 μ1 x1 hE2 hM1}
def lU {D':Ends}{μ:Mu}{H:Hp}{σ:L2.St}{Z:Env}{M:Mem}{k:Nat}{ad:Addr}{ws:List V}{ds:List D}(hE:bb fa X.K μ H σ Z)(hM:RelM fa X.K μ H M)(hk:μ.pub k=some ad)(r:aI fa X.K μ H ds ws)
 (q:∀σ' H' μ',Ext μ H μ' H'->bb fa X.K μ' H' σ' Z->RelM fa X.K μ' H' (M.set k ds)->D'.nx σ' H'):D'.nx σ (upd H ad (.lst ws)):=
 q σ _ μ (Ext.write (vs:=ws) hM hk) (hE.ext (Ext.write (vs:=ws) hM hk)) (hM.write hk r)
def JO (ha:DE fa X a ga)(hb:DE fa X b gb)(hd:DE fa X d gd){p2:Pos}
 (h0:∀v,assign (.Subscript a b p2) X.env v=(do
  let ov <- holding [v] (eval a X.env)
  let iv <- holding [v,ov] (eval b X.env)
  standAt p2
  holding [v,ov,iv] (setItem ov iv v)
  release [v,ov,iv] [])) (hs:swapsWithSole [.Subscript a b p2] d pos.line X.env=pure false) (hw:swappedStores [.Subscript a b p2] d X.env=pure none) (h1:(assignEach [.Subscript a b p2] X.env).map (·.2)=[assign (.Subscript a b p2) X.env]) :
 DS fa X (.Assign [.Subscript a b p2] d pos) (λZ M=>(gd Z M).bind λz M=>(ga Z M).bind λx M=>(gb Z M).bind λy M=>match x,y with
  | .cell k, .int n => match M[k]? with
    | some ds => match bW ds.length n with
      |some j=>.ok (.next Z) (M.set k (ds.set j z))
      |none=>.bad
    |none=>.bad
  |_,_=>.bad):=
 dJ (oy hd (yE ha hb set_list h0) hs hw h1) λD' σ H ⟨μ,Z,M,hE,hM,h⟩=>t1 hE hM h λz M1 v H1 μ1 x1 hE1 hM1 r1 h1=>t2 hE1 hM1 h1 λx y M2 vx vy H2 μ2 x2 hE2 hM2 rx ry h2=>by
  have key:∀k n,x=.cell k->y=.int n->Dd vx vy v H2 λH3=>D'.nx σ H3:=λk n e1 e2=>by
   subst e1 e2;dsimp only at h2;cases e:M2[k]? with
   |none=>rw[e] at h2;exact h2.elim
   | some ds =>
     rw[e] at h2;dsimp only at h2;cases ej:LD.bW ds.length n with
     |none=>rw[ej] at h2;exact h2.elim
     | some j =>
       rw[ej] at h2;obtain⟨ad,rfl,hk⟩:=rx;obtain⟨ws,h4,h5⟩:=hM2.at_ e hk;have q:∀σ' H' μ',Ext μ H μ' H'->bb fa X.K μ' H' σ' Z->RelM fa X.K μ' H' (M2.set k (ds.set j z))->D'.nx σ' H':=h2;refine{ad,ws,n,j,rfl,ry,h4,by rw[h5.length];exact ej,lU hE2 hM2 hk (h5.set j (r1.ext x2)) λσ' H' μ' x' e' m'=>q σ' H' μ' ((x1.trans x2).trans x') e' m'}
  cases x with
  | cell k => cases y with
    |int n=>exact key k n rfl rfl
    |_=>exact h2.elim
  |_=>exact h2.elim
def JT (ha:DE fa X a ga)(hd:DE fa X d gd){apos cpos:Pos}(hbase:attributeBase a "append" X.env (eval a X.env)=eval a X.env)(hline:(apos.endLine==cpos.line)=true)(hs:starEach [d] X.env=[(false,eval d X.env)])
 (hsw:swapsWith (.Call (.Attribute a "append" apos) [d] [] cpos) none pos.line X.env=pure false) :
 DS fa X (.Expr (.Call (.Attribute a "append" apos) [d] [] cpos) pos) (λZ M=>(ga Z M).bind λx M=>(gd Z M).bind λz M=>match x with
  | .cell k => match M[k]? with
    |some ds=>if ds.length<sz then .ok (.next Z) (M.set k (ds++[z])) else .bad
    |none=>.bad
  |_=>.bad):=
 dJ (mK (v7 QY PySem.F.slot_list_append PySem.F.type_list_append l5 ha (c7 hd ft hs) hbase (by rw[hs];rfl) hline hs `r) hsw) λD' σ H ⟨μ,Z,M,hE,hM,h⟩=>by
  obtain⟨x,M1,e1,h1⟩:=aG h;obtain⟨z,M2,e2,h2⟩:=aG h1;cases x with
  | cell k =>
    dsimp only at h2;cases e:M2[k]? with
    |none=>rw[e] at h2;exact h2.elim
    | some ds =>
      rw[e] at h2;dsimp only at h2;split at h2
      ·next hz=>
       have q:∀σ' H' μ',Ext μ H μ' H'->bb fa X.K μ' H' σ' Z->RelM fa X.K μ' H' (M2.set k (ds++[z]))->D'.nx σ' H':=h2;refine{μ,Z,M,hE,hM,?_};rw[e1];intro vx H1 μ1 x1 hM1 rx;obtain⟨ad,rfl,hk⟩:=rx;obtain⟨ds1,ws1,_,hH1,_⟩:=hM1.mu_lt hk;refine{.inl {rfl,ws1,cX.of hH1},μ1,Z,M1,hE.ext x1,hM1,?_};rw[e2];intro vz H2 μ2 x2 hM2 rz;obtain⟨ws,h4,h5⟩:=hM2.at_ e (x2.mu k ad hk);refine{ad,ws,vz,rfl,rfl,h4,by rw[h5.length,<- dS];exact hz,?_}
       exact lU ((hE.ext x1).ext x2) hM2 (x2.mu k ad hk) (h5.append (.one rz)) λσ' H' μ' x' e' m'=>q σ' H' μ' ((x1.trans x2).trans x') e' m'
      ·exact h2.elim
  |_=>exact h2.elim
def LJ (ha:DE fa X a ga)(hs:swapsWith a none pos.line X.env=pure false):DS fa X (.Expr a pos) (λZ M=>(ga Z M).bind λ_ M=>.ok (.next Z) M):=
 dJ (mK ha hs) λD' σ H ⟨μ,Z,M,hE,hM,h⟩=>t1 hE hM h λx M1 v H1 μ1 x1 hE1 hM1 r1 h1=>h1 σ H1 μ1 x1 hE1 hM1
def JN (ha:DE fa X a ga):DS fa X (.Return (some a) pos) (λZ M=>(ga Z M).bind λx M=>.ok (.ret x) M):=
 dJ (yz ha) λD' σ H ⟨μ,Z,M,hE,hM,h⟩=>by
  obtain⟨x,M1,e,q⟩:=aG h;refine{μ,Z,M,hE,hM,?_};rw[e];exact q
def F7:DS fa X (.Return none pos) (λ_ M=>.ok (.ret .non) M):=dJ Fj λD' σ H ⟨μ,Z,M,hE,hM,h⟩=>aR (v:=.non) hM h rfl
def F8:DS fa X (.Pass pos) (λZ M=>.ok (.next Z) M):=dJ Fm λD' σ H ⟨μ,Z,M,hE,hM,h⟩=>h σ H μ .refl hE hM
def JR {st:Stmt}:DS fa X st (λ_ _=>.bad):=λpins s σ H D' I ⟨μ,Z,M,hE,hM,h⟩=>h.elim
def j5.ext {μ μ':Mu}{H H':Hp}{D':Ends}(x:Ext μ H μ' H'){fl:Fl}{M:Mem}(q:j5 fa X μ H D' fl M):j5 fa X μ' H' D' fl M:=by
 cases fl with
 |next ρ'=>exact λσ' H'' μ'' y e m=>q σ' H'' μ'' (x.trans y) e m
 |ret d=>exact aX.ext q x
 |exc x' ρ'=>exact XW.ext q x
def ID {r:Res Fl}{μ μ':Mu}{H H':Hp}{D':Ends}(x:Ext μ H μ' H')(h:ag r (j5 fa X μ H D')):ag r (j5 fa X μ' H' D'):=aP h λfl M q=>q.ext x
def JP {c:Expr}{gc:Env->Mem->Res Bool}{st sf:List Stmt}{gt gf:Env->Mem->Res Fl}(hc:DT fa X c gc)(ht:kI fa X st gt)(hf:kI fa X sf gf):DS fa X (.If c st sf pos) (λZ M=>(gc Z M).bind λk M=>if k then gt Z M else gf Z M):=
 dJ (KW hc ht hf) λD' σ H ⟨μ,Z,M,hE,hM,h⟩=>xS hE hM h λk M1 H1 μ1 x1 hE1 hM1 h1=>by
  cases k with
  |true=>exact{μ1,Z,M1,hE1,hM1,ID x1 h1}
  |false=>exact{μ1,Z,M1,hE1,hM1,ID x1 h1}
def F6:kI fa X [] (λZ M=>.ok (.next Z) M):=uQ Fi λD' σ H ⟨μ,Z,M,hE,hM,h⟩=>h σ H μ .refl hE hM
def B9 {st:Stmt}{ss:List Stmt}{g:Env->Mem->Res Fl}{g':Env->Mem->Res Fl}(h1:DS fa X st g)(h2:kI fa X ss g'):kI fa X (st::ss) (λZ M=>(g Z M).bind λfl M=>match fl with
 |.next Z=>g' Z M
 |fl=>.ok fl M):=
 uQ (Bg h1 h2) λD' σ H ⟨μ,Z,M,hE,hM,h⟩=>by
  obtain⟨fl,M1,e,q⟩:=aG h;refine{μ,Z,M,hE,hM,?_};rw[e];cases fl with
  |next ρ1=>exact λσ1 H1 μ1 x1 hE1 hM1=>{μ1,ρ1,M1,hE1,hM1,ID x1 q}
  |ret d=>exact q
  |exc x ρ1=>exact q
end
def cW (fa:Fa)(K:Ow)(μ0:Mu)(H0:Hp)(w:Walk)(J:It):Prop:=
 ∀(μ:Mu) (H:Hp) (M:Mem) (ds:List D),ExtW μ0 H0 μ H->RelM fa K μ H M->w M=some ds->(∀(i:Nat) (d:D),ds[i]?=some d->J.go i H/\∀x H',J.yld i H x H'->Ext μ H μ H'/\RelM fa K μ H' M/\Rep fa K μ H' d x)/\∀i,ds.length<=i->J.stop i H
def tI (fa:Fa)(K:Ow)(g:Env->Mem->Res Walk):TI:=λσ H R=>∃μ Z M,bb fa K μ H σ Z/\RelM fa K μ H M/\ag (g Z M) λw M'=>∀J H' μ',Ext μ H μ' H'->RelM fa K μ' H' M'->cW fa K μ' H' w J->R J H'
abbrev DI (fa:Fa)(X:Cx)(tg iter:Expr)(g:Env->Mem->Res Walk):Prop:=PI X tg iter (tI fa X.K g)
def qp {fa:Fa}{K:Ow}{μ0 μ1:Mu}{H0 H1:Hp}{w:Walk}{J:It}(h:cW fa K μ0 H0 w J)(x:ExtW μ0 H0 μ1 H1):cW fa K μ1 H1 w J:=λμ H M ds y hM e=>h μ H M ds (x.trans y) hM e
section
variable{fa:Fa}{X:Cx}{tg a b d:Expr}{ga gb gd:Env->Mem->Res D}{pos p:Pos}{es:List Expr}{n:Nat}
def xu {μ0:Mu}{H0:Hp}{dd:D}{ad:Addr}(h:Rep fa X.K μ0 H0 dd (.ref ad)):cW fa X.K μ0 H0 (λM=>dE M dd) (Kr X.K ad):=λμ H M ds x hM e=>by
 obtain⟨ad',vs,ea,s,r⟩:=bx hM (Rep.extW x h) e;cases ea;refine{λi d hd=>?_,λi hi=>{vs,s,by rw[r.length];exact hi}}
 obtain⟨v,hv,rv⟩:=r.get hd;refine{⟨vs,v,s,hv⟩,λy H' ⟨e,hy⟩=>?_};subst e;have:=hy vs s;rw[hv] at this;cases this;exact{.refl,hM,rv}
def Am {μ0:Mu}{H0:Hp}{ds:List D}{ad:Addr}(h:Rep fa X.K μ0 H0 (.tup ds) (.ref ad)):cW fa X.K μ0 H0 (λ_=>some ds) (Kq X.K ad):=λμ H M ds' x hM e'=>by
 cases e';obtain⟨ad',vs,e,s,r⟩:=Rep.extW x h;cases e;refine{λi d hd=>?_,λi hi=>{vs,s,by rw[r.length];exact hi}}
 obtain⟨v,hv,rv⟩:=r.get hd;refine{⟨vs,v,s,hv⟩,λy H' ⟨e,hy⟩=>?_};subst e;have:=hy vs s;rw[hv] at this;cases this;exact{.refl,hM,rv}
def rN {μ0:Mu}{H0:Hp}(lo:Int)(n:Nat):cW fa X.K μ0 H0 (λ_=>some ((List.range n).map λ(k:Nat)=>D.int (lo+(k:Int)))) (Ac lo n):=λμ H M ds x hM e=>by
 cases e;refine{λi d hd=>?_,λi hi=>(show n<=i by simpa using hi)}
 rw[OL] at hd;by_cases hi:i<n
 ·rw[P7 hi] at hd;have e:D.int (lo+(i:Int))=d:=OD hd;subst e;refine{hi,λy H' ⟨e1,e2⟩=>?_};subst e1 e2;exact{.refl,hM,rfl}
 ·rw[List.getElem?_eq_none (by simpa using hi)] at hd;cases hd
def cz (ga:Env->Mem->Res D):Env->Mem->Res Walk:=λZ M=>(ga Z M).bind λx M=>match x with
 |.lst ds=>.ok (λ_=>some ds) M
 |.tup ds=>.ok (λ_=>some ds) M
 |.frz ds=>.ok (λ_=>some ds) M
 |.cell k=>.ok (λM=>M[k]?) M
 |_=>.bad
def JW (ha:DE fa X a ga):DI fa X tg a (cz ga):=λpins s σ H R I ⟨μ,Z,M,hE,hM,h⟩=>by
 obtain⟨x,M1,e,q⟩:=aG h;have lst:(∀μ' H',RelM fa X.K μ' H' M1->∀v,Rep fa X.K μ' H' x v->∃ds,dE M1 x=some ds)->(∀J H' μ',Ext μ H μ' H'->RelM fa X.K μ' H' M1->cW fa X.K μ' H' (λM=>dE M x) J->R J H')->
  wpAny (model X.prog X.w) X.A (eval a X.env) (λv s1=>wpAny (model X.prog X.w) X.A (pyIter v) (Eb X pins σ tg R) X.xe s1) X.xe s:=λhx q=>by
  refine Fs ha pins s σ H R I {μ,Z,M,hE,hM,?_};rw[e];intro v H1 μ1 x1 m1 r1;obtain⟨ds,er⟩:=hx μ1 H1 m1 v r1;obtain⟨ad,vs,rfl,s1,r⟩:=bx m1 r1 er;exact{ad,rfl,⟨vs,s1⟩,q _ H1 μ1 x1 m1 (xu r1)}
 cases x with
 |lst ds=>exact lst (λ_ _ _ _ _=>⟨ds,rfl⟩) q
 |frz ds=>exact lst (λ_ _ _ _ _=>⟨ds,rfl⟩) q
 | tup ds =>
   refine Ib ha pins s σ H R I {μ,Z,M,hE,hM,?_};rw[e];intro v H1 μ1 x1 m1 r1;obtain⟨ad,vs,rfl,s1,r⟩:=id r1;exact{ad,rfl,⟨vs,s1⟩,q _ H1 μ1 x1 m1 (Am r1)}
 |cell k=>exact lst (λμ' H' m' v ⟨ad,_,hk⟩=>let{ds,_,e,_}:=m'.mu_lt hk;⟨ds,e⟩) q
 |_=>exact q.elim
def dX (ga:Env->Mem->Res D):Env->Mem->Res Walk:=λZ M=>(ga Z M).bind λx M=>match x with
 |.int n=>if -(2^62)<=n/\n<2^62 then .ok (λ_=>some ((List.range n.toNat).map λ(k:Nat)=>D.int (k:Int))) M else .bad
 |_=>.bad
def mP (ga gb:Env->Mem->Res D):Env->Mem->Res Walk:=λZ M=>(ga Z M).bind λx M=>(gb Z M).bind λy M=>match x,y with
 |.int i,.int j=>if -(2^62)<=i/\i<2^62/\-(2^62)<=j/\j<2^62 then .ok (λ_=>some ((List.range (j-i).toNat).map λ(k:Nat)=>D.int (i+(k:Int)))) M else .bad
 |_,_=>.bad
def Gf (ha:DE fa X a ga)(hg:Gl X "range")(hm:X.mg "range"=none)(hs:starEach [a] X.env=[(false,eval a X.env)]):DI fa X tg (.Call (.Name "range" p) [a] [] pos) (dX ga):=λpins s σ H R I ⟨μ,Z,M,hE,hM,h⟩=>by
 refine yD hg hm (c7 ha ft hs) hs pins s σ H R I ?_;refine t1 hE hM h λx M1 v H1 μ1 x1 hE1 hM1 r1 h1=>?_;cases x with
 | int n =>
   dsimp only at h1;split at h1
   ·next c=>
    obtain rfl:v=.int n:=r1;refine{n,rfl,c.1,c.2,h1 _ H1 μ1 x1 hM1 ?_};have:=rN (fa:=fa) (X:=X) (μ0:=μ1) (H0:=H1) 0 n.toNat;simpa using this
   ·exact h1.elim
 |_=>exact h1.elim
def Ge (ha:DE fa X a ga)(hb:DE fa X b gb)(hg:Gl X "range")(hm:X.mg "range"=none)(hs:starEach [a,b] X.env=[(false,eval a X.env),(false,eval b X.env)])(hs2:starEach [b] X.env=[(false,eval b X.env)]) :
 DI fa X tg (.Call (.Name "range" p) [a,b] [] pos) (mP ga gb):=λpins s σ H R I ⟨μ,Z,M,hE,hM,h⟩=>by
 refine yC hg hm (c7 ha (c7 hb ft hs2) (by rw[hs,hs2])) hs hs2 pins s σ H R I ?_
 refine t2 hE hM h λx y M1 v u H1 μ1 x1 hE1 hM1 r1 r2 h1=>?_;cases x with
 | int i =>
   cases y with
   | int j =>
     dsimp only at h1;split at h1
     ·next c=>
      obtain rfl:v=.int i:=r1;obtain rfl:u=.int j:=r2;exact{i,j,rfl,c,h1 _ H1 μ1 x1 hM1 (rN i _)}
     ·exact h1.elim
   |_=>exact h1.elim
 |_=>exact h1.elim
def gO (t:cf)(gb:Env->Mem->Res Fl):Fl->D->Mem->Res Fl:=λfl d M=>match fl with
 |.next Z=>(b6 M (bU t d Z)).bind λρ1 M=>gb ρ1 M
 |fl=>.ok fl M
def Fl.out:Fl->Bool
 |.next _=>false
 |_=>true
def lq {t:cf}{gb:Env->Mem->Res Fl}{fl:Fl}{w:Walk}{P:Fl->Mem->Prop}(ho:fl.out=true):∀(n i:Nat) (M:Mem),ag (fO (gO t gb) w n i fl M) P->P fl M
 |0,_,_,h=>h.elim
 | n + 1, i, M, h => by
   unfold fO at h;cases e:w M with
   |none=>rw[e] at h;exact h.elim
   | some ds =>
     rw[e] at h;dsimp only at h;cases e2:ds[i]? with
     |none=>rw[e2] at h;exact h
     | some d' =>
       rw[e2] at h;cases fl with
       |next Z=>cases ho
       |ret d=>exact lq ho n (i+1) M h
       |exc x Z=>exact lq ho n (i+1) M h
def JQ {t:cf}{body:List Stmt}{gw:Env->Mem->Res Walk}{gb:Env->Mem->Res Fl}(hp:PassesOwn (model X.prog X.w) X.A X.env X.xe)(hc:X.calm=true)(hi:DI fa X tg a gw)(hg:PG X tg (gT fa X.K t))(hb:kI fa X body gb)
 (hs:∀x,foldedSetIterable a X.env x=pure x):DS fa X (.For tg a body [] pos) (λZ M=>(gw Z M).bind λw M=>dg (gO t gb) w (.next Z) M):=
 dJ (H9 hp hc hi hg hb hs) λD' σ H ⟨μ,Z,M,hE,hM,h⟩=>by
  obtain⟨w,M1,e,q⟩:=aG h;refine{μ,Z,M,hE,hM,?_};rw[e];intro J H1 μ1 x1 hM1 wk;have hE1:=hE.ext x1;refine{λi m σ' H'=>∃μ' ρ' M',Ext μ1 H1 μ' H'/\bb fa X.K μ' H' σ' ρ'/\RelM fa X.K μ' H' M'/\ag (fO (gO t gb) w m i (.next ρ') M') (j5 fa X μ H D'),
   {_,μ1,Z,M1,.refl,hE1,hM1,q},?_}
  rintro i m σ2 H2 ⟨μ2,ρ2,M2,x2,hE2,hM2,q2⟩;cases m with
  |zero=>exact q2.elim
  | succ m =>
    unfold fO at q2;cases e2:w M2 with
    |none=>rw[e2] at q2;exact q2.elim
    | some ds =>
      rw[e2] at q2;dsimp only at q2;obtain⟨go,stop⟩:=wk μ2 H2 M2 ds x2.toExtW hM2 e2;cases ed:ds[i]? with
      | none =>
        rw[ed] at q2;exact .inl {stop i (List.getElem?_eq_none_iff.mp ed),q2 σ2 H2 μ2 (x1.trans x2) hE2 hM2}
      | some d =>
        rw[ed] at q2;obtain⟨g1,g2⟩:=go i d ed;refine .inr {g1,λσ' H'=>∃μ' ρ' M',Ext μ1 H1 μ' H'/\bb fa X.K μ' H' σ' ρ'/\RelM fa X.K μ' H' M'/\ag (fO (gO t gb) w m (i+1) (.next ρ') M') (j5 fa X μ H D'),λσ' H' z=>{m,`a,z},λy H3 hy=>?_}
        obtain⟨x3,hM3,r3⟩:=g2 y H3 hy;have q2:ag (((b6 M2 (bU t d ρ2)).bind λρ1 M=>gb ρ1 M).bind (fO (gO t gb) w m (i+1))) (j5 fa X μ H D'):=q2;obtain⟨fl,M4,e4,q4⟩:=aG q2;obtain⟨ρ4,M5,e5,e6⟩:=fj e4;cases eb:bU t d ρ2 with
        |none=>rw[eb] at e5;cases e5
        | some ρ5 =>
          rw[eb] at e5;cases e5;refine{μ2,ρ2,_,d,ρ4,hE2.ext x3,hM3,r3,eb,λσ5 hE5=>{μ2,ρ4,_,hE5,hM3,?_}};rw[e6];cases fl with
          |next ρ6=>exact λσ6 H6 μ6 x6 hE6 hM6=>{μ6,ρ6,M4,(x2.trans x3).trans x6,hE6,hM6,q4}
          |ret d6=>exact(lq rfl m (i+1) M4 q4).ext ((x1.trans x2).trans x3)
          |exc x6 ρ6=>exact(lq rfl m (i+1) M4 q4).ext ((x1.trans x2).trans x3)
end
abbrev FF:Ox->Oy->Prop:=λ_ _=>False
section
variable{prog:O2}{w:O9}{A:PR}{s:Oy}
def zN {ce:Expr}{p:Pos}{k:Nat}{it acc:Ox}{env:Pp}{R:Result->Oy->Prop}{target:Expr}{body:Sem Unit}
 (heq:compTurn ce k it acc env=(standAt p >>= λ_=>pyNext it >>= λr=>match r with
  |none=>pure (.done .next)
  |some v=>letOwnedTupleGo target it v >>= λ_=>assign target env v >>= λ_=>body >>= λ_=>again (.compLoop ce k it acc env)))
 (hd:(model prog w).den (.compLoop ce k it acc env)=(compTurn ce k it acc env).onRaise (λx=>do noteFrame x env;theTreesLotGoes x)/\A.under (.compLoop ce k it acc env)=A) (I:Nat->Oy->Prop)
 (turn:∀n s,I n s->wpAny (model prog w) A (pyNext it) (λr s₁=>match r with
  |none=>R (.ok .next) s₁
  |some v=>wpAny (model prog w) A (letOwnedTupleGo target it v) (λ_ s₂=>wpAny (model prog w) A (assign target env v) (λ_ s₃=>wpAny (model prog w) A body (λ_ s₄=>∃m,m<n/\I m s₄) FF s₃) FF s₂) FF s₁) FF s)
 (n:Nat) (h:I n s):codeAny (model prog w) A (.compLoop ce k it acc env) R s:=by
 refine codeAny_loop rfl I (λn s hI=>?_) n h;rw[hd.1,hd.2];refine wpAny_noted ?_;rw[heq];refine wpAny_noRaise ?_;refine tqa (wpAny_standAt (tqa (aQ (turn n s hI) λr s₁ h₁=>?_)));cases r with
 |none=>exact tqb h₁
 | some v =>
   refine tqa (aQ h₁ λ_ s₂ h₂=>?_);exact tqa (aQ h₂ λ_ s₃ h₃=>tqa (aQ h₃ λ_ s₄ h₄=>tqb ⟨rfl,h₄⟩))
def rP (elt target iter:Expr)(gs:List Qb)(scope:Scope)(pos:Pos)(it acc:Ox)(env:Pp) :
 compTurn (.ListComp elt [{target,iter,[],0}] scope pos) 0 it acc env=(standAt iter.pos >>= λ_=>pyNext it >>= λr=>match r with
  |none=>pure (.done .next)
  |some v=>letOwnedTupleGo target it v >>= λ_=>assign target env v >>= λ_=>(eval elt env >>= λx=>call (.builtin "list.append") [acc,x] >>= λ_=>pure ()) >>= λ_=>again (.compLoop (.ListComp elt [{target,iter,[],0}] scope pos) 0 it acc env)):=`r
def turn_if (elt target iter c:Expr)(scope:Scope)(pos:Pos)(it acc:Ox)(env:Pp) :
 compTurn (.ListComp elt [{target,iter,[c],0}] scope pos) 0 it acc env=(standAt iter.pos >>= λ_=>pyNext it >>= λr=>match r with
  |none=>pure (.done .next)
  |some v=>letOwnedTupleGo target it v >>= λ_=>assign target env v >>= λ_=>(isTrue c env (eval c env) >>= λok=>if ok=true then(eval elt env >>= λx=>call (.builtin "list.append") [acc,x] >>= λ_=>pure ()) else pure ()) >>= λ_=>again (.compLoop (.ListComp elt [{target,iter,[c],0}] scope pos) 0 it acc env)):=by
 rw[compTurn_list];refine congrArg _ (funext λ_=>congrArg _ (funext λr=>?_));cases r with
 |none=>rfl
 | some v =>
   simp only[List.forIn_cons,List.forIn_nil,if_true,bind_assoc,pure_bind];refine congrArg _ (funext λ_=>congrArg _ (funext λ_=>congrArg _ (funext λok=>?_)));cases ok<;>simp
def AH (elt target iter t2 i2:Expr)(scope:Scope)(pos:Pos)(it acc:Ox)(env:Pp) :
 compTurn (.ListComp elt [{target,iter,[],0},{t2,i2,[],0}] scope pos) 0 it acc env=(standAt iter.pos >>= λ_=>pyNext it >>= λr=>match r with
  |none=>pure (.done .next)
  |some v=>letOwnedTupleGo target it v >>= λ_=>assign target env v >>= λ_=>(eval i2 env >>= λx=>standAt i2.pos >>= λ_=>foldedSetIterable i2 env x >>= λx=>holding [x] (pyIter x) >>= λj=>runOwn (.compStart (.ListComp elt [{target,iter,[],0},{t2,i2,[],0}] scope pos) 1 j acc env) env >>= λ_=>pure ()) >>= λ_=>again (.compLoop (.ListComp elt [{target,iter,[],0},{t2,i2,[],0}] scope pos) 0 it acc env)):=by
 unfold compTurn;simp only[QH,bne_self_eq_false,Px,if_false];refine bind_congr λ_=>bind_congr λr=>?_;cases r with
 |none=>rfl
 |some v=>simp
def AI (elt target iter t2 i2:Expr)(scope:Scope)(pos:Pos)(it acc:Ox)(env:Pp) :
 compTurn (.ListComp elt [{target,iter,[],0},{t2,i2,[],0}] scope pos) 1 it acc env=(standAt i2.pos >>= λ_=>pyNext it >>= λr=>match r with
  |none=>pure (.done .next)
  |some v=>letOwnedTupleGo t2 it v >>= λ_=>assign t2 env v >>= λ_=>(eval elt env >>= λx=>call (.builtin "list.append") [acc,x] >>= λ_=>pure ()) >>= λ_=>again (.compLoop (.ListComp elt [{target,iter,[],0},{t2,i2,[],0}] scope pos) 1 it acc env)):=by
 rfl
def lH (env:Pp):∀(ns:List (Str×NameKind)) (cs:List (Str×Addr)),(∀y∈ns,y.2=.free->∃c,env.cells.lookup y.1=some c)->(∀x c,cs.lookup x=some c->env.cells.lookup x=some c)->
 ∃cl,(forIn ns cs λ(y:Str×NameKind) (r:List (Str×Addr))=>if (y.2==NameKind.free)=true then cellOf env y.1 >>= λa=>pure (ForInStep.yield ((y.1,a)::r)) else pure (ForInStep.yield r):Sem _)=pure cl/\
  (∀x c,cl.lookup x=some c->env.cells.lookup x=some c)/\(∀x c,cs.lookup x=some c->∃c',cl.lookup x=some c')/\∀y∈ns,y.2=.free->∃c,cl.lookup y.1=some c
 |[],cs,_,h2=>{cs,`s,h2,λx c e=>⟨c,e⟩,λy hy=>nomatch hy}
 | (n, k) :: ns, cs, h1, h2 => by
   by_cases hk:k=.free
   ·subst hk;obtain⟨a,ha⟩:=h1 (n,.free) O4 rfl;have lk:∀x c,((n,a)::cs).lookup x=some c->env.cells.lookup x=some c:=λx c e=>by
     rw[Py] at e;split at e
     ·next q=>cases e;rw[eq_of_beq q];exact ha
     ·exact h2 x c e
    obtain⟨cl,e,p1,p2,p3⟩:=lH env ns ((n,a)::cs) (λy hy=>h1 y (OP _ hy)) lk;refine{cl,?_,p1,λx c q=>?_,λy hy hf=>?_}
    ·rw[List.forIn_cons];have ec:cellOf env n=pure a:=by unfold cellOf;rw[ha]
     simp only[beq_self_eq_true,if_true,ec];exact e
    ·by_cases hx:x=n
     ·exact p2 x a (by rw[Py,hx];simp)
     ·exact p2 x c (by rw[Py,PB.mpr hx];exact q)
    ·rcases O6.mp hy with z|z
     ·subst z;exact p2 n a (by simp[Py])
     ·exact p3 y z hf
   ·obtain⟨cl,e,p1,p2,p3⟩:=lH env ns cs (λy hy=>h1 y (OP _ hy)) h2;refine{cl,?_,p1,p2,λy hy hf=>?_}
    ·rw[List.forIn_cons];have eb:(k==NameKind.free)=false:=by simpa using hk
     simp only[eb,Px,if_false];exact e
    ·rcases O6.mp hy with z|z
     ·subst z;exact absurd hf hk
     ·exact p3 y z hf
def lI {scope:Scope}{env:Pp}(h:∀y∈scope.names,y.2=.free->∃c,env.cells.lookup y.1=some c) :
 ∃cl,closureFor scope env=pure cl/\(∀x c,cl.lookup x=some c->env.cells.lookup x=some c)/\∀y∈scope.names,y.2=.free->∃c,cl.lookup y.1=some c:=by
 obtain⟨cl,e,p1,_,p3⟩:=lH env scope.names [] h (λx c q=>nomatch q);exact{cl,by unfold closureFor;simp only[bind_pure];exact e,p1,p3}
end
def fD (X:Cx)(own bn:List Str)(scope:Scope)(cl:List (Str×Addr))(C:Addr)(fp:List Addr)(s:Oy)(H:Hp):Cx:=
 {X with N:=own++bn,s₀:=s,H₀:=H,env:=compEnvC scope cl C X.env,outer:=X.stack,ex:=fp,fn:=λx=>scope.names.lookup x==some .cell,pn:=[],xe:=FF}
def mem_of_lookup {β:Type}:∀{l:List (Str×β)}{x:Str}{k:β},l.lookup x=some k->(x,k)∈l
 |[],_,_,h=>by cases h
 | (n, b) :: r, x, k, h => by
   rw[Py] at h;split at h
   ·next q=>cases h;rw[eq_of_beq q];exact O4
   ·exact OP _ (mem_of_lookup h)
def gR {env:Pp}:∀{names:List (Str×NameKind)}{x:Str}{k:NameKind},
 (names.map λ(n,k)=>if (k==NameKind.free&&env.scope.kind==.function&&env.kindOf n==some .cell) then(n,NameKind.cell) else(n,k)).lookup x=some k->
 ∃k0,(x,k0)∈names/\names.lookup x=some k0/\(k=k0\/(k0=.free/\k=.cell))
 |[],_,_,h=>by cases h
 | (n, k0) :: r, x, k, h => by
   have ih:=@gR env r x k;have h:List.lookup x ((if (k0==NameKind.free&&env.scope.kind==.function&&env.kindOf n==some .cell)=true then(n,NameKind.cell) else(n,k0))::_)=some k:=h;cases hx:x==n with
   | true =>
     have e:=eq_of_beq hx;subst e;refine{k0,O4,by simp[Py],?_}
     split at h
     ·next c=>
      simp[Py] at h;simp at c;exact .inr ⟨c.1.1,h.symm⟩
     ·simp[Py] at h;exact .inl h.symm
   | false =>
     have h':List.lookup x (r.map λ(n,k)=>if (k==NameKind.free&&env.scope.kind==.function&&env.kindOf n==some .cell) then(n,NameKind.cell) else(n,k))=some k:=by
      split at h<;>simpa[Py,hx] using h
     obtain⟨k1,h1,h2,h3⟩:=ih h';exact{k1,OP _ h1,by simp[Py,hx];exact h2,h3}
def oC {α β:Type}{R:α->β->Prop}:∀{l:List α}{r:List β}{i:Nat}{x:α},Qn R l r->l[i]?=some x->∃y,r[i]?=some y/\R x y
 |_,_,_,_,.nil,e=>by simp at e
 |_,_,0,_,.cons p _,e=>by simp at e;subst e;exact{_,rfl,p}
 | _, _, i + 1, x, .cons _ t, e => by
   obtain⟨y,h1,h2⟩:=oC (i:=i) (x:=x) t (by simpa using e)
   exact{y,by simpa using h1,h2}
structure fv (X:Cx) (own bn:List Str) (scope:Scope):Prop where
 kind:scope.kind=.function
 cel:∀y∈scope.names,y.2=.cell->scope.names.lookup y.1=some .cell
 loc:∀y∈scope.names,y.2=.local->scope.names.lookup y.1=some .local
 free:∀y∈scope.names,y.2=.free->X.env.kindOf y.1=some .cell\/X.env.kindOf y.1=some .free
 dis:Qn (λb x=>(b=x/\scope.names.lookup x≠some .local/\scope.names.lookup x≠some .cell)\/scope.names.lookup b=none) bn X.N
def jC:∀(names:List (Str×NameKind)) (n:Nat) (acc:List (Str×Addr)),cellsFrom n names acc=cellsFrom n names []++acc
 |[],_,_=>rfl
 | (nm, k) :: r, n, acc => by
   unfold cellsFrom;split
   ·rw[jC r (n+1) ((nm,n)::acc),jC r (n+1) [(nm,n)],PK];rfl
   ·exact jC r n acc
def tY:∀{names:List (Str×NameKind)}{n:Nat}{x:Str}{c:Addr},(x,c)∈cellsFrom n names []->(x,NameKind.cell)∈names
 |[],_,_,_,h=>nomatch h
 | (nm, k) :: r, n, x, c, h => by
   unfold cellsFrom at h;split at h
   ·next e=>
    rw[jC] at h;rcases Pk.mp h with h|h
    ·exact OP _ (tY h)
    ·cases OQ.mp h;rw[eq_of_beq e];exact O4
   ·exact OP _ (tY h)
def ph:∀{names:List (Str×NameKind)}{n:Nat}{x:Str},(x,NameKind.cell)∈names->∃c,(x,c)∈cellsFrom n names []
 | (nm, k) :: r, n, x, h => by
   unfold cellsFrom;rcases O6.mp h with h|h
   ·cases h;rw[if_pos (by rfl:(NameKind.cell==NameKind.cell)=true),jC]
    exact{n,Pd _ (OQ.mpr rfl)}
   ·split
    ·obtain⟨c,hc⟩:=ph (n:=n+1) h;rw[jC];exact{c,Pt _ hc}
    ·exact ph h
def ma {β:Type}:∀{l:List (Str×β)}{x:Str}{b:β},(x,b)∈l->∃c,l.lookup x=some c
 | (n, b') :: r, x, b, h => by
   rw[Py];cases e:x==n with
   |true=>exact{_,rfl}
   | false =>
     rcases O6.mp h with z|z
     ·cases z;rw[beq_self_eq_true] at e;cases e
     ·exact ma z
def qG {M:Model}{A:PR}{E:Ox->Oy->Prop}{s:Oy}{scope:Scope}{globals:Addr}{cl:List (Str×Addr)}{qual:Str}{env:Pp}{Q:Pp->Oy->Prop}
 (h:Q (newEnv scope s.heap.objs.size globals (cellsFrom (s.heap.objs.size+1) scope.names cl) qual none .none (some env) builtinsNs) {s with heap:=pushCells (s.heap.push {cls:=.type "dict",data:=.dict #[]}) scope.names}) :
 wpAny M A (newFunctionEnv scope globals cl [] qual none .none (some env)) Q E s:=by
 simp only[newFunctionEnv,Option.isSome_some,if_true];refine tqa (wpAny_alloc ?_);refine tqa (wpAny_layCells _ (λname kind cells=>by cases hkc:kind==NameKind.cell<;>simp[hkc]) _ _ _ _ ?_)
 rw[show({s with heap:=s.heap.push {cls:=.type "dict",data:=.dict #[]}}:Oy).heap.objs.size=s.heap.objs.size+1 from Qv ..]
 exact tqa (tqb (tqb h))
section
variable{X:Cx}{pins:List (Addr×Obj)}{σ:L2.St}{H:Hp}{s:Oy}{fp:List Addr}{scope:Scope}{cl:List (Str×Addr)}{own bn:List Str}
structure Cl (X:Cx) (scope:Scope) (cl:List (Str×Addr)) (n:Nat):Prop where
 sub:∀x c,cl.lookup x=some c->(scope.names.lookup x=some .cell/\n<c)\/(scope.names.lookup x≠some .cell/\X.env.cells.lookup x=some c)
 inj:∀x y c,cl.lookup x=some c->cl.lookup y=some c->scope.names.lookup x=some .cell->scope.names.lookup y=some .cell->x=y
 has:∀y∈scope.names,(y.2=.free\/y.2=.cell)->∃c,cl.lookup y.1=some c
def DU (S:fv X own bn scope){cl:List (Str×Addr)}(h1:∀x c,cl.lookup x=some c->X.env.cells.lookup x=some c)(h2:∀y∈scope.names,y.2=.free->∃c,cl.lookup y.1=some c)(h:Heap){n:Nat}(hn:h.objs.size=n+1) :
 Cl X scope (cellsFrom (n+1) scope.names cl) n/\∀x c,(cellsFrom (n+1) scope.names cl).lookup x=some c->scope.names.lookup x=some .cell->(pushCells h scope.names).IsCell c none:=by
 have ok:=cellsFrom_ok scope.names h (n+1) [] {λ_ _ hm=>(nomatch hm),List.Pairwise.nil} (by rw[hn];exact OC _)
 rw[hn] at ok;rw[jC];have own_:∀{x c},(cellsFrom (n+1) scope.names []++cl).lookup x=some c->scope.names.lookup x=some .cell->(x,c)∈cellsFrom (n+1) scope.names []:=λ{x c} e hx=>by
  obtain⟨c',hc'⟩:=ph (n:=n+1) (mem_of_lookup hx);obtain⟨c2,h2⟩:=ma hc';rw[List.lookup_append,h2] at e;cases e;exact mem_of_lookup h2
 have out_:∀{x c},(cellsFrom (n+1) scope.names []++cl).lookup x=some c->scope.names.lookup x≠some .cell->cl.lookup x=some c:=λ{x c} e hx=>by
  rw[List.lookup_append] at e;cases z:(cellsFrom (n+1) scope.names []).lookup x with
  |none=>rw[z] at e;exact e
  |some c'=>exact absurd (S.cel _ (tY (mem_of_lookup z)) rfl) hx
 refine{{λx c e=>?_,λx y c e1 e2 hx hy=>?_,λy hy hk=>?_},λx c e hx=>(ok.empty x c (own_ e hx)).1}
 ·by_cases hx:scope.names.lookup x=some .cell
  ·exact .inl {hx,(ok.empty x c (own_ e hx)).2}
  ·exact .inr {hx,h1 x c (out_ e hx)}
 ·exact name_of_addr ok.apart (own_ e1 hx) (own_ e2 hy)
 ·rcases hk with hk|hk
  ·obtain⟨c,hc⟩:=h2 y hy hk;rw[List.lookup_append];cases (cellsFrom (n+1) scope.names []).lookup y.1 with
   |none=>exact⟨c,hc⟩
   |some c'=>exact⟨c',rfl⟩
  ·obtain⟨c,hc⟩:=ph (n:=n+1) (x:=y.1) (by rw[<- hk];exact hy)
   obtain⟨c2,e2⟩:=ma hc;rw[List.lookup_append,e2];exact⟨c2,rfl⟩
def Gs (I:Inv X pins σ H s)(S:fv X own bn scope)(hcl:Cl X scope cl s.heap.objs.size)(hfp:∀b∈fp,fG X pins H b)(hfo:∀b∈fp,∃o,s.heap.get? b=some o) :
 (fD X own bn scope cl s.heap.objs.size fp s H).Ok where
 mod:=I.ok.mod
 kind:=S.kind
 glob:=I.ok.glob
 blt:=I.ok.blt
 above:=OC _
 inj:=λx y c h1 h2=>by
  have lt:∀z,X.env.cells.lookup z=some c->¬ s.heap.objs.size<c:=λz e=>Nat.not_lt.mpr (Nat.le_of_lt (let{_,q}:=I.cell z c e;q.lt))
  rcases hcl.sub x c h1 with⟨a1,a2⟩|⟨a1,a2⟩<;>rcases hcl.sub y c h2 with⟨b1,b2⟩|⟨b1,b2⟩
  ·exact hcl.inj x y c h1 h2 a1 b1
  ·exact absurd a2 (lt y b2)
  ·exact absurd b2 (lt x a2)
  ·exact I.ok.inj x y c a2 b2
 has:=λx h=>by
  have key:∀k,(relabel scope X.env).names.lookup x=some k->(k=.cell\/k=.free)->∃c,cl.lookup x=some c:=λk hk hh=>by
   obtain⟨k0,h1,h2,h3⟩:=gR hk;refine hcl.has _ h1 ?_;rcases h3 with e|⟨e,_⟩
   ·rcases hh with z|z
    ·exact .inr (e.symm.trans z)
    ·exact .inl (e.symm.trans z)
   ·exact .inl e
  rcases h with h|h
  ·exact key _ h (.inl rfl)
  ·exact key _ h (.inr rfl)
 cab:=λx c h e=>by
  rcases hcl.sub x c e with⟨_,a2⟩|⟨a1,_⟩
  ·exact Nat.le_of_lt a2
  ·exact absurd (eq_of_beq h) a1
 hd:=I.ok.hd
 frames:=I.ok.frames
 stk:=.inl rfl
 exf:=λb hb=>{λe=>by
  obtain⟨o,ho⟩:=hfo b hb;exact absurd (OS ho) (by rw[e];exact P5 _),λx c e=>by
  rcases hcl.sub x c e with⟨_,a2⟩|⟨_,a2⟩
  ·obtain⟨o,ho⟩:=hfo b hb;exact λz=>absurd (OS ho) (by rw[<- z];exact Nat.lt_asymm a2)
  ·exact(hfp b hb).2.2.2.2.1 x c a2}
 bs:=λb o e=>I.bs b o e
 bsz:=OZ I.ok.bsz I.sz
 noex:=λb o e hb=>by
  rcases(hfp b hb).2.2.2.1 with z|z
  ·exact I.ok.noex b o e z
  ·exact absurd (O1 (OS e) (OZ I.ok.bsz z)) (P5 _)
 exfs:=λb hb hx=>by
  rcases O6.mp (I.stkSub b hx) with e|e
  ·exact(hfp b hb).2.1 e
  ·exact(hfp b hb).2.2.1 e
 funs:=I.stack
 frf:=λb hb=>I.stkFree b hb
def tW (I:Inv X pins σ H s)(S:fv X own bn scope)(hcl:Cl X scope cl s.heap.objs.size)(hfp:∀b∈fp,fG X pins H b)(hfo:∀b∈fp,∃o,s.heap.get? b=some o){h':Heap}{t':Nat}{m:Str->Option Ox}
 (hn:h'.Ns s.heap.objs.size m) (hk:∀b o,s.heap.get? b=some o->h'.get? b=some o) (hce:∀x c,cl.lookup x=some c->scope.names.lookup x=some .cell->h'.IsCell c none) :
 Inv (fD X own bn scope cl s.heap.objs.size fp s H) [] (List.replicate own.length none++σ) H {s with heap:=h',toks:=t'} where
 ok:=Gs I S hcl hfp hfo
 os:=rfl
 bare:=I.bare
 base:=Un.kept hk
 loc:=by
  refine{m,hn,λi x v e1 e2 hv=>?_};have e1:(own++bn)[i]?=some x:=e1;have hi:own.length<=i:=by
   by_cases q:i<own.length
   ·rw[OG (by simpa using q),QG] at e2
    simp[q] at e2
   ·omega
  rw[O5 hi] at e1;rw[O5 (by simpa using hi)] at e2
  simp only[List.length_replicate] at e2;have hx:X.N[i-own.length]?=some x/\scope.names.lookup x≠some .local/\scope.names.lookup x≠some .cell:=by
   rcases oC S.dis e1 with⟨y,h1,⟨h2,h3⟩|h2⟩
   ·subst h2;exact⟨h1,h3⟩
   ·exfalso;have no:∀k,(relabel scope X.env).names.lookup x≠some k:=λk hk=>by
     obtain⟨k0,_,h3,_⟩:=gR hk;rw[h2] at h3;cases h3
    rcases hv with z|z|z
    ·exact no _ z
    ·exact no _ z
    ·exact no _ z
  have key:∀k,(relabel scope X.env).names.lookup x=some k->(k=.local\/k=.cell\/k=.free)->∃c,(k=.cell\/k=.free)/\cl.lookup x=some c/\(X.env.kindOf x=some .cell\/X.env.kindOf x=some .free):=λk hk2 hh=>by
   obtain⟨k0,h1,h2,h3⟩:=gR hk2;have nl:k0≠.local:=λe=>hx.2.1 (by rw[h2,e])
   have hf:k0=.free:=by
    rcases h3 with e|⟨e,_⟩
    ·rcases hh with z|z|z
     ·exact absurd (e.symm.trans z) nl
     ·exact absurd (by rw[h2,e.symm.trans z]) hx.2.2
     ·exact e.symm.trans z
    ·exact e
   obtain⟨c,hc⟩:=hcl.has _ h1 (.inl hf);refine{c,?_,hc,S.free _ h1 hf};rcases hh with z|z|z
   ·rcases h3 with e|⟨_,e⟩
    ·rw[hf] at e;rw[e] at z;cases z
    ·rw[e] at z;cases z
   ·exact .inl z
   ·exact .inr z
  have fin:∀k,(relabel scope X.env).names.lookup x=some k->(k=.local\/k=.cell\/k=.free)->∃u,RelV v u/\Look (compEnvC scope cl s.heap.objs.size X.env) h' m x u:=λk hk2 hh=>by
   obtain⟨c,h1,h2,h3⟩:=key k hk2 hh;obtain⟨m0,_,hl⟩:=I.loc;obtain⟨u,r,l⟩:=hl _ x v hx.1 e2 (.inr h3);refine{u,r,.inr {?_,c,h2,?_}}
   ·rcases h1 with z|z
    ·subst z;exact .inl hk2
    ·subst z;exact .inr hk2
   ·rcases l with⟨z,_⟩|⟨_,c',hc',hcell⟩
    ·rcases h3 with q|q
     ·rw[z] at q;cases q
     ·rw[z] at q;cases q
    ·rcases hcl.sub x c h2 with⟨a1,_⟩|⟨_,a2⟩
     ·exact absurd a1 hx.2.2
     rw[a2] at hc';cases hc';obtain⟨o,ho,hd⟩:=hcell;exact{o,hk _ _ ho,hd}
  rcases hv with z|z|z
  ·exact fin _ z (.inl rfl)
  ·exact fin _ z (.inr (.inl rfl))
  ·exact fin _ z (.inr (.inr rfl))
 cell:=λx c e=>by
  rcases hcl.sub x c e with⟨a1,_⟩|⟨_,a2⟩
  ·exact{none,hce x c e a1}
  obtain⟨v,o,ho,hd⟩:=I.cell x c a2;exact{v,o,hk _ _ ho,hd}
 free:=I.hok.fresh (OC _)
 freeC:=λx c e=>(hcl.sub x c e).elim (λz=>I.hok.fresh (Nat.le_of_lt z.2)) λz=>I.freeC x c z.2
 pin:=λp hp=>nomatch hp
 hok:=I.hok.kept hk
 len:=by
  show(List.replicate own.length none++σ).length=(own++bn).length;have:=Paired.length S.dis;simp[I.len,this]
def comp_back (I:Inv X pins σ H s)(hfp:∀b∈fp,fG X pins H b){pins':List (Addr×Obj)}{σ':L2.St}{H':Hp}{s':Oy}{C:Addr}(I':Inv (fD X own bn scope cl C fp s H) pins' σ' H' s'):Inv X pins σ H' s':=
 I.call' (ch:=fp) I'.os I'.base I'.hok I'.bare λb hb=>{(hfp b hb).2.2.2.1,(hfp b hb).2.1,(hfp b hb).2.2.2.2.1,(hfp b hb).2.2.2.2.2}
def qI (I:Inv X pins σ H s){σ':L2.St}{H':Hp}{s':Oy}(hf:H' s.heap.objs.size=none)(I':Inv X pins σ' H' s'){h'':Heap}(hs:Qd s.heap.objs.size s'.heap h''):Inv X pins σ' H' {s' with heap:=h''}:=
 I'.turned (t':=s'.toks) (λb o hb e=>(hs.2 b hb).trans e) hf (PM I.lt) (.inr I.sz) (λx c e z=>by
  obtain⟨v,q⟩:=I.cell x c e;exact absurd q.lt (by rw[z];exact P5 _)) λp hp z=>absurd (OS (I.pin p hp).1) (by rw[z];exact P5 _)
end
structure fH (a:Addr) (μ:Mu) (H:Hp) (μ':Mu) (H':Hp):Prop extends ExtW μ H μ' H' where
 pr:μ'.priv=μ.priv
 pk:∀b∈μ.priv,b≠a->H' b=H b
def fH.refl {a:Addr}{μ:Mu}{H:Hp}:fH a μ H μ H:={.refl,rfl,λ_ _ _=>rfl}
def fH.trans {a:Addr}{μ μ1 μ2:Mu}{H H1 H2:Hp}(x:fH a μ H μ1 H1)(y:fH a μ1 H1 μ2 H2):fH a μ H μ2 H2:=
 {x.toExtW.trans y.toExtW,y.pr.trans x.pr,λb hb n=>(y.pk b (by rw[x.pr];exact hb) n).trans (x.pk b hb n)}
def Ext.toD {a:Addr}{μ μ':Mu}{H H':Hp}(x:Ext μ H μ' H'):fH a μ H μ' H':={x.toExtW,x.pr,λb hb _=>x.pk b hb}
def slots:cf->List Nat
 |.one i=>[i]
 |.tup l=>l
 |.two i l=>i::l
def Clear (W:List Nat)(Z:Env):Prop:=∀i∈W,∀d,Z[i]?≠some (some d)
section
variable{fa:Fa}{K:Ow}{μ μ':Mu}{H H':Hp}{σ:L2.St}{Z ρ1:Env}{M:Mem}{a:Addr}
def bb.weak (h:bb fa K μ H σ ρ1)(hl:ρ1.length=Z.length)(w:∀(i:Nat) d,Z[i]?=some (some d)->ρ1[i]?=some (some d)):bb fa K μ H σ Z:=
 {h.len.trans hl,λi d e=>h.at' i d (w i d e)}
def kS:∀{l:List Nat}{ds:List D}{Z ρ1:Env},eR l ds Z=some ρ1->ρ1.length=Z.length/\∀i,i∉l->ρ1[i]?=Z[i]?
 |[],[],Z,ρ1,h=>by cases h;exact{rfl,λ_ _=>rfl}
 |_::_,[],_,_,h=>by cases h
 |[],_::_,_,_,h=>by cases h
 | j :: l, d :: ds, Z, ρ1, h => by
   obtain⟨h1,h2⟩:=kS (l:=l) (ds:=ds) h;refine{by simpa using h1,λi hi=>?_}
   rw[h2 i (λz=>hi (OP _ z)),OE (λz=>hi (by rw[z];exact O4))]
def qM {t:cf}{d:D}(h:bU t d Z=some ρ1):ρ1.length=Z.length/\∀i,i∉slots t->ρ1[i]?=Z[i]?:=by
 cases t with
 | one j =>
   have h:some (Z.set j (some d))=some ρ1:=h;cases h;exact{`s,λi hi=>OE (λz=>hi (by rw[z];exact O4))}
 | tup l =>
   cases d with
   |tup ds=>exact kS h
   |_=>cases h
 | two j l =>
   obtain⟨e,ds,rfl,h⟩:=ue h;obtain⟨h1,h2⟩:=kS h;refine{by simpa using h1,λi hi=>?_}
   rw[h2 i (λz=>hi (OP _ z)),OE (λz=>hi (by rw[z];exact O4))]
def bb.unbind {t:cf}{d:D}(h:bU t d Z=some ρ1)(c:Clear (slots t) Z)(r:bb fa K μ H σ ρ1):bb fa K μ H σ Z:=by
 obtain⟨h1,h2⟩:=qM h;refine r.weak h1 λi d e=>?_;by_cases hi:i∈slots t
 ·exact absurd e (c i hi d)
 ·rw[h2 i hi];exact e
def RelM.writeP (h:RelM fa K μ H M){ws vs:List V}(e:a∈μ.priv)(hH:H a=some (.lst vs)):RelM fa K μ (upd H a (.lst ws)) M:=by
 have x:ExtW μ H μ (upd H a (.lst ws)):=ExtW.write hH (.inr e);refine{λk ds q=>?_,h.out,h.oout,h.inj,h.oinj,h.sep,λb hb=>{?_,(h.pv b hb).2}}
 ·rcases h.at' k ds q with⟨b,us,h1,h2,h3⟩|⟨b,h1,h2,h3⟩
  ·have nb:b≠a:=λz=>(h.pv a e).2 k (by rw[h1,z])
   exact .inl {b,us,h1,by rw[aD nb];exact h2,h3.extW x}
  ·exact .inr {b,h1,h2,h3.extW x (aD (h3.nl hH))}
 ·by_cases hb':b=a
  ·subst hb';exact⟨ws,cm⟩
  ·obtain⟨us,q⟩:=(h.pv b hb).1;exact{us,by rw[aD hb'];exact q}
def fH.writeP {ws vs:List V}(e:a∈μ.priv)(hH:H a=some (.lst vs)):fH a μ H μ (upd H a (.lst ws)):=
 {ExtW.write hH (.inr e),rfl,λb _ n=>by rw[aD n]}
end
abbrev PA:=Mu->Hp->List D->Prop
def xa (A:PA):Prop:=∀μ H μ' H' acc,Ext μ H μ' H'->A μ H acc->A μ' H' acc
def LA (fa:Fa)(K:Ow)(a:Addr):PA:=λμ H acc=>a∈μ.priv/\∃vs,H a=some (.lst vs)/\aI fa K μ H acc vs
def LA.stab {fa:Fa}{K:Ow}{a:Addr}:xa (LA fa K a):=λ_ _ _ _ _ x ⟨h1,vs,h2,h3⟩=>{by rw[x.pr];exact h1,vs,by rw[x.pk _ h1];exact h2,h3.ext x}
def WB (fa:Fa)(K:Ow)(A:PA)(a:Addr)(μ:Mu)(H:Hp)(Z:Env)(Q:L2.St->Hp->Prop)(acc:List D)(M':Mem):Prop:=
 ∀σ' H' μ',fH a μ H μ' H'->bb fa K μ' H' σ' Z->RelM fa K μ' H' M'->A μ' H' acc->Q σ' H'
def WB.ext {fa:Fa}{K:Ow}{A:PA}{a:Addr}{μ μ1:Mu}{H H1:Hp}{Z:Env}{Q:L2.St->Hp->Prop}{acc:List D}{M':Mem}(h:WB fa K A a μ H Z Q acc M')(x:fH a μ H μ1 H1):WB fa K A a μ1 H1 Z Q acc M':=
 λσ' H' μ' y e m h1=>h σ' H' μ' (x.trans y) e m h1
def DB (fa:Fa)(X:Cx)(A:PA)(a:Addr)(W:List Nat)(body:Sem Unit)(g:Env->List D->Mem->Res (List D)):Prop:=
 ∀(pins:List (Addr×Obj)) (s:Oy) (σ:L2.St) (H:Hp) (Q:L2.St->Hp->Prop) (μ:Mu) (Z:Env) (M:Mem) (acc:List D),Inv X pins σ H s->bb fa X.K μ H σ Z->RelM fa X.K μ H M->Clear W Z->A μ H acc->
  ag (g Z acc M) (WB fa X.K A a μ H Z Q)->wpAny (model X.prog X.w) X.A body (λ_ s'=>∃σ' H',Inv X pins σ' H' s'/\Q σ' H') X.xe s
def bw (ge:Env->Mem->Res D):Env->List D->Mem->Res (List D):=λZ acc M=>(ge Z M).bind λx M=>if acc.length<sz then .ok (acc++[x]) M else .bad
def tD (gc:Env->Mem->Res Bool)(g:Env->List D->Mem->Res (List D)):Env->List D->Mem->Res (List D):=λZ acc M=>(gc Z M).bind λk M=>if k then g Z acc M else .ok acc M
def cK (t:cf)(g:Env->List D->Mem->Res (List D))(Z:Env):List D->D->Mem->Res (List D):=λacc d M=>(b6 M (bU t d Z)).bind λρ1 M=>g ρ1 acc M
def tG (t:cf)(gw:Env->Mem->Res Walk)(g:Env->List D->Mem->Res (List D)):Env->List D->Mem->Res (List D):=λZ acc M=>(gw Z M).bind λw M=>dg (cK t g Z) w acc M
section
variable{fa:Fa}{X:Cx}{a:Addr}
def pd {elt:Expr}{ge:Env->Mem->Res D}(he:DE fa X elt ge):DB fa X (LA fa X.K a) a [] (eval elt X.env >>= λx=>call (.builtin "list.append") [.ref a,x] >>= λ_=>pure ()) (bw ge):=by
 intro pins s σ H Q μ Z M acc I hE hM hc ⟨ha,vs,hH,hr⟩ h;obtain⟨x,M1,e,q⟩:=aG h;split at q
 ·next hz=>
  have q:WB fa X.K (LA fa X.K a) a μ H Z Q (acc++[x]) M1:=q;refine tqa (aQ (he pins s σ H (λv H1=>∃μ1,Ext μ H μ1 H1/\RelM fa X.K μ1 H1 M1/\Rep fa X.K μ1 H1 x v) I {μ,Z,M,hE,hM,?_}) λu s1 ⟨v,H1,I1,rv,μ1,x1,m1,r1⟩=>?_)
  ·rw[e];exact λv H1 μ1 x1 m1 r1=>⟨μ1,x1,m1,r1⟩
  have hH1:H1 a=some (.lst vs):=by rw[x1.pk a ha];exact hH
  have ha1:a∈μ1.priv:=by rw[x1.pr];exact ha
  have hl:vs.length<sizeLine:=by rw[hr.length,<- dS];exact hz
  refine tqa (aQ (l5 pins s1 σ H1 (.ref a) [v] (.ref a) [u] (λ_ H2=>H2=upd H1 a (.lst (vs++[v]))) I1 rfl (.cons rv .nil) ⟨a,vs,v,rfl,rfl,hH1,hl,rfl⟩) λ_ s2 ⟨_,H2,I2,_,e2⟩=>tqb {σ,H2,I2,?_});subst e2;have xd:fH a μ1 H1 μ1 (upd H1 a (.lst (vs++[v]))):=fH.writeP ha1 hH1;exact q σ _ μ1 (x1.toD.trans xd) ((hE.ext x1).extW xd.toExtW) (m1.writeP ha1 hH1) {ha1,_,cm,((hr.ext x1).append (.one r1)).extW xd.toExtW}
 ·exact q.elim
def LL {A:PA}(sA:xa A){c:Expr}{gc:Env->Mem->Res Bool}{W:List Nat}{body:Sem Unit}{g:Env->List D->Mem->Res (List D)}(hc:DT fa X c gc)(hb:DB fa X A a W body g) :
 DB fa X A a W (isTrue c X.env (eval c X.env) >>= λok=>if ok=true then body else pure ()) (tD gc g):=by
 intro pins s σ H Q μ Z M acc I hE hM hw hA h;obtain⟨k,M1,e,q⟩:=aG h;refine tqa (aQ (hc pins s σ H (λb H1=>b=k/\∃μ1,Ext μ H μ1 H1/\RelM fa X.K μ1 H1 M1) I {μ,Z,M,hE,hM,?_}) λb s1 ⟨H1,I1,eb,μ1,x1,m1⟩=>?_)
 ·rw[e];exact λH1 μ1 x1 m1=>⟨rfl,μ1,x1,m1⟩
 subst eb;cases b with
 | true =>
   rw[if_pos rfl];exact hb pins s1 σ H1 Q μ1 Z M1 acc I1 (hE.ext x1) m1 hw (sA _ _ _ _ _ x1 hA) (aP q λ_ _ w=>w.ext x1.toD)
 | false =>
   rw[if_neg OR];have q:WB fa X.K A a μ H Z Q acc M1:=q;exact tqb {σ,H1,I1,q σ H1 μ1 x1.toD (hE.ext x1) m1 (sA _ _ _ _ _ x1 hA)}
def qc {ce:Expr}{A:PA}(sA:xa A){p:Pos}{k:Nat}{tg:Expr}{body:Sem Unit}{t:cf}{W:List Nat}{g:Env->List D->Mem->Res (List D)}{it:Addr}{fp:List Addr}{tn:Nat->Heap->Prop}{J:It}
 (heq:compTurn ce k (.ref it) (.ref a) X.env=(standAt p >>= λ_=>pyNext (.ref it) >>= λr=>match r with
  |none=>pure (.done .next)
  |some v=>letOwnedTupleGo tg (.ref it) v >>= λ_=>assign tg X.env v >>= λ_=>body >>= λ_=>again (.compLoop ce k (.ref it) (.ref a) X.env)))
 (hd:(model X.prog X.w).den (.compLoop ce k (.ref it) (.ref a) X.env)=(compTurn ce k (.ref it) (.ref a) X.env).onRaise (λx=>do noteFrame x X.env;theTreesLotGoes x)/\X.A.under (.compLoop ce k (.ref it) (.ref a) X.env)=X.A) (hx:X.xe=FF) (hcalm:X.calm=true) (T:Turn X.prog X.w X.K tg J fp it tn) (hg:PG X tg (gT fa X.K t)) (hb:DB fa X A a W body g) (hW:∀i∈W,i∉slots t)
 {pins:List (Addr×Obj)}{s:Oy}{σ:L2.St}{H:Hp}{Q:L2.St->Hp->Prop}{μ:Mu}{Z:Env}{M:Mem}{acc:List D}{w:Walk} (I:Inv X pins σ H s) (st:tn 0 s.heap) (hf:∀b∈fp,fG X pins H b) (hE:bb fa X.K μ H σ Z) (hM:RelM fa X.K μ H M)
 (hcl:Clear (slots t++W) Z) (hA:A μ H acc) (wk:cW fa X.K μ H w J) (q:ag (dg (cK t g Z) w acc M) (WB fa X.K A a μ H Z Q)) :
 codeAny (model X.prog X.w) X.A (.compLoop ce k (.ref it) (.ref a) X.env) (λr s'=>r=.ok .next/\∃σ' H',Inv X pins σ' H' s'/\Q σ' H') s:=by
 have stat:∀{H':Hp},(∀b∈fp,H' b=none)->∀b∈fp,fG X pins H' b:=λhn b hb=>{hn b hb,(hf b hb).2};have clt:Clear (slots t) Z:=λi hi=>hcl i (Pt _ hi);have clW:∀d ρ1,bU t d Z=some ρ1->Clear W ρ1:=λd ρ1 e i hi d' z=>by
  rw[(qM e).2 i (hW i hi)] at z;exact hcl i (Pd _ hi) d' z
 let P:Nat->Nat->Oy->Prop:=λm i s'=>∃σ' H' μ' M' acc',Inv X pins σ' H' s'/\tn i s'.heap/\(∀b∈fp,H' b=none)/\fH a μ H μ' H'/\bb fa X.K μ' H' σ' Z/\RelM fa X.K μ' H' M'/\A μ' H' acc'/\
  ag (fO (cK t g Z) w m i acc' M') (WB fa X.K A a μ H Z Q)
 have P0:∃m,P m 0 s:={_,σ,H,μ,M,acc,I,st,λb hb=>(hf b hb).1,.refl,hE,hM,hA,q};obtain⟨m0,P0⟩:=P0;have hturn:∀(n:Nat) (i:Nat) (s3:Oy),P n i s3->wpAny (model X.prog X.w) X.A (pyNext (.ref it)) (λr s₁=>match r with
  |none=>(∃σ' H',Inv X pins σ' H' s₁/\Q σ' H')
  |some v=>wpAny (model X.prog X.w) X.A (letOwnedTupleGo tg (.ref it) v) (λ_ s₂=>wpAny (model X.prog X.w) X.A (assign tg X.env v) (λ_ s₃=>wpAny (model X.prog X.w) X.A body (λ_ s₄=>∃m,m<n/\P m (i+1) s₄) FF s₃) FF s₂) FF s₁) FF s3:=by
  rintro n i s3 ⟨σ3,H3,μ3,M3,acc3,I3,st3,fr3,x3,hE3,hM3,hA3,q3⟩;have one:∀(d:D) (rest:List D->Mem->Res (List D)) (next:List D->Mem->Prop),J.go i H3->(∀x H',J.yld i H3 x H'->Ext μ3 H3 μ3 H'/\RelM fa X.K μ3 H' M3/\Rep fa X.K μ3 H' d x)->ag ((cK t g Z acc3 d M3).bind rest) (WB fa X.K A a μ H Z Q)->
   (∀σ' H' μ' M' acc' s',Inv X pins σ' H' s'->tn (i+1) s'.heap->(∀b∈fp,H' b=none)->fH a μ H μ' H'->bb fa X.K μ' H' σ' Z->RelM fa X.K μ' H' M'->A μ' H' acc'->ag (rest acc' M') (WB fa X.K A a μ H Z Q)->∃m,m<n/\P m (i+1) s')->
   wpAny (model X.prog X.w) X.A (pyNext (.ref it)) (λr s₁=>match r with
    |none=>(∃σ' H',Inv X pins σ' H' s₁/\Q σ' H')
    |some v=>wpAny (model X.prog X.w) X.A (letOwnedTupleGo tg (.ref it) v) (λ_ s₂=>wpAny (model X.prog X.w) X.A (assign tg X.env v) (λ_ s₃=>wpAny (model X.prog X.w) X.A body (λ_ s₄=>∃m,m<n/\P m (i+1) s₄) FF s₃) FF s₂) FF s₁) FF s3:=by
   intro d rest next go yl qd fin
   refine aQ (T.item X rfl rfl rfl hcalm i pins s3 σ3 H3 FF I3 (stat fr3) st3 go) λr s4 ⟨u,hr4,h4⟩=>?_;subst hr4;refine aQ h4 λ_ s5 ⟨x,H5,I5,r5,y5,st5,fr5⟩=>?_;obtain⟨x5,hM5,rd⟩:=yl x H5 y5;have I5':=I5.pinned (stat fr5) (T.obj _ _ st5);obtain⟨acc6,M6,e6,q6⟩:=aG qd;obtain⟨ρ1,M7,e7,e8⟩:=fj e6;cases eb:bU t d Z with
   |none=>rw[eb] at e7;cases e7
   | some ρ2 =>
     rw[eb] at e7;cases e7;have hg':=hg _ s5 σ3 H5 x u (λσ' H'=>H'=H5/\bb fa X.K μ3 H5 σ' ρ1) I5' r5 {μ3,Z,_,d,ρ1,hE3.ext x5,hM5,rd,eb,λσ1 h1=>⟨rfl,h1⟩};rw[hx] at hg';refine aQ hg' λ_ s6 ⟨σ6,H6,I6,eH,hE6⟩=>?_;subst eH;have hb':=hb _ s6 σ6 H6 (λσ' H'=>∃μ',fH a μ3 H6 μ' H'/\bb fa X.K μ' H' σ' ρ1/\RelM fa X.K μ' H' M6/\A μ' H' acc6) μ3 ρ1 _ acc3 I6 hE6 hM5 (clW d ρ1 eb) (sA _ _ _ _ _ x5 hA3) (by
      rw[e8];exact λσ' H' μ' z1 z2 z3 z4=>⟨μ',z1,z2,z3,z4⟩)
     rw[hx] at hb';refine aQ hb' λ_ s7 ⟨σ7,H7,I7,μ7,x7,hE7,hM7,hA7⟩=>?_;refine fin σ7 H7 μ7 M6 acc6 s7 I7.unpinned (T.keep _ _ _ st5 λb hb o e=>(I7.pin (b,o) (Pd _ (Pd _ (i3 hb e)))).1) (λb hb=>?_) ((x3.trans x5.toD).trans x7) (hE7.unbind eb clt) hM7 hA7 q6;obtain⟨o,e,dd⟩:=T.obj _ _ st5 b hb;exact(I7.pin (b,o) (Pd _ (Pd _ (i3 hb e)))).2.1
  have stop:J.stop i H3->ag (.ok acc3 M3) (WB fa X.K A a μ H Z Q)->wpAny (model X.prog X.w) X.A (pyNext (.ref it)) (λr s₁=>match r with
   |none=>(∃σ' H',Inv X pins σ' H' s₁/\Q σ' H')
   |some v=>wpAny (model X.prog X.w) X.A (letOwnedTupleGo tg (.ref it) v) (λ_ s₂=>wpAny (model X.prog X.w) X.A (assign tg X.env v) (λ_ s₃=>wpAny (model X.prog X.w) X.A body (λ_ s₄=>∃m,m<n/\P m (i+1) s₄) FF s₃) FF s₂) FF s₁) FF s3:=λhs q=>by
   refine aQ (T.done X rfl rfl rfl hcalm i pins s3 σ3 H3 FF I3 (stat fr3) st3 hs) λr s4 ⟨hr4,I4⟩=>?_;subst hr4;have q:WB fa X.K A a μ H Z Q acc3 M3:=q;exact{σ3,H3,I4,q σ3 H3 μ3 x3 hE3 hM3 hA3}
  cases n with
  |zero=>exact q3.elim
  | succ n =>
    unfold fO at q3;cases e2:w M3 with
    |none=>rw[e2] at q3;exact q3.elim
    | some ds =>
      rw[e2] at q3;dsimp only at q3;obtain⟨go,stp⟩:=wk μ3 H3 M3 ds x3.toExtW hM3 e2;cases ed:ds[i]? with
      | none =>
        rw[ed] at q3;exact stop (stp i (List.getElem?_eq_none_iff.mp ed)) q3
      | some d =>
        rw[ed] at q3;obtain⟨g1,g2⟩:=go i d ed;refine one d (fO (cK t g Z) w n (i+1)) (λ_ _=>True) g1 g2 q3 ?_;intro σ' H' μ' M' acc' s' z1 z2 z3 z4 z5 z6 z7 z8;exact{n,`a,σ',H',μ',M',acc',z1,z2,z3,z4,z5,z6,z7,z8}
 refine zN heq hd (λn s'=>∃i,P n i s') (λn s3 ⟨i,h3⟩=>?_) m0 {0,P0};refine aQ (hturn n i s3 h3) λr s1 h=>?_;cases r with
 |none=>exact⟨rfl,h⟩
 |some v=>exact aQ h λ_ s2 h=>aQ h λ_ s3 h=>aQ h λ_ s4 ⟨m,hm,h⟩=>{m,hm,i+1,h}
end
section
variable{prog:O2}{w:O9}{A:PR}{s:Oy}{R:Result->Oy->Prop}
def qW {elt t1 i1 t2 i2:Expr}{f1 f2:List Expr}{scope:Scope}{pos:Pos}{it acc:Ox}{env:Pp}
 (h0:codeAny (model prog w) A (.compLoop (.ListComp elt [{t1,i1,f1,0},{t2,i2,f2,0}] scope pos) 1 it acc env) R s)
 (h:wpAny (model prog w) A (pyIter it) (λit' s'=>codeAny (model prog w) A (.compLoop (.ListComp elt [{t1,i1,f1,0},{t2,i2,f2,0}] scope pos) 1 it' acc env) R s')
  (notedBy (model prog w) A env λx s'=>R (.error x) s') s) :
 codeAny (model prog w) A (.compStart (.ListComp elt [{t1,i1,f1,0},{t2,i2,f2,0}] scope pos) 1 it acc env) R s:=by
 refine codeAny_of_tree ?_;show wpAny _ _ ((compStart (.ListComp elt [{t1,i1,f1,0},{t2,i2,f2,0}] scope pos) 1 it acc env).onRaise (λx=>do noteFrame x env;standAt theWindowsPlace)) _ _ s
 refine wpAny_notedAt ?_;unfold compStart;show wpAny _ _ (ask >>= _) _ _ s;refine tqa (wpAny_askSetting (wpAny_ite ?_));split
 ·first
   |exact tqa (tqb (tqb (And.intro rfl h0)))
   |exact tqb (And.intro rfl h0)
 ·first
   |exact tqa (wpAny_rule (tqa (wpAny_standAt (tqa (wpAny_mono h (λit' s' h'=>tqb (And.intro rfl h')) λ_ _ x=>x)))))
   |(refine tqa (wpAny_rule ?_);show wpAny _ _ (standAt i2.pos >>= _) _ _ s;exact tqa (wpAny_standAt (tqa (wpAny_mono h (λit' s' h'=>tqb (And.intro rfl h')) λ_ _ x=>x))))
end
section
variable{fa:Fa}{X:Cx}{a:Addr}
def JZ {elt t1 i1 t2 i2:Expr}{scope:Scope}{pos:Pos}{t:cf}{gw:Env->Mem->Res Walk}{ge:Env->Mem->Res D}(hx:X.xe=FF)(hcalm:X.calm=true)(hi:DI fa X t2 i2 gw)(hg:PG X t2 (gT fa X.K t))(he:DE fa X elt ge)
 (hs:∀x,foldedSetIterable i2 X.env x=pure x) :
 DB fa X (LA fa X.K a) a (slots t) (eval i2 X.env >>= λx=>standAt i2.pos >>= λ_=>foldedSetIterable i2 X.env x >>= λx=>holding [x] (pyIter x) >>= λj=>runOwn (.compStart (.ListComp elt [{t1,i1,[],0},{t2,i2,[],0}] scope pos) 1 j (.ref a) X.env) X.env >>= λ_=>pure ()) (tG t gw (bw ge)):=by
 intro pins s σ H Q μ Z M acc I hE hM hc hA h;obtain⟨w,M1,e,q⟩:=aG h;refine tqa (aQ (hi pins s σ H (λJ H1=>∃μ1,Ext μ H μ1 H1/\RelM fa X.K μ1 H1 M1/\cW fa X.K μ1 H1 w J) I {μ,Z,M,hE,hM,?_}) λv s1 h1=>?_)
 ·rw[e];exact λJ H1 μ1 x1 m1 wk=>⟨μ1,x1,m1,wk⟩
 refine tqa (wpAny_standAt (tqa (wpAny_of_eq (hs v) (tqa (tqo (aQ h1 λitv s2 h2=>?_))))));obtain⟨it,fp,tn,J,H2,ei,I2,T,st2,f2,μ2,x2,m2,wk⟩:=h2;subst ei;have go:=qc LA.stab (W:=[]) (Q:=Q) (AI elt t1 i1 t2 i2 scope pos (.ref it) (.ref a) X.env) ⟨rfl,rfl⟩ hx hcalm T hg (pd he) (λi hi=>nomatch hi) I2 st2 f2 (hE.ext x2) m2 (by simpa using hc) (LA.stab _ _ _ _ _ x2 hA) wk (aP q λ_ _ z=>z.ext x2.toD)
 refine tqa (wpAny_runOwn (h:=none) ?_);have go':codeAny (model X.prog X.w) (X.A.mark none) (.compLoop (.ListComp elt [{t1,i1,[],0},{t2,i2,[],0}] scope pos) 1 (.ref it) (.ref a) X.env) (λr s'=>match r with|.ok f=>wpAny (model X.prog X.w) X.A (pure ():Sem Unit) (λ_ s'=>∃σ' H',Inv X pins σ' H' s'/\Q σ' H') X.xe s'|.error e=>cameBackBy (model X.prog X.w) X.A X.env X.xe e s') s2:=
  codeAny_mono go λr s' ⟨er,z⟩=>by subst er;exact tqb z
 exact qW go' (T.self _ 0 _ _ _ st2 go')
end
section
variable{fa:Fa}{K:Ow}{μ1 μ':Mu}{H1 H':Hp}{M1 M':Mem}{a:Addr}
def IZ (μ:Mu)(a:Addr):Mu:={μ.pub,a::μ.priv,μ.ob}
def mi (h:RelM fa K μ1 H1 M1)(ha:H1 a=none)(o:HO):ExtW μ1 H1 (IZ μ1 a) (upd H1 a o):=by
 have x:ExtW μ1 H1 μ1 (upd H1 a o):=(Ext.alloc h ha).toExtW;refine{x.mu,x.tups,λb vs e n=>{(x.lsts b vs e n).1,λz=>?_},x.frzs,x.exts,x.obs};rcases z with z|z
 ·exact n (.inl z)
 ·rcases O6.mp z with z|z
  ·subst z;rw[ha] at e;cases e
  ·exact n (.inr z)
def yv (h:RelM fa K μ1 H1 M1)(ha:H1 a=none)(vs:List V):RelM fa K (IZ μ1 a) (upd H1 a (.lst vs)) M1:=by
 have x:=mi h ha (.lst vs);refine{λk ds e=>(h.at' k ds e).imp (λ⟨b,ws,h1,h2,h3⟩=>{b,ws,h1,by rw[aD (aW h2 ha)];exact h2,h3.extW x}) λ⟨b,h1,h2,h3⟩=>{b,h1,h2,h3.extW x (aD (h3.new ha))},h.out,h.oout,h.inj,h.oinj,h.sep,λb hb=>?_}
 ·rcases O6.mp hb with z|z
  ·subst z;exact{⟨vs,cm⟩,λk e=>by
    obtain⟨_,_,_,q,_⟩:=h.mu_lt e;rw[ha] at q;cases q}
  ·obtain⟨⟨ws,q⟩,n⟩:=h.pv b z;exact{{ws,by rw[aD (aW q ha)];exact q},n}
def Fh {m:Bool}{acc:List D}{vs:List V}{Q:VK}(h:RelM fa K μ1 H1 M1)(ha:H1 a=none)(x:fH a (IZ μ1 a) (upd H1 a (.lst [])) μ' H')(hM:RelM fa K μ' H' M')(hH:H' a=some (.lst vs))(hr:aI fa K μ' H' acc vs)
 (q:ag (br m acc M') (aX fa K μ1 H1 Q)):Q (.ref a) H':=by
 have na:a∉μ1.priv:=λz=>h.pne ha z rfl;have hp:μ'.priv=a::μ1.priv:=x.pr;have nk:∀k,μ'.pub k≠some a:=(hM.pv a (by rw[hp];exact O4)).2
 have x0:=mi h ha (.lst []);have xe:Ext μ1 H1 ⟨μ'.pub,μ1.priv,μ'.ob⟩ H':=by
  refine{{λk b e=>x.mu k b e,λb ws e=>x.tups b ws (x0.tups b ws e),λb ws e n=>?_,λb ob u e=>x.frzs b ob u (x0.frzs b ob u e),λb o i e=>x.exts b o i (x0.exts b o i e),λk b e=>x.obs k b (x0.obs k b e)},rfl,λb hb=>?_}
  ·obtain⟨z1,z2⟩:=x0.lsts b ws e n;obtain⟨z3,z4⟩:=x.lsts b ws z1 z2;refine{z3,λz=>z4 ?_};rcases z with z|z
   ·exact .inl z
   ·exact .inr (by rw[hp];exact OP _ z)
  ·have nb:b≠a:=λe=>na (by rw[<- e];exact hb)
   rw[x.pk b (OP _ hb) nb,aD nb]
 have xw:ExtW μ' H' ⟨μ'.pub,μ1.priv,μ'.ob⟩ H':={λ_ _ e=>e,λ_ _ e=>e,λb ws e n=>{e,λz=>n (z.elim .inl λz=>.inr (by rw[hp];exact OP _ z))},λ_ _ _ e=>e,λ_ _ _ e=>e,λ_ _ e=>e}
 have me:RelM fa K ⟨μ'.pub,μ1.priv,μ'.ob⟩ H' M':={λk ds e=>(hM.at' k ds e).imp (λ⟨b,ws,h1,h2,h3⟩=>{b,ws,h1,h2,h3.extW xw}) λ⟨b,h1,h2,h3⟩=>{b,h1,h2,h3.extW xw rfl},hM.out,hM.oout,hM.inj,hM.oinj,hM.sep,λb hb=>hM.pv b (by rw[hp];exact OP _ hb)}
 have re:aI fa K ⟨μ'.pub,μ1.priv,μ'.ob⟩ H' acc vs:=hr.extW xw;have nMt:¬ (⟨μ'.pub,μ1.priv,μ'.ob⟩:Mu).Mt a:=λz=>z.elim (λ⟨k,e⟩=>nk k e) na;unfold br at q;split at q
 ·cases m with
  | false =>
    have q:aX fa K μ1 H1 Q (.lst acc) M':=q;exact q (.ref a) H' _ xe me {a,vs,rfl,⟨hH,nMt⟩,re}
  | true =>
    have q:aX fa K μ1 H1 Q (.cell M'.length) (M'++[acc]):=q;have pc:∀k b,(fN ⟨μ'.pub,μ1.priv,μ'.ob⟩ M'.length a).pub k=some b->(k=M'.length/\b=a)\/(k≠M'.length/\μ'.pub k=some b):=λk b e=>by
     have e:(if k=M'.length then some a else μ'.pub k)=some b:=e;split at e
     ·next z=>cases e;exact .inl ⟨z,rfl⟩
     ·next z=>exact .inr ⟨z,e⟩
    have mc:∀k b,μ'.pub k=some b->(fN ⟨μ'.pub,μ1.priv,μ'.ob⟩ M'.length a).pub k=some b:=λk b e=>by
     show(if k=M'.length then some a else μ'.pub k)=some b;split
     ·next z=>rw[z,hM.out _ (OC _)] at e;cases e
     ·exact e
    have ac:(fN ⟨μ'.pub,μ1.priv,μ'.ob⟩ M'.length a).pub M'.length=some a:=by
     show(if M'.length=M'.length then some a else _)=some a;rw[if_pos rfl]
    have nc:∀b,¬ μ'.Mt b->¬ (fN ⟨μ'.pub,μ1.priv,μ'.ob⟩ M'.length a).Mt b:=λb n z=>by
     rcases z with⟨k,z⟩|z
     ·rcases pc k b z with⟨_,e⟩|⟨_,e⟩
      ·exact n (.inr (by rw[hp,e];exact O4))
      ·exact n (.inl ⟨k,e⟩)
     ·exact n (.inr (by rw[hp];exact OP _ z))
    have xc:ExtW μ' H' (fN ⟨μ'.pub,μ1.priv,μ'.ob⟩ M'.length a) H':={mc,λ_ _ e=>e,λb ws e n=>{e,nc b n},λ_ _ _ e=>e,λ_ _ _ e=>e,λ_ _ e=>e};have xe2:Ext μ1 H1 (fN ⟨μ'.pub,μ1.priv,μ'.ob⟩ M'.length a) H':=by
     refine{{λk b e=>mc k b (x.mu k b e),xe.tups,λb ws e n=>?_,xe.frzs,xe.exts,xe.obs},rfl,xe.pk};obtain⟨z1,z2⟩:=x0.lsts b ws e n;obtain⟨z3,z4⟩:=x.lsts b ws z1 z2;exact{z3,nc b z4}
    have mce:RelM fa K (fN ⟨μ'.pub,μ1.priv,μ'.ob⟩ M'.length a) H' (M'++[acc]):=by
     refine{λk ds e=>?_,λk hk=>?_,λk hk=>hM.oout k (by simp at hk;omega),λj k b e1 e2=>?_,hM.oinj,λk b z=>?_,λb hb=>?_}
     ·by_cases hk:k<M'.length
      ·rw[OG hk] at e;rcases hM.at' k ds e with⟨b,ws,h1,h2,h3⟩|⟨b,h1,h2,h3⟩
       ·exact .inl {b,ws,mc k b h1,h2,h3.extW xc}
       ·exact .inr {b,h1,by show(if k=M'.length then some a else μ'.pub k)=none;rw[if_neg (Pm hk)];exact h2,h3.extW xc rfl}
      ·have hk':k=M'.length:=by
        have:=(Ov.mp e).1;simp at this;omega
       subst hk';rw[O5 (OC _)] at e;simp at e;subst e;exact .inl {a,vs,ac,hH,hr.extW xc}
     ·simp at hk;show(if k=M'.length then some a else μ'.pub k)=none;rw[if_neg `a]
      exact hM.out k `a
     ·rcases pc j b e1 with⟨j1,j2⟩|⟨j1,j2⟩<;>rcases pc k b e2 with⟨k1,k2⟩|⟨k1,k2⟩
      ·omega
      ·exact absurd (j2 ▸ k2) (nk k)
      ·exact absurd (k2 ▸ j2) (nk j)
      ·exact hM.inj j k b j2 k2
     ·show μ'.ob (aE k)=none;rcases pc k b z with⟨e,_⟩|⟨_,e⟩
      ·rw[e];exact hM.oout _ (OC _)
      ·exact hM.sep k b e
     ·have hb:b∈μ1.priv:=hb;obtain⟨z1,z2⟩:=hM.pv b (by rw[hp];exact OP _ hb)
      refine{z1,λk e=>?_};rcases pc k b e with⟨_,e⟩|⟨_,e⟩
      ·exact na (e ▸ hb)
      ·exact z2 k e
    exact q (.ref a) H' _ xe2 mce ⟨a,rfl,ac⟩
 ·exact q.elim
end
section
variable{fa:Fa}{X:Cx}
def bo (m:Bool)(n:Nat)(t:cf)(gw:Env->Mem->Res Walk)(g:Env->List D->Mem->Res (List D)):Env->Mem->Res D:=λZ M=>
 (gw Z M).bind λw M=>(dg (cK t g (List.replicate n none++Z)) w [] M).bind (br m)
def mB (X:Cx)(elt tg iter:Expr)(ifs:List Expr)(rest:List Qb)(scope:Scope)(pos:Pos)(body:Addr->Pp->Sem Unit):Prop:=
 ∀(it a:Addr) (env:Pp),compTurn (.ListComp elt ({tg,iter,ifs,0}::rest) scope pos) 0 (.ref it) (.ref a) env=(standAt iter.pos >>= λ_=>pyNext (.ref it) >>= λr=>match r with
  |none=>pure (.done .next)
  |some v=>letOwnedTupleGo tg (.ref it) v >>= λ_=>assign tg env v >>= λ_=>body a env >>= λ_=>again (.compLoop (.ListComp elt ({tg,iter,ifs,0}::rest) scope pos) 0 (.ref it) (.ref a) env))
structure Block (fa:Fa) (X:Cx) (A:Addr->PA) (own bn:List Str) (scope:Scope) (tg:Expr) (t:cf) (W:List Nat) (body:Addr->Pp->Sem Unit) (g:Env->List D->Mem->Res (List D)):Prop where
 pg:∀cl C fp s H,PG (fD X own bn scope cl C fp s H) tg (gT fa X.K t)
 db:∀cl C fp s H a,DB fa (fD X own bn scope cl C fp s H) (A a) a W (body a (compEnvC scope cl C X.env)) g
def qJ {n:Nat}{W:List Nat}{Z:Env}(h:∀i∈W,i<n):Clear W (List.replicate n none++Z):=λi hi d e=>by
 rw[OG (by simpa using h i hi),QG] at e
 simp[h i hi] at e
def so {K:Ow}{μ:Mu}{H:Hp}{σ:L2.St}{Z:Env}(n:Nat)(h:bb fa K μ H σ Z):bb fa K μ H (List.replicate n none++σ) (List.replicate n none++Z):=by
 refine{by simp[h.len],λi d e=>?_}
 by_cases hi:i<n
 ·rw[OG (by simpa using hi),QG] at e
  simp[hi] at e
 ·rw[O5 `o] at e ⊢
  simp only[List.length_replicate] at e ⊢;exact h.at' _ d e
def pf {elt tg iter:Expr}{ifs:List Expr}{rest:List Qb}{scope:Scope}{pos p0:Pos}{own bn:List Str}{t:cf}{W:List Nat}{body:Addr->Pp->Sem Unit}{gw:Env->Mem->Res Walk}{g:Env->List D->Mem->Res (List D)}{m:Bool}
 (S:fv X own bn scope) (hcalm:X.calm=true) (hi:DI fa X tg iter gw) (B:Block fa X (LA fa X.K) own bn scope tg t W body g) (hT:mB X elt tg iter ifs rest scope pos body) (hW:∀i∈W,i∉slots t) (hn:∀i∈slots t++W,i<own.length)
 (hs:∀x,foldedSetIterable iter X.env x=pure x) {use:Option (Ox->Sem Unit)}{QQ:Ox->Oy->Prop}
 {pins:List (Addr×Obj)}{s:Oy}{σ:L2.St}{H:Hp}{Q:VK}{μ:Mu}{Z:Env}{M:Mem} (I:Inv X pins σ H s) (hE:bb fa X.K μ H σ Z) (hM:RelM fa X.K μ H M) (h:ag (bo m own.length t gw g Z M) (aX fa X.K μ H Q))
 (post:∀(a C:Addr) (s':Oy) (H':Hp),Inv X pins σ H' s'->Q (.ref a) H'->(∃m,s'.heap.Ns C m)->(∀σ2 H2 s2,Inv X pins σ2 H2 s2->(H' C=none->H2 C=none)->H2 C=none/\∀h'',Qd C s2.heap h''->Inv X pins σ2 H2 {s2 with heap:=h''})->H' C=none->(C≠X.env.locals/\∀x c,X.env.cells.lookup x=some c->c≠C)->compPost (model X.prog X.w) X.A X.xe use QQ (.ref a) C (.ok .next) s') :
 wpAny (model X.prog X.w) X.A (comprehension (.ListComp elt ({tg,iter,ifs,0}::rest) scope pos) scope X.env p0 (newList []) false (eval iter X.env) use) QQ X.xe s:=by
 obtain⟨w,M1,ew,q⟩:=aG h;obtain⟨acc,M2,ea,q2⟩:=aG q;obtain⟨cl,hcl,hsub,hhas⟩:=lI (scope:=scope) (env:=X.env) λy hy hf=>I.ok.has y.1 (S.free y hy hf);refine wpAny_comprehension_free (use:=use) rfl hs hcl S.kind S.loc ?_;refine aQ (hi pins s σ H (λJ H1=>∃μ1,Ext μ H μ1 H1/\RelM fa X.K μ1 H1 M1/\cW fa X.K μ1 H1 w J) I {μ,Z,M,hE,hM,?_}) λv s1 h1=>aQ h1 λitv s2 h2=>?_
 ·rw[ew];exact λJ H1 μ1 x1 m1 wk=>⟨μ1,x1,m1,wk⟩
 obtain⟨it,fp,tn,J,H2,ei,I2,T,st2,f2,μ2,x2,m2,wk⟩:=h2;subst ei;refine wpAny_newObj_type ?_;have ha:H2 s2.heap.objs.size=none:=I2.hok.fresh (OC _);have I3:Inv X pins σ (upd H2 s2.heap.objs.size (.lst [])) {s2 with heap:=s2.heap.push {cls:=.type "list",dict:=none,data:=.seq ([]:List Ox).toArray}}:=
  I2.laid (t':=s2.toks) (λb o e=>OA _ e) (OC _) {Qc _,[],_,.nil,OJ _ rfl}
 generalize hs3:({s2 with heap:=s2.heap.push {cls:=.type "list",dict:=none,data:=.seq ([]:List Ox).toArray}}:Oy)=s3 at I3 ⊢
 have k3:∀b o,s2.heap.get? b=some o->s3.heap.get? b=some o:=λb o e=>by rw[<- hs3];exact OA _ e
 have fo2:=T.obj _ _ st2;have f3:∀b∈fp,fG X pins (upd H2 s2.heap.objs.size (.lst [])) b:=λb hb=>by
  obtain⟨o,e,_⟩:=fo2 b hb;exact{by rw[aD (Pm (OS e))];exact(f2 b hb).1,(f2 b hb).2}
 have fo3:∀b∈fp,∃o,s3.heap.get? b=some o:=λb hb=>let{o,e,_}:=fo2 b hb;{o,k3 b o e}
 obtain⟨CL,hce⟩:=DU S hsub hhas (s3.heap.push {cls:=.type "dict",data:=.dict #[]}) (n:=s3.heap.objs.size) (Qv ..);generalize hcl':cellsFrom (s3.heap.objs.size+1) scope.names cl=cl' at CL hce;refine qG ?_;rw[hcl'];have hns₁:(pushCells (s3.heap.push {cls:=.type "dict",data:=.dict #[]}) scope.names).Ns s3.heap.objs.size (λ_=>none):=(Heap.Ns.new s3.heap (.type "dict")).keeps (pushCells_keeps _ _);have k4:∀b o,s3.heap.get? b=some o->(pushCells (s3.heap.push {cls:=.type "dict",data:=.dict #[]}) scope.names).get? b=some o:=λb o e=>pushCells_keeps _ _ b o (OA _ e);generalize pushCells (s3.heap.push {cls:=.type "dict",data:=.dict #[]}) scope.names=h₁ at hns₁ k4 hce ⊢;clear hcl hcl' hsub hhas cl
 rename List (Str×Addr)=>cl
 have I4:=tW (own:=own) (bn:=bn) (t':=s3.toks) I3 S CL f3 fo3 hns₁ k4 hce;have ok4:=I4.ok;have f4:∀b∈fp,fG (fD X own bn scope cl s3.heap.objs.size fp s3 (upd H2 s2.heap.objs.size (.lst []))) [] (upd H2 s2.heap.objs.size (.lst [])) b:=λb hb=>
  {(f3 b hb).1,(ok4.exf b hb).1,ok4.exfs b hb,.inl hb,(ok4.exf b hb).2,λp hp=>nomatch hp}
 have st4:tn 0 h₁:=T.keep _ _ _ st2 λb hb o e=>k4 b o (k3 b o e);have x3:=mi m2 ha (.lst []);have go:=qc LA.stab (X:=fD X own bn scope cl s3.heap.objs.size fp s3 (upd H2 s2.heap.objs.size (.lst []))) (fa:=fa) (a:=s2.heap.objs.size) (W:=W) (t:=t) (g:=g) (acc:=[]) (Q:=λ_ H'=>Q (.ref s2.heap.objs.size) H') (hT it s2.heap.objs.size _) ⟨rfl,rfl⟩ rfl hcalm T (B.pg _ _ _ _ _) (B.db _ _ _ _ _ _) hW I4 st4 f4
  (so own.length ((hE.ext x2).extW x3)) (yv m2 ha []) (qJ hn) {O4,_,cm,rfl} (qp wk x3) (by
   rw[ea];rintro σ' H' μ' z1 z2 z3 ⟨_,vs',z4,z5⟩;exact Fh (m:=m) m2 ha z1 z3 z4 z5 (lP q2 x2))
 have go':codeAny (model X.prog X.w) X.A (.compLoop (.ListComp elt ({tg,iter,ifs,0}::rest) scope pos) 0 (.ref it) (.ref s2.heap.objs.size) (compEnvC scope cl s3.heap.objs.size X.env)) (compPost (model X.prog X.w) X.A X.xe use QQ (.ref s2.heap.objs.size) s3.heap.objs.size) {s3 with heap:=h₁}:=
  codeAny_mono go λr s' ⟨er,σ',H',I',z⟩=>by
   subst er;refine post _ _ s' H' (comp_back I3 f3 I') z (let{m,hn,_}:=I'.loc;⟨m,hn⟩) (λσ2 H2 s2' I2' hf=>{hf I'.free,λh'' hs''=>qI I3 (hf I'.free) I2' hs''}) I'.free {PM I3.lt,λx c e z=>by
    obtain⟨v,q⟩:=I3.cell x c e;exact absurd q.lt (by rw[z];exact P5 _)}
 exact codeAny_compStart_list go' (T.self _ 0 _ _ _ st4 go')
def zH (m:Bool){elt tg iter:Expr}{ifs:List Expr}{rest:List Qb}{scope:Scope}{pos:Pos}{own bn:List Str}{t:cf}{W:List Nat}{body:Addr->Pp->Sem Unit}{gw:Env->Mem->Res Walk}{g:Env->List D->Mem->Res (List D)}
 (S:fv X own bn scope) (hcalm:X.calm=true) (hi:DI fa X tg iter gw) (B:Block fa X (LA fa X.K) own bn scope tg t W body g) (hT:mB X elt tg iter ifs rest scope pos body) (hW:∀i∈W,i∉slots t) (hn:∀i∈slots t++W,i<own.length)
 (hs:∀x,foldedSetIterable iter X.env x=pure x):DE fa X (.ListComp elt ({tg,iter,ifs,0}::rest) scope pos) (bo m own.length t gw g):=by
 intro pins s σ H Q I ⟨μ,Z,M,hE,hM,h⟩;rw[eval_ListComp];refine pf (use:=none) S hcalm hi B hT hW hn hs I hE hM h ?_;intro a C s' H' I' q ⟨m,hn⟩ gone hf _;exact{m,hn,λh' hs'=>{.ref a,H',(gone σ H' s' I' id).2 h' hs',rfl,q}}
def wJ (m:Bool){i:Nat}{y:Str}{py spos:Pos}{elt tg iter:Expr}{ifs:List Expr}{rest:List Qb}{scope:Scope}{pos:Pos}{own bn:List Str}{t:cf}{W:List Nat}{body:Addr->Pp->Sem Unit}{gw:Env->Mem->Res Walk}{g:Env->List D->Mem->Res (List D)}
 (S:fv X own bn scope) (hcalm:X.calm=true) (hi:DI fa X tg iter gw) (B:Block fa X (LA fa X.K) own bn scope tg t W body g) (hT:mB X elt tg iter ifs rest scope pos body) (hW:∀i∈W,i∉slots t) (hn:∀i∈slots t++W,i<own.length)
 (hs:∀x,foldedSetIterable iter X.env x=pure x) (hN:X.N.Nodup) (hy:X.N[i]?=some y) (hl:X.env.scope.names.lookup y=some .local)
 (hsw:swapsWith (.ListComp elt ({tg,iter,ifs,0}::rest) scope pos) (some (.Name y py)) spos.line X.env=pure true) :
 DS fa X (.Assign [.Name y py] (.ListComp elt ({tg,iter,ifs,0}::rest) scope pos) spos) (λZ M=>(bo m own.length t gw g Z M).bind λx M=>(b6 M (bU (.one i) x Z)).bind λρ1 M=>.ok (.next ρ1) M):=by
 intro pins s σ H D' I ⟨μ,Z,M,hE,hM,h⟩;obtain⟨x,M1,ex,q⟩:=aG h;have q:∀σ' H' μ',Ext μ H μ' H'->bb fa X.K μ' H' σ' (Z.set i (some x))->RelM fa X.K μ' H' M1->D'.nx σ' H':=q;rw[exec_Assign_Name_used _ _ _ _ hsw];refine tqa (wpAny_standAt (tqa ?_));show wpAny _ X.A (do let _ <- comprehension (.ListComp elt ({tg,iter,ifs,0}::rest) scope pos) scope X.env _ (newList []) false (eval iter X.env) (some (assign (.Name y py) X.env))) _ _ s
 refine tqa (aQ (pf (use:=some (assign (.Name y py) X.env)) (QQ:=λ_ s'=>SP X pins D' .next s') (Q:=λv H'=>D'.nx (σ.set i (some v)) H') S hcalm hi B hT hW hn hs I hE hM (by
  rw[ex];exact λv H' μ' x1 m1 r1=>q _ H' μ' x1 ((hE.ext x1).set r1) m1) ?_) λ_ s' hq=>tqb (tqb hq))
 intro a C s' H' I' q ⟨m,hn⟩ gone hf ⟨nL,nC⟩;refine wpAny_assign_Name (qw I' hN hy (.inl hl) (v:=.ref a) rfl (λs2 I2 ⟨b,hb,hb2⟩=>?_) (.inr hl));have nb:C≠b:=by
  rcases hb2 with z|z
  ·rw[z];exact nL
  ·exact PN (nC y b z)
 exact{m,hn.sameBut hb nb,λh' hs'=>{_,H',(gone _ H' s2 I2 id).2 h' hs',q}}
end
section
variable{X:Cx}{pins:List (Addr×Obj)}{σ:L2.St}{H:Hp}{s:Oy}{h':Heap}{t':Nat}{ch:List Addr}
def uC (I:Inv X pins σ H s)(hf:∀b∈ch,fG X pins H b)(k:∀b o,b∉ch->s.heap.get? b=some o->h'.get? b=some o):Inv X pins σ H {s with heap:=h',toks:=t'}:=by
 have nit:∀b u,H b=some u->b∉ch:=λb u e z=>by rw[(hf b z).1] at e;cases e
 refine I.step (g':=s.gens) (d':=s.drawn) (ch:=ch) (λb hb=>{(hf b hb).2.2.2.1,(hf b hb).2.1,(hf b hb).2.2.2.2.1,(hf b hb).2.2.2.2.2}) (λb o _ _ hc e _=>k b o hc e) (λb o _ _ hc e _=>{o.slots,k b o hc e}) (λ_ _ _ _ n=>n)
  (λb o hc e=>{o,k b o hc e}) (λ_ _ e=>e) (λ_ _ _ e=>e) (λb ps e=>{#[],by rw[e];simp}) (λm hm=>?_) (λb u e=>?_) I.bare
 ·obtain⟨o,es,ep,ho,r⟩:=hm;exact{o,es,ep,k _ o (λz=>(hf _ z).2.1 rfl) ho,r}
 ·refine(I.hok b u e).stay (λc v hc q=>k c v ?_ q) (λ_ q=>q) λ_ _ q=>q;rcases hc with z|z
  ·rw[z];exact nit b u e
  ·exact nit c _ z
def qt {T:Addr}{o:HO}(I:Inv X pins σ H s)(hf:∀b∈ch,fG X pins H b)(k:∀b o,b∉ch->s.heap.get? b=some o->h'.get? b=some o)(hT:s.heap.objs.size<=T)(new:bI X.prog X.w (upd H T o) h' T o) :
 Inv X pins σ (upd H T o) {s with heap:=h',toks:=t'}:=by
 have hn:H T=none:=I.hok.fresh hT;have nit:∀b u,H b=some u->b∉ch:=λb u e z=>by rw[(hf b z).1] at e;cases e
 refine I.step (g':=s.gens) (d':=s.drawn) (ch:=ch) (λb hb=>{(hf b hb).2.2.2.1,(hf b hb).2.1,(hf b hb).2.2.2.2.1,(hf b hb).2.2.2.2.2}) (λb o _ _ hc e _=>k b o hc e) (λb o _ _ hc e _=>{o.slots,k b o hc e})
  (λb o _ e n=>by rw[aD (Pm (O1 (OS e) hT))];exact n)
  (λb o hc e=>{o,k b o hc e}) (λb xs e=>by rw[aD (aW e hn)];exact e) (λb ob u e=>by rw[aD (aW e hn)];exact e) (λb ps e=>{#[],by rw[aD (aW e hn),e];simp}) (λm hm=>?_) (λb u e=>?_) I.bare
 ·obtain⟨o,es,ep,ho,r⟩:=hm;exact{o,es,ep,k _ o (λz=>(hf _ z).2.1 rfl) ho,r}
 ·by_cases hb:b=T
  ·subst hb;rw[cm] at e;cases e;exact new
  ·rw[aD hb] at e;refine(I.hok b u e).stay (λc v hc q=>k c v ?_ q) (λc q=>by rw[aD (aW q hn)];exact q) λc xs q=>by rw[aD (aW q hn)];exact q
   rcases hc with z|z
   ·rw[z];exact nit b u e
   ·exact nit c _ z
end
section
variable{fa:Fa}{X:Cx}{a:Expr}{ga:Env->Mem->Res D}{pos p:Pos}
def mr:∀(ds:List D) (k i:Nat),(dY k ds)[i]?=(ds[i]?).map λd=>.tup [.int ((k+i:Nat):Int),d]
 |[],_,_=>by simp[dY]
 |d::ds,k,0=>by simp[dY]
 | d :: ds, k, i + 1 => by
   have:=mr ds (k+1) i;simp only[dY,QI,this]
   congr 1
   funext d
   congr 3
   omega
def mj:∀(ds:List D) (k:Nat),(dY k ds).length=ds.length
 |[],_=>rfl
 |d::ds,k=>by simp[dY,mj ds]
end
def bR:Bool->Heap->Addr->Array Ox->Prop
 |true,h,a,its=>h.IsList a its
 |false,h,a,its=>h.IsTuple a its
def fo:Bool->Heap->Addr->Addr->Nat->Prop
 |true,h,it,a,i=>h.IsListIter it a i
 |false,h,it,a,i=>h.IsTupleIter it a i
def bR.extBut {b:Bool}{h h':Heap}{a c:Addr}{its:Array Ox}(x:bR b h a its)(hs:Heap.ExtBut c h h')(n:a≠c):bR b h' a its:=by
 cases b<;>(obtain⟨o,ho,r⟩:=x;exact{o,hs a o n ho,r})
def fo.extBut {b:Bool}{h h':Heap}{it a c:Addr}{i:Nat}(x:fo b h it a i)(hs:Heap.ExtBut c h h')(n:it≠c):fo b h' it a i:=by
 cases b<;>(obtain⟨o,ho,r⟩:=x;exact{o,hs it o n ho,r})
def bR.at {b:Bool}{h h':Heap}{a:Addr}{its:Array Ox}(x:bR b h a its)(k:∀o,h.get? a=some o->h'.get? a=some o):bR b h' a its:=by
 cases b<;>(obtain⟨o,ho,r⟩:=x;exact{o,k o ho,r})
def fo.at {b:Bool}{h h':Heap}{it a:Addr}{i:Nat}(x:fo b h it a i)(k:∀o,h.get? it=some o->h'.get? it=some o):fo b h' it a i:=by
 cases b<;>(obtain⟨o,ho,r⟩:=x;exact{o,k o ho,r})
def fo.obj {b:Bool}{h:Heap}{it a:Addr}{i:Nat}(x:fo b h it a i):∃o,h.get? it=some o/\∀v,o.data≠.cell v:=by
 cases b<;>(obtain⟨o,ho,c,d⟩:=x;exact{o,ho,λv z=>by rw[d] at z;cases z})
section
variable{prog:O2}{w:O9}{A:PR}{E:Ox->Oy->Prop}{s:Oy}
def uq {a b:Nat}(h:a≠b):@Ne Addr a b:=h
def GZ {T:Addr}{its:Array Ox}{k:Nat}{x:Ox}{Q:Unit->Oy->Prop}(hT:s.heap.get? T=some {cls:=.type "tuple",data:=.seq its})(hz:its.size<=64)
 (h:∀h',h'.get? T=some {cls:=.type "tuple",data:=.seq (its.setIfInBounds k x)}->Qd T s.heap h'->Q () {s with heap:=h'}) :
 wpAny (model prog w) A (updateSeq T (·.setIfInBounds k x)) Q E s:=by
 refine wpAny_updateSeq hT rfl (h _ ?_ (PH ..)) (OZ hz `d) (by rw[Array.size_setIfInBounds];exact OZ hz `d)
 rw[PX _ hT rfl];simp[Obj.mapSeq]
def iZ {b:Bool}{it a:Addr}{i:Nat}{its:Array Ox}{Q:Ox->Oy->Prop}(hh:A.handled=none)(hit:fo b s.heap it a i)(hl:bR b s.heap a its)
 (hQ:∀x h',its[i]?=some x->fo b h' it a (i+1)->Qd it s.heap h'->Q x {s with heap:=h'})
 (hE:its[i]?=none->∀h' e,Heap.ExtBut it s.heap h'->(∃o,h'.get? e=some o/\o.cls=.type "StopIteration")->E (.ref e) {s with heap:=h'}):wpAny (model prog w) A (Builtin.SmallTypes.nextOf (.ref it)) Q E s:=by
 cases b with
 | true => cases hx : its[i]? with
   |some x=>exact wpAny_nextOf_list_item hit hl hx λh'=>hQ x h' hx
   |none=>exact wpAny_nextOf_list_end hh hit hl hx (hE hx)
 | false =>
   have hit:s.heap.IsTupleIter it a i:=hit;obtain⟨o,ho,hc,hd⟩:=id hit;obtain⟨ol,hol,_,nl,hdl⟩:=hl;unfold Builtin.SmallTypes.nextOf;refine tqa (wpAny_callSpecial?_slot (name:=Str.ofString "__next__") hit.typeIs F.slot_tuple_iterator_next
    (wpAny_call_entry F.slot_tuple_iterator_next hit.typeIs F.entry_tuple_iterator_next ?_ (F.args_tuple_iterator_next_1 _)))
   show wpAny _ _ (field (.ref it) 0 >>= _) _ _ s;refine tqa (tqf ho hd (x:=.ref a) rfl ?_);show wpAny _ _ (if (Value.ref a==Value.none)=true then _ else _) _ _ s;rw[if_neg (show ¬ ((Value.ref a==Value.none)=true) from OR)];show wpAny _ _ (field (.ref it) 1 >>= _) _ _ s;refine tqa (tqf ho hd (x:=.int i 0) rfl ?_);show wpAny _ _ (seqItems? (.ref a) >>= _) _ _ s;refine tqa (wpAny_seqItems hol hdl ?_);cases hx:its[i]? with
   | some x =>
     simp only[Qp,hx];refine tqa (wpAny_setField ho hd `s (tqb {x,rfl,tqb (hQ x _ hx ?_ (PH ..))}))
     exact{_,PX _ ho (QB (PQ hd _)),(Obj.cls_mapFields ..).trans hc,by
      rw[PQ hd];simp[rawInt]}
   | none =>
     simp only[Qp,hx];refine tqa (wpAny_rule (tqa (wpAny_setField ho hd `s ?_)))
     show wpAny _ _ (newExc (.type "StopIteration") [] >>= _) _ _ _;refine tqa ?_;simp only[newExc,newTuple];refine tqa (wpAny_newObj_type ?_ (by size_fits))
     refine tqa (m:=firstArgMember _ _) (wpAny_of_eq (a:=Value.none) (by first|rfl|(simp only[firstArgMember];rfl)) ?_)
     refine wpAny_newObj_type ?_ (by size_fits)
     simp only[raiseNew];refine tqa (wpAny_handled ?_);first|rw[show A.in1.handled=none from hh]|rw[hh]
     refine tqa (tqb (wpAny_throw ?_));exact hE hx _ _ (((PH ..).extBut.push _).push _) {_,OJ _ rfl,rfl}
abbrev jo (us:Array Ox):Obj:={cls:=.type "tuple",data:=.seq us}
def pH (n k j:Nat):List Ox:=(List.range' k j).map λk=>Value.ref (n+k)
def wZ (n m:Nat)(h h':Heap):Prop:=∀(c:Nat) o,(c<n\/c=n+m\/n+m+2<c)->h.get? c=some o->h'.get? c=some o
def xg (n i k:Nat)(l:List (Bool×Nat))(h:Heap):Prop:=∀(j:Nat) b a,l[j]?=some (b,a)->fo b h (n+j) a (if j<k then i+1 else i)
def Kl (n:Nat)(l:List (Bool×Nat))(xs:Nat->Array Ox)(h:Heap):Prop:=∀(j:Nat) b a,l[j]?=some (b,a)->a<n/\bR b h a (xs j)
abbrev m5 (h:Heap)(n m:Nat)(v:Ox):Prop:=IsZip h (n+m+2) (n+m) (n+m+1) v
def N8 (n m i k:Nat)(l:List (Bool×Nat))(xs:Nat->Array Ox)(h0 h:Heap):Prop:=m5 h n m .ellipsis/\(∃us:Array Ox,us.size=m/\(∀j<k,us[j]?=(xs j)[i]?)/\h.get? (n+m+1)=some (jo us))/\xg n i k l h/\Kl n l xs h/\wZ n m h0 h/\h.objs.size=h0.objs.size
def Dp {M:Model}{β:Type}{f:Ox×Nat->β->Sem (ForInStep β)}{b:β}{Q:β->Oy->Prop}(n m:Nat)(I:Nat->Oy->Prop)
 (hs:∀k s,k<m->I k s->wpAny M A (f (.ref (n+k),k) b) (λr s'=>r=.yield b/\I (k+1) s') E s) (hQ:∀s,I m s->Q b s):∀(j k:Nat) (s:Oy),k+j=m->I k s->wpAny M A (forIn ((pH n k j).zipIdx k) b f) Q E s
 |0,k,s,e,h=>tqb (hQ s (e ▸ h))
 | j + 1, k, s, e, h => by
   show wpAny M A (forIn ((Value.ref (n+k),k)::(pH n (k+1) j).zipIdx (k+1)) b f) Q E s;rw[List.forIn_cons];refine tqa (aQ (hs k s `a h) ?_)
   rintro _ s' ⟨rfl,h'⟩;exact Dp n m I hs hQ j (k+1) s' `a h'
def rG {n m i:Nat}{l:List (Bool×Nat)}{xs:Nat->Array Ox}{us:Array Ox}{Q:Ox->Oy->Prop}(hh:A.handled=none)(hl:l.length=m+1)(h64:m<64)
 (hz:m5 s.heap n (m+1) .none) (hTI:s.heap.get? (n+(m+1))=some (jo (pH n 0 (m+1)).toArray)) (hTO:s.heap.get? (n+(m+1)+1)=some (jo us)) (hu:us.size=m+1) (hi:xg n i 0 l s.heap) (hq:Kl n l xs s.heap)
 (hQ:∀h' us,us.size=m+1->(∀k<m+1,us[k]?=(xs k)[i]?)->m5 h' n (m+1) (rawInt s.heap.objs.size)->h'.get? (n+(m+1)+1)=some (jo us)->xg n (i+1) 0 l h'->h'.get? s.heap.objs.size=some (jo us)->wZ n (m+1) s.heap h'->Q (.ref s.heap.objs.size) {s with heap:=h'})
 (hE:∀h' e k,k<m+1->(xs k)[i]?=none->wZ n (m+1) s.heap h'->(∃o,h'.get? e=some o/\o.cls=.type "StopIteration")->E (.ref e) {s with heap:=h'}) :
 wpAny (model prog w) A (Builtin.«zip.__next__» {[.ref (n+(m+1)+2)],[]}) (λfin s'=>∃v,fin=.done (.ret v)/\Q v s') E s:=by
 show wpAny _ _ (field (.ref (n+(m+1)+2)) 2 >>= _) _ _ _;refine tqa (tqf hz rfl (x:=.bool false) rfl ?_);show wpAny _ _ (field (.ref (n+(m+1)+2)) 3 >>= _) _ _ _;refine tqa (tqf hz rfl (x:=.ref (n+(m+1))) rfl ?_);refine tqa (wpAny_seqItems hTI rfl ?_);show wpAny _ _ (Builtin.SmallTypes.ownedTupleIsFree (.ref (n+(m+1)+2)) >>= _) _ _ _;refine tqa ?_;unfold Builtin.SmallTypes.ownedTupleIsFree;refine tqa (tqf hz rfl (x:=.none) rfl (tqb ?_));simp only[if_true];refine tqa (wpAny_rule ?_);refine tqa (tqf hz rfl (x:=.ref (n+(m+1)+1)) rfl ?_);refine tqa (wpAny_setField_rec hz `s λh0 hz0 hs0=>?_)
 have u0:∀(c:Nat) o,c≠n+(m+1)+2->s.heap.get? c=some o->h0.get? c=some o:=λc o ne=>hs0.extBut c o ne;have mm:∀{j b a},l[j]?=some (b,a)->j<m+1:=λe=>hl ▸ (Ov.mp e).1;refine tqa (Dp n (m+1) (λk s'=>∃h,s'={s with heap:=h}/\N8 n (m+1) i k l xs s.heap h) ?_ ?_ (m+1) 0 _ (Nat.zero_add _) {h0,rfl,hz0,{us,hu,λ_ z=>absurd z (Qq _),u0 _ _ `a hTO},λj b a e=>(hi j b a e).at λo=>u0 _ o (by have:=mm e;omega),λj b a e=>{(hq j b a e).1,(hq j b a e).2.at λo=>u0 _ o (by have:=(hq j b a e).1;omega)},λc o hc=>u0 c o `a,hs0.1})
 ·rintro k _ hk ⟨h,rfl,hz,⟨us,hu,hx,hT⟩,hi,hq,kp,sz⟩;obtain⟨⟨b,a⟩,e⟩:∃p,l[k]?=some p:={_,OO `a}
  have it:=hi k b a e;rw[if_neg (P5 k)] at it;refine tqa (wpAny_onRaise ?_);show wpAny _ _ (Builtin.SmallTypes.nextOf (.ref (n+k)) >>= _) _ _ _;refine tqa (iZ hh it (hq k b a e).2 (λx h1 ex j1 hs1=>tqb ?_) λen h1 e1 hs1 ⟨oe,hoe,hce⟩=>?_)
  ·have hT1:=hs1.extBut _ _ (uq `a) hT
   refine tqa (wpAny_seqItems hT1 rfl ?_);refine tqa (GZ hT1 `a λh2 hT2 hs2=>?_)
   have up:∀(c:Nat) o,c≠n+k->c≠n+(m+1)+1->h.get? c=some o->h2.get? c=some o:=λc o x y z=>hs2.extBut c o y (hs1.extBut c o x z);refine tqa (wpAny_letGo (tqb {rfl,h2,rfl,up _ _ `a `a hz,{_,(Array.size_setIfInBounds ..).trans hu,λj hj=>?_,hT2},λj b' a' e'=>?_,λj b a e=>{(hq j b a e).1,(hq j b a e).2.at λo=>up _ o (by have:=(hq j b a e).1;omega) (by have:=(hq j b a e).1;omega)},λc o hc x=>up c o `a `a (kp c o hc x),by rw[hs2.1,hs1.1,sz]}))
   ·by_cases jk:j=k
    ·subst jk;rw[Array.getElem?_setIfInBounds_self_of_lt `a,ex]
    ·rw[Array.getElem?_setIfInBounds_ne (PN jk),hx j `a]
   ·by_cases jk:j=k
    ·subst jk;cases e.symm.trans e';rw[if_pos (Nat.lt_succ_self _)];exact j1.at λo=>hs2.extBut _ o (uq `a)
    ·have q:=hi j b' a' e';have:=mm e';rw[show(if j<k+1 then i+1 else i)=if j<k then i+1 else i by split<;>split<;>omega]
     exact q.at λo=>up _ o `a `a
  ·have hz1:=hs1 _ _ (uq `a) hz
   have hez:e1≠n+(m+1)+2:=λx=>by subst x;rw[hz1] at hoe;cases hoe;simp at hce
   exact wpAny_setField_rec hz1 `s λh2 _ hs2=>hE h2 e1 k hk en (λc o hc x=>hs2.extBut _ _ (uq `a) (hs1 _ _ (uq `a) (kp c o hc x))) {oe,hs2.extBut _ _ hez hoe,hce}
 ·rintro _ ⟨h4,rfl,hz4,⟨us,hu,hx,hT⟩,hi,hq,kp,sz4⟩;refine tqa (wpAny_seqItems hT rfl ?_);refine tqa (wpAny_newTuple (hsz:=OZ (show us.toList.length<=64 by rw[QC];omega) `d) ?_)
  have hzlt:n+(m+1)+2<h4.objs.size:=OS hz4;show wpAny _ _ (Builtin.SmallTypes.ownedTupleHandOut (.ref (n+(m+1)+2)) (.ref h4.objs.size) >>= _) _ _ _;refine tqa ?_;unfold Builtin.SmallTypes.ownedTupleHandOut;have hz6:m5 (h4.push (jo us)) n (m+1) .ellipsis:=OA _ hz4;refine tqa (wpAny_setField_rec hz6 `s λh7 hz7 hs7=>?_)
  replace hz7:m5 h7 n (m+1) (rawInt h4.objs.size):=hz7;refine wpAny_setField_rec hz7 `s λh8 hz8 hs8=>?_
  have up:∀(c:Nat) o,c≠n+(m+1)+2->(h4.push (jo us)).get? c=some o->h8.get? c=some o:=λc o c1 e=>hs8.extBut _ _ c1 (hs7.extBut _ _ c1 e);refine tqb {_,rfl,?_};show Q (.ref h4.objs.size) _;have hT8:=up h4.objs.size _ (PM hzlt) (OJ _ rfl);rw[sz4] at hT8 hz8 ⊢;refine hQ h8 us hu hx hz8 (up _ _ `a (OA _ hT)) (λj b a e=>?_) hT8 λc o hc e=>up c o `a (OA _ (kp c o hc e))
  have q:=hi j b a e;rw[if_pos (mm e)] at q;exact q.at λo e'=>up _ o (by have:=mm e;omega) (OA _ e')
end
def iN (K:Ow)(H:Hp):Bool->Addr->List V->Prop
 |true,a,xs=>cX K H a xs
 |false,a,xs=>dH K H a xs
def iq:D->Bool
 |.tup _=>false
 |_=>true
def fY:D->Bool
 |.tup _=>true
 |.lst _=>true
 |.frz _=>true
 |.cell _=>true
 |_=>false
def mI {X:Cx}{pins:List (Addr×Obj)}{σ:L2.St}{H:Hp}{s:Oy}{b:Bool}{a:Addr}{xs:List V}(I:Inv X pins σ H s)(h:iN X.K H b a xs):∃its:List Ox,Vals xs its/\bR b s.heap a its.toArray:=by
 cases b with
 |true=>obtain⟨its,r,p,_⟩:=I.list h;exact⟨its,r,p.isList⟩
 |false=>obtain⟨its,r,p,_⟩:=I.tuple h;exact⟨its,r,p⟩
def kU {X:Cx}{pins:List (Addr×Obj)}{σ:L2.St}{H:Hp}{s:Oy}{b:Bool}{a:Addr}{xs ys:List V}(I:Inv X pins σ H s)(h:iN X.K H b a xs)(h':iN X.K H b a ys):xs=ys:=by
 cases b with
 |true=>exact I.list_inj h h'
 |false=>exact I.tuple_inj h h'
def kT {fa:Fa}{X:Cx}{μ:Mu}{H:Hp}{M:Mem}{d:D}{a:Addr}{ds:List D}(hM:RelM fa X.K μ H M)(h:Rep fa X.K μ H d (.ref a))(e:b5 M d=some ds):∃vs,iN X.K H (iq d) a vs/\aI fa X.K μ H ds vs:=by
 cases d with
 |tup xs=>cases e;obtain⟨a',vs,e,s,r⟩:=h;cases e;exact⟨vs,s,r⟩
 |lst xs=>obtain⟨a',vs,e',s,r⟩:=bx hM h (show dE M (.lst xs)=some ds from e);cases e';exact⟨vs,s,r⟩
 |frz xs=>obtain⟨a',vs,e',s,r⟩:=bx hM h (show dE M (.frz xs)=some ds from e);cases e';exact⟨vs,s,r⟩
 |cell k=>obtain⟨a',vs,e',s,r⟩:=bx hM h (show dE M (.cell k)=some ds from e);cases e';exact⟨vs,s,r⟩
 |_=>cases e
def nv {fa:Fa}{X:Cx}{pins:List (Addr×Obj)}{σ:L2.St}{μ:Mu}{H:Hp}{s:Oy}{M:Mem}{d:D}{v:V}(I:Inv X pins σ H s)(hM:RelM fa X.K μ H M)(h:Rep fa X.K μ H d v)(e:fY d=true):∃(a:Nat) (its:Array Ox),v=.ref a/\bR (iq d) s.heap a its:=by
 have key:∀ds,b5 M d=some ds->∃(a:Nat) (its:Array Ox),v=.ref a/\bR (iq d) s.heap a its:=λds z=>by
  obtain⟨a,vs,rfl,_,_⟩:=jt hM h z;obtain⟨vs,s1,_⟩:=kT hM h z;obtain⟨its,_,p⟩:=mI I s1;exact⟨a,its.toArray,rfl,p⟩
 cases d with
 |tup xs=>exact key xs rfl
 |lst xs=>exact key xs rfl
 |frz xs=>exact key xs rfl
 | cell k =>
   obtain⟨a,e,hk⟩:=id h;obtain⟨ds,_,z,_⟩:=hM.mu_lt hk;exact key ds z
 |_=>cases e
def bR.lt {b:Bool}{h:Heap}{a:Addr}{its:Array Ox}(x:bR b h a its):a<h.objs.size:=by
 cases b<;>(obtain⟨o,ho,r⟩:=x;exact OS ho)
def bR.push {b:Bool}{h:Heap}{a:Addr}{its:Array Ox}(x:bR b h a its)(ob:Obj):bR b (h.push ob) a its:=by
 cases b<;>(obtain⟨o,ho,r⟩:=x;exact{o,OA _ ho,r})
def fP (b:Bool)(a:Addr):Obj:={cls:=.type (if b then "list_iterator" else "tuple_iterator"),data:=.fields #[.ref a,.int 0 0]}
def fo.new {b:Bool}{h:Heap}{it a:Addr}(e:h.get? it=some (fP b a)):fo b h it a 0:=by
 cases b<;>exact{_,e,rfl,rfl}
def ot {prog:O2}{w:O9}{A:PR}{E:Ox->Oy->Prop}{s:Oy}{b:Bool}{a:Addr}{its:Array Ox}{Q:Ox->Oy->Prop}(h:bR b s.heap a its)(hQ:Q (.ref s.heap.objs.size) {s with heap:=s.heap.push (fP b a)}):wpAny (model prog w) A (pyIter (.ref a)) Q E s:=by
 cases b with
 |true=>exact wpAny_pyIter_list h hQ
 |false=>exact wpAny_pyIter_tuple h hQ
abbrev jH:=List (Bool×Nat)
def Kp (K:Ow)(l:jH):It:=
 {λi H => ∀ (j : Nat) b a, l[j]? = some (b, a) -> ∃ xs x, iN K H b a xs /\ xs[i]? = some x,
  λi H v H'=>∃p ys,H p=none/\v=.ref p/\H'=upd H p (.tup ys)/\ys.length=l.length/\∀(j:Nat) b a,l[j]?=some (b,a)->∀xs,iN K H b a xs->ys[j]?=xs[i]?,
  λi H=>(∀(j:Nat) b a,l[j]?=some (b,a)->∃xs,iN K H b a xs)/\∃(j:Nat) (b:Bool) (a:Nat) (xs:List V),l[j]?=some (b,a)/\iN K H b a xs/\xs.length<=i}
def wY (n m:Nat)(l:jH)(i:Nat)(h:Heap):Prop:=m5 h n (m+1) .none/\h.get? (n+(m+1))=some (jo (pH n 0 (m+1)).toArray)/\(∃us:Array Ox,us.size=m+1/\h.get? (n+(m+1)+1)=some (jo us))/\xg n i 0 l h
def GK (n m:Nat):List Addr:=List.range' n (m+4)
def eA {n m b:Nat}:b∈GK n m↔n<=b/\b<n+(m+4):=List.mem_range'_1
def C7 {X:Cx}{pins:List (Addr×Obj)}{σ:L2.St}{H:Hp}{s:Oy}{l:jH}(I:Inv X pins σ H s)(h:∀(j:Nat) b a,l[j]?=some (b,a)->∃xs,iN X.K H b a xs) :
 ∃(vs:Nat->List V) (ws:Nat->List Ox),∀(j:Nat) b a,l[j]?=some (b,a)->iN X.K H b a (vs j)/\Vals (vs j) (ws j)/\bR b s.heap a (ws j).toArray:=by
 obtain⟨f,hf⟩:=Classical.skolem.mp λj:Nat=>show ∃p:List V×List Ox,∀b a,l[j]?=some (b,a)->iN X.K H b a p.1/\Vals p.1 p.2/\bR b s.heap a p.2.toArray from by
  cases e:l[j]? with
  |none=>exact{([],[]),λ_ _ z=>by cases z}
  | some p =>
    obtain⟨xs,hx⟩:=h j p.1 p.2 e;obtain⟨its,r,q⟩:=mI I hx;exact{(xs,its),λb' a' z=>by cases z;exact⟨hx,r,q⟩}
 exact{λj=>(f j).1,λj=>(f j).2,hf}
def CP:∀{us:List Ox}{R:Nat->V->Prop},(∀(k:Nat) w,us[k]?=some w->∃y,RelV y w/\R k y)->∃ys,Vals ys us/\∀(k:Nat) y,ys[k]?=some y->R k y
 |[],R,_=>{[],.nil,λ_ _ z=>by simp at z}
 | w :: r, R, h => by
   obtain⟨y,e,q⟩:=h 0 w rfl;obtain⟨ys,v,t⟩:=CP (R:=λk=>R (k+1)) λk w e=>h (k+1) w e;exact{y::ys,.cons e v,λk z e=>match k,e with
    |0,e=>by cases e;exact q
    |k+1,e=>t k z e}
def AG {P:O2}{w:O9}{K:Ow}{elts:List Expr}{kk:Nat}{pos:Pos}(n m:Nat)(l:jH)(hl:l.length=m+1)(h64:m<64)(hn:∀(j:Nat) b a,l[j]?=some (b,a)->a<n) :
 Turn P w K (.Tuple elts kk pos) (Kp K l) (GK n m) (n+(m+1)+2) (λi h=>wY n m l i h) where
 mem:=eA.mpr `a
 obj:=λi h ⟨h1,h2,⟨us,_,h3⟩,hi⟩ (b:Nat) hb=>by
  replace hb:=eA.mp hb;by_cases c:b<n+(m+1)
  ·obtain⟨j,rfl⟩:∃j,b=n+j:={b-n,`a}
   exact(hi j _ _ (OO `a)).obj
  ·rcases(show b=n+(m+1)\/b=n+(m+1)+1\/b=n+(m+1)+2 by omega) with rfl|rfl|rfl
   ·exact{_,h2,λv z=>by cases z}
   ·exact{_,h3,λv z=>by cases z}
   ·exact{_,h1,λv z=>by cases z}
 keep:=λi h h' ⟨h1,h2,⟨us,hu,h3⟩,hi⟩ k=>{k _ (eA.mpr `a) _ h1,k _ (eA.mpr `a) _ h2,{us,hu,k _ (eA.mpr `a) _ h3},λj b a e=>(hi j b a e).at (k _ (eA.mpr (by have:=(Ov.mp e).1;omega)))}
 item:=by
  intro X hP hw hK hc i pins s σ H E I hf {h1,h2,⟨us,hu,h3⟩,hi} hg;subst hP hw hK;obtain⟨vs,ws,hv⟩:=C7 I λj b a e=>(hg j b a e).imp λ_ ⟨_,h,_⟩=>h;have it:∀k,k<m+1->∃x w b a,l[k]?=some (b,a)/\(vs k)[i]?=some x/\(ws k)[i]?=some w/\RelV x w:=λk hk=>by
   have e:l[k]?=some (l[k]'(`a)):=OO _
   obtain⟨xs,x,hx,ex⟩:=hg k _ _ e;obtain⟨q1,q2,_⟩:=hv k _ _ e;rw[kU I hx q1] at ex;obtain⟨w,hw,r⟩:=q2.get ex;exact{x,w,_,_,e,ex,hw,r}
  have hT:s.TypeIs (.ref (n+(m+1)+2)) "zip":={_,h1,rfl};unfold pyNext;refine tqa (wpAny_attempt (wpAny_callSpecial?_slot (name:=Str.ofString "__next__") hT F.slot_zip_next
   (wpAny_call_entry F.slot_zip_next hT F.entry_zip_next
    (rG (E:=_) (xs:=λj=>(ws j).toArray) (I.ok.hd hc) hl h64 h1 h2 h3 hu hi (λj b a e=>{hn j b a e,(hv j b a e).2.2}) (λh4 us hu hx z1 z2 g hTT hk=>tqb {_,rfl,?_}) λh' e k hk en _ _=>?_) (F.args_zip_next_1 _))))
  ·have zlt:n+(m+1)+2<s.heap.objs.size:=OS h1;refine wpAny_letOwnedTupleGo_zip (s:={s with heap:=h4}) z1 λh5 hz5 hs5=>?_
   have up:∀(c:Nat) o,c≠n+(m+1)+2->h4.get? c=some o->h5.get? c=some o:=λc o=>hs5.extBut c o;obtain⟨ys,vy,ty⟩:=CP (us:=us.toList) (R:=λj y=>(vs j)[i]?=some y) λk w e=>by
    have hk:k<m+1:=by have:=(Ov.mp e).1;rw[QC] at this;omega
    obtain⟨x,w',_,_,_,ex,ew,r⟩:=it k hk;have q:=hx k hk;rw[Array.getElem?_toList] at e;simp only[List.getElem?_toArray] at q;rw[e,ew] at q;cases q;exact⟨x,r,ex⟩
   have ly:ys.length=m+1:=by rw[vy.length,QC,hu]
   refine{.ref s.heap.objs.size,upd H s.heap.objs.size (.tup ys),qt (s:=s) (t':=s.toks) I hf (λ(b:Nat) o hb q=>up b o (λz=>hb (eA.mpr `a)) (hk b o (by rw[eA] at hb;omega) q)) (OC _) {by rw[ly];exact OZ (show m+1<=64 by omega) `d,us.toList,vy,{_,up _ _ (PM zlt) hTT,rfl,_,rfl}},rfl,
    {_,ys,I.hok.fresh (OC _),rfl,rfl,ly.trans hl.symm,λj b a e xs hx=>?_},{hz5,up _ _ `a (hk _ _ `a h2),{us,hu,up _ _ `a z2},λj b a e=>(g j b a e).at λo=>up _ o (by have:=(Ov.mp e).1;omega)},λ(b:Nat) hb=>?_}
   ·have hj:j<ys.length:=by have:=(Ov.mp e).1;omega
    have e1:=OO hj;rw[kU I hx (hv j b a e).1,ty j _ e1,e1]
   ·rw[eA] at hb;rw[aD (Pm (by omega:(b:Nat)<s.heap.objs.size))];exact(hf b (eA.mpr hb)).1
  ·obtain⟨_,_,_,_,_,_,ew,_⟩:=it k hk;simp only[List.getElem?_toArray] at en;rw[ew] at en;cases en
 done:=by
  intro X hP hw hK hc i pins s σ H E I hf {h1,h2,⟨us,hu,h3⟩,hi} ⟨hs,k,b,a,xs,ek,hq,le⟩;subst hP hw hK;obtain⟨vs,ws,hv⟩:=C7 I hs;have hT:s.TypeIs (.ref (n+(m+1)+2)) "zip":={_,h1,rfl};unfold pyNext;refine tqa (wpAny_attempt (wpAny_callSpecial?_slot (name:=Str.ofString "__next__") hT F.slot_zip_next
   (wpAny_call_entry F.slot_zip_next hT F.entry_zip_next
    (rG (E:=_) (xs:=λj=>(ws j).toArray) (I.ok.hd hc) hl h64 h1 h2 h3 hu hi (λj b a e=>{hn j b a e,(hv j b a e).2.2}) (λh4 us hu hx _ _ _ _ _=>?_) λh' e k _ _ hk he=>?_) (F.args_zip_next_1 _))))
  ·exfalso;have hk:=(Ov.mp ek).1;have q:=hx k `a
   obtain⟨q1,q2,_⟩:=hv k b a ek;rw[Array.getElem?_eq_getElem `a] at q
   simp only[List.getElem?_toArray] at q;rw[List.getElem?_eq_none (by rw[<- q2.length,kU I q1 hq];exact le)] at q
   cases q
  ·obtain⟨o,ho,hcl⟩:=he;refine tqa (wpAny_isInstance (T:="StopIteration") (b:=true) ⟨o,ho,hcl⟩ isSubtype_stop ?_);exact tqb {rfl,uC (s:=s) I hf (t':=s.toks) λ(b:Nat) o hb q=>hk b o (by rw[eA] at hb;omega) q}
 self:=λ_ _ _ _ _ st h=>wpAny_pyIter_zip st.1 h
def ik (h:Heap):jH->Heap
 |[]=>h
 |p::r=>ik (h.push (fP p.1 p.2)) r
def q8 (h:Heap):jH->List Ox
 |[]=>[]
 |p::r=>.ref h.objs.size::q8 (h.push (fP p.1 p.2)) r
def ow:∀{h:Heap}{l:jH},(ik h l).objs.size=h.objs.size+l.length
 |_,[]=>rfl
 |h,p::r=>by show(ik _ r).objs.size=_;rw[ow,Qv,Ql];omega
def lZ:∀{l:jH}{h:Heap}{c:Nat}{o:Obj},h.get? c=some o->(ik h l).get? c=some o
 |[],_,_,_,e=>e
 |_::r,_,_,_,e=>lZ (l:=r) (OA _ e)
def qz:∀{l:jH}{h:Heap}{j:Nat}{p:Bool×Nat},l[j]?=some p->(ik h l).get? (h.objs.size+j)=some (fP p.1 p.2)
 |_::r,h,0,_,e=>by cases e;exact lZ (l:=r) (OJ _ rfl)
 | q :: r, h, j + 1, _, e => by
   have:=qz (l:=r) (h:=h.push (fP q.1 q.2)) (j:=j) e;rw[Qv,QM,Nat.add_comm 1] at this;exact this
def sD:∀{l:jH}{h:Heap}{n k:Nat},h.objs.size=n+k->q8 h l=pH n k l.length
 |[],_,_,_,_=>rfl
 | p :: r, h, n, k, e => by
   have:=sD (l:=r) (h:=h.push (fP p.1 p.2)) (n:=n) (k:=k+1) (by rw[Qv,e];rfl)
   show Value.ref h.objs.size::q8 _ r=Value.ref (n+k)::pH n (k+1) r.length;rw[this,e]
abbrev CC (h:Heap)(l:jH):Heap:=(ik h l).push (jo (q8 h l).toArray)
abbrev xm (h:Heap)(l:jH):Heap:=(CC h l).push (jo (l.map λ_=>Value.none).toArray)
abbrev rK (h:Heap)(l:jH):Heap:=(xm h l).push {cls:=.type "zip",data:=.fields #[.none,.bool false,.bool false,.ref (ik h l).objs.size,.ref (CC h l).objs.size]}
def Eh (h:Heap){l:jH}{m:Nat}(hl:l.length=m+1):(xm h l).objs.size=h.objs.size+(m+1)+2/\wY h.objs.size m l 0 (rK h l)/\∀c o,h.get? c=some o->(rK h l).get? c=some o:=by
 have s0:(ik h l).objs.size=h.objs.size+(m+1):=by rw[ow,hl]
 have s1:(CC h l).objs.size=h.objs.size+(m+1)+1:=by rw[Qv,s0]
 have s2:(xm h l).objs.size=h.objs.size+(m+1)+2:=by rw[Qv,s1]
 have up:∀{c:Nat}{o},(ik h l).get? c=some o->(rK h l).get? c=some o:=λe=>OA _ (OA _ (OA _ e));have g1:(rK h l).get? (ik h l).objs.size=some _:=OA _ (OA _ (OJ _ rfl));have g2:(rK h l).get? (CC h l).objs.size=some _:=OA _ (OJ _ rfl);have g3:(rK h l).get? (xm h l).objs.size=some _:=OJ _ rfl;rw[s0,sD (Nat.add_zero _).symm,hl] at g1;rw[s1] at g2;rw[s2,s1,s0] at g3;exact{s2,{g3,g1,{_,by simp[hl],g2},λj b a e=>fo.new (up (qz e))},λc o e=>up (lZ e)}
def wd (b0:Bool)(a0:Nat)(b1:Bool)(a1:Nat)(xs0 xs1:Array Ox) :
 Meets (Builtin.«zip.__new__» {[.type "zip",.ref a0,.ref a1],[]}) (λ_ R s=>bR b0 s.heap a0 xs0/\bR b1 s.heap a1 xs1/\
  R (.ok (.ret (.ref (xm s.heap [(b0,a0),(b1,a1)]).objs.size))) {s with heap:=rK s.heap [(b0,a0),(b1,a1)]}):=
 .of_wp λprog w A R s h=>by
  obtain⟨hp,g,d,tk,os⟩:=s;obtain⟨q0,q1,h⟩:=h;have hsub:=sub_zip;have L0:bR b0 (Shared.heap ⟨hp,g,d,tk,os⟩) a0 xs0:=q0;have L1:bR b1 (Shared.heap {hp.push (fP b0 a0),g,d,tk,os}) a1 xs1:=(q1).push _;wp_walk using ot L0,ot L1
  exact{_,rfl,h}
section
variable{prog:O2}{w:O9}{A:PR}{E:Ox->Oy->Prop}{s:Oy}{a0 a1 a2:Nat}{b0 b1 b2:Bool}{xs0 xs1 xs2:Array Ox}{Q:Ox->Oy->Prop}
def zS (q0:bR b0 s.heap a0 xs0)(q1:bR b1 s.heap a1 xs1)(h:∀h',wY s.heap.objs.size 1 [(b0,a0),(b1,a1)] 0 h'->(∀c o,s.heap.get? c=some o->h'.get? c=some o)->Q (.ref (s.heap.objs.size+2+2)) {s with heap:=h'}) :
 wpAny (model prog w) A (call (.type "zip") [.ref a0,.ref a1]) Q E s:=by
 obtain⟨z,y,x⟩:=Eh s.heap (l:=[(b0,a0),(b1,a1)]) (m:=1) rfl;refine callType_new F.called_zip `d (F.typeCall_zip_2 _ _) (F.newCall_zip_2 _ _) (λobj=>F.args_object_init_3 obj _ _) F.entry_zip_new (wd b0 a0 b1 a1 xs0 xs1) {q0,q1,?_}
 show _/\_;rw[z];exact{{_,y.1,rfl},h _ y x}
end
def n6 (d0 d1:D):Walk:=λM=>(b5 M d0).bind λy0=>(b5 M d1).map λy1=>iQ y0 y1
def oU (g0 g1:Env->Mem->Res D):Env->Mem->Res Walk:=λZ M=>(g0 Z M).bind λd0 M=>(g1 Z M).bind λd1 M=>if fY d0&&fY d1 then .ok (n6 d0 d1) M else .bad
def rJ:∀(y0 y1:List D) (i:Nat) (d:D),(iQ y0 y1)[i]?=some d↔∃e0 e1,y0[i]?=some e0/\y1[i]?=some e1/\d=.tup [e0,e1]
 |c0::t0,c1::t1,0,d=>by simp[iQ,eq_comm]
 | c0 :: t0, c1 :: t1, i + 1, d => by
   have:=rJ t0 t1 i d;simpa[iQ] using this
 |[],_,i,d=>by simp[iQ]
 |_::_,[],i,d=>by simp[iQ]
def rH:∀(y0 y1:List D) (i:Nat),(iQ y0 y1).length<=i->y0.length<=i\/y1.length<=i
 |c0::t0,c1::t1,0,h=>by simp[iQ] at h
 | c0 :: t0, c1 :: t1, i + 1, h => by
   have:=rH t0 t1 i (by simpa[iQ] using h)
   simpa using this
 |[],_,i,h=>`s
 |_::_,[],i,h=>`s
def Dc {fa:Fa}{K:Ow}{μ:Mu}{H:Hp}:∀{es:List D}{ws:List V},es.length=ws.length->(∀(j:Nat) e w,es[j]?=some e->ws[j]?=some w->Rep fa K μ H e w)->aI fa K μ H es ws
 |[],[],_,_=>rfl
 |e::es,w::ws,hl,h=>{w,ws,rfl,h 0 e w rfl rfl,Dc (by simpa using hl) λj e w=>h (j+1) e w}
def Al {fa:Fa}{X:Cx}{μ0:Mu}{H0:Hp}{l:jH}{w:Walk} (hw:∀μ H M ds,ExtW μ0 H0 μ H->RelM fa X.K μ H M->w M=some ds->∃ys:List (List D),ys.length=l.length/\(∀(j:Nat) y b a,ys[j]?=some y->l[j]?=some (b,a)->∃vs,iN X.K H b a vs/\aI fa X.K μ H y vs)/\
 (∀(i:Nat) d,ds[i]?=some d->∃es,d=.tup es/\es.map some=ys.map (·[i]?))/\∀i,ds.length<=i->∃y∈ys,y.length<=i):cW fa X.K μ0 H0 w (Kp X.K l):=λμ H M ds x hM e=>by
 obtain⟨ys,hl,hv,hd,he⟩:=hw μ H M ds x hM e;have at_:∀(j:Nat) b a,l[j]?=some (b,a)->∃y vs,ys[j]?=some y/\iN X.K H b a vs/\aI fa X.K μ H y vs:=λj b a e=>by
  have hj:=(Ov.mp e).1;have ey:=OO (l:=ys) (i:=j) `a
  obtain⟨vs,q,r⟩:=hv j _ b a ey e;exact{_,vs,ey,q,r}
 refine{λi d hi=>?_,λi hi=>{λj b a e=>?_,?_}}
 ·obtain⟨es,rfl,ee⟩:=hd i d hi;have ej:∀{j:Nat}{y:List D},ys[j]?=some y->es[j]?.map some=some y[i]?:=λ{j y} ey=>by
   have:=congrArg (·[j]?) ee;simpa[ey] using this
  have le:es.length=l.length:=by have:=congrArg List.length ee;simpa[hl] using this
  have it:∀(j:Nat) b a,l[j]?=some (b,a)->∃vs e v,es[j]?=some e/\iN X.K H b a vs/\vs[i]?=some v/\Rep fa X.K μ H e v:=λj b a e=>by
   obtain⟨y,vs,ey,q,r⟩:=at_ j b a e;have z:=ej ey;cases h:es[j]? with
   |none=>rw[h] at z;cases z
   | some e =>
     rw[h] at z;obtain⟨v,hv,rv⟩:=r.get (OD z).symm;exact⟨vs,e,v,rfl,q,hv,rv⟩
  refine{λj b a e=>?_,λy H' ⟨p,zs,hp,ey,eH,lz,t⟩=>?_}
  ·obtain⟨vs,_,v,_,q,hv,_⟩:=it j b a e;exact⟨vs,v,q,hv⟩
  subst eH ey;refine{Ext.alloc hM hp,hM.alloc hp,p,zs,rfl,.inl (.inl cm),Dc (le.trans lz.symm) λj e w ee ew=>?_};have el:=OO (l:=l) (i:=j) (by have:=(Ov.mp ee).1;omega)
  obtain⟨vs,e',v,h1,q,hv,rv⟩:=it j _ _ el;have z:=t j _ _ el vs q;rw[ew,hv] at z;rw[ee] at h1;cases z;cases h1;exact rv.ext (Ext.alloc hM hp)
 ·obtain⟨_,vs,_,q,_⟩:=at_ j b a e;exact⟨vs,q⟩
 ·obtain⟨y,hy,ly⟩:=he i hi;obtain⟨j,ej⟩:=Qz hy;have el:=OO (l:=l) (i:=j) (by have:=(Ov.mp ej).1;omega)
  obtain⟨vs,q,r⟩:=hv j y _ _ ej el;exact{j,_,_,vs,el,q,by rw[r.length];exact ly}
section
variable{fa:Fa}{X:Cx}{μ0:Mu}{H0:Hp}{d0 d1 d2:D}{a0 a1 a2:Nat}(r0:Rep fa X.K μ0 H0 d0 (.ref a0))(r1:Rep fa X.K μ0 H0 d1 (.ref a1))(r2:Rep fa X.K μ0 H0 d2 (.ref a2))
include r0 r1
theorem xt:cW fa X.K μ0 H0 (n6 d0 d1) (Kp X.K [(iq d0,a0),(iq d1,a1)]):=Al λμ H M ds x hM e=>by
 obtain⟨y0,s0,e⟩:=Pq.mp e;obtain⟨y1,s1,rfl⟩:=OW.mp e;refine{[y0,y1],rfl,λj y b a ey el=>?_,λi d hd=>?_,λi hi=>?_}
 ·match j,ey,el with
  |0,ey,el=>cases ey;cases el;exact kT hM (Rep.extW x r0) s0
  |1,ey,el=>cases ey;cases el;exact kT hM (Rep.extW x r1) s1
 ·obtain⟨e0,e1,h0,h1,rfl⟩:=(rJ y0 y1 i d).mp hd;exact{_,rfl,by simp[h0,h1]}
 ·rcases rH y0 y1 i hi with z|z<;>exact{_,`s,z}
include r2
end
def Gd {fa:Fa}{X:Cx}{elts:List Expr}{kk:Nat}{tp p pos:Pos}{e0 e1:Expr}{g0 g1:Env->Mem->Res D}(h0:DE fa X e0 g0)(h1:DE fa X e1 g1)(hg:Gl X "zip")(hm:X.mg "zip"=none)
 (hs0:starEach [e0,e1] X.env=[(false,eval e0 X.env),(false,eval e1 X.env)]) (hs1:starEach [e1] X.env=[(false,eval e1 X.env)]):DI fa X (.Tuple elts kk tp) (.Call (.Name "zip" p) [e0,e1] [] pos) (oU g0 g1):=by
 intro pins s σ H R I ⟨μ,Z,M,hE,hM,h⟩;obtain⟨d0,M0,c0,t0⟩:=aG h;obtain⟨d1,M1,c1,t1⟩:=aG t0;split at t1
 ·next hsq=>
  simp only[OF] at hsq;obtain⟨hq0,hq1⟩:=hsq;refine Call_ (gZ I hg hm boot_zip (PU (aQ (c7 h0 (c7 h1 ft hs1) (by rw[hs0,hs1]) pos pins s σ H (λvs H1=>∃v0 v1 μ1,vs=[v0,v1]/\Ext μ H μ1 H1/\RelM fa X.K μ1 H1 M1/\Rep fa X.K μ1 H1 d0 v0/\Rep fa X.K μ1 H1 d1 v1) I ?_) λus s1 ⟨vs,H1,I1,r1,v0,v1,μ1,ev,x1,m1,rv0,rv1⟩=>?_) (by rw[hs0,hs1]) (by rw[hs1];rfl)))
  ·refine{μ,Z,M,hE,hM,?_};rw[c0];intro v0 H1 μ1 x1 m1 r0;refine{μ1,Z,M0,(hE.ext x1),m1,?_};rw[c1];intro v1 H2 μ2 x2 m2 r1;exact{v0,v1,μ2,rfl,(x1.trans x2),m2,(r0.ext x2),r1}
  subst ev;obtain⟨a0,its0,rfl,z0⟩:=nv I1 m1 rv0 hq0;obtain⟨a1,its1,rfl,z1⟩:=nv I1 m1 rv1 hq1;cases r1 with
  | cons y0 r1 =>
    cases r1 with
    | cons y1 r1 =>
      cases r1;obtain rfl:=y0;obtain rfl:=y1;refine zS z0 z1 λh1 za hk=>?_;have I2:Inv X pins σ H1 {s1 with heap:=h1}:=I1.kept (t':=s1.toks) hk
      refine wpAny_pyIter_zip (s:={s1 with heap:=h1}) za.1 ?_
      refine{s1.heap.objs.size+2+2,GK s1.heap.objs.size 1,_,_,H1,rfl,I2,AG s1.heap.objs.size 1 [(iq d0,a0),(iq d1,a1)] rfl `d (λj b a e=>match j,e with
       |0,e=>by cases e;exact z0.lt
       |1,e=>by cases e;exact z1.lt),za,λb hb=>?_,t1 _ H1 μ1 x1 m1 (xt rv0 rv1)}
      have hb:=(eA.mp hb).1;exact I1.fpOk hb (I1.hok.fresh hb)
 ·exact t1.elim
def wI (it:Addr):Obj:={cls:=.type "enumerate",data:=.fields #[.none,.bool false,.ref it,rawInt 0,.none,.none]}
def yV (l:Addr)(us:Array Ox)(n:Nat)(dct:Option Addr)(sl:Array (Option Ox)) :
 Meets (Builtin.«enumerate.__new__» {[.type "enumerate",.ref l],[]}) (λ_ R s=>s.heap.get? l=some {.type "tuple",dct,.seq us n,sl}/\
  R (.ok (.ret (.ref (s.heap.push (fP false l)).objs.size))) {s with heap:=(s.heap.push (fP false l)).push (wI s.heap.objs.size)}):=
 .of_wp λprog w A R s h=>by
  obtain⟨hp,g,d,tk,os⟩:=s;obtain⟨ht,h⟩:=h;have q:=sub_enumerate;have hL:Heap.IsTuple (Shared.heap ⟨hp,g,d,tk,os⟩) l us:={_,ht,rfl,n,rfl};wp_walk using AutoSeq1.wpAny_loadPart' ht
  refine wpAny_stack_any λ_=>tqb ?_;split
  ·rename_i c _ _ _ _ _;cases (c==Value.type "enumerate")<;>
   ·wp_walk using AutoSeq1.wpAny_loadPart' ht,wpAny_pyIter_tuple hL
    exact{_,rfl,h}
  ·wp_walk using AutoSeq1.wpAny_loadPart' ht,wpAny_pyIter_tuple hL
   exact{_,rfl,h}
section
variable{prog:O2}{w:O9}{A:PR}{E:Ox->Oy->Prop}{s:Oy}
def Cj {b:Bool}{l:Addr}{us:Array Ox}{Q:Ox->Oy->Prop}(hL:bR b s.heap l us)
 (h:∀h',IsEnum h' (s.heap.objs.size+1) s.heap.objs.size 0 .none->fo b h' s.heap.objs.size l 0->(∀c o,s.heap.get? c=some o->h'.get? c=some o)->Q (.ref (s.heap.objs.size+1)) {s with heap:=h'}):wpAny (model prog w) A (call (.type "enumerate") [.ref l]) Q E s:=by
 cases b with
 |true=>exact call_enumerate_list hL λh' e i _ k=>h h' e i k
 | false =>
   obtain⟨⟨c,dct,dt,sl⟩,ht,hc,n,hd⟩:=hL;cases hc;cases hd;refine callType_new F.called_enumerate `d (F.typeCall_enumerate_1 _) (F.newCall_enumerate_1 _) (λo=>F.args_object_init_2 o _) F.entry_enumerate_new (yV l us n dct sl) {ht,?_}
   have hz:(s.heap.push (fP false l)).objs.size=s.heap.objs.size+1:=Qv ..;show _/\_;rw[hz];have he:IsEnum ((s.heap.push (fP false l)).push (wI s.heap.objs.size)) (s.heap.objs.size+1) s.heap.objs.size 0 .none:=by
    have:=OJ (s.heap.push (fP false l)) (o:=wI s.heap.objs.size) rfl;rw[hz] at this;exact this
   exact{{_,he,rfl},h _ he (fo.new (b:=false) (OA _ (OJ _ rfl))) λc o x=>OA _ (OA _ x)}
def JV (hh:A.handled=none){b:Bool}{it l:Addr}(hne:l≠it)(us:Array Ox):Draws prog w A it [it,l] us.size (λi v=>us[i]?=some v) (λi h=>fo b h it l i/\bR b h l us) where
 live:=λ_ _ st=>let{o,ho,_}:=st.1.obj;⟨o,ho⟩
 frame:=λ_ _ _ st hk=>{st.1.at λo e=>hk it `s o e,st.2.at λo e=>hk l `s o e}
 item:=λi s Q E hi st hQ=>iZ hh st.1 st.2 (λx h' hx it' hs'=>hQ _ h' s.toks hx {it',st.2.extBut hs'.extBut hne} hs') λz=>by rw[Array.getElem?_eq_getElem hi] at z;cases z
 done:=λs Q E st hE=>iZ hh st.1 st.2 (λx h' hx=>by rw[Array.getElem?_eq_none (OC _)] at hx;cases hx) λ_=>hE
def JU (hh:A.handled=none){b:Bool}{it l:Addr}{us:Array Ox}{i:Nat}(hx:us[i]?=none):Draws prog w A it [it,l] i (λ_ _=>True) (λk h=>k=i/\fo b h it l i/\bR b h l us) where
 live:=λ_ _ st=>let{o,ho,_}:=st.2.1.obj;⟨o,ho⟩
 frame:=λ_ _ _ st hk=>{st.1,st.2.1.at λo e=>hk it `s o e,st.2.2.at λo e=>hk l `s o e}
 item:=λk s Q E hi st hQ=>absurd st.1 (Pm hi)
 done:=λs Q E st hE=>iZ hh st.2.1 st.2.2 (λx h' e=>by rw[hx] at e;cases e) λ_=>hE
end
def MS (K:Ow)(b:Bool)(a:Addr):It:=
 {λi H=>∃xs x,iN K H b a xs/\xs[i]?=some x,λi H v H'=>∃p x,H p=none/\v=.ref p/\H'=upd H p (.tup [.int i,x])/\∀xs,iN K H b a xs->xs[i]?=some x,λi H=>∃xs,iN K H b a xs/\xs.length<=i}
def xP {P:O2}{w:O9}{K:Ow}{elts:List Expr}{kk:Nat}{pos:Pos}(b:Bool)(a it e:Addr)(hne:e≠it)(hna:a≠it)(hea:e≠a) :
 Turn P w K (.Tuple elts kk pos) (MS K b a) [e,it] e (λi h=>(∃old,IsEnum h e it (i:Nat) old)/\fo b h it a i) where
 mem:=`s
 obj:=λi h ⟨⟨old,he⟩,hi⟩ c hb=>by
  rcases O6.mp hb with z|z
  ·subst z;exact{_,he,λv z=>by cases z}
  ·have e:c=it:=by simpa using z
   subst e;exact hi.obj
 keep:=λi h h' ⟨⟨old,he⟩,st⟩ k=>{{old,k e `s _ he},st.at λo e=>k it `s o e}
 item:=by
  intro X hP hw hK hc i pins s σ H E I hf st hg;subst hP hw hK;obtain⟨xs,x,hq,hx⟩:=hg;obtain⟨⟨old,he⟩,hit⟩:=st;obtain⟨its,rv,p⟩:=mI I hq;obtain⟨u,hu,ru⟩:=rv.get hx;have hi:i<its.toArray.size:=by have:=(Ov.mp hu).1;simpa using this
  refine wpAny_pyNext_enum_itemD (JV (A:=X.A.in1) (b:=b) (I.ok.hd hc) hna its.toArray) he ⟨hit,p⟩ hi hne (by simp[hne,hea]) λu' h1 tk hu' ho hit1 hT hsz hk=>{_,rfl,?_}
  have eu:u'=u:=by
   have hu':its[i]?=some u':=by simpa using hu'
   rw[hu] at hu';exact(OD hu').symm
  subst eu;have hT0:H s.heap.objs.size=none:=I.hok.fresh (OC _);have elt:e<s.heap.objs.size:=OS he;refine wpAny_letOwnedTupleGo_enum (s:={s with heap:=h1,toks:=tk+1}) ho λh2 he2 hs2=>?_
  have he2:IsEnum h2 e it ((i+1:Nat):Int) u':=by simpa using he2
  have hT2:h2.get? s.heap.objs.size=some {cls:=.type "tuple",data:=.seq #[.int i tk,u']}:=(hs2.2 _ (PM elt)).trans hT;refine{.ref s.heap.objs.size,upd H s.heap.objs.size (.tup [.int i,x]),qt (s:=s) (t':=tk+1) I hf (λc o hb q=>(hs2.2 c (λz=>hb (by simp[z]))).trans (hk c o (λz=>hb (by simp[z])) (λz=>hb (by simp[z])) q)) (OC _) {?_,[.int i tk,u'],.cons {_,rfl} (.cons ru .nil),{_,hT2,rfl,_,rfl}},rfl,
   {_,x,hT0,rfl,rfl,λys hy=>by rw[kU I hy hq];exact hx},{⟨u',he2⟩,hit1.1.extBut hs2.extBut (PN hne)},λc hb=>?_}
  ·show 2<=sizeLine;decide
  ·have:c<s.heap.objs.size:=by
    rcases O6.mp hb with z|z
    ·subst z;exact elt
    ·have e:c=it:=by simpa using z
     subst e;obtain⟨o,e,_⟩:=hit.obj;exact OS e
   rw[aD (Pm this)];exact(hf c hb).1
 done:=by
  intro X hP hw hK hc i pins s σ H E I hf st hg;subst hP hw hK;obtain⟨xs,hq,hx⟩:=hg;obtain⟨⟨old,he⟩,hit⟩:=st;obtain⟨its,rv,p⟩:=mI I hq;have hl:=rv.length;exact wpAny_pyNext_enum_endD (JU (A:=X.A.in1) (b:=b) (l:=a) (us:=its.toArray) (i:=i) (I.ok.hd hc) `o) he ⟨rfl,hit,p⟩ λh' eb=>{rfl,uC I hf (t':=s.toks) λc o hb q=>eb c o (λz=>hb (by simp[z])) q}
 self:=λ_ _ _ _ _ ⟨⟨old,he⟩,_⟩ h=>wpAny_pyIter_enum he h
section
variable{fa:Fa}{X:Cx}{a:Expr}{ga:Env->Mem->Res D}{pos p:Pos}
def xv {μ0:Mu}{H0:Hp}{dd:D}{ad:Addr}(h:Rep fa X.K μ0 H0 dd (.ref ad)):cW fa X.K μ0 H0 (λM=>(b5 M dd).map (dY 0)) (MS X.K (iq dd) ad):=λμ H M ds x hM e=>by
 dsimp only at e;cases e0:b5 M dd with
 |none=>rw[e0] at e;cases e
 | some es =>
   rw[e0] at e;have e:dY 0 es=ds:=OD e;subst e;obtain⟨vs,s,r⟩:=kT hM (Rep.extW x h) e0;refine{λi d hd=>?_,λi hi=>{vs,s,by rw[r.length,<- mj es 0];exact hi}}
   rw[mr] at hd;cases e1:es[i]? with
   |none=>rw[e1] at hd;cases hd
   | some d0 =>
     rw[e1] at hd;have hd:D.tup [.int ((0+i:Nat):Int),d0]=d:=OD hd;subst hd;obtain⟨v,hv,rv⟩:=r.get e1;refine{⟨vs,v,s,hv⟩,λy H' ⟨q,z,hq,ey,eH,hy⟩=>?_};have:=hy vs s;rw[hv] at this;cases this;subst eH ey;refine{Ext.alloc hM hq,hM.alloc hq,q,[.int i,v],rfl,.inl (.inl cm),.int i,[v],rfl,?_,v,[],rfl,rv.ext (Ext.alloc hM hq),rfl};show V.int i=V.int ((0+i:Nat):Int);rw[Nat.zero_add]
def g6 (ga:Env->Mem->Res D):Env->Mem->Res Walk:=λZ M=>(ga Z M).bind λx M=>if fY x=true then .ok (λM=>(b5 M x).map (dY 0)) M else .bad
def Gh {elts:List Expr}{kk:Nat}{tp:Pos}(ha:DE fa X a ga)(hg:Gl X "enumerate")(hm:X.mg "enumerate"=none)(hs:starEach [a] X.env=[(false,eval a X.env)]):DI fa X (.Tuple elts kk tp) (.Call (.Name "enumerate" p) [a] [] pos) (g6 ga):=by
 intro pins s σ H R I ⟨μ,Z,M,hE,hM,h⟩;obtain⟨x,M1,e,q⟩:=aG h;cases hx:fY x with
 |false=>rw[hx] at q;exact q.elim
 |true=>
 rw[hx] at q;refine Call_ (gZ I hg hm boot_enumerate (PU (aQ (c7 ha ft hs pos pins s σ H (λvs H1=>∃v μ1,vs=[v]/\Ext μ H μ1 H1/\RelM fa X.K μ1 H1 M1/\Rep fa X.K μ1 H1 x v) I {μ,Z,M,hE,hM,?_}) λus s1 ⟨vs,H1,I1,r1,v,μ1,ev,x1,m1,rv⟩=>?_) hs rfl))
 ·rw[e];exact λv H1 μ1 x1 m1 r1=>⟨v,μ1,rfl,x1,m1,r1⟩
 subst ev;obtain⟨ad,its,rfl,p1⟩:=nv I1 m1 rv hx;cases r1 with
 | cons r1 rr =>
   cases rr;obtain rfl:=r1;have alt:ad<s1.heap.objs.size:=p1.lt;refine Cj p1 λh1 he hit hk=>?_;have I2:Inv X pins σ H1 {s1 with heap:=h1}:=I1.kept (t':=s1.toks) hk
   refine wpAny_pyIter_enum (s:={s1 with heap:=h1}) he ?_
   refine{s1.heap.objs.size+1,[s1.heap.objs.size+1,s1.heap.objs.size],_,_,H1,rfl,I2,xP (iq x) ad s1.heap.objs.size (s1.heap.objs.size+1) (Nat.succ_ne_self _) (Pm alt) (PM (Qx alt)),{{.none,he},hit},λb hb=>?_,q _ H1 μ1 x1 m1 (xv rv)};have hb:s1.heap.objs.size<=b:=by
    rcases O6.mp hb with z|z
    ·subst z;exact Nat.le_succ _
    ·have e:b=s1.heap.objs.size:=by simpa using z
     subst e;exact OC _
   exact I1.fpOk hb (I1.hok.fresh hb)
end
abbrev GE:=Env->Mem->Res D
abbrev GT:=Env->Mem->Res Bool
abbrev GA:=Env->Mem->Res (List D)
abbrev GW:=Env->Mem->Res Walk
abbrev GS:=Env->Mem->Res Fl
abbrev GB:=Env->List D->Mem->Res (List D)
abbrev Call:=Nat->List D->Mem->Res D
def aa (i:Nat):GE:=λZ M=>b6 M (Z[i]?.getD none)
def gC (d:D):GE:=λ_ M=>.ok d M
def aq (m:Bool)(o:kJ)(a b:GE):GE:=λZ M=>(a Z M).bind λx M=>(b Z M).bind λy M=>fU m o x y M
def aL (o:jI)(a b:GE):GE:=λZ M=>(a Z M).bind λx M=>(b Z M).bind λy M=>(b6 M (bC o x y M)).bind λb M=>.ok (.bl b) M
def tJ (o o':jI)(a b c:GE):GE:=λZ M=>(a Z M).bind λx M=>(b Z M).bind λy M=>(b6 M (bC o x y M)).bind λk M=>
 if k then(c Z M).bind λz M=>(b6 M (bC o' y z M)).bind λb M=>.ok (.bl b) M else .ok (.bl false) M
def cE (a:GE):GE:=λZ M=>(a Z M).bind λx M=>match x with|.int i=>.ok (.int (-i)) M|_=>.bad
def eU (a b:GE):GE:=λZ M=>(a Z M).bind λx M=>match x with|.bl true=>b Z M|.bl false=>.ok (.bl false) M|_=>.bad
def MM (a b:GE):GE:=λZ M=>(a Z M).bind λx M=>match x with|.bl true=>.ok (.bl true) M|.bl false=>b Z M|_=>.bad
def NR (a:GE):GE:=λZ M=>(a Z M).bind λx M=>match x with|.bl k=>.ok (.bl (!k)) M|_=>.bad
def lD (t:GT)(a b:GE):GE:=λZ M=>(t Z M).bind λk M=>if k then a Z M else b Z M
def aw (a b:GE):GE:=λZ M=>(a Z M).bind λx M=>(b Z M).bind λy M=>b6 M (bS x y M)
def dC (m hl hh:Bool)(a lo hi:GE):GE:=λZ M=>(a Z M).bind λx M=>(lo Z M).bind λl M=>(hi Z M).bind λh M=>if eT hl l&&eT hh h then hU m x l h M else .bad
def ah:GA:=λ_ M=>.ok [] M
def ae (a:GE)(s:GA):GA:=λZ M=>(a Z M).bind λx M=>(s Z M).bind λxs M=>.ok (x::xs) M
def bj (s:GA):GE:=λZ M=>(s Z M).bind lh
def bu (m:Bool)(s:GA):GE:=λZ M=>(s Z M).bind (br m)
def au (f:Nat)(c:Call)(s:GA):GE:=λZ M=>(s Z M).bind λds M=>c f ds M
def mh (i:Nat)(c:Call)(s:GA):GE:=λZ M=>match Z[i]?.getD none with|some (.fn f)=>(s Z M).bind λds M=>c f ds M|_=>.bad
def aY (f:vI)(s:GA):GE:=λZ M=>(s Z M).bind λds M=>fh f ds M
def cQ (t:Ty)(a:GE):GE:=λZ M=>(a Z M).bind λx M=>(b6 M (eO t x)).bind λb M=>.ok (.bl b) M
def ay (a:GE):GT:=λZ M=>(a Z M).bind λx M=>b6 M (j7 M x)
def gq (a b:GT):GT:=λZ M=>(a Z M).bind λk M=>if k then b Z M else .ok false M
def iz (a b:GT):GT:=λZ M=>(a Z M).bind λk M=>if k then .ok true M else b Z M
def dG (a:GT):GT:=λZ M=>(a Z M).bind λk M=>.ok (!k) M
def aC (t:cf)(a:GE):GS:=λZ M=>(a Z M).bind λx M=>(b6 M (bU t x Z)).bind λρ1 M=>.ok (.next ρ1) M
def d4 (a b d:GE):GS:=λZ M=>(d Z M).bind λz M=>(a Z M).bind λx M=>(b Z M).bind λy M=>match x,y with
 | .cell k, .int n => match M[k]? with
   | some ds => match bW ds.length n with
     |some j=>.ok (.next Z) (M.set k (ds.set j z))
     |none=>.bad
   |none=>.bad
 |_,_=>.bad
def d5 (a d:GE):GS:=λZ M=>(a Z M).bind λx M=>(d Z M).bind λz M=>match x with
 | .cell k => match M[k]? with
   |some ds=>if ds.length<sz then .ok (.next Z) (M.set k (ds++[z])) else .bad
   |none=>.bad
 |_=>.bad
def yp (a:GE):GS:=λZ M=>(a Z M).bind λ_ M=>.ok (.next Z) M
def aS (a:GE):GS:=λZ M=>(a Z M).bind λx M=>.ok (.ret x) M
def C8:GS:=λ_ M=>.ok (.ret .non) M
def C9:GS:=λZ M=>.ok (.next Z) M
def Bb:GS:=λ_ _=>.bad
def aV (c:GT)(a b:GS):GS:=λZ M=>(c Z M).bind λk M=>if k then a Z M else b Z M
def cD (t:cf)(w:GW)(b:GS):GS:=λZ M=>(w Z M).bind λw M=>dg (gO t b) w (.next Z) M
def ai:GS:=λZ M=>.ok (.next Z) M
noncomputable def af (a b:GS):GS:=λZ M=>(a Z M).bind λfl M=>match fl with
 |.next Z=>b Z M
 |fl=>.ok fl M
def notStar:Expr->Bool
 |.Starred _ _=>false
 |_=>true
def bp {a:Expr}{es:List Expr}{env:Pp}(h:notStar a=true):starEach (a::es) env=(false,eval a env)::starEach es env:=by
 cases a<;>first|rfl|cases h
def eG {pos:Pos}{env:Pp}:∀{es:List Expr},es.all notStar=true->(backTo pos (starEach es env)).any (·.1)=false
 |[],_=>rfl
 | a :: es, h => by
   simp only[PL,OF] at h;have ih:=eG (pos:=pos) (env:=env) h.2;rw[bp h.1];simpa[backTo] using ih
section
variable{fa:Fa}{X:Cx}{a b d:Expr}{ga gb gd:GE}{ta tb:GT}{pos p:Pos}{es:List Expr}{gs:GA}{n:Nat}
def HJ {x:Str}{i:Int}{t:Tok}(hg:Gl X x)(hm:X.mg x=some (.int i t))(hd:(x==("__debug__":Str))=false):DE fa X (.Name x pos) (gC (.int i)):=ji (v:=.int i) (ku hg hm ⟨t,rfl⟩ hd) λ_ _=>rfl
end
structure Df where
 params:Nat
 slots:Nat
 body:Call->GS
def NU:Fl->Mem->Res D
 |.ret d,M=>.ok d M
 |.next _,M=>.ok .non M
 |.exc x _,M=>.err x M
def NT:Res Fl->Res D
 |.ok fl M=>NU fl M
 |_=>.bad
def gr (c:Call)(d:Df)(ds:List D)(M:Mem):Res D:=if ds.length=d.params then NT (d.body c (ds.map some++List.replicate (d.slots-ds.length) none) M) else .bad
def aj (P:Nat->Option Df):Nat->Call
 |0,_,_,_=>.bad
 | n + 1, f, ds, M => match P f with
   |none=>.bad
   |some d=>gr (aj P n) d ds M
structure xh (K:Ow) (x qual:Str) (st:Stmt) (f:Addr) (fd:QU):Prop where
 ex:∃(oc:Ox) (od:Option Addr) (dV kV doc pm:Ox) (an:Option Addr) (cdv ct:Ox) (osl:Array (Option Ox)),
  fd=PySem.W.fnOf x qual (gD st) (dI st) (bc st) dV kV doc pm an cdv ct/\K.lookup f=some {oc,od,.func fd,osl}/\PySem.W.codeIn K cdv qual=true
 kp:PySem.W.keepIn K (.ref f)=true
def vG.toD {K:Ow}{x qual:Str}{st:Stmt}{f:Addr}{fd:QU}(F:vG K x qual st f fd):xh K x qual st f fd:=let⟨oc,od,kV,doc,pm,an,cdv,ct,osl,r⟩:=F.ex;{{oc,od,.none,kV,doc,pm,an,cdv,ct,osl,r},F.kp}
structure xl (fa:Fa) (P:O2) (w:O9) (K:Ow) (mg:Str->Option Ox) (base:Heap) (f:Nat) (d:Df):Prop where
 ex:∃(ad:Addr) (fd:QU) (ps N:List Str) (st:Stmt) (x qual:Str),fa f=some ad/\xh K x qual st ad fd/\Binds K fd ps []/\jl N ps (bc st)/\d.params=ps.length/\d.slots=N.length/\
  ∀(call:Call) (n:Nat) (cdv:Ox) (A:PR) (outer:List Pp) (s:Oy) (H:Hp) (E:XK),(∀f,iP fa P w K mg base n f (call f))->dD (2*n+5) (A.deeper (envOfC qual (bc st) s.heap.objs.size ad cdv))->
   kI fa (gx (iY P w) P w K mg base N qual (bc st) ad cdv A outer s H E) (dI st) (d.body call)
def xX {fa:Fa}{K:Ow}{μ:Mu}{H:Hp}{N:List Str}{ds:List D}{vs:List V}(h:aI fa K μ H ds vs):bb fa K μ H (L2.start N vs) (ds.map some++List.replicate (N.length-ds.length) none):=by
 have hl:=h.length;refine{by unfold L2.start;simp[hl],λi d e=>?_}
 by_cases hi:i<ds.length
 ·rw[OG (by simpa using hi),OL] at e
  cases e1:ds[i]? with
  |none=>rw[e1] at e;cases e
  | some d' =>
    rw[e1] at e;cases e;obtain⟨v,hv,rv⟩:=h.get e1;refine{v,?_,rv};unfold L2.start;rw[OG `o,OL,hv]
    rfl
 ·rw[O5 `o,QG] at e
  split at e<;>cases e
def vg {P:O2}{w:O9}{K:Ow}{mg:Str->Option Ox}{base:Heap}{x qual:Str}{st:Stmt}{f:Addr}{fd:QU}{N ps:List Str}{k:Nat}{sp:Sp}(F:xh K x qual st f fd)(S:jl N ps (bc st))(len:∀vs H Q E,sp vs H Q E->vs.length=ps.length)
 (hbody:∀(cdv:Ox) (A:PR) (outer:List Pp) (s:Oy) (H:Hp) (vs:List V) (Q:VK) (E:XK),dD k (A.deeper (envOfC qual (bc st) s.heap.objs.size f cdv))->sp vs H Q E->
  ∃t,lT (gx (iY P w) P w K mg base N qual (bc st) f cdv A outer s H E) (dI st) t/\t {nx:=λ_ H'=>Q .non H',rt:=Q} (start N vs) H):lO P w K mg base (iY P w) (k+1) f fd ps sp:=by
 obtain⟨oc,od,dV,kV,doc,pm,an,cdv,ct,osl,rfl,lk,hcd⟩:=F.ex;exact Lw lk hcd S len λA outer s H vs Q E hr hsp=>hbody cdv A outer s H vs Q E hr hsp
def qL {fa:Fa}{P:O2}{w:O9}{K:Ow}{mg:Str->Option Ox}{base:Heap}{N:List Str}{qual:Str}{scope:Scope}{f:Addr}{cd:Ox}{A:PR}{outer:List Pp}{s:Oy}{H:Hp}{E:XK}{Q:VK}{d:Df}{c:Call}{ds:List D}{vs:List V}{μ:Mu}{M:Mem}
 (hs:d.slots=N.length) (hM:RelM fa K μ H M) (hr:aI fa K μ H ds vs) (hq:fA (gr c d ds M) (aX fa K μ H Q) (w6 fa K μ H E)):tF fa (gx (iY P w) P w K mg base N qual scope f cd A outer s H E) (d.body c) {nx:=λ_ H'=>Q .non H',rt:=Q} (start N vs) H:=by
 unfold gr at hq;split at hq
 ·refine{μ,_,M,xX hr,hM,?_};rw[<- hs];cases e1:d.body c (ds.map some++List.replicate (d.slots-ds.length) none) M with
  | ok fl M1 =>
    rw[e1] at hq;cases fl with
    | next ρ' =>
      have q1:aX fa K μ H Q .non M1:=hq;exact λσ' H' μ' x' e' m'=>q1 .non H' μ' x' m' rfl
    |ret d=>exact hq
    | exc x ρ' =>
      have q1:w6 fa K μ H E x M1:=hq;exact λpins σ' H' μ' s' a C dx c p I y _ m ex hc hn fl=>BI I fl (q1 C dx c p H' μ' y m ex hc hn)
  |err=>rw[e1] at hq;exact hq.elim
  |bad=>rw[e1] at hq;exact hq.elim
 ·exact hq.elim
def uc {fa:Fa}{P:O2}{w:O9}{K:Ow}{mg:Str->Option Ox}{base:Heap}{Pg:Nat->Option Df}(h:∀f d,Pg f=some d->xl fa P w K mg base f d):∀(n f:Nat),iP fa P w K mg base n f (aj Pg n f)
 |0,f=>.inl λ_ _=>rfl
 | n + 1, f => by
   have ih:=uc h n;cases e:Pg f with
   |none=>exact .inl λds M=>by show(match Pg f with|none=>Res.bad|some d=>gr (aj Pg n) d ds M)=Res.bad;rw[e]
   | some d =>
     have eq:∀ds M,aj Pg (n+1) f ds M=gr (aj Pg n) d ds M:=λds M=>by show(match Pg f with|none=>Res.bad|some d=>gr (aj Pg n) d ds M)=_;rw[e]
     obtain⟨ad,fd,ps,N,st,x,qual,h1,F,hb,S,hp,hs,hbody⟩:=(h f d e).ex;refine .inr {ad,fd,ps,h1,F.kp,hb,λds M hl=>?_,?_}
     ·rw[eq];unfold gr;rw[if_neg (by rw[hp];exact hl)]
     ·refine vg (k:=2*n+5) F S (λvs H Q E hsp=>hsp.1) λcdv A outer s H vs Q E hr hsp=>{_,hbody (aj Pg n) n cdv A outer s H E ih hr,?_};obtain⟨hl,μ,M,ds,hM,hr,hq⟩:=hsp;rw[eq] at hq;exact qL hs hM hr hq
def n4 (P:Qh)(e:Pu)(kv:Str×Addr):Prop:=∃t,e={PyData.keyHash P kv.1,.str kv.1 t,.ref kv.2}
structure fT (K:Ow) (P:Qh) (a:Addr) (kvs:List (Str×Addr)):Prop where
 ex:∃(es:Array Pu) (n:Nat),K.lookup a=some {cls:=.type "dict",data:=.dict es n}/\Qn (n4 P) es.toList kvs
 nd:(kvs.map (·.1)).Nodup
 ns:(a==sysModules)=false
def u9 (kvs:List (Str×Addr)):List (Key×Ox):=kvs.map λkv=>(Sum.inr kv.1,.ref kv.2)
def tQ {P:Qh}:∀{es:List Pu}{kvs:List (Str×Addr)},Qn (n4 P) es kvs->∀e∈es,∃x t,e.key=.str x t/\e.hash=PyData.keyHash P x
 |_,_,.nil,e,h=>nomatch h
 | _, _, .cons r t, e, h => by
   rcases O6.mp h with z|z
   ·subst z;obtain⟨t,rfl⟩:=r;exact{_,t,rfl,rfl}
   ·exact tQ t e z
def pb {prog:O2}{w:O9}:∀{es:List Pu}{kvs:List (Str×Addr)},Qn (n4 w.params) es kvs->Pairs (kC prog w) es (u9 kvs)
 |_,_,.nil=>.nil
 | e :: es, kv :: kvs, .cons r t => by
   obtain⟨u,rfl⟩:=r;exact Pairs.cons (kv:=((Sum.inr kv.1:Key),Value.ref kv.2)) (jQ kv.1 u) rfl (pb t)
def tf {X:Cx}{pins:List (Addr×Obj)}{σ:L2.St}{H:Hp}{s:Oy}{a:Addr}{kvs:List (Str×Addr)}(I:Inv X pins σ H s)(h:fT X.K X.w.params a kvs):s.heap.DictOf (kC X.prog X.w) a (u9 kvs):=by
 obtain⟨es,n,lk,pr⟩:=h.ex;refine{_,es,n,I.kIn _ _ lk,⟨rfl,rfl,rfl⟩,rfl,λe he=>?_,pb pr,?_}
 ·obtain⟨x,t,e1,e2⟩:=tQ pr e (by simpa using he)
  exact{Sum.inr x,by rw[e1];exact jQ x t,e2}
 ·have e:(u9 kvs).map (·.1)=(kvs.map (·.1)).map Sum.inr:=by unfold u9;simp
  rw[e];exact List.Pairwise.map _ (λa b (n:a≠b) z=>n (Sum.inr.inj z)) h.nd
def ze (kvs:List (Str×Addr))(k:Str):valueAt (u9 kvs) (Sum.inr k:Key)=(kvs.lookup k).map Value.ref:=by
 induction kvs with
 |nil=>rfl
 | cons kv r ih =>
   unfold valueAt u9 at ih ⊢;rw[Pr,List.find?_cons,Py];by_cases e:kv.1=k
   ·subst e;simp
   ·have e2:decide ((Sum.inr kv.1:Key)=Sum.inr k)=false:=decide_eq_false λz=>e (Sum.inr.inj z);have e3:(k==kv.1)=false:=PB.mpr (PN e);rw[e2,e3];exact ih
def eQ (fa:Fa)(kvs:List (Str×Addr))(fs:List (Str×Nat)):Prop:=Qn (λ(p:Str×Addr) (q:Str×Nat)=>p.1=q.1/\fa q.2=some p.2) kvs fs
def eQ.look {fa:Fa}{k:Str}:∀{kvs:List (Str×Addr)}{fs:List (Str×Nat)},eQ fa kvs fs->(fs.lookup k=none/\kvs.lookup k=none)\/∃f ad,fs.lookup k=some f/\kvs.lookup k=some ad/\fa f=some ad
 |_,_,.nil=>.inl ⟨rfl,rfl⟩
 | (x, a) :: r, (y, f) :: t, .cons ⟨e1, e2⟩ q => by
   have e1:x=y:=e1;subst e1;rw[Py,Py];cases e:k==x with
   |true=>exact .inr ⟨f,a,rfl,rfl,e2⟩
   |false=>exact eQ.look q
def lE (fs:List (Str×Nat))(i:GE):GE:=λZ M=>(i Z M).bind λd M=>match d with
 |.str k=>b6 M ((fs.lookup k).map D.fn)
 |_=>.bad
def i5 (fs:List (Str×Nat))(i:GE):GE:=λZ M=>(i Z M).bind λd M=>match d with
 |.str k=>.ok (.bl (!(fs.lookup k).isSome)) M
 |_=>.bad
section
variable{fa:Fa}{X:Cx}{a b:Expr}{ga gb:GE}{pos p:Pos}{ad:Addr}{kvs:List (Str×Addr)}{fs:List (Str×Nat)}{x:Str}
def BV (hd:fT X.K X.w.params ad kvs):j3 X (λx y H Q=>∃k v,x=.ref ad/\y=.str k/\kvs.lookup k=some v/\Q (.ref v) H):=by
 intro value slice pins s σ H x y v u Q I rx ry h hs;obtain⟨k,c,rfl,rfl,hk,q⟩:=h;cases rx;obtain⟨t,rfl⟩:=ry;have dd:=tf I hd;have hT:s.TypeIs (.ref ad) "dict":=let{o,_,_,ho,{hc,_},_}:=dd;⟨o,ho,hc⟩
 refine tail_any hT PySem.F.slot_dict_getitem.lookup (wpAny_getItem_of (k:=(Sum.inr k:Key)) (jQ k t) dd.mapOf (v:=.ref c) ?_ ?_) hs
 ·rw[ze,hk];rfl
 ·exact{.ref c,H,I.tok _,rfl,q}
def sJ (hd:fT X.K X.w.params ad kvs):bE X (compareOp .NotIn) (λx y H Q=>∃k,x=.str k/\y=.ref ad/\Q (.bl (!(kvs.lookup k).isSome)) H):=by
 intro pins s σ H x y v u Q I rx ry h;obtain⟨k,rfl,rfl,q⟩:=h;obtain⟨t,rfl⟩:=rx;cases ry;have dd:=tf I hd;refine wpAny_notIn_of (k:=(Sum.inr k:Key)) (jQ k t) hd.ns dd.mapOf ?_;rw[ze,Qw];exact{.bl _,H,I.tok _,rfl,q}
def HL (hd:fT X.K X.w.params ad kvs)(ho:eQ fa kvs fs)(hg:Gl X x)(hm:X.mg x=some (.ref ad))(hdb:(x==("__debug__":Str))=false)(hb:DE fa X b gb)(hs:jj b):DE fa X (.Subscript (.Name x p) b pos) (lE fs gb):=
 bB (vZ (BV hd) (ku (v:=.ref ad) hg hm rfl hdb) hb hs) λσ H Q ⟨μ,Z,M,hE,hM,h⟩=>t1 hE hM h λd M1 v H1 μ1 x1 hE1 hM1 r1 h1=>by
  cases d with
  | str k =>
    obtain⟨d,e,q⟩:=ky h1;rcases ho.look (k:=k) with⟨e1,_⟩|⟨f,c,e1,e2,e3⟩
    ·rw[e1] at e;cases e
    ·rw[e1] at e;cases e;exact{k,c,rfl,r1,e2,q (.ref c) H1 μ1 x1 hM1 {c,rfl,.inl e3}}
  |_=>exact h1.elim
def Br {d:D}{M1:Mem}{P:D->Mem->Prop}(h:ag (match d with|.str k=>Res.ok (.bl (!(fs.lookup k).isSome)) M1|_=>.bad) P):∃k,d=.str k/\P (.bl (!(fs.lookup k).isSome)) M1:=by
 cases d with
 |str k=>exact⟨k,rfl,h⟩
 |_=>exact h.elim
def Cb (ho:eQ fa kvs fs)(k:Str):(kvs.lookup k).isSome=(fs.lookup k).isSome:=by
 rcases ho.look (k:=k) with⟨e1,e2⟩|⟨f,c,e1,e2,_⟩<;>rw[e1,e2]<;>rfl
def zw (ho:eQ fa kvs fs)(σ:L2.St)(H:Hp)(Q:VK)(h:tE fa X.K (i5 fs ga) σ H Q):xU (λx y H Q=>∃k,x=.str k/\y=.ref ad/\Q (.bl (!(kvs.lookup k).isSome)) H) (tE fa X.K ga) (tC (.ref ad)) σ H Q:=by
 obtain⟨μ,Z,M,hE,hM,h⟩:=h;refine t1 hE hM h λd M1 v H1 μ1 x1 hE1 hM1 r1 h1=>?_;obtain⟨k,rfl,q⟩:=Br h1;refine{k,r1,rfl,?_};rw[Cb ho];exact q (.bl _) H1 μ1 x1 hM1 rfl
def HK (hd:fT X.K X.w.params ad kvs)(ho:eQ fa kvs fs)(hg:Gl X x)(hm:X.mg x=some (.ref ad))(hdb:(x==("__debug__":Str))=false)(ha:DE fa X a ga)(hmk:behindInMarks .NotIn (.Name x p)=false):DE fa X (.Compare a [.NotIn] [.Name x p] pos) (i5 fs ga):=
 bB (pL (sJ hd) ha (ku (v:=.ref ad) hg hm rfl hdb) hmk) λσ H Q h=>zw ho σ H Q h
def HV (hd:fT X.K X.w.params ad kvs)(ho:eQ fa kvs fs)(hg:Gl X x)(hm:X.mg x=some (.ref ad))(hdb:(x==("__debug__":Str))=false)(ha:DE fa X a ga)(hmk:behindInMarks .NotIn (.Name x p)=false):DT fa X (.Compare a [.NotIn] [.Name x p] pos) (ay (i5 fs ga)):=
 kn (pJ (sJ hd) ha (ku (v:=.ref ad) hg hm rfl hdb) hmk) λσ H Q h=>by
  refine zw ho σ H _ ?_;obtain⟨μ,Z,M,hE,hM,h⟩:=h;obtain⟨z,M3,e,q⟩:=aG h;refine{μ,Z,M,hE,hM,?_};rw[e];have hz:∃k,z=.bl k:=by
   obtain⟨d,M1,e1,e2⟩:=fj e;cases d<;>first|(cases e2;exact{_,rfl})|cases e2
  obtain⟨k,rfl⟩:=hz;intro v H' μ' x' m' r';obtain rfl:v=.bl k:=r';exact{k,rfl,q H' μ' x' m'}
def mf (m:Bool)(a:GE):GE:=λZ M=>(a Z M).bind λx M=>match x with
 |.int n=>if -(2^62)<=n/\n<2^20 then br m ((List.range n.toNat).map λ(k:Nat)=>D.int (k:Int)) M else .bad
 |_=>.bad
def wC:∀(n:Nat) (its:List Ox),its.length=n->(∀(i:Nat) (v:Ox),its[i]?=some v->∃t,v=.int (i:Int) t)->Vals ((List.range n).map λ(k:Nat)=>V.int (k:Int)) its:=by
 intro n its hl h;have key:∀(k:Nat) (its:List Ox),(∀(i:Nat) (v:Ox),its[i]?=some v->∃t,v=.int ((k+i:Nat):Int) t)->Vals ((List.range its.length).map λ(j:Nat)=>V.int ((k+j:Nat):Int)) its:=by
  intro k its;induction its generalizing k with
  |nil=>intro _;exact .nil
  | cons v r ih =>
    intro h;rw[Ql,List.range_succ_eq_map,Pr,Pw];refine .cons (h 0 v rfl) ?_;have:=ih (k+1) λi u e=>by
     have:=h (i+1) u (by simpa using e)
     rw[show k+1+i=k+(i+1) by omega];exact this
    refine cast (congrArg (λf=>Vals ((List.range r.length).map f) r) ?_) this
    funext j
    show V.int _=V.int _
    congr 2
    omega
 have:=key 0 its λi v e=>by rw[Nat.zero_add];exact h i v e
 rw[hl] at this;simpa using this
def E9 (m:Bool){p1 p2 pos2:Pos}(hc:X.calm=true)(ha:DE fa X a ga)(hgl:Gl X "list")(hml:X.mg "list"=none)(hg:Gl X "range")(hm:X.mg "range"=none)(hs:starEach [a] X.env=[(false,eval a X.env)])
 (hs2:starEach [.Call (.Name "range" p2) [a] [] pos2] X.env=[(false,eval (.Call (.Name "range" p2) [a] [] pos2) X.env)]) :
 DE fa X (.Call (.Name "list" p1) [.Call (.Name "range" p2) [a] [] pos2] [] pos) (mf m ga):=by
 intro pins s σ H Q I ⟨μ,Z,M,hE,hM,h⟩;obtain⟨x,M1,e,q⟩:=aG h;have key:∀n,x=.int n->ag (if -(2^62)<=n/\n<2^20 then br m ((List.range n.toNat).map λ(k:Nat)=>D.int (k:Int)) M1 else .bad) (aX fa X.K μ H Q)->
  wpAny (model X.prog X.w) X.A (eval (.Call (.Name "list" p1) [.Call (.Name "range" p2) [a] [] pos2] [] pos) X.env) (EP X pins σ Q) X.xe s:=λn en q'=>by
  subst en;by_cases c:-(2^62)<=n/\n<2^20
  ·rw[if_pos c] at q';refine Call_ (gZ I hgl hml (by decide +kernel:bootBuiltins "list"=some (.type "list")) (PU ?_ hs2 rfl))
   rw[hs2];refine Calls.spliced_cons ?_;refine Call_ (gZ I hg hm boot_range (PU (aQ (c7 ha ft hs pos2 pins s σ H (λvs H1=>∃μ1,vs=[.int n]/\Ext μ H μ1 H1/\RelM fa X.K μ1 H1 M1) I {μ,Z,M,hE,hM,?_}) λus s1 ⟨vs,H1,I1,r1,μ1,ev,x1,m1⟩=>?_) hs rfl))
   ·rw[e];intro v H1 μ1 x1 m1 r1;obtain rfl:v=.int n:=r1;exact⟨μ1,rfl,x1,m1⟩
   subst ev;cases r1 with
   | cons r rr =>
     cases rr;obtain⟨t,rfl⟩:=r;refine call_range_1 ?_;refine Calls.spliced_nil ?_;refine call_list_range (n:=n.toNat) (I.ok.hd hc) (IsRange.new ..) (small_one `a `a `a `a) (by rw[rangeSize_one];split<;>omega) `a λh' tk acc' c' kp eS its=>?_
     obtain⟨hsz,hit⟩:=its;have I2:Inv X pins σ H1 {s1 with heap:=s1.heap.push {cls:=.type "range",data:=.fields #[.int 0 s1.toks,.int n t,.int 1 (s1.toks+1)]},toks:=s1.toks+1+1}:=I1.kept λb o e=>OA _ e
     have hv:Vals ((List.range n.toNat).map λ(k:Nat)=>V.int (k:Int)) acc'.toList:=wC n.toNat acc'.toList (by simpa using hsz) λi v e=>by
      obtain⟨u,z⟩:=hit i v (by simpa using e)
      exact{u,by rw[z];simp}
     have rl:aI fa X.K μ1 H1 ((List.range n.toNat).map λ(k:Nat)=>D.int (k:Int)) ((List.range n.toNat).map λ(k:Nat)=>V.int (k:Int)):=by
      have:=aI.ints (fa:=fa) (K:=X.K) (μ:=μ1) (H:=H1) ((List.range n.toNat).map λ(k:Nat)=>(k:Int));simpa[Pw,Function.comp_def] using this
     obtain⟨c1,k1⟩:=g9 m1 rl (lP q' x1);refine{.ref _,_,I2.laid (t':=tk) (o:=.lst ((List.range n.toNat).map λ(k:Nat)=>V.int (k:Int))) kp (OC _) {?_,acc'.toList,c',hv,by simpa using eS},rfl,k1 _ (I2.hok.fresh (OC _))}
     rw[rl.length,<- dS];exact c1
  ·rw[if_neg c] at q';exact q'.elim
 cases x with
 |int n=>exact key n rfl q
 |_=>exact q.elim
end
def qe (bn N:List Str)(sc scope:Scope):Bool:=
 scope.names.all (λy=>(y.2 != .cell||scope.names.lookup y.1==some .cell)&&(y.2 != .local||scope.names.lookup y.1==some .local)&&(y.2 != .free||sc.names.lookup y.1==some .cell||sc.names.lookup y.1==some .free)) &&
 bn.length==N.length&&(bn.zip N).all λp=>(p.1==p.2&&(scope.names.lookup p.2 != some .local&&scope.names.lookup p.2 != some .cell))||scope.names.lookup p.1==none
def oB {α β:Type}{R:α->β->Prop}:∀{l:List α}{r:List β},l.length=r.length->(∀p∈l.zip r,R p.1 p.2)->Qn R l r
 |[],[],_,_=>.nil
 |a::l,b::r,h,g=>.cons (g (a,b) O4) (oB (by simpa using h) λp hp=>g p (OP _ hp))
 |[],_::_,h,_=>by cases h
 |_::_,[],h,_=>by cases h
def zP {X:Cx}{own bn N:List Str}{sc scope:Scope}(hk:scope.kind=.function)(hs:X.env.scope=sc)(hN:X.N=N)(h:qe bn N sc scope=true):fv X own bn scope:=by
 unfold qe at h;rw[OF,OF,O0,O0] at h;obtain⟨⟨h1,hl⟩,h2⟩:=h;refine{hk,λy hy e=>?_,λy hy e=>?_,λy hy e=>?_,?_}
 ·have:=h1 y hy;simp only[OF] at this;have:=this.1.1;rw[e] at this;simpa using this
 ·have:=h1 y hy;simp only[OF] at this;have:=this.1.2;rw[e] at this;simpa using this
 ·have:=h1 y hy;simp only[OF] at this;have:=this.2;rw[e] at this;show X.env.scope.names.lookup y.1=_\/X.env.scope.names.lookup y.1=_;rw[hs];simpa using this
 ·rw[hN];refine oB (by simpa using hl) λp hp=>?_
  have:=h2 p hp;simp only[Qu,OF,beq_iff_eq,bne_iff_ne] at this;exact this
section
variable{fa:Fa}{X:Cx}{elt tg iter c t2 i2:Expr}{scope:Scope}{pos:Pos}{own bn:List Str}{t u:cf}{gw gw2:GW}{ge:GE}{gc:GT}
def jq {n:Nat}{l:List Nat}(h:l.all (· < n)=true):∀i∈l,i<n:=λi hi=>by
 have:=O0.mp h i hi;simpa using this
def yh {l W:List Nat}(h:W.all (λi=>!l.contains i)=true):∀i∈W,i∉l:=λi hi z=>by
 have:=O0.mp h i hi;simp[z] at this
variable{i:Nat}{y:Str}{py spos:Pos}
def Fb {x:Str}{i:Int}(hg:Gl X x)(hm:∃t,X.mg x=some (.int i t))(hd:(x==("__debug__":Str))=false):DE fa X (.Name x pos) (gC (.int i)):=let{_,h}:=hm;HJ hg h hd
def Fd {x:Str}{b:Expr}{gb:GE}{p:Pos}{fs:List (Str×Nat)}(h:∃ad kvs,X.mg x=some (.ref ad)/\fT X.K X.w.params ad kvs/\eQ fa kvs fs)(hg:Gl X x)(hdb:(x==("__debug__":Str))=false)(hb:DE fa X b gb)(hs:jj b):DE fa X (.Subscript (.Name x p) b pos) (lE fs gb):=
 let{_,_,h1,h2,h3}:=h;HL h2 h3 hg h1 hdb hb hs
def Fc {x:Str}{a:Expr}{ga:GE}{p:Pos}{fs:List (Str×Nat)}(h:∃ad kvs,X.mg x=some (.ref ad)/\fT X.K X.w.params ad kvs/\eQ fa kvs fs)(hg:Gl X x)(hdb:(x==("__debug__":Str))=false)(ha:DE fa X a ga)(hmk:behindInMarks .NotIn (.Name x p)=false):DE fa X (.Compare a [.NotIn] [.Name x p] pos) (i5 fs ga):=
 let{_,_,h1,h2,h3}:=h;HK h2 h3 hg h1 hdb ha hmk
def Ff {x:Str}{a:Expr}{ga:GE}{p:Pos}{fs:List (Str×Nat)}(h:∃ad kvs,X.mg x=some (.ref ad)/\fT X.K X.w.params ad kvs/\eQ fa kvs fs)(hg:Gl X x)(hdb:(x==("__debug__":Str))=false)(ha:DE fa X a ga)(hmk:behindInMarks .NotIn (.Name x p)=false):DT fa X (.Compare a [.NotIn] [.Name x p] pos) (ay (i5 fs ga)):=
 let{_,_,h1,h2,h3}:=h;HV h2 h3 hg h1 hdb ha hmk
def E8 {X:Cx}{n:Nat}(h:dD (n+4) X.A):Rm X:=by have:=h.un;show X.A.units+100<cLine;omega
end
section
variable{fa:Fa}{X:Cx}{a st:Expr}{ga:GE}{pos p2:Pos}
def HI (m:Bool)(x:D)(M:Mem):Res D:=match x with
 |.tup xs=>.ok (.tup xs.reverse) M
 | x => match dE M x with
   |some xs=>br m xs.reverse M
   |none=>.bad
end
def mm {fa:Fa}{mg:Str->Option Ox}{i:Nat}{x:Str}{f:Addr}(e:fa i=some f)(m:mg x=some (.ref f)):∀ad,fa i=some ad->mg x=some (.ref ad):=λad h=>by rw[e] at h;cases h;exact m
def us1 {α:Type}{p:List α->Prop}(h:∀a,p [a])(us:List α)(hl:us.length=1):p us:=by
 obtain⟨a,rfl⟩:=List.length_eq_one_iff.mp hl;exact h a
def us2 {α:Type}{p:List α->Prop}(h:∀a b,p [a,b]):∀(us:List α) (hl:us.length=2),p us
 |[a,b],_=>h a b
def us3 {α:Type}{p:List α->Prop}(h:∀a b c,p [a,b,c]):∀(us:List α) (hl:us.length=3),p us
 |[a,b,c],_=>h a b c
def us4 {α:Type}{p:List α->Prop}(h:∀a b c d,p [a,b,c,d]):∀(us:List α) (hl:us.length=4),p us
 |[a,b,c,d],_=>h a b c d
def yS {K:Ow}{h:Heap}{mg:Str->Option Ox}{x:Str}{f:Addr}(X:K.In h)(G:h.Ns mainGlobals mg)(a:PySem.W.nsIn K mainGlobals x=some (some (.ref f))):mg x=some (.ref f):=Qm X G a
def zj {P:Qh}:Qn (n4 P) [] []:=.nil
def gA {P:Qh}{x:Str}{t:Tok}{a:Addr}{es:List Pu}{kvs:List (Str×Addr)}(h:Qn (n4 P) es kvs):Qn (n4 P) ({PyData.keyHash P x,.str x t,.ref a}::es) ((x,a)::kvs):=.cons ⟨t,rfl⟩ h
def C6 (K:Ow):Sp:=λvs H Q _=>∃(a:Addr) (ns:List Int),vs=[.ref a]/\cX K H a (ns.map V.int)/\xb H/\ns.length<=63/\∀H',Q (.bl true) H'
def Je {fa:Fa}{P:O2}{w:O9}{K:Ow}{mg:Str->Option Ox}{base:Heap}{Pg:Nat->Option Df}{n f:Nat}{ad:Addr}{d:Df}{fd:QU}{N:List Str}{st:Stmt}{x qual y:Str}(h:∀f d,Pg f=some d->xl fa P w K mg base f d)
 (hl:∀ns:List Int,ns.length<=63->∃M,aj Pg (n+1) f [.frz (ns.map D.int)] []=.ok (.bl true) M) (e:Pg f=some d) (F:vG K x qual st ad fd) (S:jl N [y] (bc st)) (hs:d.slots=N.length)
 (hbody:∀(call:Call) (n:Nat) (cdv:Ox) (A:PR) (outer:List Pp) (s:Oy) (H:Hp) (E:XK),(∀f,iP fa P w K mg base n f (call f))->dD (2*n+5) (A.deeper (envOfC qual (bc st) s.heap.objs.size ad cdv))->
  kI fa (gx (iY P w) P w K mg base N qual (bc st) ad cdv A outer s H E) (dI st) (d.body call)):lO P w K mg base (iY P w) (2*n+5+1) ad fd [y] (C6 K):=by
 have eq:∀ds M,aj Pg (n+1) f ds M=gr (aj Pg n) d ds M:=λds M=>by show(match Pg f with|none=>Res.bad|some d=>gr (aj Pg n) d ds M)=_;rw[e]
 refine vg (vG.toD F) S (λvs H Q E hsp=>?_) λcdv A outer s H vs Q E hr hsp=>{_,hbody (aj Pg n) n cdv A outer s H E (uc h n) hr,?_}
 ·obtain⟨a,ns,rfl,_⟩:=hsp;rfl
 ·obtain⟨a,ns,rfl,hS,hO,hn,q⟩:=hsp;obtain⟨M',e'⟩:=hl ns hn;rw[eq] at e';have rp:aI fa K {λ_=>none,[],λ_=>none} H [.frz (ns.map D.int)] [.ref a]:=by
   refine{.ref a,[],rfl,{a,ns.map V.int,rfl,?_,aI.ints ns},rfl};rcases hS with(z|⟨o,z⟩)|z
   ·rcases hO a with y|⟨o,xs,y⟩
    ·rw[y] at z;cases z
    ·rw[y] at z;cases z
   ·exact .inl ⟨o,z⟩
   ·exact .inr z
  refine qL (μ:={λ_=>none,[],λ_=>none}) (M:=[]) hs {λk ds z=>by simp at z,λ_ _=>rfl,λ_ _=>rfl,(λ_ _ _ z=>nomatch z),(λ_ _ _ z=>nomatch z),(λ_ _ z=>nomatch z),(λ_ z=>nomatch z)} rp ?_
  rw[e'];intro v H' μ' _ _ r;obtain rfl:v=.bl true:=r;exact q H'
def u5 {K:Ow}{h:Heap}{mg:Str->Option Ox}{x:Str}{ad:Addr}{P:Qh}{es:Array Pu}{n:Nat}{kvs:List (Str×Addr)}{fa:Fa}{fs:List (Str×Nat)}(X:K.In h)(G:h.Ns mainGlobals mg)(a:PySem.W.nsIn K mainGlobals x=some (some (.ref ad)))
 (l:K.lookup ad=some {cls:=.type "dict",data:=.dict es n}) (he:Qn (n4 P) es.toList kvs) (nd:(kvs.map (·.1)).Nodup) (ns:(ad==sysModules)=false) (dk:eQ fa kvs fs):∃ad kvs,mg x=some (.ref ad)/\fT K P ad kvs/\eQ fa kvs fs:=
 {ad,kvs,Qm X G a,{⟨es,n,l,he⟩,nd,ns},dk}
end LD
namespace LD
open PySem PySem.Spec PySem.Calls PyProof.Rows PySem.W
section
variable{prog:O2}{w:O9}{A:PR}{E:Ox->Oy->Prop}{s:Oy}{K:Frag}{x C:Addr}{ox:Obj}{od:Option Obj}{name:Str}
def GQ (K:Frag)(C:Addr):Bool:=findIn K (.ref C) "__getattribute__"==some (some (.builtin "BaseException.__getattribute__"))&&findIn K (.ref C) "__getattr__"==some none&&mroIn K C (.type "BaseException")==some true&&mroIn K C (.type "object")==some true &&
 findIn K (.ref C) "__class__"==some (some (.builtin "object.__class__"))&&specialIn K (.builtin "object.__class__") "__get__"==some (some (.builtin "getset_descriptor.__get__"))&&takesIn K (.builtin "object.__class__")==some true
end
end LD
namespace LD
open PySem PySem.Spec PyProof.Rows L2
def cU (f:Nat)(c:Call)(s:GA):GE:=λZ M=>match s Z M with
 |.ok ds M=>c f ds M
 |_=>.bad
def rL (k:D->Mem->Res Fl)(Z:Env):Res D->Res Fl
 |.ok d M=>k d M
 |.err x M=>.ok (.exc x Z) M
 |.bad=>.bad
def iS (a:GE):GS:=λZ M=>rL (λ_ M=>.ok (.next Z) M) Z (a Z M)
def fK (t:cf)(a:GE):GS:=λZ M=>rL (λx M=>(b6 M (bU t x Z)).bind λρ1 M=>.ok (.next ρ1) M) Z (a Z M)
def vV (a:GE):GS:=λZ M=>rL (λx M=>.ok (.ret x) M) Z (a Z M)
def wF (t:GT)(a b:GE):GE:=λZ M=>match t Z M with
 |.ok k M=>if k then a Z M else b Z M
 |_=>.bad
def gQ (c:Nat)(s:GA):GS:=λZ M=>match s Z M with
 |.ok ds M=>if ds.length<=sz then .ok (.exc (.exc c none) Z) M else .bad
 |_=>.bad
def Mo (fa:Fa)(X:Cx)(g:GE):TE:=λσ H Q=>∃μ Z M,bb fa X.K μ H σ Z/\RelM fa X.K μ H M/\fA (g Z M) (aX fa X.K μ H Q) (λx M'=>XW fa X μ H x Z M')
abbrev DX (fa:Fa)(X:Cx)(e:Expr)(g:GE):Prop:=PE X e (Mo fa X g)
section
variable{fa:Fa}{X:Cx}{a b:Expr}{ga gb:GE}{ta:GT}{pos p:Pos}{es:List Expr}{gs:GA}{n:Nat}
def x_call (f:Nat){x:Str}{call:Call}(C:∀f,iP fa X.prog X.w X.K X.mg X.base n f (call f))(hr:dD (2*n+4) X.A)(hex:X.ex=[])(hg:Gl X x)(hm:∀ad,fa f=some ad->X.mg x=some (.ref ad))(hs:DA fa X (a::es) gs)
 (hdb:(x==("__debug__":Str))=false) (he:notStar a=true) (hpl:es.all notStar=true):DX fa X (.Call (.Name x p) (a::es) [] pos) (cU f call gs):=by
 intro pins s σ H Q I ⟨μ,Z,M,hE,hM,h⟩;unfold cU at h;cases eg:gs Z M with
 |err=>rw[eg] at h;exact h.elim
 |bad=>rw[eg] at h;exact h.elim
 | ok ds M1 =>
   rw[eg] at h;have h:fA (call f ds M1) (aX fa X.K μ H Q) (λx M'=>XW fa X μ H x Z M'):=h;rcases C f with hb|⟨ad,fd,ps,h1,h2,h3,h4,F⟩
   ·rw[hb] at h;exact h.elim
   ·have hl:ds.length=ps.length:=by
     by_cases hl:ds.length=ps.length
     ·exact hl
     ·rw[h4 ds M1 hl] at h;exact h.elim
    refine wpAny_Call_Name_kw (kD I hg (hm ad h1) ?_ hdb);refine PySem.W.callWith_K (h₀:=X.base) I.ok.mod.kin h2 (aQ (hs pos pins s σ H (λvs H1=>∃μ1,Ext μ H μ1 H1/\RelM fa X.K μ1 H1 M1/\aI fa X.K μ1 H1 ds vs) I {μ,Z,M,hE,hM,by rw[eg];exact λvs H1 μ1 x1 m1 r1=>⟨μ1,x1,m1,r1⟩}) λus s1 ⟨vs,H1,I1,r,μ1,x1,m1,r1⟩=>{I1.kIn,?_}) (bp he) (eG hpl)
    have hsp:Hl fa X.K ps.length (call f) vs H1 Q λCv dx H'=>∃y M' μ' C' c p,Cv=.ref C'/\Ext μ1 H1 μ' H'/\RelM fa X.K μ' H' M'/\y=.exc c p/\fa (gE c)=some C'/\w5 H' c dx p/\XW fa X μ H y Z M':=by
     refine{by rw[r1.length];exact hl,μ1,M1,ds,m1,r1,?_}
     cases ec:call f ds M1 with
     |ok d M2=>rw[ec] at h;exact aX.ext h x1
     |err y M2=>rw[ec] at h;exact λC dx c p H' μ' y' m ex hc hn=>{_,M2,μ',C,c,p,rfl,y',m,ex,hc,hn,h}
     |bad=>rw[ec] at h;exact h.elim
    have hl2:us.length=ps.length:=by rw[<- r.length,r1.length];exact hl
    have hb:=h3 s1 us I1.kIn (by simpa using hl2)
    rw[Po] at hb;refine wpAny_call (codeAny_mono (F.run X.A X.stack s1 H1 {us,[]} us vs Q _ hr I1.env0 hb r hsp) λr' s' hq=>?_);cases r' with
    | error e =>
      unfold CR at hq;dsimp only at hq;obtain⟨a',C',dx,H',rfl,I',fl,y,M',μ',C2,c,p,ec,ye,m',ey,hc,hn,hw⟩:=zr I1 hex hq;cases ec;exact hw pins σ H' μ' s' a' C' dx c p I' (x1.trans ye) ((hE.ext x1).ext ye) m' ey hc hn fl
    | ok fl =>
      cases fl with
      |ret u=>exact I1.after hq
      |next=>exact False.elim hq
      |brk=>exact False.elim hq
      |cont=>exact False.elim hq
def Kw {c:Expr}(hc:DT fa X c ta)(ha:DX fa X a ga)(hb:DX fa X b gb):DX fa X (.IfExp c a b pos) (wF ta ga gb):=
 bB (sG hc ha hb) λσ H Q ⟨μ,Z,M,hE,hM,h⟩=>by
  unfold wF at h;cases et:ta Z M with
  |err=>rw[et] at h;exact h.elim
  |bad=>rw[et] at h;exact h.elim
  | ok k M1 =>
    rw[et] at h;refine{μ,Z,M,hE,hM,?_};rw[et];intro H1 μ1 x1 m1;have go:∀g:GE,fA (g Z M1) (aX fa X.K μ H Q) (λx M'=>XW fa X μ H x Z M')->Mo fa X g σ H1 Q:=λg q=>by
     refine{μ1,Z,M1,hE.ext x1,m1,?_};cases e:g Z M1 with
     |ok d M2=>rw[e] at q;exact aX.ext q x1
     |err y M2=>rw[e] at q;exact XW.ext q x1
     |bad=>rw[e] at q;exact q
    cases k with
    |true=>exact go ga h
    |false=>exact go gb h
def KO (ha:DX fa X a ga)(hs:swapsWith a none pos.line X.env=pure false):DS fa X (.Expr a pos) (iS ga):=
 dJ (mK ha hs) λD' σ H ⟨μ,Z,M,hE,hM,h⟩=>{μ,Z,M,hE,hM,by
  unfold iS at h;cases e:ga Z M with
  |ok d M1=>rw[e] at h;exact λv H1 μ1 x1 m1 r1=>h σ H1 μ1 x1 (hE.ext x1) m1
  |err x M1=>rw[e] at h;exact h
  |bad=>rw[e] at h;exact h.elim}
def Hx {tg:Expr}{t:cf}(ha:DX fa X a ga)(hg:PG X tg (gT fa X.K t))(hs:swapsWithSole [tg] a pos.line X.env=pure false)(hw:swappedStores [tg] a X.env=pure none)(h1:(assignEach [tg] X.env).map (·.2)=[assign tg X.env]) :
 DS fa X (.Assign [tg] a pos) (fK t ga):=
 dJ (oy ha hg hs hw h1) λD σ H ⟨μ,Z,M,hE,hM,h⟩=>{μ,Z,M,hE,hM,by
  unfold fK at h;cases e:ga Z M with
  | ok d M1 =>
    rw[e] at h;obtain⟨ρ1,M2,e',q⟩:=aG h;cases eb:bU t d Z with
    |none=>rw[eb] at e';cases e'
    | some ρ2 =>
      rw[eb] at e';cases e';exact λv H1 μ1 x1 m1 r1=>{μ1,Z,_,d,ρ1,hE.ext x1,m1,r1,eb,λσ1 hE2=>q σ1 H1 μ1 x1 hE2 m1}
  |err x M1=>rw[e] at h;exact h
  |bad=>rw[e] at h;exact h.elim}
def Hu (ha:DX fa X a ga):DS fa X (.Return (some a) pos) (vV ga):=
 dJ (yz ha) λD' σ H ⟨μ,Z,M,hE,hM,h⟩=>{μ,Z,M,hE,hM,by
  unfold vV at h;cases e:ga Z M with
  |ok d M1=>rw[e] at h;exact h
  |err x M1=>rw[e] at h;exact h
  |bad=>rw[e] at h;exact h.elim}
end
abbrev zT:List Ox:=[.type "ValueError",.type "Exception",.type "BaseException",.type "object"]
def Hr (K:Ow)(C:Addr)(f:ClassData->Addr->List Ox->String->Bool):Bool:=match K.lookup C with
 | some {.type "type", _, .cls cd, sl} => (match cd.mro, sl.toList with
   |.ref C'::bm,[_,_,_,_,some (.builtin n),_]=>f cd C' bm n
   |_,_=>false)
 |_=>false
def Hq {K:Ow}{h:Heap}{C:Addr}{f:ClassData->Addr->List Ox->String->Bool}(X:K.In h)(q:Hr K C f=true) :
 ∃bm N nm q bs hdct sn sub ab col dd k0 k1 k2 k3 k5 dl n C',f {nm,bs,.ref C'::bm,N,q,hdct,sn,sub,ab,col,dl} C' bm n=true/\h.get? C=some {.type "type",dd,.cls {nm,bs,.ref C'::bm,N,q,hdct,sn,sub,ab,col,dl},#[k0,k1,k2,k3,some (.builtin n),k5]}:=by
 unfold Hr at q;split at q
 ·rename_i dd cd sl ho;split at q
  ·rename_i C' bm k0 k1 k2 k3 n k5 hm hs;obtain⟨nm,bs,mro,ns,qn,hd,sn,sub,ab,col,del⟩:=cd;dsimp only at hm;subst hm;have hsl:sl=#[k0,k1,k2,k3,some (.builtin n),k5]:=by
    obtain⟨l⟩:=sl;simp only at hs;rw[hs]
   subst hsl;exact{_,_,_,_,_,_,_,_,_,_,_,_,_,_,_,_,_,_,_,q,X _ _ ho}
  ·cases q
 ·cases q
def B4 {K:Ow}{h:Heap}{C:Addr}{bmB:List Ox}{newId:String}(X:K.In h)(q:PySem.W.excIn K C bmB newId=true) :
 ∃bm N nm q bs hdct sn sub ab col dd k0 k1 k2 k3 k5 mN,h.get? C=some (excClassObj nm q C N bs bm hdct sn sub ab col dd k0 k1 k2 k3 k5 newId)/\h.Ns N mN/\mN "__init__"=none/\OwnTail h bmB bm:=by
 obtain⟨bm,ns,nm,qn,bs,hd,sn,sub,ab,col,dd,k0,k1,k2,k3,k5,dl,n,C',q,ho⟩:=Hq (f:=λcd C' bm n=>C'==C&&n==newId&&!cd.hasDel&&PySem.W.tailIn K bmB bm&&PySem.W.nsOkIn K cd.ns&&PySem.W.nsIn K cd.ns "__init__"==some none) X q;simp only[OF,beq_iff_eq,Bool.not_eq_true'] at q;obtain⟨⟨⟨⟨⟨rfl,rfl⟩,rfl⟩,ht⟩,hok⟩,hni⟩:=q;exact{bm,ns,nm,qn,bs,hd,sn,sub,ab,col,dd,k0,k1,k2,k3,k5,_,ho,.of_isNs (PySem.W.isNs_of_in X hok),PySem.W.nsMap_none_of_in X hok hni,PySem.W.tail_of_in X ht}
def yO {P:O2}{w:O9}{H:Hp}{h:Heap}{a:Addr}{o:HO}(x:bI P w H h a o):∃ob,h.get? a=some ob:=by
 cases o with
 |lst xs=>obtain⟨_,_,_,_,e⟩:=x;exact{_,e}
 |tup xs=>obtain⟨_,_,_,ob,e,_⟩:=x;exact{_,e}
 |dK kvs=>obtain⟨_,_,_,_,o,_,_,e,_⟩:=x;exact{_,e}
 |dT kvs=>obtain⟨_,_,_,_,o,_,_,e,_⟩:=x;exact{_,e}
 |set S n=>obtain⟨o,_,_,_,e,_⟩:=x;exact{_,e}
 |ins C dx fs=>obtain⟨_,_,_,e,_⟩:=x;exact{_,e}
 |own y=>exact x
 |xd fs=>obtain⟨_,⟨_,_,_,e,_⟩,_⟩:=x;exact{_,e}
 |rng lo hi=>obtain⟨_,_,_,e⟩:=x;exact{_,e}
 |frz ob u=>obtain⟨e,_⟩:=x;exact{_,e}
 |tbl ps=>exact{_,x}
 |met f y=>exact{_,x}
 |ext φ=>obtain⟨_,e,_⟩:=x;exact e
 |dn es=>obtain⟨_,_,o,e,_⟩:=x;exact⟨o,e⟩
def tu {X:Cx}{pins:List (Addr×Obj)}{σ:L2.St}{H:Hp}{s:Oy}(I:Inv X pins σ H s)(hex:X.ex=[]){e:Addr}(hn:s.heap.get? e=none):uw X e/\H e=none:=by
 refine{{?_,λp hp z=>?_},?_}
 ·cases q:X.s₀.heap.get? e with
  |none=>rfl
  | some o =>
    obtain⟨o',e'⟩:=I.base.there e o q (by rw[hex];simp)
    rw[hn] at e';cases e'
 ·have:=(I.pin p (Pt _ hp)).1;rw[z,hn] at this;cases this
 ·cases q:H e with
  |none=>rfl
  | some u =>
    obtain⟨ob,z⟩:=yO (I.hok e u q);rw[hn] at z;cases z
section
variable{fa:Fa}{X:Cx}{a b:Expr}{ga gb:GE}{ta:GT}{pos p:Pos}{es:List Expr}{gs:GA}{n:Nat}
def E6 (c:Nat){x:Str}{np cpos:Pos}(hx:∃C,X.mg x=some (.ref C)/\fa (gE c)=some C/\PySem.W.excIn X.K C zT "ValueError.__new__"=true)(hex:X.ex=[])(hg:Gl X x)(hc:X.calm=true)(hs:DA fa X (a::es) gs)
 (hdb:(x==("__debug__":Str))=false) (he:notStar a=true) (hpl:es.all notStar=true):DS fa X (.Raise (some (.Call (.Name x np) (a::es) [] cpos)) none pos) (gQ c gs):=by
 intro pins s σ H D' I ⟨μ,Z,M,hE,hM,h⟩;obtain⟨C,hmC,hfC,hin⟩:=hx;obtain⟨bm,N,nm,q,bs,hdct,sn,sub,ab,col,dd,k0,k1,k2,k3,k5,mN,hC,hN,hni,T⟩:=B4 I.ok.mod.kin hin;unfold gQ at h;cases eg:gs Z M with
 |err=>rw[eg] at h;exact h.elim
 |bad=>rw[eg] at h;exact h.elim
 | ok ds M1 =>
   rw[eg] at h;dsimp only at h;split at h
   ·next hz=>
    have h:XW fa X μ H (.exc c none) Z M1:=h;refine wpAny_Raise_call_subT (nm:=nm) (q:=q) (N:=N) (bs:=bs) (hdct:=hdct) (sn:=sn) (sub:=sub) (ab:=ab) (col:=col) (dd:=dd) (k0:=k0) (k1:=k1) (k2:=k2) (k3:=k3) (k5:=k5) PySem.F.excBase_ValueError (T.hasType `k) (I.ok.hd hc) (eG (es:=a::es) (by simp[he,hpl])) hni (kD I hg hmC {rfl,?_} hdb)
    have ar:=aQ (hs cpos pins s σ H (λvs H1=>∃μ1,Ext μ H μ1 H1/\RelM fa X.K μ1 H1 M1/\aI fa X.K μ1 H1 ds vs) I {μ,Z,M,hE,hM,by rw[eg];exact λvs H1 μ1 x1 m1 r1=>⟨μ1,x1,m1,r1⟩}) (Q':=λus s2=>([]:List (Str×Ox))=[]/\us.length<=sizeLine/\s2.heap.get? C=some (excClassObj nm q C N bs bm hdct sn sub ab col dd k0 k1 k2 k3 k5 "ValueError.__new__")/\s2.heap.Ns N mN/\OwnTail s2.heap zT bm/\∀h' e,Heap.MadeExcOf s2.heap h' e (.ref C) us->X.xe (.ref e) {s2 with heap:=h'}) λus s1 ⟨vs,H1,I1,r,μ1,x1,m1,r1⟩=>by
     refine{rfl,?_,I1.bk _ _ hC,hN.keeps I1.bk,T.keeps I1.bk,λh' e hm=>?_}
     ·rw[<- r.length,r1.length,<- dS];exact hz
     ·obtain⟨t,ht,_,_⟩:=hm.there;obtain⟨n1,n2⟩:=tu I1 hex hm.new;exact h pins σ H1 μ1 {s1 with heap:=h'} e C none c none (I1.kept (t':=s1.toks) hm.keeps) x1 (hE.ext x1) m1 rfl hfC rfl {n1,n2,_,_,ht,rfl,rfl,rfl,.inl rfl}
    rw[bp he] at ar ⊢;exact PySem.Calls.evalArgs_plain ar
   ·exact h.elim
end
structure Ki (fa:Fa) (K:Ow):Prop where
 g:∀c C,fa (gE c)=some C->GQ K C=true/\PySem.W.mroIn K C (.type "ValueError")=some true/\PySem.W.isIn K (.ref C) C=true
 d:∀c C D,fa (gE c)=some C->fa 999=some D->PySem.W.isIn K (.ref C) D=true/\PySem.W.mroIn K C (.ref D)=some true/\PySem.W.mroIn K D (.type "BaseException")=some true/\PySem.W.typeIn K (.ref D)=some (.type "type")
 n:∀c C c' C',fa (gE c)=some C->fa (gE c')=some C'->c'≠c->PySem.W.kin_not K C C'=true
def wG {M:Model}{A:PR}{E:Ox->Oy->Prop}{New:Addr->Prop}{C a:Addr}{dx:Option Addr}{H:Hp}{s:Oy}{Q:Unit->Oy->Prop}(f:mE New C dx a s.heap H)(h:Q () s):wpAny M A (setFlight (.ref a) none) Q E s:=by
 obtain⟨_,_,o,vs,h1,_,_,h4,tr⟩:=f;unfold setFlight;rcases tr with t|⟨T,oT,ts,t1,_,_,_,t5,t6,t7⟩
 ·refine tqa (tqf h1 h4 t ?_);rw[if_neg `d]
  exact tqb h
 ·refine tqa (tqf h1 h4 t1 ?_);rw[if_pos (show(Value.ref T != Value.none)=true from by simp)]
  refine wpAny_setField t5 t6 (Qg.mp t7).1 ?_;have e:=Heap.update_setField_same s.heap T oT ts 3 .none t5 t6 t7;show Q () {s with heap:=s.heap.update T (Obj.mapFields (·.setIfInBounds 3 .none))}
  rw[e];exact h
section
variable{X:Cx}{pins:List (Addr×Obj)}{σ:L2.St}{H:Hp}{s:Oy}
abbrev oR (X:Cx)(pn:List (Addr×Obj))(E:Ox->Oy->Prop):Cx:={X with pn:=pn,xe:=E}
abbrev rn (X:Cx)(v:Ox)(E:Ox->Oy->Prop):Cx:={X with A:=X.A.mark (some v),calm:=false,xe:=E}
def zp (I:Inv X pins σ H s)(E:Ox->Oy->Prop):Inv (oR X (X.pn++pins) E) [] σ H s:=
 {⟨I.ok.mod,I.ok.kind,I.ok.glob,I.ok.blt,I.ok.above,I.ok.inj,I.ok.has,I.ok.cab,I.ok.hd,I.ok.frames,I.ok.stk,I.ok.exf,I.ok.bs,I.ok.bsz,I.ok.noex,I.ok.exfs,I.ok.funs,I.ok.frf⟩,I.os,I.bare,I.base,I.loc,I.cell,I.free,I.freeC,λp hp=>I.pin p (by simpa using hp),I.hok,I.len}
def iF {E:Ox->Oy->Prop}{pins':List (Addr×Obj)}(I:Inv (oR X (X.pn++pins) E) pins' σ H s):Inv X pins σ H s:=
 {⟨I.ok.mod,I.ok.kind,I.ok.glob,I.ok.blt,I.ok.above,I.ok.inj,I.ok.has,I.ok.cab,I.ok.hd,I.ok.frames,I.ok.stk,I.ok.exf,I.ok.bs,I.ok.bsz,I.ok.noex,I.ok.exfs,I.ok.funs,I.ok.frf⟩,I.os,I.bare,I.base,I.loc,I.cell,I.free,I.freeC,λp hp=>I.pin p (Pt _ hp),I.hok,I.len}
def qE (I:Inv X pins σ H s)(v:Ox)(E:Ox->Oy->Prop):Inv (rn X v E) pins σ H s:=
 {{I.ok.mod,I.ok.kind,I.ok.glob,I.ok.blt,I.ok.above,I.ok.inj,I.ok.has,I.ok.cab,(λz=>nomatch z),I.ok.frames,I.ok.stk,I.ok.exf,I.ok.bs,I.ok.bsz,I.ok.noex,I.ok.exfs,I.ok.funs,I.ok.frf},I.os,I.bare,I.base,I.loc,I.cell,I.free,I.freeC,I.pin,I.hok,I.len}
def jS {v:Ox}{E:Ox->Oy->Prop}(hh:X.calm=true->X.A.handled=none)(I:Inv (rn X v E) pins σ H s):Inv X pins σ H s:=
 {⟨I.ok.mod,I.ok.kind,I.ok.glob,I.ok.blt,I.ok.above,I.ok.inj,I.ok.has,I.ok.cab,hh,I.ok.frames,I.ok.stk,I.ok.exf,I.ok.bs,I.ok.bsz,I.ok.noex,I.ok.exfs,I.ok.funs,I.ok.frf⟩,I.os,I.bare,I.base,I.loc,I.cell,I.free,I.freeC,I.pin,I.hok,I.len}
end
def GU (K:Ow)(cl:List (Nat×Addr))(D:Addr):Bool:=PySem.W.mroIn K D (.type "BaseException")==some true&&PySem.W.typeIn K (.ref D)==some (.type "type") &&
 cl.all λq=>GQ K q.2&&PySem.W.mroIn K q.2 (.type "ValueError")==some true&&PySem.W.isIn K (.ref q.2) q.2&&PySem.W.isIn K (.ref q.2) D&&PySem.W.mroIn K q.2 (.ref D)==some true&&cl.all λr=>r.1==q.1||PySem.W.kin_not K q.2 r.2
def tM (l cl:List (Nat×Addr))(D:Addr):Fa:=λi=>if i<999 then l.lookup i else if i=999 then some D else cl.lookup (i-1000)
def lookup_mem:∀{l:List (Nat×Addr)}{c:Nat}{C:Addr},l.lookup c=some C->(c,C)∈l
 |[],_,_,h=>by cases h
 | (a, b) :: r, c, C, h => by
   rw[Py] at h;split at h
   ·next e=>cases h;rw[eq_of_beq e];exact O4
   ·exact OP _ (lookup_mem h)
def kF {l cl:List (Nat×Addr)}{D:Addr}{c:Nat}{C:Addr}(h:tM l cl D (gE c)=some C):(c,C)∈cl:=by
 unfold tM gE at h;rw[if_neg `a,if_neg `a,Qo] at h
 exact lookup_mem h
def GR {K:Ow}{l cl:List (Nat×Addr)}{D:Addr}(h:GU K cl D=true):Ki (tM l cl D) K:=by
 unfold GU at h;simp only[OF,beq_iff_eq,O0,Qu] at h;obtain⟨⟨h1,h2⟩,h3⟩:=h;refine{λc C e=>?_,λc C D' e e'=>?_,λc C c' C' e e' n=>?_}
 ·obtain⟨⟨⟨⟨⟨a1,a2⟩,a3⟩,a4⟩,a5⟩,a6⟩:=h3 _ (kF e);exact⟨a1,a2,a3⟩
 ·obtain⟨⟨⟨⟨⟨a1,a2⟩,a3⟩,a4⟩,a5⟩,a6⟩:=h3 _ (kF e);have e':some D=some D':=e';cases e';exact⟨a4,a5,h1,h2⟩
 ·obtain⟨⟨⟨⟨⟨a1,a2⟩,a3⟩,a4⟩,a5⟩,a6⟩:=h3 _ (kF e);exact(a6 _ (kF e')).elim (λz=>absurd z n) id
def fit (z:Str)(i:Int)(y:Str):Prop:=i.natAbs.log2<1920/\(z++(toString i:Str)).length<=sizeLine/\(z++(toString i:Str)++y).length<=sizeLine
section
variable{X:Cx}{a:Expr}{ta:TE}{pos p1 p2 p3:Pos}{j j2:Nat}{z y:Str}
def tF3 (z y:Str)(ta:TE):TE:=λσ H Q=>z.length<=sizeLine/\ta σ H λv H1=>∃i,v=.int i/\fit z i y/\Q (.str (z++(toString i:Str)++y)) H1
def Aa (z:Str):Str.empty++z=z:=by
 cases z with
 |mk c=>show Str.mk (#[]++c)=_;simp
def K1 (ha:PE X a ta):PE X (.JoinedStr [.Constant (.str z) j p1,.FormattedValue a (-1) none p2,.Constant (.str y) j2 p3] pos) (tF3 z y ta):=by
 intro pins s σ H Q I ⟨hz,h⟩;refine JoinedStr_many (joinParts_cons (Calls.Constant_str ?_));show(Str.empty++z).length<=sizeLine/\_;rw[Aa];refine{hz,joinParts_cons (FormattedValue_plain (aQ (ha pins _ σ H _ (I.tok _) h) λu s1 ⟨v,H1,I1,r1,i,ev,⟨f1,f2,f3⟩,q⟩=>?_))};subst ev;obtain⟨t,rfl⟩:=r1;refine formatField_int_small f1 {f2,joinParts_cons (Calls.Constant_str {f3,joinParts_nil ?_ f3})};exact{.str _,H1,I1.tok _,{_,rfl},q}
end
def Kj (C:Addr)(dx:Option Addr)(a:Addr)(h:Heap):Prop:=∃o vs t0,h.get? a=some o/\o.cls=.ref C/\o.dict=dx/\o.data=.fields vs/\vs[0]?=some (.ref t0)/\vs[1]?=some .none
def JA (K:Ow)(C:Addr)(fI:Addr):Bool:=Hr K C λcd C' bm n=>C'==C&&n=="ValueError.__new__"&&!cd.hasDel&&PySem.W.tailIn K zT bm&&PySem.W.nsOkIn K cd.ns&&PySem.W.nsIn K cd.ns "__init__"==some (some (.ref fI))
def spI (C:Addr)(fld:Str):Sp:=λvs H Q _=>∃e i,vs=[.ref e,.int i]/\H e=some (.ext (Kj C none e))/\i.natAbs<2^64/\∀d,H d=none->d≠e->Q .non (upd (upd H d (.xd [(fld,.int i)])) e (.ext (Kj C (some d) e)))
def len_app (a b:Str):(a++b).length=a.length+b.length:=by
 show(Str.append a b).length=_;unfold Str.append Str.length;simp
def Jw {z y:Str}{i:Int}(hz:z.length<=1000)(hy:y.length<=1000)(hi:i.natAbs<2^64):fit z i y:=by
 have h1:i.natAbs.log2<1920:=by
  by_cases h0:i.natAbs=0
  ·rw[h0];decide
  ·exact O1 ((Nat.log2_lt h0).mpr hi) `a
 have h2:((toString i:Str)).length<=1921:=PyProof.Rows.int_text_len_1921 h1;have hs:sizeLine=16777216:=dS.symm;refine{h1,?_,?_}
 ·rw[len_app];omega
 ·rw[len_app,len_app];omega
def Ad (fa:Fa)(P:O2)(w:O9)(K:Ow)(mg:Str->Option Ox)(base:Heap)(c:Nat)(x:Str):Prop:=
 ∃C fI fd y oI,mg x=some (.ref C)/\fa (gE c)=some C/\JA K C fI=true/\PySem.W.keepIn K (.ref C)=true/\K.lookup fI=some oI/\oI.cls=.type "function"/\Binds K fd ["self",y] []/\lO P w K mg base (iY P w) 1 fI fd ["self",y] (spI C (Ak c))
def uN (c:Nat)(a:GE):GS:=λZ M=>match a Z M with
 |.ok (.int i) M=>if i.natAbs<2^64 then .ok (.exc (.exc c (some i)) Z) M else .bad
 |_=>.bad
section
variable{fa:Fa}{X:Cx}{a b:Expr}{ga gb:GE}{ta:GT}{pos p np cpos:Pos}{es:List Expr}{gs:GA}{n:Nat}{x:Str}
def D7 (fa:Fa)(K:Ow)(f:Str):Prop:=∀c C,fa (gE c)=some C->Ak c=f->PySem.W.hasDictIn K C=true/\PySem.W.findIn K (.ref C) f=some none
end
def inC (s:Stmt):Stmt:=match s with
 |.ClassDef _ _ _ (b::_) _ _ _ _ _ _ _=>b
 |_=>s
def tH (z y:Str)(a:GE):GE:=λZ M=>(a Z M).bind λd M=>match d with
 |.int i=>if z.length<=1000/\y.length<=1000/\i.natAbs<2^64 then .ok (.str (z++(toString i:Str)++y)) M else .bad
 |_=>.bad
def Ni {fa:Fa}{X:Cx}{a:Expr}{ga:GE}{pos p1 p2 p3:Pos}{j j2:Nat}{z y:Str}(ha:DE fa X a ga):DE fa X (.JoinedStr [.Constant (.str z) j p1,.FormattedValue a (-1) none p2,.Constant (.str y) j2 p3] pos) (tH z y ga):=
 bB (K1 ha) λσ H Q ⟨μ,Z,M,hE,hM,h⟩=>by
  obtain⟨x0,M1,eg,h1⟩:=aG h;cases x0 with
  | int i =>
    have h1:ag (if z.length<=1000/\y.length<=1000/\i.natAbs<2^64 then .ok (.str (z++(toString i:Str)++y)) M1 else .bad) (aX fa X.K μ H Q):=h1;split at h1
    ·next hm=>
     refine{OZ hm.1 (by rw[<- dS];decide),μ,Z,M,hE,hM,?_}
     rw[eg];intro v H1 μ1 x1 m1 r1;obtain rfl:v=.int i:=r1;exact{i,rfl,Jw hm.1 hm.2.1 hm.2.2,h1 (.str _) H1 μ1 x1 m1 rfl}
    ·exact h1.elim
  |_=>exact h1.elim
def ki (k1 k2:Nat)(h:GS):Fl->Mem->Res Fl
 | .exc x Z, M => match x with
   |.exc c _=>if c=k1\/c=k2 then(h Z M).bind λfl M=>match fl with|.exc _ _=>.bad|fl=>.ok fl M else .bad
   |_=>.bad
 |fl,M=>.ok fl M
def lW (b:GS)(k1 k2:Nat)(h:GS):GS:=λZ M=>(b Z M).bind (ki k1 k2 h)
def vF (fa:Fa)(K:Ow)(mg:Str->Option Ox)(x1 x2:Str)(k1 k2:Nat):Prop:=∃D1 D2,mg x1=some (.ref D1)/\mg x2=some (.ref D2)/\∀c C,c=k1\/c=k2->fa (gE c)=some C->PySem.W.exmAny K (.ref C) [.ref D1,.ref D2]=some true
def MT (K:Ow)(cl:List (Nat×Addr))(D1 D2:Addr)(k1 k2:Nat):Bool:=cl.all λq=>!(q.1==k1||q.1==k2)||PySem.W.exmAny K (.ref q.2) [.ref D1,.ref D2]==some true
def Hd {K:Ow}{l cl:List (Nat×Addr)}{D D1 D2:Addr}{mg:Str->Option Ox}{x1 x2:Str}{k1 k2:Nat}(m1:mg x1=some (.ref D1))(m2:mg x2=some (.ref D2))(h:MT K cl D1 D2 k1 k2=true):vF (tM l cl D) K mg x1 x2 k1 k2:=by
 refine{D1,D2,m1,m2,λc C hc e=>?_};have:=O0.mp h _ (kF e);rw[Qu] at this;rcases this with z|z
 ·have e1:(c==k1||c==k2)=true:=by simpa using hc
  have z:(!(c==k1||c==k2))=true:=z;rw[e1] at z;cases z
 ·exact eq_of_beq z
def Km (fa:Fa)(K:Ow):Prop:=∀c C,fa (jN c)=some C->lF c≠[]->vH K C/\∀f∈lF c,Kn K C f
def pB (fa:Fa)(K:Ow)(m:Str)(c f:Nat):Prop:=∃C,fa (jN c)=some C/\vH K C/\(∀ad,fa f=some ad->Meth K C m ad)/\m∉lF c/\lF c≠[]
def lg (μ:Mu)(k:Nat)(p:Addr):Mu:={μ.pub,μ.priv,λj=>if j=aE k then some p else μ.ob j}
section
variable{fa:Fa}{K:Ow}{μ:Mu}{H:Hp}{M:Mem}
def RelM.ob_ins (h:RelM fa K μ H M){k:Nat}{a:Addr}(e:μ.ob (aE k)=some a):∃o,H a=some o:=by
 by_cases hk:k<M.length
 ·rcases h.at' k M[k] (by simp[hk]) with⟨b,vs,h1,_⟩|⟨b,h1,h2,h3⟩
  ·rw[h.sep _ _ h1] at e;cases e
  ·rw[e] at h1;cases h1;exact let{o,z,_}:=h3.hold;⟨o,z⟩
 ·rw[h.oout k (Nat.le_of_not_lt hk)] at e;cases e
end
end LD
namespace LD
open PySem
section
variable{prog:O2}{w:O9}{A:PR}{E:Ox->Oy->Prop}{s:Oy}
abbrev TK (prog:O2)(w:O9)(h:Heap)(ks:List Int)(a:Addr):Prop:=IsTupleKey (intKind prog w) h ks a
inductive iO (prog:O2) (w:O9) (h:Heap):List (List Int)->List Ox->Prop
 |nil:iO prog w h [] []
 |cons {ks:List Int}{a:Addr}{kss:List (List Int)}{vs:List Ox}:TK prog w h ks a->iO prog w h kss vs->iO prog w h (ks::kss) (.ref a::vs)
def NK (prog:O2)(w:O9)(h:Heap)(kss:List (List Int))(a:Addr):Prop:=∃o items n,h.get? a=some o/\o.cls=.type "tuple"/\o.data=.seq items n/\iO prog w h kss items.toList
def iO.inj {h:Heap}:∀{x y:List (List Int)}{vs:List Ox},iO prog w h x vs->iO prog w h y vs->x=y
 |_,_,_,.nil,.nil=>rfl
 |_,_,_,.cons a r,.cons b t=>by rw[a.inj b,iO.inj r t]
def NK.typeIs {kss:List (List Int)}{a:Addr}(x:NK prog w s.heap kss a):s.TypeIs (.ref a) "tuple":=let{o,_,_,ho,hc,_}:=x;⟨o,ho,hc⟩
def NK.inj {h:Heap}{a:Addr}{x y:List (List Int)}(hx:NK prog w h x a)(hy:NK prog w h y a):x=y:=by
 obtain⟨o,i,n,h1,_,h2,h3⟩:=hx;obtain⟨o',i',n',g1,_,g2,g3⟩:=hy;rw[h1] at g1;cases g1;rw[h2] at g2;cases g2;exact h3.inj g3
def iO.keeps {h h':Heap}{d:Addr}{o:Obj}{es:Array Pu}{ep:Nat}(ho:h.get? d=some o)(hd:o.data=.dict es ep)(hs:Qd d h h'):∀{kss:List (List Int)}{vs:List Ox},iO prog w h kss vs->iO prog w h' kss vs
 |_,_,.nil=>.nil
 |_,_,.cons a r=>.cons (a.keeps ho hd hs) (iO.keeps ho hd hs r)
def NK.keeps {h h':Heap}{kss:List (List Int)}{a d:Addr}{o:Obj}{es:Array Pu}{ep:Nat}(x:NK prog w h kss a)(ho:h.get? d=some o)(hd:o.data=.dict es ep)(hs:Qd d h h'):NK prog w h' kss a:=by
 obtain⟨u,i,n,h1,h2,h3,h4⟩:=x;refine{u,i,n,(hs.2 a λz=>?_).trans h1,h2,h3,h4.keeps ho hd hs};rw[z,ho] at h1;cases h1;rw[hd] at h3;cases h3
def sQ (prog:O2)(w:O9)(kss:List (List Int)):Int:=reduceHash (Builtin.Tuple.tupleHashOf (kss.map (tupleKeyHash (intKind prog w))))
def mL (kss:List (List Int)):Nat:=(kss.map λks=>ks.length+1).sum+1
def FA {kss:List (List Int)}{a:Addr}{Q:Int->Oy->Prop}(hu:A.units+2<cLine)(hk:NK prog w s.heap kss a)(h:Q (sQ prog w kss) {s with toks:=s.toks+mL kss}):wpAny (model prog w) A (pyHash (.ref a)) Q E s:=by
 have hT:=hk.typeIs;obtain⟨o,items,n,ho,_,hd,hi⟩:=hk;unfold pyHash;first|unfold pyHashByItsType|skip
 first|refine tqa (wpAny_cRoomFor_or (.inr `a) ?_)|skip
 refine tqa (wpAny_specialOf hT F.slot_tuple_hash.lookup ?_);show wpAny _ _ (if (some (Value.builtin "tuple.__hash__")==some Value.none)=true then _ else _) Q E s;rw[if_neg (by rw[beq_builtin_none];exact OR)]
 refine tqa (wpAny_specialOf hT F.slot_tuple_hash.lookup ?_);show wpAny _ _ (callSpecialIfBoundUnlessNone? (.ref a) "__hash__" _ >>= _) Q E s;refine tqa (wpAny_callSpecialIfBoundUnlessNone?_slot hT F.slot_tuple_hash (wpAny_call_entry F.slot_tuple_hash hT F.entry_tuple_hash ?_ (F.args_tuple_hash_1 _)));show wpAny _ _ (Builtin.Tuple.tupleItemsOf (.ref a) >>= _) _ _ s;refine tqa (wpAny_tupleItemsOf ho hd ?_);refine tqa ?_;rw[<- Array.forIn_toList];refine wpAny_forIn_list _ (λrest (b:Array Int) s'=>∃done left,kss=done++left/\iO prog w s.heap left rest/\b.toList=done.map (tupleKeyHash (intKind prog w))/\s'={s with toks:=s.toks+(done.map λks=>ks.length+1).sum}) _ ?_ ?_ _ _ {[],kss,rfl,hi,rfl,rfl}
 ·rintro x rest b s' ⟨done,left,rfl,hl,hb,rfl⟩;cases hl with
  | @cons k c ks' _ h1 hl' =>
    refine tqa (wpAny_pyHash_tuple (knd:=intKind prog w) ?_ h1 ?_)
    ·show A.units+1<cLine;omega
    ·first
      |exact tqb {done++[k],ks',`s,hl',by simp[hb],by simp[QM]}
      |exact tqa (tqb (tqb {done++[k],ks',`s,hl',by simp[hb],by simp[QM]}))
 ·rintro b s' ⟨done,left,rfl,hl,hb,rfl⟩;cases hl;rw[Po] at h;show wpAny _ _ (retInt (Builtin.Tuple.tupleHashOf b.toList)) _ _ _;rw[hb];refine wpAny_ret_mkInt ?_;generalize hv:Builtin.Tuple.tupleHashOf (done.map (tupleKeyHash (intKind prog w)))=v;show wpAny _ _ (if (decide (-(2:Int)^63<=v)&&decide (v<2^63))=true then _ else _) Q E _;unfold sQ reduceHash at h;rw[hv] at h;by_cases hr:(decide (-(2:Int)^63<=v)&&decide (v<2^63))=true
  ·rw[if_pos hr];rw[if_pos hr] at h;exact tqb (by simpa[mL,QM] using h)
  ·rw[if_neg hr];rw[if_neg hr] at h;exact tqa (wpAny_rule (tqb (by simpa[mL,QM] using h)))
def wb {x y:List (List Int)}{a b:Addr}{P:Fin->Oy->Prop}(hu:A.units<cLine)(hx:NK prog w s.heap x a)(hy:NK prog w s.heap y b)(h:P (.done (.ret (.bool (decide (x=y))))) s) :
 wpAny (model prog w) A (Builtin.«tuple.__eq__» {[.ref a,.ref b],[]}) P E s:=by
 have hTb:=hy.typeIs;obtain⟨oa,xs,na,hoa,_,hda,hia⟩:=hx;obtain⟨ob,ys,nb,hob,_,hdb,hib⟩:=hy;show wpAny _ _ (isInstance (.ref b) (.type "tuple") >>= _) _ _ s;refine tqa (wpAny_isInstance hTb isSubtype_tuple_tuple ?_);simp only[Bool.not_true,Px,if_false];refine tqa (wpAny_tupleItemsOf hoa hda (tqa (wpAny_tupleItemsOf hob hdb (tqa ?_))));refine wpAny_forIn_list _ (λrest r s'=>r.1=none/\s'=s/\∃x' y' xs' ys',rest=List.zip xs' ys'/\iO prog w s.heap x' xs'/\iO prog w s.heap y' ys'/\decide (x'=y')=decide (x=y)/\(xs'.length==ys'.length)=(xs.size==ys.size)) _ ?_ ?_ _ _ {rfl,rfl,x,y,xs.toList,ys.toList,rfl,hia,hib,rfl,`s}
 ·rintro⟨u,v⟩ rest r s' ⟨hr,rfl,x',y',xs',ys',hz,hx',hy',hdec,hlen⟩;cases hx' with
  |nil=>simp at hz
  | @cons k1 u' x2 xs2 h1 hx2 =>
    cases hy' with
    |nil=>simp at hz
    | @cons k2 v' y2 ys2 h2 hy2 =>
      simp only[List.zip_cons_cons,List.cons.injEq,Prod.mk.injEq] at hz;obtain⟨⟨rfl,rfl⟩,rfl⟩:=hz;refine tqa (wpAny_eqBool_tuple (x:=k1) (y:=k2) hu h1 h2 ?_);by_cases hk:k1=k2
      ·subst hk;rw[decide_eq_true rfl];simp only[Bool.not_true,Px,if_false];refine tqb {rfl,rfl,x2,y2,xs2,ys2,rfl,hx2,hy2,?_,by simpa using hlen}
       rw[<- hdec];by_cases hxy:x2=y2<;>simp[hxy]
      ·rw[decide_eq_false hk];simp only[Bool.not_false,if_true];rw[show decide (x=y)=false by rw[<- hdec];simp[hk]] at h
       exact tqa (tqb (tqb (tqb h)))
 ·rintro⟨r1,r2⟩ s' ⟨hr,rfl,x',y',xs',ys',hz,hx',hy',hdec,hlen⟩;simp only at hr;subst hr;refine tqb ?_;show P (.done (.ret (.bool (xs.size==ys.size)))) s';rw[<- hlen,show(xs'.length==ys'.length)=decide (x=y) from ?_]
  ·exact h
  ·rw[<- hdec];cases hx' with
   |nil=>cases hy'<;>simp
   | cons _ _ => cases hy' with
     |nil=>simp
     |cons _ _=>simp at hz
def Lf {x y:List (List Int)}{a b:Addr}{Q:Bool->Oy->Prop}(hu:A.units+2<cLine)(hx:NK prog w s.heap x a)(hy:NK prog w s.heap y b)(h:Q (decide (x=y)) s):wpAny (model prog w) A (eqBool (.ref a) (.ref b)) Q E s:=by
 unfold eqBool;try with_reducible refine tqo ?_
 show wpAny _ _ (if (Value.ref a==Value.ref b)=true then _ else _) Q E s;by_cases hab:(Value.ref a==Value.ref b)=true
 ·rw[if_pos hab];obtain rfl:a=b:=by have:=eq_of_beq hab;injection this
  obtain rfl:=hx.inj hy;exact tqa (wpAny_rule (tqb (by simpa using h)))
 ·rw[if_neg hab];refine tqa (wpAny_richCompare_same_room (op:=.Eq) hx.typeIs hy.typeIs F.slot_tuple_eq (wpAny_call_entry F.slot_tuple_eq hx.typeIs F.entry_tuple_eq (wb ?_ hx hy {_,rfl,(λe=>nomatch e),tqp h}) (F.args_tuple_eq_2 _ _)) `a)
  show A.units+1<cLine;omega
def AM (d:Nat){ks:List Int}{a:Addr}{Q:Bool->Oy->Prop}(hk:TK prog w s.heap ks a)(h:Q true s):wpAny (model prog w) A (eqIsQuiet (d+1) (.ref a)) Q E s:=by
 have hT:=hk.typeIs;obtain⟨o,items,n,ho,_,hd,hi⟩:=hk;unfold eqIsQuiet;refine tqa (wpAny_specialOf hT F.slot_tuple_eq.lookup ?_);show wpAny _ _ (isInstance (.ref a) (.type "tuple") >>= _) _ _ s;refine tqa (wpAny_isInstance hT isSubtype_tuple_tuple ?_);simp only[Bool.not_true,Px,if_false];refine tqa (wpAny_seqItems ho hd (tqa ?_));show wpAny _ _ (forIn items _ _) _ _ s;rw[<- Array.forIn_toList];refine wpAny_forIn_list _ (λrest r s'=>r.1=none/\s'=s/\∀v∈rest,carriedByValue v=true) _ ?_ ?_ _ _ ⟨rfl,rfl,hi.byValue⟩
 ·rintro v rest r s' ⟨hr,rfl,hall⟩;rw[eqIsQuiet_byValue _ (hall v O4)];refine tqa (tqb ?_);simp only[Bool.not_true,Px,if_false];exact tqb {rfl,rfl,λu hu'=>hall u (OP _ hu')}
 ·rintro⟨r1,r2⟩ s' ⟨hr,rfl,_⟩;simp only at hr;subst hr;exact tqb h
def Bu {kss:List (List Int)}{a:Addr}{Q:Bool->Oy->Prop}(hk:NK prog w s.heap kss a)(h:Q true s):wpAny (model prog w) A (eqIsQuiet 8 (.ref a)) Q E s:=by
 have hT:=hk.typeIs;obtain⟨o,items,n,ho,_,hd,hi⟩:=hk;unfold eqIsQuiet;refine tqa (wpAny_specialOf hT F.slot_tuple_eq.lookup ?_);show wpAny _ _ (isInstance (.ref a) (.type "tuple") >>= _) _ _ s;refine tqa (wpAny_isInstance hT isSubtype_tuple_tuple ?_);simp only[Bool.not_true,Px,if_false];refine tqa (wpAny_seqItems ho hd (tqa ?_));show wpAny _ _ (forIn items _ _) _ _ s;rw[<- Array.forIn_toList];refine wpAny_forIn_list _ (λrest r s'=>r.1=none/\s'=s/\∃ks,iO prog w s.heap ks rest) _ ?_ ?_ _ _ ⟨rfl,rfl,kss,hi⟩
 ·rintro v rest r s' ⟨hr,rfl,ks,hl⟩;cases hl with
  | @cons k c ks' _ h1 hl' =>
    refine tqa (AM 6 h1 ?_);simp only[Bool.not_true,Px,if_false];exact tqb ⟨rfl,rfl,ks',hl'⟩
 ·rintro⟨r1,r2⟩ s' ⟨hr,rfl,_⟩;simp only at hr;subst hr;exact tqb h
end
def IM (prog:O2)(w:O9):HeapKind prog w (List (List Int)) where
 is:=NK prog w
 hash:=sQ prog w
 draws:=mL
 room:=λA=>A.units+2<cLine
 inj:=λhx hy=>hx.inj hy
 keeps:=λx ho hd hs=>x.keeps ho hd hs
 pyHash:=λhu hk h=>FA hu hk h
 eqBool:=λhu hx hy h=>Lf hu hx hy h
 quiet:=λhk h=>Bu hk h
end LD
namespace LD
open PySem PySem.Spec PyProof.Rows
section
variable{prog:O2}{w:O9}{K:Type}[DecidableEq K]{knd:HeapKind prog w K}{A:PR}{E:Ox->Oy->Prop}{s:Oy}
def jf (knd:HeapKind prog w K)(h:Heap)(d:Addr)(xs:List (K×Addr×Ox)):Prop:=
 ∃o es,h.get? d=some o/\o.ExactDict/\o.data=.dict es xs.length/\es.toList=xs.map (entryOfKey knd)/\(∀x∈xs,knd.is h x.1 x.2.1)/\(xs.map (·.1)).Nodup
def jf.of {h:Heap}{d:Addr}{xs:List (K×Addr×Ox)}(x:jf knd h d xs):h.DictOfH knd d xs:=let⟨o,es,r⟩:=x;{o,es,_,r}
def lG {d a:Addr}{xs:List (K×Addr×Ox)}{k:K}{v:Ox}{Q:Unit->Oy->Prop}(hu:knd.room A)(hkey:knd.is s.heap k a)(hm:jf knd s.heap d xs)
 (hQ:∀h',jf knd h' d (storedH xs k a v)->Qd d s.heap h'->Q () {s with heap:=h',toks:=s.toks+knd.draws k})
 (hsz:xs.length<=sizeLine) :
 wpAny (model prog w) A (dictSet d (.ref a) v) Q E s:=by
 obtain⟨o,es,ho,hc,hd,he,his,hn⟩:=hm;unfold dictSet;try with_reducible refine tqo ?_
 refine tqa (knd.pyHash hu hkey ?_);unfold dictSetHashed;try with_reducible refine tqo ?_
 refine tqa (wpAny_dictFind_heap (s:={s with toks:=s.toks+knd.draws k}) hu hkey ho hd he his hn ?_ ?_)
 ·intro hno;have hnot:k∉xs.map (·.1):=not_mem_keys_of_get hno;have e:=storedH_new (v:=v) (a:=a) (atKey_none_of_get hno);refine tqa (wpAny_rule (wpAny_updateDictKeys (hz:=by have e:=size_of_entries he;omega) (s:={s with toks:=s.toks+knd.draws k}) ho hd (hQ _ {_,_,PX _ ho (Obj.isFreed_of_dict (Obj.data_mapDictKeys hd _)),
   hc.mapDictKeys _,(Obj.data_mapDictKeys hd _).trans (by rw[e,Pn];rfl),?_,?_,?_} (PH ..))))
  ·rw[e];simp[he,entryOfKey]
  ·rw[e];intro x hx;rcases Pk.mp hx with hx|hx
   ·exact knd.keeps (his x hx) ho hd (PH ..)
   ·simp only[OQ] at hx;subst hx;exact knd.keeps hkey ho hd (PH ..)
  ·rw[e];rw[OV,Qe];refine{hn,`s,?_}
   intro x hx y hy;simp only[Pr,QK,OQ] at hy;subst hy;exact λe=>hnot (e ▸ hx)
 ·intro j p hj;have e:=storedH_old (v:=v) (a:=a) (atKey_of_get hn hj);refine tqa (wpAny_rule (tqa (wpAny_updateDict (s:={s with toks:=s.toks+knd.draws k}) ho hd (wpAny_point (hQ _ {_,_,PX _ ho (Obj.isFreed_of_dict (Obj.data_mapDict hd _)),
   hc.mapDict _,(Obj.data_mapDict hd _).trans (by rw[e,Oz]),?_,?_,?_} (PH ..))))))
  ·rw[e];have:=modify_map_putAt (entryOfKey knd) (λe:Pu=>{e with val:=v}) k v (λ_ _=>rfl) hn hj
   rw[<- he] at this;obtain⟨l⟩:=es;simpa using this
  ·rw[e];intro x hx;obtain⟨y,hy,rfl⟩:=OK.mp hx;unfold putAt;split<;>exact knd.keeps (his y hy) ho hd (PH ..)
  ·rw[e];rw[keys_map_putAt];exact hn
def vU {d a:Addr}{xs:List (K×Addr×Ox)}{k:K}{v:Ox}{Q:Unit->Oy->Prop}(hu:knd.room A.in1)(hkey:knd.is s.heap k a)(hm:jf knd s.heap d xs)
 (hQ:∀h',jf knd h' d (storedH xs k a v)->Qd d s.heap h'->Q () {s with heap:=h',toks:=s.toks+knd.draws k})
 (hsz:xs.length<=sizeLine) :
 wpAny (model prog w) A (setItem (.ref d) (.ref a) v) Q E s:=by
 have hT:=hm.of.typeIs;unfold setItem;try with_reducible refine tqo ?_
 refine tqa (wpAny_sequenceKey hT `d ?_)
 refine tqa (wpAny_callSpecial?_slot (name:=Str.ofString "__setitem__") hT slot_dict_setitem
  (wpAny_call_entry slot_dict_setitem hT entry_dict_setitem ?_ (args_dict_setitem _ _ _)))
 show wpAny _ _ (Builtin.Dict.notOrdered "__setitem__" {[.ref d,.ref a,v],[]} >>= _) _ _ s;refine tqa (wpAny_notOrdered_dict hT ?_);show wpAny _ _ (dictSet d (.ref a) v >>= _) _ _ s;exact tqa (lG (hsz:=hsz) hu hkey hm λh' hm' hs'=>tqb {.none,rfl,tqb (hQ h' hm' hs')})
end
end LD
namespace LD
open PySem PySem.Spec PyProof.Rows L2
def FY {K:Ow}{c d:Ox}(h:PySem.W.exmAny K c [d,d]=some true):PySem.W.exmOne K c d=some true:=by
 obtain⟨b1,d1,e1,e2,e3⟩:=PySem.W.exmAny_cons h;obtain⟨b2,d2,e4,e5,e6⟩:=PySem.W.exmAny_cons e2;rw[e1] at e4;cases e4;cases e5;cases b1 with
 |true=>exact e1
 |false=>subst e6;cases e3
section
variable{fa:Fa}{X:Cx}{pos np hp:Pos}{x1:Str}{k1:Nat}{body suite:List Stmt}{b0:Stmt}{gB gH:GS}
def Ba (h2:vF fa X.K X.mg x1 x1 k1 k1)(hex:X.ex=[])(hst:X.stack=X.env::X.outer)(hfr:X.env.frame=some X.env.locals)
 (hg:Gl X x1) (hdb:(x1==("__debug__":Str))=false) (hb:∀pn E,kI fa (oR X pn E) body gB) (hh:∀v E,kI fa (rn X v E) (b0::suite) gH) :
 DS fa X (.Try body [.ExceptHandler (some (.Name x1 np)) none (b0::suite) hp] [] [] pos) (lW gB k1 k1 gH):=by
 intro pins s σ H D' I ⟨μ,Z,M,hE,hM,h⟩;obtain⟨D1,D2,m1,m2,hm⟩:=h2;obtain rfl:D1=D2:=by rw[m1] at m2;cases m2;rfl
 obtain⟨fl,M1,e,q⟩:=aG h;refine wpAny_Try_except (wpAny_mono (hb (X.pn++pins) (λe s₁=>wpAny (model X.prog X.w) X.A (noteFrame e X.env) (λ_ s₂=>wpAny (model X.prog X.w) X.A (setFlight e none) (λ_ s₃=>wpAny (model X.prog X.w) X.A (handleBy e X.env [.ExceptHandler (some (.Name x1 np)) none (b0::suite) hp]) (SP X pins D') X.xe s₃) X.xe s₂) X.xe s₁) [] s σ H D' (zp I _) {μ,Z,M,hE,hM,?_}) (λf s1 z=>?_) λ_ _ z=>z)
 ·rw[e];cases fl with
  |next ρ'=>exact q
  |ret d=>exact q
  | exc y ρ1 =>
    intro pins' σ' H' μ' s' a C dx c p I1 ye hE1 hM1 ey hcC hn fl;have I1:=I1.pins_of (pins':=[]) (λp hp=>nomatch hp);refine uU (P:=X.prog) (w:=X.w) (base:=X.base) (New:=uw (oR X (X.pn++pins) _)) (outer:=X.outer) (by rw[<- hst];exact I1.ok.frames) (by rw[<- hst];exact I1.stack) hfr fl (λb z=>(tu I1 hex (Heap.get?_none_of_le z)).1) I1.hok (by rw[<- hst];exact I1.stkFree) λh' ch hch u hok fl2=>?_
    have I2:Inv X pins σ' H' {s' with heap:=h'}:=BW (iF I1) (λb hb=>{(hch b hb).1.1,(hch b hb).2.2,(hch b hb).1.2}) (by rw[hst];exact u) hok
    obtain⟨nw,ha,o,vs,h1,h2,h3,h4,tr⟩:=id fl2;have hnc:PySem.W.notCls o=true:=by unfold PySem.W.notCls;rw[h4]
    subst ey;have q:ag (ki k1 k1 gH (.exc (.exc c p) ρ1) M1) (j5 fa X μ H D'):=q;have hck:c=k1\/c=k1:=by
     by_cases z:c=k1\/c=k1
     ·exact z
     ·unfold ki at q;dsimp only at q;rw[if_neg z] at q;exact q.elim
    unfold ki at q;dsimp only at q;rw[if_pos hck] at q;obtain⟨fl3,M2,e3,q3⟩:=aG q;have IA:∃od,PySem.W.InstAt h' a o C od:=by
     cases p with
     | none =>
       have hn:dx=none:=hn;exact{none,h1,h2,hnc,by rw[h3,hn];trivial}
     | some k =>
       obtain⟨d,rfl,hd⟩:=hn;obtain⟨mA,⟨od,es,ep,ed,_⟩,_⟩:=hok d _ hd;exact{some od,h1,h2,hnc,by rw[h3];exact ed}
    obtain⟨od,IA⟩:=IA;refine wpAny_handleBy_cons (codeAny_handlers_test (kD (qE I2 (.ref a) X.xe) hg m1 ?_ hdb)) (by intro z;cases z)
    refine(PySem.W.exm_one (M:=model X.prog X.w) I2.kIn IA.type (FY (hm c C hck hcC))).at ?_;refine codeAny_handlers_suite (wG fl2 ?_);refine wpAny_mono (hh (.ref a) _ pins _ σ' H' D' (qE I2 (.ref a) _) {μ',_,M1,hE1,hM1,?_}) (λf s5 z=>?_) λ_ _ z=>z
    ·rw[e3];cases fl3 with
     |next ρ2=>exact λσ2 H2 μ2 x2 hE2 hM2=>q3 σ2 H2 μ2 (ye.trans x2) hE2 hM2
     |ret d=>exact aX.ext q3 ye
     |exc=>exact q3.elim
    ·dsimp only;cases f with
     | next =>
       obtain⟨σ5,H5,I5,z⟩:=z;exact{_,H5,jS I2.ok.hd I5,z}
     | ret u =>
       obtain⟨v,σ5,H5,I5,r5,z⟩:=z;exact{v,_,H5,jS I2.ok.hd I5,r5,z}
     |brk=>obtain⟨_,H5,I5,z⟩:=z;exact{_,H5,jS I2.ok.hd I5,z}
     |cont=>obtain⟨_,H5,I5,z⟩:=z;exact{_,H5,jS I2.ok.hd I5,z}
 ·cases f with
  |next=>obtain⟨σ5,H5,I5,z⟩:=z;exact wpAny_execs_nil {σ5,H5,iF I5,z}
  |ret u=>obtain⟨v,σ5,H5,I5,r5,z⟩:=z;exact{v,σ5,H5,iF I5,r5,z}
  |brk=>obtain⟨σ5,H5,I5,z⟩:=z;exact{σ5,H5,iF I5,z}
  |cont=>obtain⟨σ5,H5,I5,z⟩:=z;exact{σ5,H5,iF I5,z}
end
def jm (c:GT)(b:GS):Nat->Env->Mem->Res Fl
 |0,_,_=>.bad
 | n + 1, Z, M => (c Z M).bind λk M => if k then(b Z M).bind λfl M => (match fl with
   |.next Z=>jm c b n Z M
   |fl=>.ok fl M) else .ok (.next Z) M
def gP (c:GT)(b:GS):GS:=λZ M=>jm c b 100000 Z M
section
variable{fa:Fa}{X:Cx}{c:Expr}{body:List Stmt}{gc:GT}{gb:GS}{pos:Pos}
def E5 (hp:PassesOwn (model X.prog X.w) X.A X.env X.xe)(hc:DT fa X c gc)(hb:kI fa X body gb):DS fa X (.While c body [] pos) (gP gc gb):=
 dJ (Bh hp hc hb) λD' σ H ⟨μ,Z,M,hE,hM,h⟩=>by
  refine{λm σ' H'=>∃μ' ρ' M',Ext μ H μ' H'/\bb fa X.K μ' H' σ' ρ'/\RelM fa X.K μ' H' M'/\ag (jm gc gb m ρ' M') (j5 fa X μ H D'),{100000,μ,Z,M,.refl,hE,hM,h},?_};rintro m σ2 H2 ⟨μ2,ρ2,M2,x2,hE2,hM2,q2⟩;cases m with
  |zero=>exact q2.elim
  | succ m =>
    obtain⟨k,M3,e3,q3⟩:=aG q2;refine{μ2,ρ2,M2,hE2,hM2,?_};rw[e3];intro H3 μ3 x3 hM3;have hE3:=hE2.ext x3;cases k with
    |false=>exact q3 σ2 H3 μ3 (x2.trans x3) hE3 hM3
    | true =>
      have q3:ag ((gb ρ2 M3).bind λfl M=>(match fl with|.next Z=>jm gc gb m Z M|fl=>.ok fl M)) (j5 fa X μ H D'):=q3
      obtain⟨fl,M4,e4,q4⟩:=aG q3;refine{λσ' H'=>∃μ' ρ' M',Ext μ H μ' H'/\bb fa X.K μ' H' σ' ρ'/\RelM fa X.K μ' H' M'/\ag (jm gc gb m ρ' M') (j5 fa X μ H D'),λσ' H' z=>{m,Nat.lt_succ_self m,z},μ3,ρ2,M3,hE3,hM3,?_};rw[e4];cases fl with
      |next ρ6=>exact λσ6 H6 μ6 x6 hE6 hM6=>{μ6,ρ6,M4,(x2.trans x3).trans x6,hE6,hM6,q4}
      |ret d6=>exact aX.ext q4 (x2.trans x3)
      |exc x6 ρ6=>exact XW.ext q4 (x2.trans x3)
end
def ve {prog:O2}{w:O9}{fa:Fa}{K:Ow}{μ:Mu}{H:Hp}:∀{ds:List D}{vs:List V}{us:List Ox}{ks:List Int},aI fa K μ H ds vs->Vals vs us->intsOf ds=some ks->ItemsAre (intKind prog w) ks us
 | [], vs, us, ks, h, r, e => by
   obtain rfl:vs=[]:=h;cases r;cases e;exact .nil
 | .int i :: ds, vs, us, ks, h, r, e => by
   obtain⟨v,vr,rfl,p,q⟩:=h;cases r with
   | cons r1 r2 =>
     obtain⟨k,ek,e⟩:=OW.mp e;subst e;obtain rfl:v=.int i:=p;obtain⟨t,rfl⟩:=r1;exact .cons (by simp[intKind,Value.isInt]) (ve q r2 ek)
 |.non::_,_,_,_,_,_,e=>by cases e
 |.bl _::_,_,_,_,_,_,e=>by cases e
 |.str _::_,_,_,_,_,_,e=>by cases e
 |.tup _::_,_,_,_,_,_,e=>by cases e
 |.lst _::_,_,_,_,_,_,e=>by cases e
 |.frz _::_,_,_,_,_,_,e=>by cases e
 |.cell _::_,_,_,_,_,_,e=>by cases e
 |.fn _::_,_,_,_,_,_,e=>by cases e
 |.exc _ _::_,_,_,_,_,_,e=>by cases e
section
variable{fa:Fa}{X:Cx}{pins:List (Addr×Obj)}{σ:L2.St}{H:Hp}{s:Oy}{μ:Mu}
def xQ (I:Inv X pins σ H s){ds:List D}{b:Addr}(r:Rep fa X.K μ H (.tup ds) (.ref b)):∃vs its o n,aI fa X.K μ H ds vs/\Vals vs its/\s.heap.get? b=some o/\o.cls=.type "tuple"/\o.data=.seq its.toArray n:=by
 obtain⟨a,vs,e,hq,rr⟩:=r;cases e;obtain⟨its,rv,p,_⟩:=I.tuple hq;obtain⟨o,h1,h2,n,h3⟩:=p;exact⟨vs,its,o,n,rr,rv,h1,h2,h3⟩
def vc (I:Inv X pins σ H s){d:D}{b:Addr}{ks:List Int}(r:Rep fa X.K μ H d (.ref b))(e:md d=some ks):TK X.prog X.w s.heap ks b:=by
 cases d with
 | tup ds =>
   obtain⟨vs,its,o,n,rr,rv,h1,h2,h3⟩:=xQ I r;exact{o,its.toArray,n,h1,h2,h3,by simpa using ve rr rv e}
 |_=>cases e
def s9 (I:Inv X pins σ H s):∀{ds:List D}{vs:List V}{us:List Ox}{kss:List (List Int)},aI fa X.K μ H ds vs->Vals vs us->jP ds=some kss->iO X.prog X.w s.heap kss us
 | [], vs, us, kss, h, r, e => by
   obtain rfl:vs=[]:=h;cases r;cases e;exact .nil
 | d :: ds, vs, us, kss, h, r, e => by
   obtain⟨v,vr,rfl,p,q⟩:=h;cases r with
   | cons r1 r2 =>
     obtain⟨k,ek,e⟩:=Pq.mp e;obtain⟨kr,ekr,e⟩:=OW.mp e;subst e;cases d with
     | tup es =>
       obtain⟨a,ws,rfl,hq,rr⟩:=id p;obtain rfl:=(show _=Value.ref a from r1);exact .cons (vc I p ek) (s9 I q r2 ekr)
     |_=>cases ek
def FP (I:Inv X pins σ H s){d:D}{b:Addr}{kss:List (List Int)}(r:Rep fa X.K μ H d (.ref b))(e:pU d=some kss):NK X.prog X.w s.heap kss b:=by
 cases d with
 | tup ds =>
   obtain⟨vs,its,o,n,rr,rv,h1,h2,h3⟩:=xQ I r;exact{o,its.toArray,n,h1,h2,h3,by simpa using s9 I rr rv e}
 |_=>cases e
end
def tv:∀{a b:List D}{x y:List Int},intsOf a=some x->intsOf b=some y->d7 a b=decide (x=y)/\(x=y->a=b)
 |[],[],_,_,e,f=>by cases e;cases f;exact{rfl,λ_=>rfl}
 | [], .int j :: b, _, _, e, f => by
   obtain⟨_,_,rfl⟩:=OW.mp f;cases e;exact{by simp[d7],λz=>by cases z}
 | .int i :: a, [], _, _, e, f => by
   obtain⟨_,_,rfl⟩:=OW.mp e;cases f;exact{by simp[d7],λz=>by cases z}
 | .int i :: a, .int j :: b, _, _, e, f => by
   obtain⟨x,e1,rfl⟩:=OW.mp e;obtain⟨y,f1,rfl⟩:=OW.mp f;obtain⟨h1,h2⟩:=tv e1 f1;refine{?_,λz=>?_}
   ·show(i==j&&d7 a b)=_;rw[h1];by_cases z:i=j<;>simp[z]
   ·cases z;rw[h2 rfl]
 |.non::_,_,_,_,e,_=>by cases e
 |.bl _::_,_,_,_,e,_=>by cases e
 |.str _::_,_,_,_,e,_=>by cases e
 |.tup _::_,_,_,_,e,_=>by cases e
 |.lst _::_,_,_,_,e,_=>by cases e
 |.frz _::_,_,_,_,e,_=>by cases e
 |.cell _::_,_,_,_,e,_=>by cases e
 |.fn _::_,_,_,_,e,_=>by cases e
 |.exc _ _::_,_,_,_,e,_=>by cases e
 |_,.non::_,_,_,_,e=>by cases e
 |_,.bl _::_,_,_,_,e=>by cases e
 |_,.str _::_,_,_,_,e=>by cases e
 |_,.tup _::_,_,_,_,e=>by cases e
 |_,.lst _::_,_,_,_,e=>by cases e
 |_,.frz _::_,_,_,_,e=>by cases e
 |_,.cell _::_,_,_,_,e=>by cases e
 |_,.fn _::_,_,_,_,e=>by cases e
 |_,.exc _ _::_,_,_,_,e=>by cases e
def nP {d:D}{x:List Int}(e:md d=some x):∃ds,d=.tup ds/\intsOf ds=some x:=by
 cases d with
 |tup ds=>exact⟨ds,rfl,e⟩
 |_=>cases e
def td {a b:D}{x y:List Int}(e:md a=some x)(f:md b=some y):bV a b=decide (x=y)/\(x=y->a=b):=by
 obtain⟨as,rfl,e⟩:=nP e;obtain⟨bs,rfl,f⟩:=nP f;obtain⟨h1,h2⟩:=tv e f;exact{h1,λz=>by rw[h2 z]}
def qC:∀{a b:List D}{x y:List (List Int)},jP a=some x->jP b=some y->d7 a b=decide (x=y)/\(x=y->a=b)
 |[],[],_,_,e,f=>by cases e;cases f;exact{rfl,λ_=>rfl}
 | [], d :: b, _, _, e, f => by
   obtain⟨_,_,f⟩:=Pq.mp f;obtain⟨_,_,rfl⟩:=OW.mp f;cases e;exact{by simp[d7],λz=>by cases z}
 | d :: a, [], _, _, e, f => by
   obtain⟨_,_,e⟩:=Pq.mp e;obtain⟨_,_,rfl⟩:=OW.mp e;cases f;exact{by simp[d7],λz=>by cases z}
 | d :: a, d' :: b, _, _, e, f => by
   obtain⟨k,ek,e⟩:=Pq.mp e;obtain⟨x,e1,rfl⟩:=OW.mp e;obtain⟨k',ek',f⟩:=Pq.mp f;obtain⟨y,f1,rfl⟩:=OW.mp f;obtain⟨g1,g2⟩:=td ek ek';obtain⟨h1,h2⟩:=qC e1 f1;refine{?_,λz=>?_}
   ·show(bV d d'&&d7 a b)=_;rw[h1,g1];by_cases z:k=k'<;>simp[z]
   ·cases z;rw[h2 rfl,g2 rfl]
def BQ {a b:D}{x y:List (List Int)}(e:pU a=some x)(f:pU b=some y):bV a b=decide (x=y)/\(x=y->a=b):=by
 cases a with
 | tup as =>
   cases b with
   | tup bs =>
     obtain⟨h1,h2⟩:=qC (a:=as) (b:=bs) e f;exact{h1,λz=>by rw[h2 z]}
   |_=>cases f
 |_=>cases e
structure KD (X:Cx) (c:Int) where
 K:Type
 dq:DecidableEq K
 knd:HeapKind X.prog X.w K
 dec:D->Option K
 hash:∀d,mM c d=(dec d).map knd.hash
 is:∀{fa:Fa}{μ:Mu}{H:Hp}{pins:List (Addr×Obj)}{σ:L2.St}{s:Oy}{d:D}{b:Addr}{k:K},Inv X pins σ H s->Rep fa X.K μ H d (.ref b)->dec d=some k->knd.is s.heap k b
 beq:∀{a b:D}{x y:K},dec a=some x->dec b=some y->bV a b=decide (x=y)/\(x=y->a=b)
 ref:∀{fa:Fa}{μ:Mu}{H:Hp}{d:D}{v:V}{k:K},Rep fa X.K μ H d v->dec d=some k->∃b,v=.ref b
 room:Rm X->knd.room X.A.in1
 room0:Rm X->knd.room X.A
def KD.f (X:Cx):KD X 77 where
 K:=List Int
 dq:=inferInstance
 knd:=tupleKind (intKind X.prog X.w)
 dec:=md
 hash:=λd=>by unfold mM;rw[if_pos rfl];rfl
 is:=λI r e=>vc I r e
 beq:=λe f=>td e f
 ref:=λr e=>by
  obtain⟨ds,rfl,_⟩:=nP e;obtain⟨a,_,rfl,_⟩:=r;exact⟨a,rfl⟩
 room:=λh=>by show X.A.units+1<cLine;unfold Rm at h;omega
 room0:=λh=>by show X.A.units<cLine;unfold Rm at h;omega
def KD.n (X:Cx):KD X 78 where
 K:=List (List Int)
 dq:=inferInstance
 knd:=IM X.prog X.w
 dec:=pU
 hash:=λd=>by unfold mM;rw[if_neg `d,if_pos rfl];rfl
 is:=λI r e=>FP I r e
 beq:=λe f=>BQ e f
 ref:=λ{fa μ H d v k} r e=>by
  cases d with
  | tup ds =>
    obtain⟨a,_,rfl,_⟩:=r;exact⟨a,rfl⟩
  |_=>cases e
 room:=λh=>by show X.A.units+1+2<cLine;unfold Rm at h;omega
 room0:=λh=>by show X.A.units+2<cLine;unfold Rm at h;omega
instance kdq {X:Cx}{c:Int} (kd:KD X c):DecidableEq kd.K:=kd.dq
def iB (p:D×D):D:=.tup [p.1,p.2]
section
variable{fa:Fa}{X:Cx}{pins:List (Addr×Obj)}{σ:L2.St}{H:Hp}{s:Oy}{μ:Mu}{c:Int}{kd:KD X c}{kvs:List (D×D)}
abbrev DP (fa:Fa)(X:Cx)(μ:Mu)(H:Hp){c:Int}(kd:KD X c):List (D×D)->List (kd.K×Addr×Ox)->Prop:=Qn λp x=>kd.dec p.1=some x.1/\Rep fa X.K μ H p.1 (.ref x.2.1)/\∃v,RelV v x.2.2/\Rep fa X.K μ H p.2 v
def KD.xs (kd:KD X c):∀{kvs:List (D×D)}{es:List Pu},Qn (mF fa X.K μ H c) kvs es->∃xs,es=xs.map (entryOfKey kd.knd)/\DP fa X μ H kd kvs xs
 |_,_,.nil=>{[],rfl,.nil}
 | _, _, .cons ⟨b, v, e1, e2, e3, e4, e5⟩ r => by
   obtain⟨xs,rfl,q⟩:=KD.xs kd r;rw[kd.hash] at e2;obtain⟨k,ek,eh⟩:=OW.mp e2;refine{(k,b,_)::xs,?_,.cons ⟨ek,e3,v,e4,e5⟩ q};rw[Pr]
   congr 1
   unfold entryOfKey;rw[eh,<- e1]
def KD.back {xs:List (kd.K×Addr×Ox)}:∀{kvs:List (D×D)},DP fa X μ H kd kvs xs->Qn (mF fa X.K μ H c) kvs (xs.map (entryOfKey kd.knd)):=by
 intro kvs h;induction h with
 |nil=>exact .nil
 |cons r _ ih=>exact .cons (let⟨h1,h2,v,h3,h4⟩:=r;{_,v,rfl,by rw[kd.hash,h1];rfl,h2,h3,h4}) ih
def DP.mem {xs:List (kd.K×Addr×Ox)}(h:DP fa X μ H kd kvs xs){x:kd.K×Addr×Ox}(m:x∈xs):∃p∈kvs,kd.dec p.1=some x.1/\Rep fa X.K μ H p.1 (.ref x.2.1):=by
 induction h with
 |nil=>cases m
 | cons r _ ih =>
   rcases O6.mp m with rfl|m
   ·exact{_,O4,r.1,r.2.1}
   ·obtain⟨p,hp,q⟩:=ih m;exact{p,OP _ hp,q}
def DP.nodup {xs:List (kd.K×Addr×Ox)}(h:DP fa X μ H kd kvs xs)(n:(kvs.map (·.1)).Nodup):(xs.map (·.1)).Nodup:=by
 induction h with
 |nil=>exact List.nodup_nil
 | @cons p x ps xs' r t ih =>
   rw[Pr,Pz] at n ⊢;refine{λm=>n.1 ?_,ih n.2};obtain⟨y,my,ey⟩:=OK.mp m;obtain⟨q,mq,e1,_⟩:=DP.mem t my;have:=(kd.beq r.1 e1).2 ey.symm;rw[this];exact OK.mpr ⟨q,mq,rfl⟩
def KD.dict {a:Addr}{xs:List (kd.K×Addr×Ox)}(I:Inv X pins σ H s)(e:H a=some (.dn (xs.map (entryOfKey kd.knd))))(h:DP fa X μ H kd kvs xs)(n:(kvs.map (·.1)).Nodup):(a==sysModules)=false/\xs.length<=sizeLine/\jf kd.knd s.heap a xs:=by
 obtain⟨z,y,o,h1,h2,h3⟩:=(show bI X.prog X.w H s.heap a (.dn _) from I.hok a _ e);refine{y,by simpa using z,o,_,h1,h2,by rw[h3,Oz],`s,λx hx=>?_,h.nodup n}
 obtain⟨p,_,e1,e2⟩:=h.mem hx;exact kd.is I e2 e1
def DP.look {xs:List (kd.K×Addr×Ox)}(h:DP fa X μ H kd kvs xs){k:D}{kk:kd.K}(hk:kd.dec k=some kk):(cL (kvs.map iB) k=none/\atKey xs kk=none)\/∃d b v u,cL (kvs.map iB) k=some d/\atKey xs kk=some (b,u)/\RelV v u/\Rep fa X.K μ H d v:=by
 induction h with
 |nil=>exact .inl ⟨rfl,rfl⟩
 | @cons p x ps xs' r t ih =>
   obtain⟨h1,h2,v,h3,h4⟩:=r;have b:=(kd.beq h1 hk).1;unfold cL atKey at ih ⊢;rw[Pr,List.find?_cons,List.find?_cons];rw[show bV (gu (iB p)) k=decide (x.1=kk) from b];by_cases z:x.1=kk
   ·rw[decide_eq_true z];exact .inr ⟨p.2,x.2.1,v,x.2.2,rfl,rfl,h3,h4⟩
   ·rw[decide_eq_false z];exact ih
def jv (kvs:List (D×D))(k d:D):List (D×D):=if (cL (kvs.map iB) k).isSome then kvs.map (λp=>if bV p.1 k then(p.1,d) else p) else kvs++[(k,d)]
def HZ (kvs:List (D×D))(k d:D):(jv kvs k d).map iB=putD (kvs.map iB) k d:=by
 unfold jv putD;split
 ·rw[Pw,Pw];refine Qs λp _=>?_;show iB (if bV p.1 k then(p.1,d) else p)=if bV p.1 k then _ else _;split<;>rfl
 ·rw[OV];rfl
def yy (kvs:List (D×D))(k d:D):(jv kvs k d).map (·.1)=if (cL (kvs.map iB) k).isSome then kvs.map (·.1) else kvs.map (·.1)++[k]:=by
 unfold jv;split
 ·rw[Pw];refine Qs λp _=>?_;show(if bV p.1 k then(p.1,d) else p).1=p.1;split<;>rfl
 ·rw[OV];rfl
def DP.put {xs:List (kd.K×Addr×Ox)}(h:DP fa X μ H kd kvs xs){k d:D}{kk:kd.K}{b:Addr}{v:V}{u:Ox}(hk:kd.dec k=some kk)(rk:Rep fa X.K μ H k (.ref b))(ru:RelV v u)(rd:Rep fa X.K μ H d v):DP fa X μ H kd (jv kvs k d) (storedH xs kk b u):=by
 have e:(cL (kvs.map iB) k).isSome=(atKey xs kk).isSome:=by
  rcases h.look hk with⟨h1,h2⟩|⟨_,_,_,_,h1,h2,_⟩<;>rw[h1,h2]<;>rfl
 unfold jv storedH;rw[e];split
 ·next hs=>
  clear e hs;induction h with
  |nil=>exact .nil
  | @cons p x ps xs' r t ih =>
    refine .cons ?_ ih;have b2:=(kd.beq r.1 hk).1;unfold putAt;dsimp only;rw[b2];by_cases z:x.1=kk
    ·rw[decide_eq_true z,if_pos z,if_pos rfl];exact⟨r.1,r.2.1,v,ru,rd⟩
    ·rw[decide_eq_false z,if_neg z,if_neg OR];exact r
 ·exact Paired.snoc h ⟨hk,rk,v,ru,rd⟩
def DP.keys {xs:List (kd.K×Addr×Ox)}(h:DP fa X μ H kd kvs xs)(n:(kvs.map (·.1)).Nodup){k d:D}{kk:kd.K}(hk:kd.dec k=some kk):((jv kvs k d).map (·.1)).Nodup:=by
 rw[yy];split
 ·exact n
 ·next z=>
  refine List.nodup_append.mpr {n,`s,λa ha b hb q=>z ?_}
  obtain rfl:=OQ.mp hb;subst q;obtain⟨p,mp,ep⟩:=OK.mp ha;rw[cL,Qw,List.find?_isSome];refine{iB p,OK.mpr ⟨p,mp,rfl⟩,?_};show bV p.1 a=true;rw[ep,(kd.beq hk hk).1];exact decide_eq_true rfl
end
def fZ (a b:GE):GE:=λZ M=>(a Z M).bind λx M=>(b Z M).bind λk M=>match x with
 |.fn o=>b6 M (getD M o k)
 |_=>.bad
def j9 (n:Bool)(a b:GE):GE:=λZ M=>(a Z M).bind λk M=>(b Z M).bind λx M=>match x with
 | .fn o => (match inD M o k with
   |some r=>.ok (.bl (n != r)) M
   |none=>.bad)
 |_=>.bad
def jL (a b d:GE):GS:=λZ M=>(d Z M).bind λz M=>(a Z M).bind λx M=>(b Z M).bind λk M=>match x with
 | .fn o => (match bK M o with
   |some q=>if isKey q.1 k=true/\q.2.length<1000000 then .ok (.next Z) (M.set (o-5000) (.int q.1::putD q.2 k z)) else .bad
   |none=>.bad)
 |_=>.bad
def rq (c:Int):GE:=λ_ M=>.ok (.fn (aE M.length)) (M++[[.int c]])
structure fJ (fa:Fa):Prop where
 of:∀o,5000<=o->fa o=none
 n77:fa (jN 77)=none
 n78:fa (jN 78)=none
section
variable{fa:Fa}{K:Ow}{μ:Mu}{H:Hp}{M:Mem}
def Ext.dic {a:Addr}{es es':List Pu}(h:RelM fa K μ H M)(hH:H a=some (.dn es)):Ext μ H μ (upd H a (.dn es')):=by
 have ne:∀{b o},H b=some o->(∀es,o≠.dn es)->b≠a:=λg n z=>by rw[z,hH] at g;cases g;exact n _ rfl
 refine{{λ_ _ q=>q,λb vs g=>?_,λb vs g n=>{by rw[aD (ne g (λ_ z=>by cases z))];exact g,n},λb ob u g=>by rw[aD (ne g (λ_ z=>by cases z))];exact g,λb o i g=>?_,λ_ _ q=>q},rfl,λb hb=>?_}
 ·rcases g with g|⟨ob,g⟩
  ·exact .inl (by rw[aD (ne g (λ_ z=>by cases z))];exact g)
  ·exact .inr {ob,by rw[aD (ne g (λ_ z=>by cases z))];exact g}
 ·rw[aD (ne g (λ_ z=>by rcases i with⟨_,i⟩|⟨_,i⟩<;>(rw[i] at z;cases z)))];exact g
 ·obtain⟨⟨vs,g⟩,_⟩:=h.pv b hb;rw[aD (ne g (λ_ z=>by cases z))]
def RelM.dicW (h:RelM fa K μ H M){k:Nat}{a:Addr}{es es':List Pu}{ds ds':List D}(e:M[k]?=some ds)(ha:μ.ob (aE k)=some a)(hH:H a=some (.dn es))(new:jG fa K μ (upd H a (.dn es')) a ds'):RelM fa K μ (upd H a (.dn es')) (M.set k ds'):=by
 have x:Ext μ H μ (upd H a (.dn es')):=Ext.dic h hH;refine{λj es2 q=>?_,λj hj=>h.out j (by simpa using hj),λj hj=>h.oout j (by simpa using hj),h.inj,h.oinj,h.sep,λb hb=>{let{⟨vs,g⟩,_}:=h.pv b hb;{vs,by rw[x.pk b hb];exact g},(h.pv b hb).2}}
 by_cases hj:j=k
 ·subst hj;rw[O3 (Ov.mp e).1] at q;cases q;refine .inr {a,ha,?_,new};cases z:μ.pub j with
  |none=>rfl
  |some b=>rw[h.sep j b z] at ha;cases ha
 ·rw[OE (PN hj)] at q;rcases h.at' j es2 q with⟨b,vs,h1,h2,h3⟩|⟨b,h1,h2,h3⟩
  ·exact .inl {b,vs,h1,by rw[aD (λz=>by rw[z,hH] at h2;cases h2)];exact h2,h3.ext x}
  ·exact .inr {b,h1,h2,h3.extW x.toExtW (aD λz=>hj (h.oinj _ _ a (z ▸ h1) ha))}
def Ext.dicNew (h:RelM fa K μ H M){x:Addr}(hx:H x=none):Ext μ H (lg μ M.length x) (upd H x (.dn [])):=by
 have e:Ext μ H μ (upd H x (.dn [])):=Ext.alloc h hx;refine{{e.mu,e.tups,λb vs g n=>{(e.lsts b vs g n).1,n},e.frzs,e.exts,λj b z=>?_},rfl,e.pk};show(if j=aE M.length then some x else μ.ob j)=some b;split
 ·next q=>rw[q,h.oout _ (OC _)] at z;cases z
 ·exact z
def RelM.dicNew (h:RelM fa K μ H M){x:Addr}{c:Int}(hx:H x=none)(hc:c=77\/c=78):RelM fa K (lg μ M.length x) (upd H x (.dn [])) (M++[[.int c]]):=by
 have X:Ext μ H (lg μ M.length x) (upd H x (.dn [])):=Ext.dicNew h hx;have old:∀{b o},H b=some o->(upd H x (.dn [])) b=some o:=λg=>by rw[aD (aW g hx)];exact g
 have pc:∀{k b},(lg μ M.length x).ob (aE k)=some b->(k=M.length/\b=x)\/μ.ob (aE k)=some b:=λ{k b} z=>by
  have z:(if aE k=aE M.length then some x else μ.ob (aE k))=some b:=z;split at z
  ·next q=>cases z;exact .inl {Nat.add_left_cancel q,rfl}
  ·exact .inr z
 refine{λk ds q=>?_,λk hk=>h.out k (by simp at hk;omega),λk hk=>?_,h.inj,λj k b e1 e2=>?_,λk b z=>?_,λb hb=>{?_,(h.pv b hb).2}}
 ·by_cases hk:k<M.length
  ·rw[OG hk] at q;rcases h.at' k ds q with⟨b,vs,h1,h2,h3⟩|⟨b,h1,h2,h3⟩
   ·exact .inl {b,vs,h1,old h2,h3.ext X}
   ·exact .inr {b,X.obs _ _ h1,h2,h3.extW X.toExtW (by obtain⟨o,e,_⟩:=h3.hold;rw[old e,e])}
  ·have hk':k=M.length:=by
    have:=(Ov.mp q).1;simp at this;omega
   subst hk';rw[O5 (OC _)] at q;simp at q;subst q;exact .inr {x,by show(if aE M.length=aE M.length then some x else _)=some x;rw[if_pos rfl],h.out _ (OC _),.inr {c,[],[],cm,hc,rfl,.nil,List.nodup_nil}}
 ·show(if aE k=aE M.length then some x else μ.ob (aE k))=none;simp at hk;rw[if_neg (λz=>by have:=Nat.add_left_cancel z;omega)]
  exact h.oout k `a
 ·rcases pc e1 with⟨a1,a2⟩|a1<;>rcases pc e2 with⟨b1,b2⟩|b1
  ·omega
  ·subst a2;obtain⟨_,z⟩:=h.ob_ins b1;rw[hx] at z;cases z
  ·subst b2;obtain⟨_,z⟩:=h.ob_ins a1;rw[hx] at z;cases z
  ·exact h.oinj j k b a1 b1
 ·show(if aE k=aE M.length then some x else μ.ob (aE k))=none;have z:μ.pub k=some b:=z;rw[if_neg (λq=>by rw[Nat.add_left_cancel q,h.out _ (OC _)] at z;cases z)]
  exact h.sep k b z
 ·obtain⟨⟨vs,g⟩,_⟩:=h.pv b hb;exact{vs,old g}
end
section
variable{fa:Fa}{X:Cx}{pins:List (Addr×Obj)}{σ:L2.St}{H:Hp}{s:Oy}{μ:Mu}{M:Mem}
def nQ {c:Int}{d:D}(h:isKey c d=true)(kd:KD X c):∃kk,kd.dec d=some kk:=by
 have e:(mM c d).isSome=true:=by
  unfold isKey at h;unfold mM;split at h
  ·next z=>rw[if_pos z,Qw];exact h
  ·next z=>
   rw[if_neg z];split at h
   ·next y=>rw[if_pos y,Qw];exact h
   ·cases h
 rw[kd.hash,Qw] at e;exact Option.isSome_iff_exists.mp e
def Lm (X:Cx){c:Int}(h:c=77\/c=78):Nonempty (KD X c):=by
 rcases h with rfl|rfl
 ·exact{KD.f X}
 ·exact{KD.n X}
def oZ (hd:fJ fa)(I:Inv X pins σ H s)(hM:RelM fa X.K μ H M){o:Nat}{v:V}{q:Int×List D}(r:Rep fa X.K μ H (.fn o) v)(e:bK M o=some q) :
 ∃(a:Addr) (kd:KD X q.1) (kvs:List (D×D)) (xs:List (kd.K×Addr×Ox)),v=.ref a/\5000<=o/\μ.ob o=some a/\M[o-5000]?=some (.int q.1::q.2)/\H a=some (.dn (xs.map (entryOfKey kd.knd)))/\(q.1=77\/q.1=78)/\q.2=kvs.map iB/\DP fa X μ H kd kvs xs/\(kvs.map (·.1)).Nodup:=by
 unfold bK at e;split at e
 ·next ho=>
  split at e
  ·next c es em=>
   split at e
   ·next hc=>
    cases e;obtain⟨a,rfl,ha⟩:=r;rcases ha with ha|⟨_,ha⟩
    ·rw[hd.of o ho] at ha;cases ha
    have eo:aE (o-5000)=o:=Nat.add_sub_cancel' ho;rcases hM.at' _ _ em with⟨b,vs,h1,_⟩|⟨b,h1,h2,⟨n,C,dx,fs,es',h3,h4,h5,h6,h7⟩|⟨c',es',kvs,h3,h4,h5,h6,h7⟩⟩
    ·have:=hM.sep _ _ h1;rw[eo,ha] at this;cases this
    ·have h6:=(List.cons.inj h6).1;have h6:c=(n:Int):=D.int.inj h6;rcases hc with rfl|rfl
     ·have:n=77:=`a
      rw[this,hd.n77] at h3;cases h3
     ·have:n=78:=`a
      rw[this,hd.n78] at h3;cases h3
    ·rw[eo,ha] at h1;cases h1;obtain⟨e1,e2⟩:=List.cons.inj h5;cases D.int.inj e1;obtain⟨kd⟩:=Lm X hc;obtain⟨xs,rfl,dp⟩:=kd.xs h6;exact⟨a,kd,kvs,xs,rfl,ho,ha,em,h3,hc,e2,dp,h7⟩
   ·cases e
  ·cases e
 ·cases e
def rDG (fa:Fa)(K:Ow):R2:=λx y H Q=>∃μ M o dy d,RelM fa K μ H M/\Rep fa K μ H (.fn o) x/\Rep fa K μ H dy y/\getD M o dy=some d/\aX fa K μ H Q d M
def Lo (hu:Rm X)(hd:fJ fa):j3 X (rDG fa X.K):=by
 intro value slice pins s σ H x y v u Q I rx ry h hs;obtain⟨μ,M,o,dy,d,hM,r1,r2,e,q⟩:=h;obtain⟨qq,e1,e2⟩:=Pq.mp e;split at e2
 ·next hk=>
  obtain⟨a,kd,kvs,xs,rfl,ho,ha,em,hH,hc,e3,dp,nd⟩:=oZ hd I hM r1 e1;obtain⟨kk,ek⟩:=nQ hk kd;obtain⟨b,rfl⟩:=kd.ref r2 ek;obtain⟨ys,hz,dd⟩:=KD.dict I hH dp nd;obtain rfl:v=Value.ref a:=rx;obtain rfl:u=Value.ref b:=ry;rw[e3] at e2;rcases dp.look ek with⟨z,_⟩|⟨d',b',v',u',z,g,ru,rd⟩
  ·rw[z] at e2;cases e2
  ·rw[z] at e2;cases e2;have hT:=dd.of.typeIs;have h2:wpAny (model X.prog X.w) X.A (getItem (.ref a) (.ref b)) (EP X pins σ Q) X.xe s:=wpAny_getItem_heap (kd.room hu) (kd.is I r2 ek) dd.of g {v',H,I.tok _,ru,aR hM q rd};unfold subscriptTail;refine tqa ?_;rw[getitemInPython_of_ne hT.not_modules];refine tqa (wpAny_specialOf hT PySem.F.slot_dict_getitem.lookup ?_);have fin:wpAny (model X.prog X.w) X.A (subscripted slice false (.ref a) (.ref b)) (λr s3=>wpAny (model X.prog X.w) X.A (letTemporaryGo value (.ref a) r >>= λ_=>pure r) (EP X pins σ Q) X.xe s3) X.xe s:=by
    rw[hs];exact wpAny_operating (wpAny_mono h2 (λr s3 h3=>tqa (wpAny_letTemporaryGo (tqb h3))) λ_ _ x=>x)
   first
    |exact tqb (tqa fin)
    |exact tqa (tqb (tqa fin))
    |exact tqa fin
 ·cases e2
def rDI (fa:Fa)(K:Ow)(n:Bool):R2:=λx y H Q=>∃μ M o dx b,RelM fa K μ H M/\Rep fa K μ H dx x/\Rep fa K μ H (.fn o) y/\inD M o dx=some b/\Q (.bl (n != b)) H
def DV (hu:Rm X)(hd:fJ fa)(n:Bool):bE X (compareOp (if n then .NotIn else .In)) (rDI fa X.K n):=by
 intro pins s σ H x y v u Q I rx ry h;obtain⟨μ,M,o,dx,b,hM,r1,r2,e,q⟩:=h;obtain⟨qq,e1,e2⟩:=Pq.mp e;split at e2
 ·next hk=>
  obtain⟨a,kd,kvs,xs,rfl,ho,ha,em,hH,hc,e3,dp,nd⟩:=oZ hd I hM r2 e1;obtain⟨kk,ek⟩:=nQ hk kd;obtain⟨c,rfl⟩:=kd.ref r1 ek;obtain⟨ys,hz,dd⟩:=KD.dict I hH dp nd;obtain rfl:v=Value.ref c:=rx;obtain rfl:u=Value.ref a:=ry;rw[e3] at e2;cases e2;have eq:(cL (kvs.map iB) dx).isSome=(atKey xs kk).isSome:=by
   rcases dp.look ek with⟨h1,h2⟩|⟨_,_,_,_,h1,h2,_⟩<;>rw[h1,h2]<;>rfl
  rw[eq] at q;cases n with
  |false=>exact wpAny_in_heap (kd.room hu) (kd.is I r1 ek) ys dd.of {.bl _,H,I.tok _,rfl,by simpa using q}
  |true=>exact wpAny_notIn_heap (kd.room hu) (kd.is I r1 ek) ys dd.of {.bl _,H,I.tok _,rfl,by simpa using q}
 ·cases e2
def rDS (fa:Fa)(K:Ow):w9:=λx y v H Q=>∃μ M o dy d q,RelM fa K μ H M/\Rep fa K μ H (.fn o) x/\Rep fa K μ H dy y/\Rep fa K μ H d v/\bK M o=some q/\isKey q.1 dy=true/\q.2.length<1000000/\∀H',Ext μ H μ H'->RelM fa K μ H' (M.set (o-5000) (.int q.1::putD q.2 dy d))->Q H'
def p6 (hd:fJ fa)(I:Inv X pins σ H s)(hM:RelM fa X.K μ H M){o:Nat}{x y v:V}{iv u:Ox}{dy d:D}{q:Int×List D}(r1:Rep fa X.K μ H (.fn o) x)(r2:Rep fa X.K μ H dy y)(ry:RelV y iv)(rv:RelV v u)(r3:Rep fa X.K μ H d v)(e1:bK M o=some q)(hk:isKey q.1 dy=true)(hl:q.2.length<1000000) :
 ∃(a b:Addr) (kd:KD X q.1) (kk:kd.K) (xs:List (kd.K×Addr×Ox)),x=.ref a/\iv=.ref b/\kd.knd.is s.heap kk b/\xs.length<=sizeLine/\jf kd.knd s.heap a xs/\∀h' t,jf kd.knd h' a (storedH xs kk b u)->Qd a s.heap h'->∃H',Inv X pins σ H' {s with heap:=h',toks:=t}/\Ext μ H μ H'/\RelM fa X.K μ H' (M.set (o-5000) (.int q.1::putD q.2 dy d)):=by
 obtain⟨a,kd,kvs,xs,rfl,ho,ha,em,hH,hc,e3,dp,nd⟩:=oZ hd I hM r1 e1;obtain⟨kk,ek⟩:=nQ hk kd;obtain⟨b,rfl⟩:=kd.ref r2 ek;obtain⟨ys,hz,dd⟩:=KD.dict I hH dp nd;obtain rfl:iv=Value.ref b:=ry;have dp2:=dp.put ek r2 rv r3;refine{a,b,kd,kk,xs,rfl,rfl,kd.is I r2 ek,hz,dd,λh' t dd' hs=>?_};obtain⟨o',es',h1,h2,h3,h4,_,_⟩:=dd';have lx:(storedH xs kk b u).length<=sizeLine:=by
  have l1:(jv kvs dy d).length=(storedH xs kk b u).length:=Paired.length dp2;have l2:(jv kvs dy d).length<=kvs.length+1:=by
   unfold jv;split<;>simp
  have l3:kvs.length<1000000:=by rw[e3,Oz] at hl;exact hl
  rw[<- l1,sizeLine_eq];omega
 have eo:aE (o-5000)=o:=Nat.add_sub_cancel' ho;have x:=Ext.dic (es':=(storedH xs kk b u).map (entryOfKey kd.knd)) hM hH;refine{upd H a (.dn ((storedH xs kk b u).map (entryOfKey kd.knd))),I.write (x:=a) (e:=a) (by rw[hH];exact True.intro) (.inl rfl) (λb q hb z=>(hs.2 b hb).trans z) ⟨o',h1⟩ {by simpa using lx,ys,o',h1,h2,?_},x,?_}
 ·have hl2:=congrArg List.length h4;rw[Oz] at hl2;rw[h3,<- h4,hl2]
 ·refine hM.dicW em (by rw[eo];exact ha) hH (.inr {q.1,_,jv kvs dy d,cm,hc,?_,Qn.mapP (KD.back dp2) λp e ⟨b,v,e1,e2,e3,e4,e5⟩=>{b,v,e1,e2,e3.ext x,e4,e5.ext x},dp.keys nd ek})
  rw[e3,<- HZ];rfl
def E4 (hu:Rm X)(hd:fJ fa):Cy X (rDS fa X.K):=by
 intro pins s σ H x y v ov iv u Q I rx ry rv h;obtain⟨μ,M,o,dy,d,q,hM,r1,r2,r3,e1,hk,hl,k⟩:=h;obtain⟨a,b,kd,kk,xs,rfl,rfl,hi,hz,dd,fin⟩:=p6 hd I hM r1 r2 ry rv r3 e1 hk hl;obtain rfl:ov=Value.ref a:=rx;refine vU (hsz:=hz) (kd.room hu) hi dd λh' dd' hs=>?_;obtain⟨H',I',x',m'⟩:=fin h' _ dd' hs;exact{H',I',k H' x' m'}
end
section
variable{fa:Fa}{X:Cx}{a b d:Expr}{ga gb gd:GE}{pos:Pos}
def J4 (hu:Rm X)(hd:fJ fa)(ha:DE fa X a ga)(hb:DE fa X b gb)(hs:jj b):DE fa X (.Subscript a b pos) (fZ ga gb):=
 bB (vZ (Lo hu hd) ha hb hs) λσ H Q ⟨μ,Z,M,hE,hM,h⟩=>t2 hE hM h λx y M2 v u H2 μ2 x2 hE2 hM2 r1 r2 h2=>by
  cases x with
  | fn o =>
    obtain⟨d,e,q⟩:=ky h2;exact{μ2,M2,o,y,d,hM2,r1,r2,e,aX.ext q x2}
  |_=>exact h2.elim
def vo {n:Bool}{x y:D}{M:Mem}{k:D->Mem->Prop}(h:ag (match y with|.fn o=>(match inD M o x with|some r=>Res.ok (D.bl (n != r)) M|none=>.bad)|_=>.bad) k):∃o r,y=.fn o/\inD M o x=some r/\k (.bl (n != r)) M:=by
 cases y with
 | fn o =>
   dsimp only at h;cases e:inD M o x with
   |none=>rw[e] at h;exact h.elim
   |some r=>rw[e] at h;exact⟨o,r,rfl,e,h⟩
 |_=>exact h.elim
def LY (n:Bool)(hu:Rm X)(hd:fJ fa)(ha:DE fa X a ga)(hb:DE fa X b gb)(hm:behindInMarks (if n then .NotIn else .In) b=false):DE fa X (.Compare a [if n then .NotIn else .In] [b] pos) (j9 n ga gb):=
 bB (pL (DV hu hd n) ha hb hm) λσ H Q ⟨μ,Z,M,hE,hM,h⟩=>t2 hE hM h λx y M2 v u H2 μ2 x2 hE2 hM2 r1 r2 h2=>by
  obtain⟨o,r,rfl,e,q⟩:=vo h2;exact{μ2,M2,o,x,r,hM2,r1,r2,e,aR (v:=.bl (n != r)) hM2 (q.ext x2) rfl}
def JK (n:Bool)(hu:Rm X)(hd:fJ fa)(ha:DE fa X a ga)(hb:DE fa X b gb)(hm:behindInMarks (if n then .NotIn else .In) b=false):DT fa X (.Compare a [if n then .NotIn else .In] [b] pos) (ay (j9 n ga gb)):=
 kn (pJ (DV hu hd n) ha hb hm) λσ H Q ⟨μ,Z,M,hE,hM,h⟩=>by
  obtain⟨z,M3,e,q⟩:=aG h;have h':ag (j9 n ga gb Z M) (λd M=>d=z/\M=M3):=by rw[e];exact⟨rfl,rfl⟩
  refine t2 hE hM h' λx y M2 v u H2 μ2 x2 hE2 hM2 r1 r2 h2=>?_;obtain⟨o,r,rfl,e1,e2,e3⟩:=vo h2;subst e2 e3;exact{μ2,M2,o,x,r,hM2,r1,r2,e1,n != r,rfl,q H2 μ2 x2 hM2}
def Hv (hu:Rm X)(hk:fJ fa)(ha:DE fa X a ga)(hb:DE fa X b gb)(hd:DE fa X d gd){p2:Pos}
 (h0:∀v,assign (.Subscript a b p2) X.env v=(do
  let ov <- holding [v] (eval a X.env)
  let iv <- holding [v,ov] (eval b X.env)
  standAt p2
  holding [v,ov,iv] (setItem ov iv v)
  release [v,ov,iv] [])) (hs:swapsWithSole [.Subscript a b p2] d pos.line X.env=pure false) (hw:swappedStores [.Subscript a b p2] d X.env=pure none) :
 DS fa X (.Assign [.Subscript a b p2] d pos) (jL ga gb gd):=
 dJ (oy hd (yE ha hb (E4 hu hk) h0) hs hw) λD' σ H ⟨μ,Z,M,hE,hM,h⟩=>t1 hE hM h λz M1 v H1 μ1 x1 hE1 hM1 r1 h1=>t2 hE1 hM1 h1 λx y M2 vx vy H2 μ2 x2 hE2 hM2 rx ry h2=>by
  cases x with
  | fn o =>
    dsimp only at h2;cases e:bK M2 o with
    |none=>rw[e] at h2;exact h2.elim
    | some q =>
      rw[e] at h2;dsimp only at h2;split at h2
      ·next c=>
       have w:∀σ' H' μ',Ext μ H μ' H'->bb fa X.K μ' H' σ' Z->RelM fa X.K μ' H' (M2.set (o-5000) (.int q.1::putD q.2 y z))->D'.nx σ' H':=h2;exact{μ2,M2,o,y,z,q,hM2,rx,ry,r1.ext x2,e,c.1,c.2,λH' x' m'=>w σ H' μ2 ((x1.trans x2).trans x') (hE2.ext x') m'}
      ·exact h2.elim
  |_=>exact h2.elim
def J2 (c:Int)(hc:c=77\/c=78)(hd:fJ fa):DE fa X (.Dict [] [] pos) (rq c):=by
 intro pins s σ H Q I ⟨μ,Z,M,hE,hM,h⟩;have hb:sysModules<s.heap.objs.size:=Nat.lt_trans `d (I.mod.glob.keeps I.bk).lt
 have hp:H s.heap.objs.size=none:=I.hok.fresh (OC _);refine wpAny_Dict_empty {.ref s.heap.objs.size,_,I.laid (a:=s.heap.objs.size) (o:=.dn []) (t':=s.toks) (λ_ _ q=>OA _ q) (OC _) {Qc _,PB.mpr (PN (Pm hb)),_,OJ _ rfl,⟨rfl,rfl,rfl⟩,rfl},rfl,?_};refine h _ _ (lg μ M.length s.heap.objs.size) (Ext.dicNew hM hp) (hM.dicNew hp hc) {_,rfl,.inr {hd.of _ (QD _ _),?_}};show(if aE M.length=aE M.length then some s.heap.objs.size else _)=_;rw[if_pos rfl]
end
def sV {prog:O2}{w:O9}{d:Addr}(hd:(d==sysModules)=false) :
 MeetsIn prog w (Builtin.«dict.__len__» {[.ref d],[]}) (λ_ R s=>∃o es ep,s.heap.get? d=some o/\o.data=.dict es ep/\R (.ok (.ret (.int es.size s.toks))) {s with toks:=s.toks+1}):=
 .of_wp λA R s ⟨o,es,ep,ho,hdat,h⟩=>by
  show wpAny _ _ (dictSize d >>= _) _ _ s;unfold dictSize;refine tqa (tqa (wpAny_dictEntries ho hdat (tqb ?_)));show wpAny _ _ (Builtin.Dict.pendingCount d >>= _) _ _ s;refine tqa (wpAny_pendingCount_other hd (wpAny_ret_mkInt ?_));rw[Nat.add_zero];exact h
def Jd {prog:O2}{w:O9}{A:PR}{E:Ox->Oy->Prop}{s:Oy}{d:Addr}{o:Obj}{es:Array Pu}{ep:Nat}{Q:Ox->Oy->Prop}(hd:(d==sysModules)=false)(ho:s.heap.get? d=some o)(hc:o.cls=.type "dict")(hdat:o.data=.dict es ep)(hfit:es.size<2^62)
 (h:∀t t',Q (.int es.size t) {s with toks:=t'}):wpAny (model prog w) A (call (.builtin "len") [.ref d]) Q E s:=by
 have hT:s.TypeIs (.ref d) "dict":=⟨o,ho,hc⟩;refine Calls.call_function_entry kind_len plain_len entry_len (args_len1 _) ?_;unfold Builtin.«len»;refine tqa (m:=oneArg "len" _) (tqb ?_);refine tqa (m:=callSpecial? (.ref d) (Str.ofString "__len__")) (wpAny_callSpecial?_slot (name:=Str.ofString "__len__") hT F.slot_dict_len (call_meetsIn F.slot_dict_len hT F.entry_dict_len (F.args_dict_len_1 _) (sV hd) {o,es,ep,ho,hdat,?_}));show wpAny _ _ _ _ _ {s with toks:=s.toks+1}
 refine tqa (tqo (tqb (tqa (wpAny_letGo ?_))));show wpAny _ _ (if ((es.size:Nat):Int)<0 then _ else _) _ _ _;rw[if_neg `a]
 show wpAny _ _ (if ((es.size:Nat):Int)≥2^63 then _ else _) _ _ _;rw[if_neg `a]
 exact tqa (wpAny_mkInt (tqb {_,rfl,h _ _}))
def jU (a:GE):GE:=λZ M=>(a Z M).bind λx M=>match x with
 | .fn o => (match bK M o with
   |some q=>.ok (.int q.2.length) M
   |none=>.bad)
 |_=>.bad
section
variable{fa:Fa}{X:Cx}{a:Expr}{ga:GE}{p pos:Pos}
def Jz (hd:fJ fa):cy X (.builtin "len") (λxs H Q=>∃μ M o q v,xs=[v]/\RelM fa X.K μ H M/\Rep fa X.K μ H (.fn o) v/\bK M o=some q/\Q (.int q.2.length) H):=by
 intro pins s σ H xs us Q I r h;obtain⟨μ,M,o,q,v,rfl,hM,rv,e,k⟩:=h;obtain⟨b,kd,kvs,ys,rfl,ho,ha,em,hH,hc,e3,dp,nd⟩:=oZ hd I hM rv e;cases r with
 | cons r rr =>
   cases rr;obtain rfl:=(show _=Value.ref b from r);obtain⟨z,y,ob,h1,h2,h3⟩:=(show bI X.prog X.w H s.heap b (.dn _) from I.hok b _ hH);have el:(ys.map (entryOfKey kd.knd)).toArray.size=q.2.length:=by
    rw[e3,OH,Oz,Oz];exact(Paired.length dp).symm
   refine Jd y h1 h2.1 h3 ?_ λt t'=>{.int q.2.length,H,I.tok _,{t,by rw[el]},k}
   rw[OH];rw[sizeLine_eq] at z;omega
def J3 (hd:fJ fa)(hg:Gl X "len")(hm:X.mg "len"=none)(ha:DE fa X a ga)(he:notStar a=true):DE fa X (.Call (.Name "len" p) [a] [] pos) (jU ga):=
 bB (kZ (Jz (fa:=fa) hd) hg hm PySem.boot_len (c7 ha ft (by rw[bp he])) `d `d (by rw[bp he]) `r) λσ H Q ⟨μ,Z,M,hE,hM,h⟩=>t1 hE hM h λx M1 v H1 μ1 x1 hE1 hM1 r1 h1=>by
  cases x with
  | fn o =>
    dsimp only at h1;cases e:bK M1 o with
    |none=>rw[e] at h1;exact h1.elim
    |some q=>rw[e] at h1;exact{μ1,M1,o,q,v,rfl,hM1,r1,e,aR (v:=.int q.2.length) hM1 (aX.ext h1 x1) rfl}
  |_=>exact h1.elim
end
def jV (gk gv:GE):Env->List D->Mem->Res (List D):=λZ acc M=>(gk Z M).bind λk M=>(gv Z M).bind λv M=>match acc with
 | [.fn o] => (match bK M o with
   |some q=>if isKey q.1 k=true/\q.2.length<1000000 then .ok acc (M.set (o-5000) (.int q.1::putD q.2 k v)) else .bad
   |none=>.bad)
 |_=>.bad
def jA (c:Int)(n:Nat)(t:cf)(gw:GW)(g:GB):GE:=λZ M=>(gw Z M).bind λw M=>(dg (cK t g (List.replicate n none++Z)) w [.fn (aE M.length)] (M++[[.int c]])).bind λacc M=>match acc with
 |[d]=>.ok d M
 |_=>.bad
def uy (a:Addr):PA:=λμ _ acc=>∃o,acc=[.fn o]/\5000<=o/\μ.ob o=some a
def uy.stab {a:Addr}:xa (uy a):=λ_ _ _ _ _ x ⟨o,h1,h2,h3⟩=>{o,h1,h2,x.obs _ _ h3}
def AJ (kx vx target iter:Expr)(scope:Scope)(pos:Pos)(it:Ox)(d:Addr)(env:Pp) :
 compTurn (.DictComp kx vx [{target,iter,[],0}] scope pos) 0 it (.ref d) env=(standAt iter.pos >>= λ_=>pyNext it >>= λr=>match r with
  |none=>pure (.done .next)
  |some v=>letOwnedTupleGo target it v >>= λ_=>assign target env v >>= λ_=>(eval kx env >>= λkv=>holding [kv] (eval vx env) >>= λvv=>standAt {kx.pos with endLine:=vx.pos.endLine,endCol:=vx.pos.endCol} >>= λ_=>holding [kv,vv] (dictSet d kv vv)) >>= λ_=>again (.compLoop (.DictComp kx vx [{target,iter,[],0}] scope pos) 0 it (.ref d) env)):=`r
section
variable{fa:Fa}{X:Cx}{a:Addr}
def Gk {kx vx:Expr}{gk gv:GE}(hu:Rm X)(hd:fJ fa)(hk:DE fa X kx gk)(hv:DE fa X vx gv):DB fa X (uy a) a [] (eval kx X.env >>= λkv=>holding [kv] (eval vx X.env) >>= λvv=>standAt {kx.pos with endLine:=vx.pos.endLine,endCol:=vx.pos.endCol} >>= λ_=>holding [kv,vv] (dictSet a kv vv)) (jV gk gv):=by
 rintro pins s σ H Q μ Z M _ I hE hM hc ⟨o,rfl,ho,hob⟩ h;obtain⟨k,M1,e,h⟩:=aG h;obtain⟨v,M2,e2,h⟩:=aG h;dsimp only at h;cases e3:bK M2 o with
 |none=>rw[e3] at h;exact h.elim
 | some q =>
   rw[e3] at h;dsimp only at h;split at h
   ·next c=>
    have h:WB fa X.K (uy a) a μ H Z Q [.fn o] (M2.set (o-5000) (.int q.1::putD q.2 k v)):=h;refine tqa (aQ (hk pins s σ H (λv H1=>∃μ1,Ext μ H μ1 H1/\RelM fa X.K μ1 H1 M1/\Rep fa X.K μ1 H1 k v) I {μ,Z,M,hE,hM,?_}) λuk s1 ⟨wk,H1,I1,rk,μ1,x1,m1,r1⟩=>?_)
    ·rw[e];exact λv H1 μ1 x1 m1 r1=>⟨μ1,x1,m1,r1⟩
    refine tqa (tqo (aQ (hv pins s1 σ H1 (λw H2=>∃μ2,Ext μ1 H1 μ2 H2/\RelM fa X.K μ2 H2 M2/\Rep fa X.K μ2 H2 v w) I1 {μ1,Z,M1,hE.ext x1,m1,?_}) λuv s2 ⟨wv,H2,I2,rv,μ2,x2,m2,r2⟩=>?_))
    ·rw[e2];exact λv H1 μ1 x1 m1 r1=>⟨μ1,x1,m1,r1⟩
    have ob2:μ2.ob o=some a:=x2.obs _ _ (x1.obs _ _ hob);obtain⟨a',b,kd,kk,xs,ea,rfl,hi,hz,dd,fin⟩:=p6 hd I2 m2 (x:=.ref a) {a,rfl,.inr {hd.of _ ho,ob2}} (r1.ext x2) rk rv r2 e3 c.1 c.2;cases ea;refine tqa (wpAny_standAt (tqo (lG (hsz:=hz) (kd.room0 hu) hi dd λh' dd' hs=>?_)));obtain⟨H',I',x',m'⟩:=fin h' _ dd' hs;exact{σ,H',I',h σ H' μ2 ((x1.trans x2).trans x').toD (((hE.ext x1).ext x2).ext x') m' {o,rfl,ho,x'.obs _ _ ob2}}
   ·exact h.elim
def uA {kx vx tg iter:Expr}{ifs:List Expr}{rest:List Qb}{scope:Scope}{pos p0:Pos}{own bn:List Str}{t:cf}{W:List Nat}{body:Addr->Pp->Sem Unit}{gw:GW}{g:GB}{c:Int}(hc:c=77\/c=78)(hd:fJ fa)
 (S:fv X own bn scope) (hcalm:X.calm=true) (hi:DI fa X tg iter gw) (B:Block fa X uy own bn scope tg t W body g) (hT:∀(it a:Addr) (env:Pp),compTurn (.DictComp kx vx ({tg,iter,ifs,0}::rest) scope pos) 0 (.ref it) (.ref a) env=(standAt iter.pos >>= λ_=>pyNext (.ref it) >>= λr=>match r with
  |none=>pure (.done .next)
  |some v=>letOwnedTupleGo tg (.ref it) v >>= λ_=>assign tg env v >>= λ_=>body a env >>= λ_=>again (.compLoop (.DictComp kx vx ({tg,iter,ifs,0}::rest) scope pos) 0 (.ref it) (.ref a) env))) (hW:∀i∈W,i∉slots t) (hn:∀i∈slots t++W,i<own.length)
 (hs:∀x,foldedSetIterable iter X.env x=pure x) {use:Option (Ox->Sem Unit)}{QQ:Ox->Oy->Prop}
 {pins:List (Addr×Obj)}{s:Oy}{σ:L2.St}{H:Hp}{Q:VK}{μ:Mu}{Z:Env}{M:Mem} (I:Inv X pins σ H s) (hE:bb fa X.K μ H σ Z) (hM:RelM fa X.K μ H M) (h:ag (jA c own.length t gw g Z M) (aX fa X.K μ H Q))
 (post:∀(a C:Addr) (s':Oy) (H':Hp),Inv X pins σ H' s'->Q (.ref a) H'->(∃m,s'.heap.Ns C m)->(∀σ2 H2 s2,Inv X pins σ2 H2 s2->(H' C=none->H2 C=none)->H2 C=none/\∀h'',Qd C s2.heap h''->Inv X pins σ2 H2 {s2 with heap:=h''})->H' C=none->(C≠X.env.locals/\∀x c,X.env.cells.lookup x=some c->c≠C)->compPost (model X.prog X.w) X.A X.xe use QQ (.ref a) C (.ok .next) s') :
 wpAny (model X.prog X.w) X.A (comprehension (.DictComp kx vx ({tg,iter,ifs,0}::rest) scope pos) scope X.env p0 newDict false (eval iter X.env) use) QQ X.xe s:=by
 obtain⟨w,M1,ew,q⟩:=aG h;obtain⟨acc,M2,ea,q2⟩:=aG q;obtain⟨cl,hcl,hsub,hhas⟩:=lI (scope:=scope) (env:=X.env) λy hy hf=>I.ok.has y.1 (S.free y hy hf);refine wpAny_comprehension_free (use:=use) rfl hs hcl S.kind S.loc ?_;refine aQ (hi pins s σ H (λJ H1=>∃μ1,Ext μ H μ1 H1/\RelM fa X.K μ1 H1 M1/\cW fa X.K μ1 H1 w J) I {μ,Z,M,hE,hM,?_}) λv s1 h1=>aQ h1 λitv s2 h2=>?_
 ·rw[ew];exact λJ H1 μ1 x1 m1 wk=>⟨μ1,x1,m1,wk⟩
 obtain⟨it,fp,tn,J,H2,ei,I2,T,st2,f2,μ2,x2,m2,wk⟩:=h2;subst ei;simp only[newDict,newObj];refine tqa (wpAny_alloc (tqb ?_));have hb:sysModules<s2.heap.objs.size:=Nat.lt_trans `d (I2.mod.glob.keeps I2.bk).lt
 have ha:H2 s2.heap.objs.size=none:=I2.hok.fresh (OC _);have I3:Inv X pins σ (upd H2 s2.heap.objs.size (.dn [])) {s2 with heap:=s2.heap.push {cls:=.type "dict",data:=.dict #[]}}:=
  I2.laid (t':=s2.toks) (λb o e=>OA _ e) (OC _) {Qc _,PB.mpr (PN (Pm hb)),_,OJ _ rfl,⟨rfl,rfl,rfl⟩,rfl}
 generalize hs3:({s2 with heap:=s2.heap.push {cls:=.type "dict",data:=.dict #[]}}:Oy)=s3 at I3 ⊢
 have k3:∀b o,s2.heap.get? b=some o->s3.heap.get? b=some o:=λb o e=>by rw[<- hs3];exact OA _ e
 have fo2:=T.obj _ _ st2;have f3:∀b∈fp,fG X pins (upd H2 s2.heap.objs.size (.dn [])) b:=λb hb=>by
  obtain⟨o,e,_⟩:=fo2 b hb;exact{by rw[aD (Pm (OS e))];exact(f2 b hb).1,(f2 b hb).2}
 have fo3:∀b∈fp,∃o,s3.heap.get? b=some o:=λb hb=>let{o,e,_}:=fo2 b hb;{o,k3 b o e}
 obtain⟨CL,hce⟩:=DU S hsub hhas (s3.heap.push {cls:=.type "dict",data:=.dict #[]}) (n:=s3.heap.objs.size) (Qv ..);generalize hcl':cellsFrom (s3.heap.objs.size+1) scope.names cl=cl' at CL hce;refine qG ?_;rw[hcl'];have hns₁:(pushCells (s3.heap.push {cls:=.type "dict",data:=.dict #[]}) scope.names).Ns s3.heap.objs.size (λ_=>none):=(Heap.Ns.new s3.heap (.type "dict")).keeps (pushCells_keeps _ _);have k4:∀b o,s3.heap.get? b=some o->(pushCells (s3.heap.push {cls:=.type "dict",data:=.dict #[]}) scope.names).get? b=some o:=λb o e=>pushCells_keeps _ _ b o (OA _ e);generalize pushCells (s3.heap.push {cls:=.type "dict",data:=.dict #[]}) scope.names=h₁ at hns₁ k4 hce ⊢;clear hcl hcl' hsub hhas cl
 rename List (Str×Addr)=>cl
 have I4:=tW (own:=own) (bn:=bn) (t':=s3.toks) I3 S CL f3 fo3 hns₁ k4 hce;have ok4:=I4.ok;have f4:∀b∈fp,fG (fD X own bn scope cl s3.heap.objs.size fp s3 (upd H2 s2.heap.objs.size (.dn []))) [] (upd H2 s2.heap.objs.size (.dn [])) b:=λb hb=>
  {(f3 b hb).1,(ok4.exf b hb).1,ok4.exfs b hb,.inl hb,(ok4.exf b hb).2,λp hp=>nomatch hp}
 have st4:tn 0 h₁:=T.keep _ _ _ st2 λb hb o e=>k4 b o (k3 b o e);have x3:=Ext.dicNew m2 ha;have m3:=m2.dicNew ha hc;have go:=qc uy.stab (X:=fD X own bn scope cl s3.heap.objs.size fp s3 (upd H2 s2.heap.objs.size (.dn []))) (fa:=fa) (a:=s2.heap.objs.size) (W:=W) (t:=t) (g:=g) (acc:=[.fn (aE M1.length)]) (Q:=λ_ H'=>Q (.ref s2.heap.objs.size) H') (hT it s2.heap.objs.size _) ⟨rfl,rfl⟩ rfl hcalm T (B.pg _ _ _ _ _) (B.db _ _ _ _ _ _) hW I4 st4 f4
  (so own.length ((hE.ext x2).ext x3)) m3 (qJ hn) {_,rfl,QD _ _,if_pos rfl} (qp wk x3.toExtW) (by
   rw[ea];rintro σ' H' μ' z1 z2 z3 ⟨o,rfl,ho,hob⟩;have q2:aX fa X.K μ H Q (.fn o) M2:=q2;have z:Ext _ _ μ' H':={z1.toExtW,z1.pr,λb hb=>z1.pk b hb λe=>by
    obtain⟨⟨vs,q⟩,_⟩:=m2.pv b hb;rw[e,ha] at q;cases q}
   exact q2 (.ref s2.heap.objs.size) H' μ' ((x2.trans x3).trans z) z3 {_,rfl,.inr {hd.of _ ho,hob}})
 have go':codeAny (model X.prog X.w) X.A (.compLoop (.DictComp kx vx ({tg,iter,ifs,0}::rest) scope pos) 0 (.ref it) (.ref s2.heap.objs.size) (compEnvC scope cl s3.heap.objs.size X.env)) (compPost (model X.prog X.w) X.A X.xe use QQ (.ref s2.heap.objs.size) s3.heap.objs.size) {s3 with heap:=h₁}:=
  codeAny_mono go λr s' ⟨er,σ',H',I',z⟩=>by
   subst er;refine post _ _ s' H' (comp_back I3 f3 I') z (let{m,hn,_}:=I'.loc;⟨m,hn⟩) (λσ2 H2 s2' I2' hf=>{hf I'.free,λh'' hs''=>qI I3 (hf I'.free) I2' hs''}) I'.free {PM I3.lt,λx c e z=>by
    obtain⟨v,q⟩:=I3.cell x c e;exact absurd q.lt (by rw[z];exact P5 _)}
 exact codeAny_compStart_dict go' (T.self _ 0 _ _ _ st4 go')
def Gp {kx vx tg iter:Expr}{scope:Scope}{pos:Pos}{own bn:List Str}{t:cf}{gw:GW}{gk gv:GE}{c:Int}(hc:c=77\/c=78)(hd:fJ fa)
 (S:fv X own bn scope) (hcalm:X.calm=true) (hi:DI fa X tg iter gw) (B:Block fa X uy own bn scope tg t [] (λa env=>eval kx env >>= λkv=>holding [kv] (eval vx env) >>= λvv=>standAt {kx.pos with endLine:=vx.pos.endLine,endCol:=vx.pos.endCol} >>= λ_=>holding [kv,vv] (dictSet a kv vv)) (jV gk gv)) (hn:∀i∈slots t++[],i<own.length)
 (hs:∀x,foldedSetIterable iter X.env x=pure x):DE fa X (.DictComp kx vx [{tg,iter,[],0}] scope pos) (jA c own.length t gw (jV gk gv)):=by
 intro pins s σ H Q I ⟨μ,Z,M,hE,hM,h⟩;show wpAny _ X.A (comprehension (.DictComp kx vx [{tg,iter,[],0}] scope pos) scope X.env _ newDict false (eval iter X.env) none) _ _ s;refine uA (use:=none) hc hd S hcalm hi B (λit a env=>AJ kx vx tg iter scope pos (.ref it) a env) (λ_ h=>nomatch h) hn hs I hE hM h ?_;intro a C s' H' I' q ⟨m,hn⟩ gone hf _;exact{m,hn,λh' hs'=>{.ref a,H',(gone σ H' s' I' id).2 h' hs',rfl,q}}
end
def Cr {prog:O2}{w:O9}{A:PR}{I p:Addr}{items:Array Ox}{R:Result->Oy->Prop}(hh:A.in1.handled=none)(hne:p≠I)(tr:Nat->Bool)(G:Heap->Prop)(hG:∀h h',G h->(∀b o,b∉[I]->h.get? b=some o->h'.get? b=some o)->G h')
 (htr:∀i v (s:Oy) (Q:Bool->Oy->Prop) (E:Ox->Oy->Prop),items[i]?=some v->G s.heap->(∀t,Q (tr i) {s with toks:=t})->wpAny (model prog w) A.in1 (truthy v) Q E s):∀(k i:Nat) (s:Oy),items.size-i=k->i<=items.size->(s.heap.IsListIter I p i/\s.heap.IsList p items)->G s.heap->
 (∀h' tk,G h'->R (.ok (.ret (.bool (((List.range items.size).drop i).any tr)))) {s with heap:=h',toks:=tk})->codeAny (model prog w) A (.builtin "any.loop" {[.ref I],[]}) R s:=by
 have W:=Walks.list (prog:=prog) (w:=w) hh I p hne items;intro k;induction k with
 | zero =>
   intro i s hk hi hst g hR;have hin:i=items.size:=`a
   subst hin;refine codeAny_builtin F.entry_any_loop ?_;rw[Around.under_plainId F.plain_any_loop _];show wpAny _ A.in1 (pyNext (.ref I) >>= _) _ _ s;refine tqa (W.done s _ _ hst λh' tk hk'=>?_);refine tqa (wpAny_rule (tqb ?_));have:=hR h' tk (hG _ _ g hk');rw[List.drop_of_length_le `s] at this
   exact this
 | succ k ih =>
   intro i s hk hi hst g hR;have hlt:i<items.size:=`a
   have hd:(List.range items.size).drop i=i::(List.range items.size).drop (i+1):=by
    rw[List.drop_eq_getElem_cons (by simpa using hlt)];simp
   refine codeAny_builtin F.entry_any_loop ?_;rw[Around.under_plainId F.plain_any_loop _];show wpAny _ A.in1 (pyNext (.ref I) >>= _) _ _ s;refine tqa (W.item i s _ _ hlt hst λv h' tk hP hst' hk'=>?_);refine tqa (tqo (htr i v _ _ _ hP (hG _ _ g hk') λt=>?_));refine tqa (wpAny_letGo ?_);cases hb:tr i with
   | false =>
     simp only[Px,if_false];refine tqb {plainId_quiet F.plain_any_loop _,ih (i+1) _ `a hlt hst' (hG _ _ g hk') λh'' tk'' g''=>?_}
     have:=hR h'' tk'' g'';rw[hd,List.any_cons,hb,Bool.false_or] at this;exact this
   | true =>
     simp only[if_true];refine tqa (wpAny_rule (tqb ?_));have:=hR h' t (hG _ _ g hk');rw[hd,List.any_cons,hb,Bool.true_or] at this;exact this
def range_any (bs:List Bool):((List.range bs.length).any λi=>(bs[i]?).getD false)=bs.any id:=by
 rw[P6,Qt,Qt];constructor
 ·rintro⟨i,_,e⟩;cases z:bs[i]? with
  |none=>rw[z] at e;cases e
  |some b=>rw[z] at e;exact{b,Pj z,e}
 ·rintro⟨b,hb,e⟩;obtain⟨i,hi⟩:=Qz hb;exact{i,QE.mpr (Ov.mp hi).1,by rw[hi];exact e}
def nr (M:Mem):D->Option Bool
 |.bl b=>some b
 |d=>(dE M d).map λxs=>!xs.isEmpty
def AL {M:Mem}{d:D}{b:Bool}(h:nr M d=some b):d=.bl b\/∃xs,dE M d=some xs/\b=!xs.isEmpty:=by
 cases d with
 |bl c=>cases h;exact .inl rfl
 | _ =>
   simp only[nr] at h;obtain⟨xs,e1,e2⟩:=OW.mp h;exact .inr ⟨xs,e1,e2.symm⟩
def jJ (M:Mem):List D->Option (List Bool)
 |[]=>some []
 |d::r=>(nr M d).bind λb=>(jJ M r).map (b::·)
def rR {M:Mem}:∀{ds:List D}{bs:List Bool},jJ M ds=some bs->bs.length=ds.length/\∀(i:Nat) d,ds[i]?=some d->∃b,bs[i]?=some b/\nr M d=some b
 |[],_,h=>by cases h;exact{rfl,λ_ _ e=>by simp at e}
 | d :: ds, _, h => by
   obtain⟨b,e,h⟩:=Pq.mp h;obtain⟨bs,e2,rfl⟩:=OW.mp h;obtain⟨h1,h2⟩:=rR e2;refine{by simp[h1],λi d' z=>?_}
   cases i with
   |zero=>cases z;exact⟨b,rfl,e⟩
   |succ i=>exact h2 i d' z
def tK (a:GE):GE:=λZ M=>(a Z M).bind λx M=>match dE M x with
 | some ds => (match jJ M ds with
   |some bs=>.ok (.bl (bs.any id)) M
   |none=>.bad)
 |none=>.bad
section
variable{fa:Fa}{X:Cx}{a:Expr}{ga:GE}{p pos:Pos}
def LB:cy X (.builtin "any") (λxs H Q=>∃μ M ds bs p vs,xs=[.ref p]/\X.calm=true/\RelM fa X.K μ H M/\cX X.K H p vs/\aI fa X.K μ H ds vs/\jJ M ds=some bs/\Q (.bl (bs.any id)) H):=by
 intro pins s σ H xs us Q I r h;obtain⟨μ,M,ds,bs,p,vs,rfl,hc,hM,hq,rl,eb,q⟩:=h;obtain⟨u,rfl,rx⟩:=vals1 r;cases rx;obtain⟨its,rv,pl,hz⟩:=I.list hq;obtain⟨hl,hb⟩:=rR eb;have hlt:p<s.heap.objs.size:=pl.lt;refine call_function_tree F.kind_any F.plain_any F.entry_any (F.args_any1 _) ?_;unfold Builtin.«any»;refine tqa (m:=oneArg "any" _) (tqb ?_);refine tqa (wpAny_pyIter_list pl.isList ?_);refine tqb {plainId_quiet F.plain_any_loop _,Cr (I.ok.hd hc) (Pm hlt) (λi=>(bs[i]?).getD false) (λh=>∀b o,s.heap.get? b=some o->h.get? b=some o) (λh h' g k b o e=>k b o (λz=>by rw[OQ.mp z] at e;exact absurd (OS e) (P5 _)) (g b o e)) ?_ its.toArray.size 0 _ rfl (Qc _) {{_,OJ _ rfl,rfl,rfl},pl.isList.push _} (λb o e=>OA _ e) λh' tk g=>?_}
 ·intro i v s' Q' E' e g hQ;have e:its[i]?=some v:=by simpa using e
  have hi:i<vs.length:=by rw[rv.length];exact(Ov.mp e).1
  obtain⟨d,ed,rd⟩:=rl.getV (OO hi);obtain⟨u,eu,ru⟩:=rv.get (OO hi);rw[e] at eu;cases eu;obtain⟨b,e1,e2⟩:=hb i d ed;rw[e1] at hQ;have hQ:∀t,Q' b {s' with toks:=t}:=hQ
  have list:∀xs,dE M d=some xs->b=!xs.isEmpty->wpAny (model X.prog X.w) X.A.in1 (truthy v) Q' E' s':=λxs e3 e4=>by
   obtain⟨a,ws,ev,hw,rw'⟩:=bx hM rd e3;rw[ev] at ru;obtain rfl:=(show v=Value.ref a from ru);have I':Inv X pins σ H {s with heap:=s'.heap,toks:=s.toks}:=I.kept g
   obtain⟨its',rv',pl',hz'⟩:=I'.list hw;have hlen:=rv'.length;have hs:sizeLine=16777216:=sizeLine_eq;refine wpAny_truthy_list (s:=s') pl'.isList (by simp only[OH];omega) ?_
   rw[lB rv',show ws.isEmpty=xs.isEmpty by rw[P6,List.isEmpty_iff_length_eq_zero,List.isEmpty_iff_length_eq_zero,rw'.length],<- e4]
   exact hQ _
  rcases AL e2 with rfl|⟨xs,e3,e4⟩
  ·rw[show vs[i]=V.bl b from rd] at ru;obtain rfl:=(show v=Value.bool b from ru);exact tqp (hQ _)
  ·exact list xs e3 e4
 ·rw[List.drop_zero,OH,<- rv.length,rl.length,<- hl,range_any];exact{.bl _,H,I.kept g,rfl,q}
def L6 (hc:X.calm=true)(hg:Gl X "any")(hm:X.mg "any"=none)(ha:DE fa X a ga)(he:notStar a=true):DE fa X (.Call (.Name "any" p) [a] [] pos) (tK ga):=
 bB (kZ (LB (fa:=fa)) hg hm `k (c7 ha ft (by rw[bp he])) `d `d (by rw[bp he]) `r) λσ H Q ⟨μ,Z,M,hE,hM,h⟩=>t1 hE hM h λx M1 v H1 μ1 x1 hE1 hM1 r1 h1=>by
  cases e:dE M1 x with
  |none=>rw[e] at h1;exact h1.elim
  | some ds =>
    rw[e] at h1;dsimp only at h1;cases e2:jJ M1 ds with
    |none=>rw[e2] at h1;exact h1.elim
    | some bs =>
      rw[e2] at h1;obtain⟨a,vs,rfl,hq,r⟩:=bx hM1 r1 e;exact{μ1,M1,ds,bs,a,vs,rfl,hc,hM1,hq,r,e2,aR (v:=.bl (bs.any id)) hM1 (aX.ext h1 x1) rfl}
def oV (a b:GE):GE:=λZ M=>(a Z M).bind λx M=>if (dE M x).isSome=true then(b Z M).bind λy M=>match y with
 | .int j => (match (dE M x).bind intsOf with
   |some is=>.ok (.int (is.count j)) M
   |none=>.bad)
 |_=>.bad
 else .bad
def DK (j:Int):Ox->Bool
 |.int i _=>i==j
 |_=>false
def eqI {A:PR}{s:Oy}{us:List Ox}{is:List Int}{j:Int}{t:Tok}(h:PyProof.Rows.IntsAre us is):∀y,y∈us->PySem.SeqAt.EqAt A s y (.int j t) (DK j y):=by
 induction h with
 |nil=>exact λy hy=>nomatch hy
 | cons b t' _ ih =>
   intro y hy;rcases O6.mp hy with rfl|hy
   ·exact PySem.SeqAt.EqAt.int_int b t' j t
   ·exact ih y hy
def NY {us:List Ox}{is:List Int}{j:Int}(h:PyProof.Rows.IntsAre us is):us.countP (DK j)=is.count j:=by
 induction h with
 |nil=>rfl
 |cons b t _ ih=>rw[List.countP_cons,List.count_cons,ih];rfl
def FI:Ko X "list.count" (λx vs H Q=>∃μ ds is j p ws,x=.ref p/\vs=[.int j]/\cX X.K H p ws/\aI fa X.K μ H ds ws/\intsOf ds=some is/\Q (.int (is.count j)) H):=by
 intro pins s σ H x vs v us Q I rx rv h;obtain⟨μ,ds,is,j,p,ws,rfl,rfl,hq,rl,eb,q⟩:=h;cases rx;obtain⟨u,rfl,ru⟩:=vals1 rv;obtain⟨t,rfl⟩:=ru;obtain⟨its,rv,⟨o,n,e1,e2,e3,e4⟩,hz⟩:=I.list hq;have hb:=sk eb rl rv;obtain⟨oc,od,oda,osl⟩:=o;obtain rfl:oc=.type "list":=e2;obtain rfl:oda=.seq its.toArray n:=e4;refine call_meets PySem.F.slot_list_count {_,e1,rfl} PySem.F.entry_list_count (PySem.F.args_list_count_2 _ _) (PySem.SeqAt.list_countAt p its.toArray n od osl (.int j t) (DK j)) {e1,(λy hy=>eqI hb y (by simpa using hy)),?_}
 have hcnt:its.toArray.toList.countP (DK j)=is.count j:=by rw[List.toList_toArray];exact NY hb
 exact{.int (is.count j),H,I.tok _,{s.toks,by rw[hcnt]},q}
def J5 {b:Expr}{gb:GE}{apos cpos:Pos}(ha:DE fa X a ga)(hb:DE fa X b gb)(hbase:attributeBase a "count" X.env (eval a X.env)=eval a X.env)(hline:(apos.endLine==cpos.line)=true)(hs:starEach [b] X.env=[(false,eval b X.env)]):DE fa X (.Call (.Attribute a "count" apos) [b] [] cpos) (oV ga gb):=
 bB (v7 QY PySem.F.slot_list_count PySem.F.type_list_count (FI (fa:=fa)) ha (c7 hb ft hs) hbase (by rw[hs];rfl) hline hs `r) λσ H Q ⟨μ,Z,M,hE,hM,h⟩=>by
  obtain⟨x,M1,e1,h1⟩:=aG h;split at h1
  ·next hz=>
   obtain⟨ds1,e0⟩:=Option.isSome_iff_exists.mp hz;obtain⟨y,M2,e2,h2⟩:=aG h1;refine{μ,Z,M,hE,hM,?_};rw[e1];intro v H1 μ1 x1 hM1 r1;obtain⟨p,ws,rfl,hq,rl⟩:=bx hM1 r1 e0;refine{.inl ⟨rfl,ws,hq⟩,μ1,Z,M1,hE.ext x1,hM1,?_};rw[e2];intro u H2 μ2 x2 hM2 r2;cases y with
   | int j =>
     dsimp only at h2;cases e3:(dE M2 x).bind intsOf with
     |none=>rw[e3] at h2;exact h2.elim
     | some is =>
       rw[e3] at h2;obtain⟨ds,e,e4⟩:=Pq.mp e3;obtain⟨p',ws',ep,hq',rl'⟩:=bx hM2 (r1.ext x2) e;cases ep;obtain rfl:=(show u=V.int j from r2);exact{μ2,ds,is,j,p,ws',rfl,rfl,hq',rl',e4,aR (v:=.int _) hM2 (aX.ext (aX.ext h2 x1) x2) rfl}
   |_=>exact h2.elim
  ·exact h1.elim
def pX (a:GE):GE:=λZ M=>(a Z M).bind λx M=>match x with
 | .cell k => match M[k]? with
   |some _=>.ok .non (M.set k [])
   |none=>.bad
 |_=>.bad
def L3 {apos cpos:Pos}(ha:DE fa X a ga)(hbase:attributeBase a "clear" X.env (eval a X.env)=eval a X.env)(hline:(apos.endLine==cpos.line)=true) :
 DE fa X (.Call (.Attribute a "clear" apos) [] [] cpos) (pX ga):=
 bB (Il QY PySem.F.slot_list_clear PySem.F.type_list_clear BA ha hbase hline) λσ H Q ⟨μ,Z,M,hE,hM,h⟩=>
  t1 hE hM h λx M1 v H1 μ1 x1 hE1 hM1 r1 h1=>by
   cases x with
   | cell k =>
     dsimp only at h1;cases e:M1[k]? with
     |none=>rw[e] at h1;exact h1.elim
     | some ds =>
       rw[e] at h1;obtain⟨ad,rfl,hk⟩:=r1;obtain⟨ws,h4,h5⟩:=hM1.at_ e hk;refine{.inl {rfl,ws,cX.of h4},ad,ws,rfl,rfl,h4,?_};have h1:aX fa X.K μ H Q .non (M1.set k []):=h1;have x2:=Ext.write (vs:=ws) (ws:=[]) hM1 hk;exact h1 .non _ μ1 (x1.trans x2) (hM1.write hk rfl) rfl
   |_=>exact h1.elim
end
def zA (c:Int)(gk gv:GE):GE:=λZ M=>(gk Z (M++[[.int c]])).bind λk M1=>(gv Z M1).bind λv M2=>match bK M2 (aE M.length) with
 |some q=>if isKey q.1 k=true/\q.2.length<1000000 then .ok (.fn (aE M.length)) (M2.set (aE M.length-5000) (.int q.1::putD q.2 k v)) else .bad
 |none=>.bad
section
variable{fa:Fa}{X:Cx}{kx vx:Expr}{gk gv:GE}{pos:Pos}
def Gn (c:Int)(hc:c=77\/c=78)(hu:Rm X)(hd:fJ fa)(hk:DE fa X kx gk)(hv:DE fa X vx gv):DE fa X (.Dict [some kx] [vx] pos) (zA c gk gv):=by
 intro pins s σ H Q I ⟨μ,Z,M,hE,hM,h⟩;obtain⟨k,M1,e1,h⟩:=aG h;obtain⟨v,M2,e2,h⟩:=aG h;cases e3:bK M2 (aE M.length) with
 |none=>rw[e3] at h;exact h.elim
 | some q =>
   rw[e3] at h;dsimp only at h;split at h
   ·next cc=>
    have h:aX fa X.K μ H Q (.fn (aE M.length)) (M2.set (aE M.length-5000) (.int q.1::putD q.2 k v)):=h;have hb:sysModules<s.heap.objs.size:=Nat.lt_trans `d (I.mod.glob.keeps I.bk).lt
    have ha:H s.heap.objs.size=none:=I.hok.fresh (OC _);have I0:Inv X pins σ (upd H s.heap.objs.size (.dn [])) {s with heap:=s.heap.push {cls:=.type "dict",data:=.dict #[]}}:=
     I.laid (t':=s.toks) (λb o e=>OA _ e) (OC _) {Qc _,PB.mpr (PN (Pm hb)),_,OJ _ rfl,⟨rfl,rfl,rfl⟩,rfl}
    have x0:=Ext.dicNew hM ha;have m0:=hM.dicNew ha hc;have hob:(lg μ M.length s.heap.objs.size).ob (aE M.length)=some s.heap.objs.size:=if_pos rfl;refine wpAny_Dict_any rfl rfl `s (OI rfl) ?_
    show wpAny _ _ (evalPairs [(eval kx X.env,eval vx X.env >>= λx=>standAt pos >>= λ_=>pure x)]) _ _ _;unfold evalPairs;refine tqa (aQ (hk pins _ σ _ (λv H1=>∃μ1,Ext (lg μ M.length s.heap.objs.size) (upd H s.heap.objs.size (.dn [])) μ1 H1/\RelM fa X.K μ1 H1 M1/\Rep fa X.K μ1 H1 k v) I0 {_,Z,_,hE.ext x0,m0,?_}) λuk s1 ⟨wk,H1,I1,rk,μ1,x1,n1,r1⟩=>?_)
    ·rw[e1];exact λv H1 μ1 x1 m1 r1=>⟨μ1,x1,m1,r1⟩
    refine tqa (tqo (tqa (aQ (hv pins s1 σ H1 (λw H2=>∃μ2,Ext μ1 H1 μ2 H2/\RelM fa X.K μ2 H2 M2/\Rep fa X.K μ2 H2 v w) I1 {μ1,Z,M1,(hE.ext x0).ext x1,n1,?_}) λuv s2 ⟨wv,H2,I2,rv,μ2,x2,m2,r2⟩=>?_)))
    ·rw[e2];exact λv H1 μ1 x1 m1 r1=>⟨μ1,x1,m1,r1⟩
    refine tqa (wpAny_standAt (tqb ?_));unfold evalPairs;refine tqa (tqo (tqb (tqb ?_)));have ob2:=x2.obs _ _ (x1.obs _ _ hob);obtain⟨a',b,kd,kk,xs,ea,rfl,hi,hz,dd,fin⟩:=p6 hd I2 m2 (x:=.ref s.heap.objs.size) {_,rfl,.inr {hd.of _ (QD _ _),ob2}} (r1.ext x2) rk rv r2 e3 cc.1 cc.2;cases ea;show wpAny _ _ (storeAll s.heap.objs.size [(Value.ref b,uv)]) _ _ s2;unfold storeAll;rw[List.forIn_cons];refine tqa (tqa (lG (hsz:=hz) (kd.room0 hu) hi dd λh' dd' hs=>tqb ?_));simp only[List.forIn_nil];obtain⟨H',I',x',m'⟩:=fin h' _ dd' hs;refine tqb {.ref s.heap.objs.size,H',I',rfl,h _ H' μ2 (((x0.trans x1).trans x2).trans x') m' {_,rfl,.inr {hd.of _ (QD _ _),x'.obs _ _ ob2}}}
   ·exact h.elim
end
section
variable{prog:O2}{w:O9}{A:PR}{E:Ox->Oy->Prop}{s:Oy}{it d:Addr}{i ep:Nat}{od:Obj}{es:Array Pu}{e:Pu}{Q:Option Ox->Oy->Prop}{QV:Ox->Oy->Prop}
def Jk (hd:(d==sysModules)=false)(ho:s.heap.get? d=some od)(hc:od.ExactDict)(hdat:od.data=.dict es ep)
 (hQ:QV (.ref s.heap.objs.size) {s with heap:=s.heap.push {cls:=.type "dict_keyiterator",data:=.fields #[.ref d,.int 0 0,.int es.size 0,.int ep 0]}}) :
 wpAny (model prog w) A (pyIter (.ref d)) QV E s:=by
 have hT:s.TypeIs (.ref d) "dict":=⟨od,ho,hc.1⟩;refine wpAny_pyIter_slot hT F.slot_dict_iter (wpAny_call_entry F.slot_dict_iter hT F.entry_dict_iter ?_ (F.args_dict_iter_1 _));unfold Builtin.«dict.__iter__»;refine tqa ?_;unfold Builtin.Dict.dictSlotNone;refine tqa (wpAny_notOrdered_dict hT ?_);show wpAny _ _ (pure (Value.ref d)) _ _ s;refine tqb ?_;show wpAny _ _ (Builtin.Dict.showsAll d >>= _) _ _ s;unfold Builtin.Dict.showsAll;rw[if_neg (by rw[hd];exact OR)]
 refine tqa (tqb ?_);refine tqa (wpAny_dictEntries ho hdat ?_);refine tqa (wpAny_dictEpoch ho hdat ?_);refine tqa (wpAny_newObj_type (tqb {_,rfl,"dict_keyiterator",_,{_,OJ _ rfl,rfl},F.slot_dict_keyiterator_next.lookup,?_}));simpa[rawInt] using hQ
def BP (hit:s.heap.IsKeyIter it d i es.size ep)(hod:s.heap.get? d=some od)(hdd:od.data=.dict es ep)(hx:es[i]?=some e)
 (hQ:∀h',h'.IsKeyIter it d (i+1) es.size ep->Qd it s.heap h'->Q (some e.key) {s with heap:=h'}):wpAny (model prog w) A (pyNext (.ref it)) Q E s:=by
 obtain⟨o,ho,hc,hd⟩:=id hit;unfold pyNext;refine tqa (wpAny_attempt (wpAny_callSpecial?_slot (name:=Str.ofString "__next__") hit.typeIs QO
  (wpAny_call_entry QO hit.typeIs F.entry_dict_keyiterator_next ?_ (F.args_dict_keyiterator_next_1 _))))
 refine tqa (tqb ?_);refine tqa ?_;refine tqa ?_;first|refine tqa (wpAny_typeNameOfWhole_keyiter hit.typeIs (tqb ?_))|refine tqa (wpAny_typeNameOf_keyiter hit.typeIs (tqb ?_))
 refine tqa (wpAny_fieldsOf ho hd ?_);have hown:Builtin.Dict_items.ownsTuple "dict_keyiterator"=false:=`d
 simp only[hown,Px,if_false];show wpAny _ _ (if (Value.ref d==Value.none)=true then _ else _) _ _ s;rw[if_neg (show ¬ ((Value.ref d==Value.none)=true) from OR)];refine tqa (tqb ?_);refine tqa (wpAny_dictEntries hod hdd ?_);rw[if_neg `s]
 refine tqa (tqb ?_);refine tqa (wpAny_dictEpoch hod hdd ?_);rw[if_neg `s]
 refine tqb ?_;simp only[show ¬ ((i:Int)<0) from by omega,if_false,Qp,hx]
 refine tqa ?_;first|refine tqa (wpAny_typeNameOfWhole_keyiter hit.typeIs (tqb ?_))|refine tqa (wpAny_typeNameOf_keyiter hit.typeIs (tqb ?_))
 refine tqa (wpAny_isOneOf_keyiter hit.typeIs ?_);show wpAny _ _ (setField (.ref it) 1 (rawInt ((i:Int)+1)) >>= _) _ _ s;refine tqa (wpAny_setField ho hd `s ?_)
 have hit':(s.heap.update it (Obj.mapFields (·.setIfInBounds 1 (rawInt ((i:Int)+1))))).IsKeyIter it d (i+1) es.size ep:=
  {_,PX _ ho (QB (PQ hd _)),(Obj.cls_mapFields ..).trans hc,by rw[PQ hd];simp[rawInt]}
 refine tqa (tqo ?_);refine tqa (wpAny_isOneOf_keyiter (s:={s with heap:=s.heap.update it (Obj.mapFields (·.setIfInBounds 1 (rawInt ((i:Int)+1))))}) hit'.typeIs ?_)
 show wpAny _ _ (pure e.key) _ _ _;exact tqb (tqb {_,rfl,tqb (hQ _ hit' (PH ..))})
def FO (hh:A.handled=none)(hit:s.heap.IsKeyIter it d i es.size ep)(hod:s.heap.get? d=some od)(hdd:od.data=.dict es ep)(hge:es.size<=i)
 (hQ:∀h',Heap.ExtBut it s.heap h'->Q none {s with heap:=h'}):wpAny (model prog w) A (pyNext (.ref it)) Q E s:=by
 obtain⟨o,ho,hc,hd⟩:=id hit;unfold pyNext;refine tqa (wpAny_attempt (wpAny_callSpecial?_slot (name:=Str.ofString "__next__") hit.typeIs QO
  (wpAny_call_entry QO hit.typeIs F.entry_dict_keyiterator_next ?_ (F.args_dict_keyiterator_next_1 _))))
 refine tqa (tqb ?_);refine tqa ?_;refine tqa ?_;first|refine tqa (wpAny_typeNameOfWhole_keyiter hit.typeIs (tqb ?_))|refine tqa (wpAny_typeNameOf_keyiter hit.typeIs (tqb ?_))
 refine tqa (wpAny_fieldsOf ho hd ?_);have hown:Builtin.Dict_items.ownsTuple "dict_keyiterator"=false:=`d
 simp only[hown,Px,if_false];show wpAny _ _ (if (Value.ref d==Value.none)=true then _ else _) _ _ s;rw[if_neg (show ¬ ((Value.ref d==Value.none)=true) from OR)];refine tqa (tqb ?_);refine tqa (wpAny_dictEntries hod hdd ?_);rw[if_neg `s]
 refine tqa (tqb ?_);refine tqa (wpAny_dictEpoch hod hdd ?_);rw[if_neg `s]
 refine tqb ?_;simp only[show ¬ ((i:Int)<0) from by omega,if_false,Qp,Array.getElem?_eq_none hge]
 refine tqa ?_;first|refine tqa (wpAny_typeNameOfWhole_keyiter hit.typeIs (tqb ?_))|refine tqa (wpAny_typeNameOf_keyiter hit.typeIs (tqb ?_))
 show wpAny _ _ (setField (.ref it) 0 .none >>= _) _ _ s;refine tqa (wpAny_setField ho hd `s ?_)
 show wpAny _ _ (newExc (.type "StopIteration") [] >>= _) _ _ _;refine tqa ?_;simp only[newExc,newTuple];refine tqa (wpAny_newObj_type ?_ (by size_fits))
 refine tqa (m:=firstArgMember _ _) (wpAny_of_eq (a:=Value.none) (by first|rfl|(simp only[firstArgMember];rfl)) ?_)
 refine wpAny_newObj_type ?_ (by size_fits)
 simp only[raiseNew];refine tqa (wpAny_handled ?_);rw[show A.in1.handled=none from hh];refine tqa (tqb (wpAny_throw ?_));refine tqa (wpAny_isInstance (T:="StopIteration") (b:=true) {_,OJ _ rfl,rfl} isSubtype_stop ?_);exact tqb (hQ _ (((PH ..).extBut.push _).push _))
def As (hit:s.heap.IsValIter it d i es.size ep)(hod:s.heap.get? d=some od)(hdd:od.data=.dict es ep)(hx:es[i]?=some e)
 (hQ:∀h',h'.IsValIter it d (i+1) es.size ep->Qd it s.heap h'->Q (some e.val) {s with heap:=h'}):wpAny (model prog w) A (pyNext (.ref it)) Q E s:=by
 obtain⟨o,ho,hc,hd⟩:=id hit;unfold pyNext;refine tqa (wpAny_attempt (wpAny_callSpecial?_slot (name:=Str.ofString "__next__") hit.typeIs QL
  (wpAny_call_entry QL hit.typeIs F.entry_dict_valueiterator_next ?_ (F.args_dict_valueiterator_next_1 _))))
 refine tqa (tqb ?_);refine tqa ?_;refine tqa ?_;first|refine tqa (wpAny_typeNameOfWhole_valiter hit.typeIs (tqb ?_))|refine tqa (wpAny_typeNameOf_valiter hit.typeIs (tqb ?_))
 refine tqa (wpAny_fieldsOf ho hd ?_);have hown:Builtin.Dict_items.ownsTuple "dict_valueiterator"=false:=`d
 simp only[hown,Px,if_false];show wpAny _ _ (if (Value.ref d==Value.none)=true then _ else _) _ _ s;rw[if_neg (show ¬ ((Value.ref d==Value.none)=true) from OR)];refine tqa (tqb ?_);refine tqa (wpAny_dictEntries hod hdd ?_);rw[if_neg `s]
 refine tqa (tqb ?_);refine tqa (wpAny_dictEpoch hod hdd ?_);rw[if_neg `s]
 refine tqb ?_;simp only[show ¬ ((i:Int)<0) from by omega,if_false,Qp,hx]
 refine tqa ?_;first|refine tqa (wpAny_typeNameOfWhole_valiter hit.typeIs (tqb ?_))|refine tqa (wpAny_typeNameOf_valiter hit.typeIs (tqb ?_))
 refine tqa (wpAny_isOneOf_valiter hit.typeIs ?_);show wpAny _ _ (setField (.ref it) 1 (rawInt ((i:Int)+1)) >>= _) _ _ s;refine tqa (wpAny_setField ho hd `s ?_)
 have hit':(s.heap.update it (Obj.mapFields (·.setIfInBounds 1 (rawInt ((i:Int)+1))))).IsValIter it d (i+1) es.size ep:=
  {_,PX _ ho (QB (PQ hd _)),(Obj.cls_mapFields ..).trans hc,by rw[PQ hd];simp[rawInt]}
 refine tqa (tqo ?_);refine tqa (wpAny_isOneOf_valiter (s:={s with heap:=s.heap.update it (Obj.mapFields (·.setIfInBounds 1 (rawInt ((i:Int)+1))))}) hit'.typeIs ?_)
 refine tqa (wpAny_isOneOf_valiter (s:={s with heap:=s.heap.update it (Obj.mapFields (·.setIfInBounds 1 (rawInt ((i:Int)+1))))}) hit'.typeIs ?_)
 show wpAny _ _ (pure e.val) _ _ _;exact tqb (tqb {_,rfl,tqb (hQ _ hit' (PH ..))})
def Eu (hh:A.handled=none)(hit:s.heap.IsValIter it d i es.size ep)(hod:s.heap.get? d=some od)(hdd:od.data=.dict es ep)(hge:es.size<=i)
 (hQ:∀h',Heap.ExtBut it s.heap h'->Q none {s with heap:=h'}):wpAny (model prog w) A (pyNext (.ref it)) Q E s:=by
 obtain⟨o,ho,hc,hd⟩:=id hit;unfold pyNext;refine tqa (wpAny_attempt (wpAny_callSpecial?_slot (name:=Str.ofString "__next__") hit.typeIs QL
  (wpAny_call_entry QL hit.typeIs F.entry_dict_valueiterator_next ?_ (F.args_dict_valueiterator_next_1 _))))
 refine tqa (tqb ?_);refine tqa ?_;refine tqa ?_;first|refine tqa (wpAny_typeNameOfWhole_valiter hit.typeIs (tqb ?_))|refine tqa (wpAny_typeNameOf_valiter hit.typeIs (tqb ?_))
 refine tqa (wpAny_fieldsOf ho hd ?_);have hown:Builtin.Dict_items.ownsTuple "dict_valueiterator"=false:=`d
 simp only[hown,Px,if_false];show wpAny _ _ (if (Value.ref d==Value.none)=true then _ else _) _ _ s;rw[if_neg (show ¬ ((Value.ref d==Value.none)=true) from OR)];refine tqa (tqb ?_);refine tqa (wpAny_dictEntries hod hdd ?_);rw[if_neg `s]
 refine tqa (tqb ?_);refine tqa (wpAny_dictEpoch hod hdd ?_);rw[if_neg `s]
 refine tqb ?_;simp only[show ¬ ((i:Int)<0) from by omega,if_false,Qp,Array.getElem?_eq_none hge]
 refine tqa ?_;first|refine tqa (wpAny_typeNameOfWhole_valiter hit.typeIs (tqb ?_))|refine tqa (wpAny_typeNameOf_valiter hit.typeIs (tqb ?_))
 show wpAny _ _ (setField (.ref it) 0 .none >>= _) _ _ s;refine tqa (wpAny_setField ho hd `s ?_)
 show wpAny _ _ (newExc (.type "StopIteration") [] >>= _) _ _ _;refine tqa ?_;simp only[newExc,newTuple];refine tqa (wpAny_newObj_type ?_ (by size_fits))
 refine tqa (m:=firstArgMember _ _) (wpAny_of_eq (a:=Value.none) (by first|rfl|(simp only[firstArgMember];rfl)) ?_)
 refine wpAny_newObj_type ?_ (by size_fits)
 simp only[raiseNew];refine tqa (wpAny_handled ?_);rw[show A.in1.handled=none from hh];refine tqa (tqb (wpAny_throw ?_));refine tqa (wpAny_isInstance (T:="StopIteration") (b:=true) {_,OJ _ rfl,rfl} isSubtype_stop ?_);exact tqb (hQ _ (((PH ..).extBut.push _).push _))
end
def Ed (a:Addr)(n:Nat)(f:Pu->Ox):It:=
 {λi H=>∃es e x,H a=some (.dn es)/\es.length=n/\es[i]?=some e/\RelV x (f e),λi H x H'=>H'=H/\∀es e,H a=some (.dn es)->es[i]?=some e->RelV x (f e),λi H=>∃es,H a=some (.dn es)/\es.length=n/\n<=i}
def xO {P:O2}{w:O9}{K:Ow}{tg:Expr}(a it:Addr)(n:Nat):Turn P w K tg (Ed a n (·.key)) [it] it (λi h=>h.IsKeyIter it a i n n) where
 mem:=`s
 obj:=λi h st b hb=>by
  have e:b=it:=by simpa using hb
  subst e;obtain⟨o,e,c,d⟩:=st;exact{o,e,λv z=>by rw[d] at z;cases z}
 keep:=λi h h' st k=>st.at λo e=>k it `s o e
 item:=by
  intro X hP hw hK hc i pins s σ H E I hf st hg;subst hP hw hK;obtain⟨es,e,x,hH,rfl,he,rx⟩:=hg;obtain⟨z,y,o,h1,h2,h3⟩:=(show bI X.prog X.w H s.heap a (.dn es) from I.hok a _ hH);obtain⟨f0,f1,f2,f3,f4,f5⟩:=hf it `s
  refine BP (es:=es.toArray) (ep:=es.length) (by simpa using st) h1 h3 (e:=e) (by simpa using he) λh' st' sb=>?_
  have I1:Inv X pins σ H {s with heap:=h'}:=I.turned (t':=s.toks) (λb o hb e=>(sb.2 b hb).trans e) f0 f1 f3 f4 f5
  obtain⟨o',e',c',d'⟩:=id st';exact{e.key,rfl,oS (s:={s with heap:=h'}) e' c' d' `d {x,H,I1,rx,{rfl,λes' e2 q1 q2=>by rw[hH] at q1;cases q1;rw[he] at q2;cases q2;exact rx},by simpa using st',λb hb=>(hf b hb).1}}
 done:=by
  intro X hP hw hK hc i pins s σ H E I hf st hg;subst hP hw hK;obtain⟨es,hH,rfl,hl⟩:=hg;obtain⟨z,y,o,h1,h2,h3⟩:=(show bI X.prog X.w H s.heap a (.dn es) from I.hok a _ hH);obtain⟨f0,f1,f2,f3,f4,f5⟩:=hf it `s
  exact FO (es:=es.toArray) (ep:=es.length) (I.ok.hd hc) (by simpa using st) h1 h3 (by simpa using hl) λh' eb=>{rfl,I.turned (t':=s.toks) (λb o hb e=>eb b o hb e) f0 f1 f3 f4 f5}
 self:=λ_ _ _ _ _ st h=>wpAny_pyIter_keyiter st h
def xK {P:O2}{w:O9}{K:Ow}{tg:Expr}(a it:Addr)(n:Nat):Turn P w K tg (Ed a n (·.val)) [it] it (λi h=>h.IsValIter it a i n n) where
 mem:=`s
 obj:=λi h st b hb=>by
  have e:b=it:=by simpa using hb
  subst e;obtain⟨o,e,c,d⟩:=st;exact{o,e,λv z=>by rw[d] at z;cases z}
 keep:=λi h h' st k=>st.at λo e=>k it `s o e
 item:=by
  intro X hP hw hK hc i pins s σ H E I hf st hg;subst hP hw hK;obtain⟨es,e,x,hH,rfl,he,rx⟩:=hg;obtain⟨z,y,o,h1,h2,h3⟩:=(show bI X.prog X.w H s.heap a (.dn es) from I.hok a _ hH);obtain⟨f0,f1,f2,f3,f4,f5⟩:=hf it `s
  refine As (es:=es.toArray) (ep:=es.length) (by simpa using st) h1 h3 (e:=e) (by simpa using he) λh' st' sb=>?_
  have I1:Inv X pins σ H {s with heap:=h'}:=I.turned (t':=s.toks) (λb o hb e=>(sb.2 b hb).trans e) f0 f1 f3 f4 f5
  obtain⟨o',e',c',d'⟩:=id st';exact{e.val,rfl,oS (s:={s with heap:=h'}) e' c' d' `d {x,H,I1,rx,{rfl,λes' e2 q1 q2=>by rw[hH] at q1;cases q1;rw[he] at q2;cases q2;exact rx},by simpa using st',λb hb=>(hf b hb).1}}
 done:=by
  intro X hP hw hK hc i pins s σ H E I hf st hg;subst hP hw hK;obtain⟨es,hH,rfl,hl⟩:=hg;obtain⟨z,y,o,h1,h2,h3⟩:=(show bI X.prog X.w H s.heap a (.dn es) from I.hok a _ hH);obtain⟨f0,f1,f2,f3,f4,f5⟩:=hf it `s
  exact Eu (es:=es.toArray) (ep:=es.length) (I.ok.hd hc) (by simpa using st) h1 h3 (by simpa using hl) λh' eb=>{rfl,I.turned (t':=s.toks) (λb o hb e=>eb b o hb e) f0 f1 f3 f4 f5}
 self:=λ_ _ _ _ _ st h=>wpAny_pyIter_valiter st h
def dW (o n:Nat)(f:D->D):Walk:=λM=>match bK M o with
 |some q=>if q.2.length=n then some (q.2.map f) else none
 |none=>none
def cu (f:D->D)(ga:GE):GW:=λZ M=>(ga Z M).bind λx M=>match x with
 | .fn o => (match bK M o with
   |some q=>.ok (dW o q.2.length f) M
   |none=>.bad)
 |_=>.bad
def Qn.get {α β:Type}{F:α->β->Prop}:∀{l:List α}{r:List β}{i:Nat}{a:α},Qn F l r->l[i]?=some a->∃b,r[i]?=some b/\F a b
 |_,_,0,_,.cons h t,e=>by cases e;exact{_,rfl,h}
 |_,_,i+1,_,.cons h t,e=>Qn.get t (i:=i) e
section
variable{fa:Fa}{X:Cx}{K:Ow}{μ:Mu}{H:Hp}{M:Mem}
def vp (hd:fJ fa)(hM:RelM fa K μ H M){o:Nat}{a:Addr}{q:Int×List D}(ha:μ.ob o=some a)(e:bK M o=some q):∃(es:List Pu) (kvs:List (D×D)),H a=some (.dn es)/\q.2=kvs.map iB/\Qn (mF fa K μ H q.1) kvs es:=by
 unfold bK at e;split at e
 ·next ho=>
  split at e
  ·next c es em=>
   split at e
   ·next hc=>
    cases e;have eo:aE (o-5000)=o:=Nat.add_sub_cancel' ho;rcases hM.at' _ _ em with⟨b,vs,h1,_⟩|⟨b,h1,h2,⟨n,C,dx,fs,es',h3,h4,h5,h6,h7⟩|⟨c',es',kvs,h3,h4,h5,h6,h7⟩⟩
    ·have:=hM.sep _ _ h1;rw[eo,ha] at this;cases this
    ·have h6:=(List.cons.inj h6).1;have h6:c=(n:Int):=D.int.inj h6;rcases hc with rfl|rfl
     ·have:n=77:=`a
      rw[this,hd.n77] at h3;cases h3
     ·have:n=78:=`a
      rw[this,hd.n78] at h3;cases h3
    ·rw[eo,ha] at h1;cases h1;obtain⟨e1,e2⟩:=List.cons.inj h5;cases D.int.inj e1;exact⟨es',kvs,h3,e2,h6⟩
   ·cases e
  ·cases e
 ·cases e
def An (hd:fJ fa){o n:Nat}{a:Addr}{f:D->D}{g:Pu->Ox}(hg:∀{μ:Mu}{H:Hp}{c:Int}{p:D×D}{e:Pu},mF fa K μ H c p e->∃v,RelV v (g e)/\Rep fa K μ H (f (iB p)) v)(ha:μ.ob o=some a):cW fa K μ H (dW o n f) (Ed a n g):=λμ' H' M' ds x hM' e=>by
 unfold dW at e;cases eq:bK M' o with
 |none=>rw[eq] at e;cases e
 | some q =>
   rw[eq] at e;dsimp only at e;split at e
   ·next hl=>
    cases e;obtain⟨es,kvs,hH,eqs,pr⟩:=vp hd hM' (x.obs _ _ ha) eq;have hlen:es.length=n:=by rw[<- hl,eqs,Oz];exact(Paired.length pr).symm
    refine{λi d hi=>?_,λi hi=>{es,hH,hlen,by rw[Oz,hl] at hi;exact hi}}
    rw[OL,eqs,OL] at hi;cases ep:kvs[i]? with
    |none=>rw[ep] at hi;cases hi
    | some p =>
      rw[ep] at hi;cases hi;obtain⟨en,hen,r⟩:=Qn.get pr ep;obtain⟨v,rv,rd⟩:=hg r;refine{⟨es,en,v,hH,hlen,hen,rv⟩,λy H2 ⟨e2,hy⟩=>?_};subst e2;rw[(hy es en hH hen).inj rv];exact{.refl,hM',rd}
   ·cases e
def F0 {c:Int}{p:D×D}{e:Pu}(h:mF fa K μ H c p e):∃v,RelV v e.key/\Rep fa K μ H (gu (iB p)) v:=let{b,_,h1,_,h2,_}:=h;{.ref b,h1,h2}
def FZ {c:Int}{p:D×D}{e:Pu}(h:mF fa K μ H c p e):∃v,RelV v e.val/\Rep fa K μ H (eV (iB p)) v:=let{_,v,_,_,_,h1,h2}:=h;⟨v,h1,h2⟩
variable{a tg:Expr}{ga:GE}{apos cpos:Pos}
abbrev CA (fa:Fa)(X:Cx)(f:D->D)(pins:List (Addr×Obj))(σ:L2.St)(R:It->Hp->Prop)(v:Ox)(s1:Oy):Prop:=∃(b:Addr) (es:List Pu) (H1:Hp),v=.ref b/\Inv X pins σ H1 s1/\H1 b=some (.dn es)/\∀g,(∀{μ:Mu}{H:Hp}{c:Int}{p:D×D}{e:Pu},mF fa X.K μ H c p e->∃v,RelV v (g e)/\Rep fa X.K μ H (f (iB p)) v)->R (Ed b es.length g) H1
def vq (hd:fJ fa){f:D->D}{pins:List (Addr×Obj)}{s1:Oy}{σ:L2.St}{R:It->Hp->Prop}{x:D}{M1:Mem}{v:V}{u:Ox}{H1:Hp}{μ1:Mu}(q:ag (match x with|.fn o=>(match bK M1 o with|some q=>Res.ok (dW o q.2.length f) M1|none=>.bad)|_=>.bad) λw M'=>∀J H' μ',Ext μ H μ' H'->RelM fa X.K μ' H' M'->cW fa X.K μ' H' w J->R J H')(I1:Inv X pins σ H1 s1)(rv:RelV v u)(x1:Ext μ H μ1 H1)(m1:RelM fa X.K μ1 H1 M1)(r1:Rep fa X.K μ1 H1 x v):CA fa X f pins σ R u s1:=by
 cases x with
 | fn o =>
   dsimp only at q;cases ed:bK M1 o with
   |none=>rw[ed] at q;exact q.elim
   | some qq =>
     rw[ed] at q;obtain⟨b,rfl,hb⟩:=r1;have ho:5000<=o:=by
      unfold bK at ed;split at ed
      ·assumption
      ·cases ed
     rcases hb with hb|⟨_,hb⟩
     ·rw[hd.of o ho] at hb;cases hb
     obtain⟨es,kvs,hH,e3,pr⟩:=vp hd m1 hb ed;have hl:es.length=qq.2.length:=by rw[e3,Oz];exact(Paired.length pr).symm
     exact{b,es,H1,rv,I1,hH,λg hg=>q _ H1 μ1 x1 m1 (hl ▸ An hd hg hb)}
 |_=>exact q.elim
def Cc (hd:fJ fa){f:D->D}{pins:List (Addr×Obj)}{s:Oy}{σ:L2.St}{R:It->Hp->Prop}(ha:DE fa X a ga)(I:Inv X pins σ H s)(h:tI fa X.K (cu f ga) σ H R):wpAny (model X.prog X.w) X.A (eval a X.env) (CA fa X f pins σ R) X.xe s:=by
 obtain⟨μ,Z,M,hE,hM,h⟩:=h;obtain⟨x,M1,e,q⟩:=aG h;refine aQ (ha pins s σ H (λv H1=>∃μ1,Ext μ H μ1 H1/\RelM fa X.K μ1 H1 M1/\Rep fa X.K μ1 H1 x v) I {μ,Z,M,hE,hM,?_}) λu s1 ⟨v,H1,I1,rv,μ1,x1,m1,r1⟩=>vq hd q I1 rv x1 m1 r1;rw[e];exact λv H1 μ1 x1 m1 r1=>⟨μ1,x1,m1,r1⟩
def Gg (hd:fJ fa)(ha:DE fa X a ga):DI fa X tg a (cu gu ga):=λpins s σ H R I h=>by
 refine aQ (Cc hd ha I h) λv s1 ⟨b,es,H1,ev,I1,hH,q⟩=>?_;subst ev;obtain⟨z,y,o,h1,h2,h3⟩:=(show bI X.prog X.w H1 s1.heap b (.dn es) from I1.hok b _ hH);refine Jk y h1 h2 h3 ?_;refine{s1.heap.objs.size,[s1.heap.objs.size],_,_,H1,rfl,I1.kept (t':=s1.toks) λb o e=>OA _ e,xO b _ es.length,{_,OJ _ rfl,rfl,rfl},λb hb=>?_,q _ F0};have e:b=s1.heap.objs.size:=by simpa using hb
 subst e;exact I1.fpOk (OC _) (I1.hok.fresh (OC _))
def Et (hbase:attributeBase a "values" X.env (eval a X.env)=eval a X.env)(hline:(apos.endLine==cpos.line)=true){pins:List (Addr×Obj)}{s:Oy}{σ:L2.St}{R:It->Hp->Prop}(h:wpAny (model X.prog X.w) X.A (eval a X.env) (CA fa X eV pins σ R) X.xe s) :
 wpAny (model X.prog X.w) X.A (eval (.Call (.Attribute a "values" apos) [] [] cpos) X.env) (λv s1=>wpAny (model X.prog X.w) X.A (pyIter v) (Eb X pins σ tg R) X.xe s1) X.xe s:=by
 refine wpAny_Call_method0_late hbase hline (aQ h λv s1 ⟨b,es,H1,ev,I1,hH,q⟩=>?_);subst ev;obtain⟨z,y,o,h1,h2,h3⟩:=(show bI X.prog X.w H1 s1.heap b (.dn es) from I1.hok b _ hH);have hT:s1.TypeIs (.ref b) "dict":=⟨o,h1,h2.1⟩;refine{"dict","dict.values",PySem.F.plainAttrs_dict,PySem.F.slot_dict_values,PySem.F.type_dict_values,hT,(λa e=>by cases e;exact⟨o,h1,h2.2.1⟩),Calls.callWith_builtin rfl (PySem.evalArgs_none ?_)}
 refine wpAny_call_entry PySem.F.slot_dict_values hT PySem.F.entry_dict_values ?_ (PySem.F.args_dict_values_1 _);refine tqa ?_;unfold Builtin.Dict.noArgs;refine tqa (wpAny_notOrdered_dict hT ?_);show wpAny _ _ (pure b) _ _ s1;refine tqb ?_;show wpAny _ _ (Builtin.Dict.showsAll b >>= _) _ _ s1;unfold Builtin.Dict.showsAll;rw[if_neg (by rw[y];exact OR)]
 refine tqa (tqb ?_);refine tqa (wpAny_newObj_type (tqb {_,rfl,?_}));have hv:(s1.heap.push {cls:=.type "dict_values",data:=.fields #[.ref b]}).IsValuesView s1.heap.objs.size b:={_,OJ _ rfl,rfl,rfl};have I2:Inv X pins σ H1 {s1 with heap:=s1.heap.push {cls:=.type "dict_values",data:=.fields #[.ref b]}}:=I1.kept (t':=s1.toks) λb o e=>OA _ e
 have h1':(s1.heap.push {cls:=.type "dict_values",data:=.fields #[.ref b]}).get? b=some o:=OA _ h1;generalize hs2:({s1 with heap:=s1.heap.push {cls:=.type "dict_values",data:=.fields #[.ref b]}}:Oy)=s2 at I2 ⊢
 have hv:s2.heap.IsValuesView s1.heap.objs.size b:=hs2 ▸ hv;have h1':s2.heap.get? b=some o:=hs2 ▸ h1';obtain⟨ov,hov,hcv,hdv⟩:=id hv;refine wpAny_pyIter_slot hv.typeIs F.slot_dict_values_iter (wpAny_call_entry F.slot_dict_values_iter hv.typeIs F.entry_dict_values_iter ?_ (F.args_dict_values_iter_1 _));unfold Builtin.«dict_values.__iter__»;refine tqa (tqb ?_);refine tqa ?_;unfold Builtin.Dict_items.dictOf;refine tqa (tqf hov hdv (x:=.ref b) rfl (tqb ?_));refine tqa ?_;unfold Builtin.Dict_items.newIterator;refine tqa (wpAny_dictEntries h1' h3 ?_);refine tqa (wpAny_dictEpoch h1' h3 ?_);have hown:Builtin.Dict_items.ownsTuple "dict_valueiterator"=false:=`d
 simp only[hown,Px,if_false];refine wpAny_newObj_type (tqb {_,rfl,"dict_valueiterator",_,{_,OJ _ rfl,rfl},F.slot_dict_valueiterator_next.lookup,?_});refine{s2.heap.objs.size,[s2.heap.objs.size],_,_,H1,rfl,I2.kept (t':=s2.toks) λb o e=>OA _ e,xK b _ es.length,{_,OJ _ rfl,rfl,by simp[rawInt]},λb hb=>?_,q _ FZ}
 have e:b=s2.heap.objs.size:=by simpa using hb
 subst e;exact I2.fpOk (OC _) (I2.hok.fresh (OC _))
end
def tIx (fa:Fa)(X:Cx)(g:GW):TI:=λσ H R=>∃μ Z M,bb fa X.K μ H σ Z/\RelM fa X.K μ H M/\fA (g Z M) (λw M'=>∀J H' μ',Ext μ H μ' H'->RelM fa X.K μ' H' M'->cW fa X.K μ' H' w J->R J H') (λx M'=>XW fa X μ H x Z M')
abbrev Eg (fa:Fa)(X:Cx)(tg iter:Expr)(g:GW):Prop:=PI X tg iter (tIx fa X g)
section
variable{fa:Fa}{X:Cx}{a tg iter:Expr}{ga:GE}{gw:GW}{apos cpos:Pos}
def LK (h:Eg fa X tg iter gw):DI fa X tg iter gw:=λpins s σ H R I ⟨μ,Z,M,hE,hM,q⟩=>h pins s σ H R I {μ,Z,M,hE,hM,by
 cases e:gw Z M with
 |ok w M1=>rw[e] at q;exact q
 |err x M1=>rw[e] at q;exact q.elim
 |bad=>rw[e] at q;exact q.elim}
def Ca (hd:fJ fa)(ha:DX fa X a ga)(hbase:attributeBase a "values" X.env (eval a X.env)=eval a X.env)(hline:(apos.endLine==cpos.line)=true):Eg fa X tg (.Call (.Attribute a "values" apos) [] [] cpos) (cu eV ga):=λpins s σ H R I ⟨μ,Z,M,hE,hM,h⟩=>Et hbase hline (by
 unfold cu at h;cases e:ga Z M with
 |bad=>rw[e] at h;exact h.elim
 | err x M1 =>
   rw[e] at h;exact aQ (ha pins s σ H (λ_ _=>False) I {μ,Z,M,hE,hM,by rw[e];exact h}) λu s1 ⟨v,H1,I1,rv,f⟩=>f.elim
 | ok x M1 =>
   rw[e] at h;refine aQ (ha pins s σ H (λv H1=>∃μ1,Ext μ H μ1 H1/\RelM fa X.K μ1 H1 M1/\Rep fa X.K μ1 H1 x v) I {μ,Z,M,hE,hM,?_}) λu s1 ⟨v,H1,I1,rv,μ1,x1,m1,r1⟩=>vq hd ?_ I1 rv x1 m1 r1
   ·rw[e];exact λv H1 μ1 x1 m1 r1=>⟨μ1,x1,m1,r1⟩
   ·have h:fA (match x with|.fn o=>(match bK M1 o with|some q=>Res.ok (dW o q.2.length eV) M1|none=>.bad)|_=>.bad) (λw M'=>∀J H' μ',Ext μ H μ' H'->RelM fa X.K μ' H' M'->cW fa X.K μ' H' w J->R J H') (λx M'=>XW fa X μ H x Z M'):=h
    cases x with
    | fn o =>
      dsimp only at h ⊢;cases ed:bK M1 o with
      |none=>rw[ed] at h;exact h.elim
      |some q=>rw[ed] at h;exact h
    |_=>exact h.elim)
def iH (gw:GW)(k:GE):GE:=λZ M=>match gw Z M with
 |.err x M1=>.err x M1
 | _ => (match k Z M with
   |.ok d M=>.ok d M
   |_=>.bad)
def F4 (m:Bool){elt:Expr}{ifs:List Expr}{rest:List Qb}{scope:Scope}{pos:Pos}{own bn:List Str}{t:cf}{W:List Nat}{body:Addr->Pp->Sem Unit}{g:GB}
 (S:fv X own bn scope) (hcalm:X.calm=true) (hi:Eg fa X tg iter gw) (B:Block fa X (LA fa X.K) own bn scope tg t W body g) (hT:mB X elt tg iter ifs rest scope pos body) (hW:∀i∈W,i∉slots t) (hn:∀i∈slots t++W,i<own.length)
 (hs:∀x,foldedSetIterable iter X.env x=pure x):DX fa X (.ListComp elt ({tg,iter,ifs,0}::rest) scope pos) (iH gw (bo m own.length t gw g)):=by
 intro pins s σ H Q I ⟨μ,Z,M,hE,hM,h⟩;unfold iH at h;have oth:fA (match bo m own.length t gw g Z M with|.ok d M=>Res.ok d M|_=>.bad) (aX fa X.K μ H Q) (λx M'=>XW fa X μ H x Z M')->wpAny (model X.prog X.w) X.A (eval (.ListComp elt ({tg,iter,ifs,0}::rest) scope pos) X.env) (EP X pins σ Q) X.xe s:=λq=>by
  refine zH m S hcalm (LK hi) B hT hW hn hs pins s σ H Q I {μ,Z,M,hE,hM,?_};cases e:bo m own.length t gw g Z M with
  |ok d M1=>rw[e] at q;exact q
  |err x M1=>rw[e] at q;exact q.elim
  |bad=>rw[e] at q;exact q.elim
 cases e:gw Z M with
 | err x M1 =>
   rw[e] at h;have h:XW fa X μ H x Z M1:=h;obtain⟨cl,hcl,hsub,hhas⟩:=lI (scope:=scope) (env:=X.env) λy hy hf=>I.ok.has y.1 (S.free y hy hf);rw[eval_ListComp];refine wpAny_comprehension_free (use:=none) rfl hs hcl S.kind S.loc ?_;refine aQ (hi pins s σ H (λ_ _=>False) I {μ,Z,M,hE,hM,by rw[e];exact h}) λv s1 h1=>aQ h1 λitv s2 h2=>?_
   obtain⟨_,_,_,_,_,_,_,_,_,_,f⟩:=h2;exact f.elim
 |ok w M1=>rw[e] at h;exact oth h
 |bad=>rw[e] at h;exact oth h
def oo (a d:GE):GS:=λZ M=>(a Z M).bind λx M=>match x with
 | .cell k => rL (λz M => match M[k]? with
   |some ds=>if ds.length<sz then .ok (.next Z) (M.set k (ds++[z])) else .bad
   |none=>.bad) Z (d Z M)
 |_=>.bad
def F9 {d:Expr}{gd:GE}{pos:Pos}(ha:DE fa X a ga)(hd:DX fa X d gd)(hbase:attributeBase a "append" X.env (eval a X.env)=eval a X.env)(hline:(apos.endLine==cpos.line)=true)(hs:starEach [d] X.env=[(false,eval d X.env)])
 (hsw:swapsWith (.Call (.Attribute a "append" apos) [d] [] cpos) none pos.line X.env=pure false) :
 DS fa X (.Expr (.Call (.Attribute a "append" apos) [d] [] cpos) pos) (oo ga gd):=
 dJ (mK (v7 QY PySem.F.slot_list_append PySem.F.type_list_append l5 ha (c7 hd ft hs) hbase (by rw[hs];rfl) hline hs `r) hsw) λD' σ H ⟨μ,Z,M,hE,hM,h⟩=>by
  obtain⟨x,M1,e1,h1⟩:=aG h;cases x with
  | cell k =>
    dsimp only at h1;refine{μ,Z,M,hE,hM,?_};rw[e1];intro vx H1 μ1 x1 hM1 rx;obtain⟨ad,rfl,hk⟩:=rx;obtain⟨ds1,ws1,_,hH1,_⟩:=hM1.mu_lt hk;refine{.inl {rfl,ws1,cX.of hH1},μ1,Z,M1,hE.ext x1,hM1,?_};cases e2:gd Z M1 with
    |bad=>rw[e2] at h1;exact h1.elim
    | err y M2 =>
      rw[e2] at h1;exact XW.ext h1 x1
    | ok z M2 =>
      rw[e2] at h1;have h2:ag (match M2[k]? with|some ds=>if ds.length<sz then Res.ok (Fl.next Z) (M2.set k (ds++[z])) else .bad|none=>.bad) (j5 fa X μ H D'):=h1
      cases e:M2[k]? with
      |none=>rw[e] at h2;exact h2.elim
      | some ds =>
        rw[e] at h2;dsimp only at h2;split at h2
        ·next hz=>
         have q:∀σ' H' μ',Ext μ H μ' H'->bb fa X.K μ' H' σ' Z->RelM fa X.K μ' H' (M2.set k (ds++[z]))->D'.nx σ' H':=h2;intro vz H2 μ2 x2 hM2 rz;obtain⟨ws,h4,h5⟩:=hM2.at_ e (x2.mu k ad hk);refine{ad,ws,vz,rfl,rfl,h4,by rw[h5.length,<- dS];exact hz,?_}
         exact lU ((hE.ext x1).ext x2) hM2 (x2.mu k ad hk) (h5.append (.one rz)) λσ' H' μ' x' e' m'=>q σ' H' μ' ((x1.trans x2).trans x') e' m'
        ·exact h2.elim
  |_=>exact h1.elim
end
end LD
namespace LD
open PySem
def ob {α β:Type}{a:Option α}{f:α->Option β}{r:β}(h:a.bind f=some r):∃x,a=some x/\f x=some r:=Pq.mp h
def oi {α:Type}{c:Prop}[Decidable c]{a:Option α}{r:α}(h:(if c then a else none)=some r):c/\a=some r:=by
 split at h
 ·exact{by assumption,h}
 ·cases h
section
variable{β:Type}{r:β}{e:Expr}{st:Stmt}
def od {c:Prop}[Decidable c]{f:c->Option β}(h:(if x:c then f x else none)=some r):∃x,f x=some r:=by
 by_cases z:c
 ·rw[dif_pos z] at h;exact⟨z,h⟩
 ·rw[dif_neg z] at h;cases h
def IP (e:Expr)(k:UnaryOp->Expr->Pos->Option β):Option β:=if h:e.ctorIdx=3 then @Expr.UnaryOp.elim (λ_=>Option β) e h k else none
def yP {k:UnaryOp->Expr->Pos->Option β}(h:IP e k=some r):∃a b c,e=.UnaryOp a b c/\k a b c=some r:=(od h).elim λz h=>@Expr.UnaryOp.elim (λe=>∀z,@Expr.UnaryOp.elim (λ_=>Option β) e z k=some r->∃a b c,e=.UnaryOp a b c/\k a b c=some r) e z (λa b c _ h=>⟨a,b,c,rfl,h⟩) z h
def wc (e:Expr)(k:BoolOp->List Expr->Pos->Option β):Option β:=if h:e.ctorIdx=0 then @Expr.BoolOp.elim (λ_=>Option β) e h k else none
def sU {k:BoolOp->List Expr->Pos->Option β}(h:wc e k=some r):∃a b c,e=.BoolOp a b c/\k a b c=some r:=(od h).elim λz h=>@Expr.BoolOp.elim (λe=>∀z,@Expr.BoolOp.elim (λ_=>Option β) e z k=some r->∃a b c,e=.BoolOp a b c/\k a b c=some r) e z (λa b c _ h=>⟨a,b,c,rfl,h⟩) z h
def Dl (e:Expr)(k:Expr->List Qb->Scope->Pos->Option β):Option β:=if h:e.ctorIdx=8 then @Expr.ListComp.elim (λ_=>Option β) e h k else none
def sS {k:Expr->List Qb->Scope->Pos->Option β}(h:Dl e k=some r):∃a b c d,e=.ListComp a b c d/\k a b c d=some r:=(od h).elim λz h=>@Expr.ListComp.elim (λe=>∀z,@Expr.ListComp.elim (λ_=>Option β) e z k=some r->∃a b c d,e=.ListComp a b c d/\k a b c d=some r) e z (λa b c d _ h=>⟨a,b,c,d,rfl,h⟩) z h
def Bw (e:Expr)(k:Expr->Expr->Expr->Pos->Option β):Option β:=if h:e.ctorIdx=5 then @Expr.IfExp.elim (λ_=>Option β) e h k else none
def u2 {k:Expr->Expr->Expr->Pos->Option β}(h:Bw e k=some r):∃a b c d,e=.IfExp a b c d/\k a b c d=some r:=(od h).elim λz h=>@Expr.IfExp.elim (λe=>∀z,@Expr.IfExp.elim (λ_=>Option β) e z k=some r->∃a b c d,e=.IfExp a b c d/\k a b c d=some r) e z (λa b c d _ h=>⟨a,b,c,d,rfl,h⟩) z h
def Bz (e:Expr)(k:Expr->List CmpOp->List Expr->Pos->Option β):Option β:=if h:e.ctorIdx=15 then @Expr.Compare.elim (λ_=>Option β) e h k else none
def pQ {k:Expr->List CmpOp->List Expr->Pos->Option β}(h:Bz e k=some r):∃a b c d,e=.Compare a b c d/\k a b c d=some r:=(od h).elim λz h=>@Expr.Compare.elim (λe=>∀z,@Expr.Compare.elim (λ_=>Option β) e z k=some r->∃a b c d,e=.Compare a b c d/\k a b c d=some r) e z (λa b c d _ h=>⟨a,b,c,d,rfl,h⟩) z h
def oM (e:Expr)(k:Expr->List Expr->List Keyword->Pos->Option β):Option β:=if h:e.ctorIdx=16 then @Expr.Call.elim (λ_=>Option β) e h k else none
def la {k:Expr->List Expr->List Keyword->Pos->Option β}(h:oM e k=some r):∃a b c d,e=.Call a b c d/\k a b c d=some r:=(od h).elim λz h=>@Expr.Call.elim (λe=>∀z,@Expr.Call.elim (λ_=>Option β) e z k=some r->∃a b c d,e=.Call a b c d/\k a b c d=some r) e z (λa b c d _ h=>⟨a,b,c,d,rfl,h⟩) z h
def IU (e:Expr)(k:Expr->Int->Option Expr->Pos->Option β):Option β:=if h:e.ctorIdx=17 then @Expr.FormattedValue.elim (λ_=>Option β) e h k else none
def FG {k:Expr->Int->Option Expr->Pos->Option β}(h:IU e k=some r):∃a b c d,e=.FormattedValue a b c d/\k a b c d=some r:=(od h).elim λz h=>@Expr.FormattedValue.elim (λe=>∀z,@Expr.FormattedValue.elim (λ_=>Option β) e z k=some r->∃a b c d,e=.FormattedValue a b c d/\k a b c d=some r) e z (λa b c d _ h=>⟨a,b,c,d,rfl,h⟩) z h
def IT (e:Expr)(k:List Expr->Pos->Option β):Option β:=if h:e.ctorIdx=18 then @Expr.JoinedStr.elim (λ_=>Option β) e h k else none
def FE {k:List Expr->Pos->Option β}(h:IT e k=some r):∃a b,e=.JoinedStr a b/\k a b=some r:=(od h).elim λz h=>@Expr.JoinedStr.elim (λe=>∀z,@Expr.JoinedStr.elim (λ_=>Option β) e z k=some r->∃a b,e=.JoinedStr a b/\k a b=some r) e z (λa b _ h=>⟨a,b,rfl,h⟩) z h
def By (e:Expr)(k:Const->Nat->Pos->Option β):Option β:=if h:e.ctorIdx=19 then @Expr.Constant.elim (λ_=>Option β) e h k else none
def u4 {k:Const->Nat->Pos->Option β}(h:By e k=some r):∃a b c,e=.Constant a b c/\k a b c=some r:=(od h).elim λz h=>@Expr.Constant.elim (λe=>∀z,@Expr.Constant.elim (λ_=>Option β) e z k=some r->∃a b c,e=.Constant a b c/\k a b c=some r) e z (λa b c _ h=>⟨a,b,c,rfl,h⟩) z h
def rf (e:Expr)(k:Expr->Str->Pos->Option β):Option β:=if h:e.ctorIdx=20 then @Expr.Attribute.elim (λ_=>Option β) e h k else none
def nM {k:Expr->Str->Pos->Option β}(h:rf e k=some r):∃a b c,e=.Attribute a b c/\k a b c=some r:=(od h).elim λz h=>@Expr.Attribute.elim (λe=>∀z,@Expr.Attribute.elim (λ_=>Option β) e z k=some r->∃a b c,e=.Attribute a b c/\k a b c=some r) e z (λa b c _ h=>⟨a,b,c,rfl,h⟩) z h
def pP (e:Expr)(k:Expr->Expr->Pos->Option β):Option β:=if h:e.ctorIdx=21 then @Expr.Subscript.elim (λ_=>Option β) e h k else none
def kB {k:Expr->Expr->Pos->Option β}(h:pP e k=some r):∃a b c,e=.Subscript a b c/\k a b c=some r:=(od h).elim λz h=>@Expr.Subscript.elim (λe=>∀z,@Expr.Subscript.elim (λ_=>Option β) e z k=some r->∃a b c,e=.Subscript a b c/\k a b c=some r) e z (λa b c _ h=>⟨a,b,c,rfl,h⟩) z h
def nName (e:Expr)(k:Str->Pos->Option β):Option β:=if h:e.ctorIdx=23 then @Expr.Name.elim (λ_=>Option β) e h k else none
def c8 {k:Str->Pos->Option β}(h:nName e k=some r):∃a b,e=.Name a b/\k a b=some r:=(od h).elim λz h=>@Expr.Name.elim (λe=>∀z,@Expr.Name.elim (λ_=>Option β) e z k=some r->∃a b,e=.Name a b/\k a b=some r) e z (λa b _ h=>⟨a,b,rfl,h⟩) z h
def pO (e:Expr)(k:List Expr->Nat->Pos->Option β):Option β:=if h:e.ctorIdx=25 then @Expr.Tuple.elim (λ_=>Option β) e h k else none
def hZ {k:List Expr->Nat->Pos->Option β}(h:pO e k=some r):∃a b c,e=.Tuple a b c/\k a b c=some r:=(od h).elim λz h=>@Expr.Tuple.elim (λe=>∀z,@Expr.Tuple.elim (λ_=>Option β) e z k=some r->∃a b c,e=.Tuple a b c/\k a b c=some r) e z (λa b c _ h=>⟨a,b,c,rfl,h⟩) z h
def IQ (e:Expr)(k:Option Expr->Option Expr->Option Expr->Pos->Option β):Option β:=if h:e.ctorIdx=26 then @Expr.Slice.elim (λ_=>Option β) e h k else none
def FC {k:Option Expr->Option Expr->Option Expr->Pos->Option β}(h:IQ e k=some r):∃a b c d,e=.Slice a b c d/\k a b c d=some r:=(od h).elim λz h=>@Expr.Slice.elim (λe=>∀z,@Expr.Slice.elim (λ_=>Option β) e z k=some r->∃a b c d,e=.Slice a b c d/\k a b c d=some r) e z (λa b c d _ h=>⟨a,b,c,d,rfl,h⟩) z h
def si (e:Stmt)(k:List Expr->Expr->Pos->Option β):Option β:=if h:e.ctorIdx=5 then @Stmt.Assign.elim (λ_=>Option β) e h k else none
def mJ {k:List Expr->Expr->Pos->Option β}(h:si st k=some r):∃a b c,st=.Assign a b c/\k a b c=some r:=(od h).elim λz h=>@Stmt.Assign.elim (λe=>∀z,@Stmt.Assign.elim (λ_=>Option β) e z k=some r->∃a b c,e=.Assign a b c/\k a b c=some r) st z (λa b c _ h=>⟨a,b,c,rfl,h⟩) z h
def HC (e:Stmt)(k:Option Expr->Option Expr->Pos->Option β):Option β:=if h:e.ctorIdx=16 then @Stmt.Raise.elim (λ_=>Option β) e h k else none
def E7 {k:Option Expr->Option Expr->Pos->Option β}(h:HC st k=some r):∃a b c,st=.Raise a b c/\k a b c=some r:=(od h).elim λz h=>@Stmt.Raise.elim (λe=>∀z,@Stmt.Raise.elim (λ_=>Option β) e z k=some r->∃a b c,e=.Raise a b c/\k a b c=some r) st z (λa b c _ h=>⟨a,b,c,rfl,h⟩) z h
def Mr (e:Stmt)(k:List Stmt->List PySem.ExceptHandler->List Stmt->List Stmt->Pos->Option β):Option β:=if h:e.ctorIdx=17 then @Stmt.Try.elim (λ_=>Option β) e h k else none
def HA {k:List Stmt->List PySem.ExceptHandler->List Stmt->List Stmt->Pos->Option β}(h:Mr st k=some r):∃a b c d f,st=.Try a b c d f/\k a b c d f=some r:=(od h).elim λz h=>@Stmt.Try.elim (λe=>∀z,@Stmt.Try.elim (λ_=>Option β) e z k=some r->∃a b c d f,e=.Try a b c d f/\k a b c d f=some r) st z (λa b c d f _ h=>⟨a,b,c,d,f,rfl,h⟩) z h
def vW (e:Stmt)(k:Expr->Pos->Option β):Option β:=if h:e.ctorIdx=24 then @Stmt.Expr.elim (λ_=>Option β) e h k else none
def pF {k:Expr->Pos->Option β}(h:vW st k=some r):∃a b,st=.Expr a b/\k a b=some r:=(od h).elim λz h=>@Stmt.Expr.elim (λe=>∀z,@Stmt.Expr.elim (λ_=>Option β) e z k=some r->∃a b,e=.Expr a b/\k a b=some r) st z (λa b _ h=>⟨a,b,rfl,h⟩) z h
def IX (e:Expr)(k:Expr->Operator->Expr->Pos->Option β):Option β:=if h:e.ctorIdx=2 then @Expr.BinOp.elim (λ_=>Option β) e h k else none
def FH {k:Expr->Operator->Expr->Pos->Option β}(h:IX e k=some r):∃a b c d,e=.BinOp a b c d/\k a b c d=some r:=(od h).elim λz h=>@Expr.BinOp.elim (λe=>∀z,@Expr.BinOp.elim (λ_=>Option β) e z k=some r->∃a b c d,e=.BinOp a b c d/\k a b c d=some r) e z (λa b c d _ h=>⟨a,b,c,d,rfl,h⟩) z h
def IS (e:Expr)(k:List Expr->Pos->Option β):Option β:=if h:e.ctorIdx=24 then @Expr.List.elim (λ_=>Option β) e h k else none
def FD {k:List Expr->Pos->Option β}(h:IS e k=some r):∃a b,e=.List a b/\k a b=some r:=(od h).elim λz h=>@Expr.List.elim (λe=>∀z,@Expr.List.elim (λ_=>Option β) e z k=some r->∃a b,e=.List a b/\k a b=some r) e z (λa b _ h=>⟨a,b,rfl,h⟩) z h
def Ms (e:Stmt)(k:Option Expr->Pos->Option β):Option β:=if h:e.ctorIdx=3 then @Stmt.Return.elim (λ_=>Option β) e h k else none
def HB {k:Option Expr->Pos->Option β}(h:Ms st k=some r):∃a b,st=.Return a b/\k a b=some r:=(od h).elim λz h=>@Stmt.Return.elim (λe=>∀z,@Stmt.Return.elim (λ_=>Option β) e z k=some r->∃a b,e=.Return a b/\k a b=some r) st z (λa b _ h=>⟨a,b,rfl,h⟩) z h
def Mx (e:Stmt)(k:Expr->Expr->List Stmt->List Stmt->Pos->Option β):Option β:=if h:e.ctorIdx=9 then @Stmt.For.elim (λ_=>Option β) e h k else none
def HH {k:Expr->Expr->List Stmt->List Stmt->Pos->Option β}(h:Mx st k=some r):∃a b c d f,st=.For a b c d f/\k a b c d f=some r:=(od h).elim λz h=>@Stmt.For.elim (λe=>∀z,@Stmt.For.elim (λ_=>Option β) e z k=some r->∃a b c d f,e=.For a b c d f/\k a b c d f=some r) st z (λa b c d f _ h=>⟨a,b,c,d,f,rfl,h⟩) z h
def Mw (e:Stmt)(k:Expr->List Stmt->List Stmt->Pos->Option β):Option β:=if h:e.ctorIdx=12 then @Stmt.If.elim (λ_=>Option β) e h k else none
def HG {k:Expr->List Stmt->List Stmt->Pos->Option β}(h:Mw st k=some r):∃a b c d,st=.If a b c d/\k a b c d=some r:=(od h).elim λz h=>@Stmt.If.elim (λe=>∀z,@Stmt.If.elim (λ_=>Option β) e z k=some r->∃a b c d,e=.If a b c d/\k a b c d=some r) st z (λa b c d _ h=>⟨a,b,c,d,rfl,h⟩) z h
def Mv (e:Stmt)(k:Pos->Option β):Option β:=if h:e.ctorIdx=25 then @Stmt.Pass.elim (λ_=>Option β) e h k else none
def HE {k:Pos->Option β}(h:Mv st k=some r):∃a,st=.Pass a/\k a=some r:=(od h).elim λz h=>@Stmt.Pass.elim (λe=>∀z,@Stmt.Pass.elim (λ_=>Option β) e z k=some r->∃a,e=.Pass a/\k a=some r) st z (λa _ h=>⟨a,rfl,h⟩) z h
variable{α:Type}{l:List α}
def n0 (l:List α)(v:Option β):Option β:=if l.isEmpty=true then v else none
def dU {v:Option β}(h:n0 l v=some r):l=[]/\v=some r:=(oi h).elim λc h=>{List.isEmpty_iff.mp c,h}
def nC (l:List α)(k:α->List α->Option β):Option β:=match l with
 |[]=>none
 |a::s=>k a s
def jO {k:α->List α->Option β}(h:nC l k=some r):∃a s,l=a::s/\k a s=some r:=by
 cases l with
 |nil=>cases h
 |cons a s=>exact⟨a,s,rfl,h⟩
def n1 (l:List α)(k:α->Option β):Option β:=nC l λa s=>n0 s (k a)
def dj {k:α->Option β}(h:n1 l k=some r):∃a,l=[a]/\k a=some r:=by
 obtain⟨a,s,rfl,h⟩:=jO h;obtain⟨rfl,h⟩:=dU h;exact⟨a,rfl,h⟩
def n2 (l:List α)(k:α->α->Option β):Option β:=nC l λa s=>n1 s (k a)
def ip {k:α->α->Option β}(h:n2 l k=some r):∃a b,l=[a,b]/\k a b=some r:=by
 obtain⟨a,s,rfl,h⟩:=jO h;obtain⟨b,rfl,h⟩:=dj h;exact⟨a,b,rfl,h⟩
def Bv (e:Expr)(k:Str->Option β):Option β:=By e λc _ _=>match c with
 |.str z=>k z
 |_=>none
def u1 {k:Str->Option β}(h:Bv e k=some r):∃z i p,e=.Constant (.str z) i p/\k z=some r:=by
 obtain⟨c,i,p,rfl,h⟩:=u4 h;cases c with
 |str z=>exact⟨z,i,p,rfl,h⟩
 |_=>cases h
def MD (e:Expr)(k:Expr->Option β):Option β:=IU e λa i s _=>if i=-1/\s.isNone=true then k a else none
def IV {k:Expr->Option β}(h:MD e k=some r):∃a p,e=.FormattedValue a (-1) none p/\k a=some r:=by
 obtain⟨a,i,s,p,rfl,h⟩:=FG h;obtain⟨⟨rfl,c⟩,k⟩:=oi h;rw[QS.mp c];exact⟨a,p,rfl,k⟩
def nG (c:Qb)(k:Expr->Expr->List Expr->Option β):Option β:=if c.is_async=0 then k c.target c.iter c.ifs else none
def oK {c:Qb}{k:Expr->Expr->List Expr->Option β}(h:nG c k=some r):∃t i f,c={t,i,f,0}/\k t i f=some r:=by
 obtain⟨z,h⟩:=oi h;cases c;cases z;exact{_,_,_,rfl,h}
def oN (e:Expr)(k:Str->List Expr->Pos->Option β):Option β:=oM e λf es ks p=>nName f λx _=>n0 ks (k x es p)
def iE {k:Str->List Expr->Pos->Option β}(h:oN e k=some r):∃x q es p,e=.Call (.Name x q) es [] p/\k x es p=some r:=by
 obtain⟨f,es,ks,p,rfl,h⟩:=la h;obtain⟨x,q,rfl,h⟩:=c8 h;obtain⟨rfl,h⟩:=dU h;exact⟨x,q,es,p,rfl,h⟩
def Dm (e:Expr)(k:Expr->Str->Expr->Bool->Option β):Option β:=oM e λf es ks p=>rf f λa m q=>n0 ks (n1 es λd=>k a m d (q.endLine==p.line))
def sT {k:Expr->Str->Expr->Bool->Option β}(h:Dm e k=some r):∃a m q d p,e=.Call (.Attribute a m q) [d] [] p/\k a m d (q.endLine==p.line)=some r:=by
 obtain⟨f,es,ks,p,rfl,h⟩:=la h;obtain⟨a,m,q,rfl,h⟩:=nM h;obtain⟨rfl,h⟩:=dU h;obtain⟨d,rfl,h⟩:=dj h;exact⟨a,m,q,d,p,rfl,h⟩
def bO {a b:Option β}(h:a.or b=some r):a=some r\/b=some r:=by
 cases a with
 |none=>exact .inr h
 |some x=>exact .inl h
end
end LD
namespace LD
open PySem PySem.Spec PyProof.Rows L2
inductive En where
 |fn (i:Nat) (r:Bool)|int (i:Int)|str (z:Str)|dct (fs:List (Str×Nat))|xc (k:Nat)|xi (k:Nat)|xk (k:Nat)|de|bl|cls (c f:Nat)
structure D9 (fa:Fa) (P:O2) (w:O9) (K:Ow) (mg:Str->Option Ox) (base:Heap) (T:List (Str×En)):Prop where
 fn:∀{x:Str}{i:Nat}{r:Bool},T.lookup x=some (.fn i r)->∀ad,fa i=some ad->mg x=some (.ref ad)
 int:∀{x:Str}{i:Int},T.lookup x=some (.int i)->∃t,mg x=some (.int i t)
 str:∀{x:Str}{z:Str},T.lookup x=some (.str z)->∃t,mg x=some (.str z t)
 dct:∀{x:Str}{fs:List (Str×Nat)},T.lookup x=some (.dct fs)->∃ad kvs,mg x=some (.ref ad)/\fT K w.params ad kvs/\eQ fa kvs fs
 xc:∀{x:Str}{k:Nat},T.lookup x=some (.xc k)->∃C,mg x=some (.ref C)/\fa (gE k)=some C/\PySem.W.excIn K C zT "ValueError.__new__"=true/\PySem.W.keepIn K (.ref C)=true
 xi:∀{x:Str}{k:Nat},T.lookup x=some (.xi k)->Ad fa P w K mg base k x/\∃D,mg x=some (.ref D)/\fa (gE k)=some D
 xk:∀{x:Str}{k:Nat},T.lookup x=some (.xk k)->∃D,mg x=some (.ref D)/\fa (gE k)=some D
 de:∀{x:Str},T.lookup x=some .de->∃D,mg x=some (.ref D)/\fa 999=some D
 bl:∀{x:Str},T.lookup x=some .bl->mg x=none
 xcs:Ki fa K
 ob:Km fa K
 of:∀o,5000<=o->fa o=none
 od:fa (jN 77)=none/\fa (jN 78)=none
 cls:∀{x:Str}{c f:Nat},T.lookup x=some (.cls c f)->∃C,mg x=some (.ref C)/\fa (jN c)=some C/\∀ad,fa f=some ad->Mk K C ad
structure G where
 T:List (Str×En)
 tw:List (Str×Str×Nat×Nat)
 xf:List Str
 cel:List (Nat×Nat×Nat)
 txt:List (Nat×Nat×Nat)
 ms:List (Str×Nat×Nat)
 c:Call
 N:List Str
 sc:Scope
 lv:Nat
 oc:List Str:=[]
structure dR (fa:Fa) (n:Nat) (g:G) (X:Cx):Prop where
 N:X.N=g.N
 nd:g.N.Nodup
 sc:X.env.scope=g.sc
 T:D9 fa X.prog X.w X.K X.mg X.base g.T
 tw:∀q∈g.tw,vF fa X.K X.mg q.1 q.2.1 q.2.2.1 q.2.2.2
 xf:∀f∈g.xf,D7 fa X.K f
 ms:∀q∈g.ms,pB fa X.K q.1 q.2.1 q.2.2
 fn:g.lv≠1->∀x,X.fn x=true
 oc:∀x∈g.oc,X.fn x=true
 calm:0<g.lv->X.calm=true
 C:0<g.lv->∀f,iP fa X.prog X.w X.K X.mg X.base n f (g.c f)
 hr:0<g.lv->dD (2*n+4+1) X.A
 top:2<=g.lv->X.ex=[]/\X.stack=X.env::X.outer/\X.env.frame=some X.env.locals/\X.env.scope.kind=.function
 po:g.lv=2->PassesOwn (model X.prog X.w) X.A X.env X.xe
structure Rc where
 e:G->Expr->Option GE
 t:G->Expr->Option GT
 x:G->Expr->Option GE
 w:G->Expr->Expr->Option GW
 s:G->Stmt->Option GS
abbrev d3:=Rc->G->Expr->Option GE
abbrev Ea:=Rc->G->Expr->Option GT
abbrev qT:=Rc->G->Expr->Expr->Option GW
abbrev kG:=Rc->G->Stmt->Option GS
structure ie (fa:Fa) (n:Nat) (R:Rc):Prop where
 e:∀{g:G}{X:Cx}{a:Expr}{ga:GE},dR fa n g X->R.e g a=some ga->DE fa X a ga
 t:∀{g:G}{X:Cx}{a:Expr}{ga:GT},dR fa n g X->R.t g a=some ga->DT fa X a ga
 x:∀{g:G}{X:Cx}{a:Expr}{ga:GE},dR fa n g X->R.x g a=some ga->DX fa X a ga
 w:∀{g:G}{X:Cx}{t a:Expr}{ga:GW},dR fa n g X->R.w g t a=some ga->DI fa X t a ga
 s:∀{g:G}{X:Cx}{a:Stmt}{ga:GS},dR fa n g X->R.s g a=some ga->DS fa X a ga
def SE (r:d3):Prop:=∀{fa:Fa}{n:Nat}{R:Rc},ie fa n R->∀{g:G}{X:Cx},dR fa n g X->∀{a:Expr}{ga:GE},r R g a=some ga->DE fa X a ga
def ST (r:Ea):Prop:=∀{fa:Fa}{n:Nat}{R:Rc},ie fa n R->∀{g:G}{X:Cx},dR fa n g X->∀{a:Expr}{ga:GT},r R g a=some ga->DT fa X a ga
def SX (r:d3):Prop:=∀{fa:Fa}{n:Nat}{R:Rc},ie fa n R->∀{g:G}{X:Cx},dR fa n g X->∀{a:Expr}{ga:GE},r R g a=some ga->DX fa X a ga
def SW (r:qT):Prop:=∀{fa:Fa}{n:Nat}{R:Rc},ie fa n R->∀{g:G}{X:Cx},dR fa n g X->∀{t a:Expr}{ga:GW},r R g t a=some ga->DI fa X t a ga
def SS (r:kG):Prop:=∀{fa:Fa}{n:Nat}{R:Rc},ie fa n R->∀{g:G}{X:Cx},dR fa n g X->∀{a:Stmt}{ga:GS},r R g a=some ga->DS fa X a ga
structure Rs where
 e:List d3
 t:List Ea
 x:List d3
 w:List qT
 s:List kG
def It (rs:Rs):Nat->Rc
 |0=>{λ_ _=>none,λ_ _=>none,λ_ _=>none,λ_ _ _=>none,λ_ _=>none}
 |n+1=>{λg a=>rs.e.findSome? λr=>r (It rs n) g a,λg a=>rs.t.findSome? λr=>r (It rs n) g a,λg a=>rs.x.findSome? λr=>r (It rs n) g a,λg t a=>rs.w.findSome? λr=>r (It rs n) g t a,λg a=>rs.s.findSome? λr=>r (It rs n) g a}
def AllP {α:Type}(p:α->Prop):List α->Prop
 |[]=>True
 |a::l=>p a/\AllP p l
def AllP.mem {α:Type}{p:α->Prop}:∀{l:List α},AllP p l->∀a∈l,p a
 |_::_,h,a,m=>(O6.mp m).elim (λe=>e ▸ h.1) (AllP.mem h.2 a)
structure Cu (rs:Rs):Prop where
 e:AllP SE rs.e
 t:AllP ST rs.t
 x:AllP SX rs.x
 w:AllP SW rs.w
 s:AllP SS rs.s
def Ee {fa:Fa}{n:Nat}{rs:Rs}(h:Cu rs):∀k,ie fa n (It rs k)
 |0=>{(λ_ z=>nomatch z),(λ_ z=>nomatch z),(λ_ z=>nomatch z),(λ_ z=>nomatch z),(λ_ z=>nomatch z)}
 | k + 1 => by
   have ih:=Ee (n:=n) (fa:=fa) h k;refine{λo z=>?_,λo z=>?_,λo z=>?_,λo z=>?_,λo z=>?_}
   ·obtain⟨r,m,e⟩:=Qf z;exact h.e.mem r m ih o e
   ·obtain⟨r,m,e⟩:=Qf z;exact h.t.mem r m ih o e
   ·obtain⟨r,m,e⟩:=Qf z;exact h.x.mem r m ih o e
   ·obtain⟨r,m,e⟩:=Qf z;exact h.w.mem r m ih o e
   ·obtain⟨r,m,e⟩:=Qf z;exact h.s.mem r m ih o e
def MO:Str:="__debug__"
def jT (g:G)(x:Str):Bool:=g.sc.names.lookup x==some .globalImplicit&&!(x==MO)
def vr (g:G)(x:Str):Option Nat:=if (g.sc.names.lookup x==some .local||g.sc.names.lookup x==some .cell||g.sc.names.lookup x==some .free)&&!(x==MO)&&!(x==("__classdict__":Str)) then g.N.findIdx? (·==x) else none
section
variable{fa:Fa}{n:Nat}{g:G}{X:Cx}{R:Rc}(o:dR fa n g X)
include o
theorem eC {x:Str}(h:jT g x=true):Gl X x/\(x==("__debug__":Str))=false:=by
 unfold jT at h;rw[OF,Bool.not_eq_true'] at h;exact{by show X.env.scope.names.lookup x=_;rw[o.sc];exact eq_of_beq h.1,h.2}
theorem wB {x:Str}{i:Nat}(h:g.N.findIdx? (·==x)=some i):X.N[i]?=some x:=by
 obtain⟨hi,h1,_⟩:=List.findIdx?_eq_some_iff_getElem.mp h;rw[o.N,OO hi,eq_of_beq h1]
theorem CO {x:Str}{i:Nat}(h:vr g x=some i):X.N[i]?=some x/\vE X.env.scope x/\(x==("__debug__":Str))=false/\(x==("__classdict__":Str))=false:=by
 obtain⟨c,h⟩:=oi h;simp only[OF,Qu,Bool.not_eq_true'] at c;refine{wB o h,?_,c.1.2,c.2};unfold vE;rw[o.sc];rcases c.1.1 with(z|z)|z
 ·exact .inl (eq_of_beq z)
 ·exact .inr (.inl (eq_of_beq z))
 ·exact .inr (.inr (eq_of_beq z))
omit o
theorem dR.rm (o:dR fa n g X)(h:0<g.lv):Rm X:=E8 (o.hr h)
end
def cA (f:Expr->Option GE):List Expr->Option GA
 |[]=>some ah
 |a::r=>if notStar a=true then(f a).bind λx=>(cA f r).bind λy=>some (ae x y) else none
def jW {fa:Fa}{X:Cx}{f:Expr->Option GE}(hf:∀{a:Expr}{ga:GE},f a=some ga->DE fa X a ga):∀{es:List Expr}{gs:GA},cA f es=some gs->DA fa X es gs/\es.all notStar=true
 |[],_,h=>by cases h;exact⟨J0,rfl⟩
 | a :: r, _, h => by
   obtain⟨c,h⟩:=oi h;obtain⟨x,hx,h⟩:=ob h;obtain⟨y,hy,h⟩:=ob h;cases h;obtain⟨h1,h2⟩:=jW hf hy;exact{Gm (hf hx) h1 (bp c),by rw[PL,c,h2];rfl}
def ui (f:Expr->Option GE)(k:GE->GE->GE):List Expr->Option GE
 |[]=>none
 |[a]=>f a
 |a::b::r=>(f a).bind λx=>(ui f k (b::r)).bind λy=>some (k x y)
def vD {fa:Fa}{X:Cx}{pos:Pos}{f:Expr->Option GE}(hf:∀{a:Expr}{ga:GE},f a=some ga->DE fa X a ga):∀{es:List Expr}{ge:GE},ui f eU es=some ge->DE fa X (.BoolOp .And es pos) ge
 |[a],_,h=>DR (hf h)
 | a :: b :: r, _, h => by
   obtain⟨x,hx,h⟩:=ob h;obtain⟨y,hy,h⟩:=ob h;cases h;exact L7 (hf hx) (vD hf hy)
def zZ {fa:Fa}{X:Cx}{pos:Pos}{f:Expr->Option GE}(hf:∀{a:Expr}{ga:GE},f a=some ga->DE fa X a ga):∀{es:List Expr}{ge:GE},ui f MM es=some ge->DE fa X (.BoolOp .Or es pos) ge
 |[a],_,h=>DR (hf h)
 | a :: b :: r, _, h => by
   obtain⟨x,hx,h⟩:=ob h;obtain⟨y,hy,h⟩:=ob h;cases h;exact NV (hf hx) (zZ hf hy)
def rY (f:Expr->Option GT)(k:GT->GT->GT):List Expr->Option GT
 |[]=>none
 |[a]=>f a
 |a::b::r=>(f a).bind λx=>(rY f k (b::r)).bind λy=>some (k x y)
def uI {fa:Fa}{X:Cx}{pos:Pos}{f:Expr->Option GT}(hf:∀{a:Expr}{ga:GT},f a=some ga->DT fa X a ga):∀{es:List Expr}{ge:GT},rY f gq es=some ge->DW fa X (.BoolOp .And es pos) ge
 |[a],_,h=>F5 (hf h)
 | a :: b :: r, _, h => by
   obtain⟨x,hx,h⟩:=ob h;obtain⟨y,hy,h⟩:=ob h;cases h;exact JI (hf hx) (uI hf hy)
def xT {fa:Fa}{X:Cx}{pos:Pos}{f:Expr->Option GT}(hf:∀{a:Expr}{ga:GT},f a=some ga->DT fa X a ga):∀{es:List Expr}{ge:GT},rY f iz es=some ge->DW fa X (.BoolOp .Or es pos) ge
 |[a],_,h=>JH (hf h)
 | a :: b :: r, _, h => by
   obtain⟨x,hx,h⟩:=ob h;obtain⟨y,hy,h⟩:=ob h;cases h;exact LI (hf hx) (xT hf hy)
def CQ:d3:=λ_ g e=>nName e λx _=>((vr g x).bind λi=>some (aa i)).or (if jT g x=true then(g.T.lookup x).bind fun
 |.int i=>some (gC (.int i))
 |.str i=>some (gC (.str i))
 |_=>none else none)
def Au:SE CQ:=by
 intro fa n R rc g X o a ga h;replace h:=c8 h;obtain⟨x,p,rfl,h⟩:=h;rcases bO h with h|h
 ·obtain⟨i,e,h⟩:=ob h;cases h;obtain⟨a,b,c,d⟩:=CO o e;exact LM a b c d
 ·obtain⟨c,h⟩:=oi h;obtain⟨hg,hd⟩:=eC o c;obtain⟨t,e,h⟩:=ob h;cases t with
  |int i=>cases h;exact Fb hg (o.T.int e) hd
  |str i=>cases h;obtain⟨t,e⟩:=o.T.str e;exact ji (v:=.str _) (ku hg e ⟨t,rfl⟩ hd) λ_ _=>rfl
  |_=>cases h
def xI:d3:=λ_ _ e=>By e fun
 |.int i,_,_=>some (gC (.int i))
 |.bool i,_,_=>some (gC (.bl i))
 |.str i,_,_=>some (gC (.str i))
 |.none,_,_=>some (gC .non)
 |_,_,_=>none
def xH:SE xI:=by
 intro fa n R rc g X o a ga h;replace h:=u4 h;obtain⟨c,i,p,rfl,h⟩:=h;cases c with
 |int i=>cases h;exact LW
 |bool i=>cases h;exact NX
 |str i=>cases h;exact LO
 |none=>cases h;exact LR
 |_=>cases h
def G.cl (g:G)(p:Pos):Bool:=g.cel.contains (p.line,p.col,p.endCol)
def G.tx (g:G)(p:Pos):Bool:=g.txt.contains (p.line,p.col,p.endCol)
def D4:Operator->Option kJ
 |.Add=>some .add|.Sub=>some .sub|.Mult=>some .mul|.FloorDiv=>some .fdiv|.Mod=>some .mod|.Pow=>some .pow|_=>none
def Co {q:Operator}{b:kJ}(h:D4 q=some b):q=binOp b:=by cases q<;>cases h<;>rfl
def f9:CmpOp->jI
 |.Eq=>.eq|.NotEq=>.ne|.Lt=>.lt|.LtE=>.le|.Gt=>.gt|.GtE=>.ge|.Is=>.isN|.IsNot=>.notN|.In=>.isin|.NotIn=>.notin
def c9 (q:CmpOp):ff (f9 q)=q:=by cases q<;>rfl
def G3:d3:=λR g e=>(IX e λa q b p=>(D4 q).bind λq=>(R.e g a).bind λx=>(R.e g b).bind λy=>some (aq (g.cl p) q x y)).or
 ((IP e λq a _ => match q with
   |.USub=>(R.e g a).bind λx=>some (cE x)
   |.Not=>(R.e g a).bind λx=>some (NR x)
   |_=>none).or
 ((wc e λq es _ => match q with
   |.And=>ui (R.e g) eU es
   |.Or=>ui (R.e g) MM es).or
 ((Bw e λc a b _=>(R.t g c).bind λt=>(R.e g a).bind λx=>(R.e g b).bind λy=>some (lD t x y)).or
 ((pO e λes _ _=>(cA (R.e g) es).bind λs=>some (bj s)).or (IS e λes p=>(cA (R.e g) es).bind λs=>some (bu (g.cl p) s))))))
def EA:SE G3:=by
 intro fa n R rc g X o a ga h;replace h:=bO h;rcases h with h|h
 ·replace h:=FH h;obtain⟨a,q,b,p,rfl,h⟩:=h;obtain⟨q,hq,h⟩:=ob h;obtain⟨x,hx,h⟩:=ob h;obtain⟨y,hy,h⟩:=ob h;cases h;rw[Co hq];exact L5 _ _ (rc.e o hx) (rc.e o hy)
 replace h:=bO h;rcases h with h|h
 ·replace h:=yP h;obtain⟨q,a,p,rfl,h⟩:=h;cases q with
  |USub=>obtain⟨x,hx,h⟩:=ob h;cases h;exact LS (rc.e o hx)
  |Not=>obtain⟨x,hx,h⟩:=ob h;cases h;exact LQ (rc.e o hx)
  |_=>cases h
 replace h:=bO h;rcases h with h|h
 ·replace h:=sU h;obtain⟨q,es,p,rfl,h⟩:=h;cases q with
  |And=>exact vD (rc.e o) h
  |Or=>exact zZ (rc.e o) h
 replace h:=bO h;rcases h with h|h
 ·replace h:=u2 h;obtain⟨c,a,b,p,rfl,h⟩:=h;obtain⟨t,ht,h⟩:=ob h;obtain⟨x,hx,h⟩:=ob h;obtain⟨y,hy,h⟩:=ob h;cases h;exact LV (rc.t o ht) (rc.e o hx) (rc.e o hy)
 replace h:=bO h;rcases h with h|h
 ·replace h:=hZ h;obtain⟨es,k,p,rfl,h⟩:=h;obtain⟨s,hs,h⟩:=ob h;cases h;exact LN (jW (rc.e o) hs).1
 ·replace h:=FD h;obtain⟨es,p,rfl,h⟩:=h;obtain⟨s,hs,h⟩:=ob h;cases h;exact LU _ (jW (rc.e o) hs).1
def Ce (g:G)(x:Str):Option (List (Str×Nat)):=if jT g x=true then(match g.T.lookup x with|some (.dct fs)=>some fs|_=>none) else none
def tS {fa:Fa}{n:Nat}{g:G}{X:Cx}(o:dR fa n g X){x:Str}{fs:List (Str×Nat)}(h:Ce g x=some fs):(∃ad kvs,X.mg x=some (.ref ad)/\fT X.K X.w.params ad kvs/\eQ fa kvs fs)/\Gl X x/\(x==("__debug__":Str))=false:=by
 obtain⟨c,h⟩:=oi h;split at h
 ·next e=>cases h;exact{o.T.dct e,eC o c}
 ·cases h
def Ck (R:Rc)(g:G)(e:Expr):Option GE:=Bz e λa qs bs _=>
 (n2 qs λq r=>n2 bs λb c=>if 0<g.lv/\behindInMarks r c=false then(R.e g a).bind λy=>(R.e g b).bind λz=>(R.e g c).bind λu=>some (tJ (f9 q) (f9 r) y z u) else none).or
 (n1 qs λq=>n1 bs λb=>(if f9 q=.notin then nName b λx _=>(Ce g x).bind λfs=>(R.e g a).bind λy=>some (i5 fs y) else none).or
  (if 0<g.lv/\behindInMarks q b=false then(R.e g a).bind λy=>(R.e g b).bind λz=>some (aL (f9 q) y z) else none))
def G8:d3:=Ck
def sM {q:CmpOp}(h:f9 q=.notin):q=.NotIn:=(c9 q).symm.trans (congrArg ff h)
def ED:SE G8:=by
 intro fa n R rc g X o a ga h;replace h:=pQ h;obtain⟨a,qs,bs,p,rfl,h⟩:=h;replace h:=bO h;rcases h with h|h
 ·replace h:=ip h;obtain⟨q,r,rfl,h⟩:=h;replace h:=ip h;obtain⟨b,d,rfl,h⟩:=h;replace h:=oi h;obtain⟨c,h⟩:=h;replace h:=ob h;obtain⟨y,hy,h⟩:=h;replace h:=ob h;obtain⟨z,hz,h⟩:=h;replace h:=ob h;obtain⟨u,hu,h⟩:=h;cases h;have:=L4 (o.rm c.1) (f9 q) (f9 r) (rc.e o hy) (rc.e o hz) (rc.e o hu) (by rw[c9,c9];exact c.2) (pos:=p)
  rw[c9,c9] at this;exact this
 replace h:=dj h;obtain⟨q,rfl,h⟩:=h;replace h:=dj h;obtain⟨b,rfl,h⟩:=h;replace h:=bO h;rcases h with h|h
 ·replace h:=oi h;obtain⟨c,h⟩:=h;replace h:=c8 h;obtain⟨x,_,rfl,h⟩:=h;obtain⟨fs,e,h⟩:=ob h;obtain⟨y,hy,h⟩:=ob h;cases h;obtain⟨d,e1,e2⟩:=tS o e;rw[sM c];exact Fc d e1 e2 (rc.e o hy) rfl
 ·obtain⟨c,h⟩:=oi h;obtain⟨y,hy,h⟩:=ob h;obtain⟨z,hz,h⟩:=ob h;cases h;have:=LZ (o.rm c.1) (f9 q) (rc.e o hy) (rc.e o hz) (by rw[c9];exact c.2) (pos:=p)
  rw[c9] at this;exact this
def MV:Expr->Bool
 |.Compare ..=>false
 |.BoolOp ..=>false
 |.UnaryOp ..=>false
 |.IfExp ..=>false
 |_=>true
def vT:Ea:=λR g e=>((Ck R g e).bind λx=>some (ay x)).or
 ((wc e λq es _ => match q with
   |.And=>rY (R.t g) gq es
   |.Or=>rY (R.t g) iz es).or
 ((IP e λq a _ => match q with
   |.Not=>(R.t g a).bind λx=>some (dG x)
   |_=>none).or (if MV e=true then(R.e g e).bind λx=>some (ay x) else none)))
def Ex {fa:Fa}{n:Nat}{R:Rc}(rc:ie fa n R){g:G}{X:Cx}(o:dR fa n g X){a:Expr}{ga:GE}(h:Ck R g a=some ga):DT fa X a (ay ga):=by
 replace h:=pQ h;obtain⟨a,qs,bs,p,rfl,h⟩:=h;replace h:=bO h;rcases h with h|h
 ·replace h:=ip h;obtain⟨q,r,rfl,h⟩:=h;replace h:=ip h;obtain⟨b,d,rfl,h⟩:=h;replace h:=oi h;obtain⟨c,h⟩:=h;replace h:=ob h;obtain⟨y,hy,h⟩:=h;replace h:=ob h;obtain⟨z,hz,h⟩:=h;replace h:=ob h;obtain⟨u,hu,h⟩:=h;cases h;have:=JM (o.rm c.1) (f9 q) (f9 r) (rc.e o hy) (rc.e o hz) (rc.e o hu) (by rw[c9,c9];exact c.2) (pos:=p)
  rw[c9,c9] at this;exact this
 replace h:=dj h;obtain⟨q,rfl,h⟩:=h;replace h:=dj h;obtain⟨b,rfl,h⟩:=h;replace h:=bO h;rcases h with h|h
 ·replace h:=oi h;obtain⟨c,h⟩:=h;replace h:=c8 h;obtain⟨x,_,rfl,h⟩:=h;obtain⟨fs,e,h⟩:=ob h;obtain⟨y,hy,h⟩:=ob h;cases h;obtain⟨d,e1,e2⟩:=tS o e;rw[sM c];exact Ff d e1 e2 (rc.e o hy) rfl
 ·obtain⟨c,h⟩:=oi h;obtain⟨y,hy,h⟩:=ob h;obtain⟨z,hz,h⟩:=ob h;cases h;have:=JL (o.rm c.1) (f9 q) (rc.e o hy) (rc.e o hz) (by rw[c9];exact c.2) (pos:=p)
  rw[c9] at this;exact this
def Kx:ST vT:=by
 intro fa n R rc g X o a ga h;replace h:=bO h;rcases h with h|h
 ·replace h:=ob h;obtain⟨x,hx,h⟩:=h;cases h;exact Ex rc o hx
 replace h:=bO h;rcases h with h|h
 ·replace h:=sU h;obtain⟨q,es,p,rfl,h⟩:=h;cases q with
  |And=>exact PW.pt (uI (rc.t o) h)
  |Or=>exact PW.pt (xT (rc.t o) h)
 replace h:=bO h;rcases h with h|h
 ·replace h:=yP h;obtain⟨q,a,p,rfl,h⟩:=h;cases q with
  |Not=>obtain⟨x,hx,h⟩:=ob h;cases h;exact JJ (rc.t o hx)
  |_=>cases h
 ·obtain⟨c,h⟩:=oi h;obtain⟨x,hx,h⟩:=ob h;cases h;exact B8 (rc.e o hx) λ_=>by cases a<;>first|rfl|cases c
def Ag:kG:=λ_ _ st=>match st with
 |.Raise ..=>some Bb
 |_=>none
def Ek:SS Ag:=λ{fa n R} _ {g X} _ {a ga} h=>by
 unfold Ag at h;split at h
 ·cases h;exact JR
 ·cases h
def kz:Expr->Bool
 |.Slice ..=>false
 |_=>true
def nH {b:Expr}(h:kz b=true):jj b:=by
 intro x i;cases b<;>first|rfl|cases h
def cO (f:Expr->Option GE):Option Expr->Option GE
 |none=>some (gC .non)
 |some a=>f a
def DY {fa:Fa}{X:Cx}{f:Expr->Option GE}(hf:∀{a:Expr}{ga:GE},f a=some ga->DE fa X a ga){q:Option Expr}{ge:GE}(h:cO f q=some ge):DO fa X q q.isSome ge:=by
 cases q with
 |none=>cases h;exact Gb
 |some a=>exact Ga (hf h)
def G2:d3:=λR g e=>pP e λa b _=>nName a λx _=>(Ce g x).bind λfs=>if kz b=true then(R.e g b).bind λy=>some (lE fs y) else none
def Ez:SE G2:=by
 intro fa n R rc g X o a ga h;replace h:=kB h;obtain⟨a,b,p,rfl,h⟩:=h;replace h:=c8 h;obtain⟨x,q,rfl,h⟩:=h;obtain⟨fs,e,h⟩:=ob h;obtain⟨c,h⟩:=oi h;obtain⟨y,hy,h⟩:=ob h;cases h;obtain⟨d,e1,e2⟩:=tS o e;exact Fd d e1 e2 (rc.e o hy) (nH c)
def G5:d3:=λR g e=>pP e λa b p=>(IQ b λlo hi st _=>if st.isNone=true/\g.tx p=false then(R.e g a).bind λx=>(cO (R.e g) lo).bind λy=>(cO (R.e g) hi).bind λz=>some (dC (g.cl p) lo.isSome hi.isSome x y z) else none).or
 (if kz b=true then(R.e g a).bind λx=>(R.e g b).bind λy=>some (aw x y) else none)
def EC:SE G5:=by
 intro fa n R rc g X o a ga h;replace h:=kB h;obtain⟨a,b,p,rfl,h⟩:=h;replace h:=bO h;rcases h with h|h
 ·replace h:=FC h;obtain⟨lo,hi,st,p2,rfl,h⟩:=h;obtain⟨⟨c,_⟩,h⟩:=oi h;replace h:=ob h;obtain⟨x,hx,h⟩:=h;replace h:=ob h;obtain⟨y,hy,h⟩:=h;replace h:=ob h;obtain⟨z,hz,h⟩:=h;cases h;rw[QS.mp c];exact LP _ _ _ (rc.e o hx) (DY (rc.e o) hy) (DY (rc.e o) hz)
 ·obtain⟨c,h⟩:=oi h;obtain⟨x,hx,h⟩:=ob h;obtain⟨y,hy,h⟩:=ob h;cases h;exact LX (rc.e o hx) (rc.e o hy) (nH c)
def lx (g:G)(x:Str):Option Nat:=if (g.sc.names.lookup x==some .local||(g.sc.names.lookup x==some .cell&&(g.lv != 1||g.oc.contains x)))=true then g.N.findIdx? (·==x) else none
def Dn (g:G):List Expr->Option (List Nat)
 |[]=>some []
 |e::r=>nName e λx _=>(lx g x).bind λi=>(Dn g r).bind λl=>some (i::l)
def cG (g:G)(e:Expr):Option cf:=(nName e λx _=>(lx g x).bind λi=>some (.one i)).or (pO e λes _ _=>if 0<g.lv then((Dn g es).bind λl=>some (.tup l)).or (n2 es λa b=>nName a λx _=>pO b λbs _ _=>(lx g x).bind λi=>(Dn g bs).bind λl=>some (.two i l)) else none)
section
variable{fa:Fa}{n:Nat}{g:G}{X:Cx}{R:Rc}(o:dR fa n g X)
include o
theorem wj {x:Str}{i:Nat}(h:lx g x=some i):X.N[i]?=some x/\L2.Loc X.env.scope x/\(X.fn x=true\/X.env.scope.names.lookup x=some .local):=by
 obtain⟨c,h⟩:=oi h;rw[Qu,OF] at c;refine{wB o h,?_,?_}
 ·unfold L2.Loc;rw[o.sc];rcases c with z|z
  ·exact .inl (eq_of_beq z)
  ·exact .inr (eq_of_beq z.1)
 ·rcases c with z|z
  ·right;rw[o.sc];exact eq_of_beq z
  ·rcases Bool.or_eq_true_iff.mp z.2 with q|q
   ·exact .inl (o.fn (by simpa using q) x)
   ·exact .inl (o.oc x (List.contains_iff_mem.mp q))
theorem sX:∀{es:List Expr}{l:List Nat},Dn g es=some l->je X l es
 |[],_,h=>by cases h;exact .nil
 | e :: r, _, h => by
   replace h:=c8 h;obtain⟨x,p,rfl,h⟩:=h;obtain⟨i,hi,h⟩:=ob h;obtain⟨l,hl,h⟩:=ob h;cases h;obtain⟨a,b,c⟩:=wj o hi;exact .cons a b c (sX hl)
theorem i8 {t:Expr}{tt:cf}(h:cG g t=some tt):PG X t (gT fa X.K tt):=by
 replace h:=bO h;rcases h with h|h
 ·replace h:=c8 h;obtain⟨x,p,rfl,h⟩:=h;replace h:=ob h;obtain⟨i,hi,h⟩:=h;cases h;obtain⟨a,b,c⟩:=wj o hi;exact Gi (o.N ▸ o.nd) a b c
 ·replace h:=hZ h;obtain⟨es,k,p,rfl,h⟩:=h;replace h:=oi h;obtain⟨c,h⟩:=h;replace h:=bO h;rcases h with h|h
  ·obtain⟨l,hl,h⟩:=ob h;cases h;exact JY (o.calm c) (o.N ▸ o.nd) (sX o hl)
  ·replace h:=ip h;obtain⟨a,b,rfl,h⟩:=h;replace h:=c8 h;obtain⟨x,px,rfl,h⟩:=h;replace h:=hZ h;obtain⟨bs,k2,p2,rfl,h⟩:=h;obtain⟨i,hi,h⟩:=ob h;obtain⟨l,hl,h⟩:=ob h;cases h;obtain⟨e1,e2,e3⟩:=wj o hi;exact JX (o.calm c) (o.N ▸ o.nd) e1 e2 e3 (sX o hl)
end
def cB (nm:Str)(R:Rc)(g:G)(e:Expr):Option (List Expr×GA):=oN e λx es _=>nC es λa es=>if x=nm/\jT g x=true/\(match g.T.lookup x with|some .bl=>true|_=>false)=true/\0<g.lv then(cA (R.e g) (a::es)).bind λgs=>some (a::es,gs) else none
def mX {g:G}{x:Str}(h:(match g.T.lookup x with|some .bl=>true|_=>false)=true):g.T.lookup x=some .bl:=by
 split at h
 ·assumption
 ·cases h
def pw {fa:Fa}{n:Nat}{R:Rc}{nm:Str}(rc:ie fa n R){g:G}{X:Cx}(o:dR fa n g X){e:Expr}{as:List Expr}{gs:GA}(h:cB nm R g e=some (as,gs)):∃p pos a es,as=a::es/\e=.Call (.Name nm p) (a::es) [] pos/\Gl X nm/\X.mg nm=none/\0<g.lv/\DA fa X (a::es) gs/\notStar a=true/\es.all notStar=true:=by
 replace h:=iE h;obtain⟨x,q,es,p,rfl,h⟩:=h;replace h:=jO h;obtain⟨a,es,rfl,h⟩:=h;replace h:=oi h;obtain⟨⟨rfl,c1,c2,c3⟩,h⟩:=h;obtain⟨gs,hgs,h⟩:=ob h;cases h;obtain⟨d,ns⟩:=jW (rc.e o) hgs;rw[PL,OF] at ns;exact{_,_,_,_,rfl,rfl,(eC o c1).1,o.T.bl (mX c2),c3,d,ns.1,ns.2}
def G4:d3:=λR g e=>(cB "len" R g e).bind λq=>some (aY .len q.2)
def EB:SE G4:=λ{fa n R} rc {g X} o {a ga} h=>by
 obtain⟨⟨as,gs⟩,hq,h⟩:=ob h;cases h;obtain⟨_,_,_,_,_,rfl,hg,hm,_,d,n1,n2⟩:=pw rc o hq;exact wL .len Lz hg hm PySem.boot_len d `d `d (bp n1) (eG n2)
def Hb:d3:=λR g e=>(cB "all" R g e).bind λq=>some (aY .all q.2)
def EG:SE Hb:=λ{fa n R} rc {g X} o {a ga} h=>by
 obtain⟨⟨as,gs⟩,hq,h⟩:=ob h;cases h;obtain⟨_,_,_,_,_,rfl,hg,hm,lv,d,n1,n2⟩:=pw rc o hq;exact wL .all (LC (o.calm lv)) hg hm `k d `d `d (bp n1) (eG n2)
def G1:d3:=λR g e=>(cB "sum" R g e).bind λq=>some (aY .sum q.2)
def Ey:SE G1:=λ{fa n R} rc {g X} o {a ga} h=>by
 obtain⟨⟨as,gs⟩,hq,h⟩:=ob h;cases h;obtain⟨_,_,_,_,_,rfl,hg,hm,lv,d,n1,n2⟩:=pw rc o hq;exact wL .sum (Ly (o.calm lv)) hg hm `k d `d `d (bp n1) (eG n2)
def xC:d3:=λR g e=>(cB "tuple" R g e).bind λq=>some (aY .tuple q.2)
def xB:SE xC:=λ{fa n R} rc {g X} o {a ga} h=>by
 obtain⟨⟨as,gs⟩,hq,h⟩:=ob h;cases h;obtain⟨_,_,_,_,_,rfl,hg,hm,_,d,n1,n2⟩:=pw rc o hq;exact zI .tuple FX hg hm `k d `d `d (bp n1) (eG n2)
def CS:d3:=λR g e=>(cB "list" R g e).bind λq=>some (aY (.list (g.cl e.pos)) q.2)
def Av:SE CS:=λ{fa n R} rc {g X} o {a ga} h=>by
 obtain⟨⟨as,gs⟩,hq,h⟩:=ob h;cases h;obtain⟨_,_,_,_,_,rfl,hg,hm,_,d,n1,n2⟩:=pw rc o hq;exact zI (.list _) (Jx _) hg hm `k d `d `d (bp n1) (eG n2)
def cR (R:Rc)(g:G)(nm:Str)(e:Expr):Option (Expr×GE):=oN e λx es _=>n1 es λa=>if x=nm/\jT g x=true/\(match g.T.lookup x with|some .bl=>true|_=>false)=true/\0<g.lv/\notStar a=true then(R.e g a).bind λy=>some (a,y) else none
def pq {fa:Fa}{n:Nat}{R:Rc}{nm:Str}(rc:ie fa n R){g:G}{X:Cx}(o:dR fa n g X){e a:Expr}{ga:GE}(h:cR R g nm e=some (a,ga)):∃p pos,e=.Call (.Name nm p) [a] [] pos/\Gl X nm/\X.mg nm=none/\0<g.lv/\DE fa X a ga/\starEach [a] X.env=[(false,eval a X.env)]:=by
 replace h:=iE h;obtain⟨x,q,es,p,rfl,h⟩:=h;replace h:=dj h;obtain⟨a,rfl,h⟩:=h;replace h:=oi h;obtain⟨⟨rfl,c1,c2,c3,c4⟩,h⟩:=h;obtain⟨y,hy,h⟩:=ob h;cases h;exact{_,_,rfl,(eC o c1).1,o.T.bl (mX c2),c3,rc.e o hy,bp c4}
def xE:d3:=λR g e=>oN e λx es p=>n1 es λb=>if x="list"/\jT g x=true/\(match g.T.lookup x with|some .bl=>true|_=>false)=true then(cR R g "range" b).bind λq=>some (mf (g.cl p) q.2) else none
def xD:SE xE:=λ{fa n R} rc {g X} o {a ga} h=>by
 replace h:=iE h;obtain⟨x,q,es,p,rfl,h⟩:=h;replace h:=dj h;obtain⟨b,rfl,h⟩:=h;replace h:=oi h;obtain⟨⟨rfl,c1,c2⟩,h⟩:=h;obtain⟨⟨b,y⟩,hq,h⟩:=ob h;cases h;obtain⟨_,_,rfl,hg,hm,lv,d,hs⟩:=pq rc o hq;exact E9 _ (o.calm lv) d (eC o c1).1 (o.T.bl (mX c2)) hg hm hs rfl
def AF (x:Str):Option Ty:=if x="int" then some .int else if x="bool" then some .bool else if x="str" then some .str else if x="tuple" then some .tuple else if x="list" then some .list else none
def EH {x:Str}{t:Ty}(h:AF x=some t):bootBuiltins x=some (.type (tyName t))/\(∀c,t≠.own c)/\x≠"__name__"/\(x==("__debug__":Str))=false:=by
 unfold AF at h;split at h
 ·subst x;cases h;exact{`k,(λ_ z=>nomatch z),`d,`d}
 split at h
 ·subst x;cases h;exact{`k,(λ_ z=>nomatch z),`d,`d}
 split at h
 ·subst x;cases h;exact{`k,(λ_ z=>nomatch z),`d,`d}
 split at h
 ·subst x;cases h;exact{`k,(λ_ z=>nomatch z),`d,`d}
 split at h
 ·subst x;cases h;exact{`k,(λ_ z=>nomatch z),`d,`d}
 ·cases h
def cI (R:Rc)(g:G)(e:Expr):Option (Str×GE):=oN e λy es _=>n2 es λa b=>nName b λx _=>if y="isinstance"/\jT g y=true/\(match g.T.lookup y with|some .bl=>true|_=>false)=true/\jT g x=true/\notStar a=true then(R.e g a).bind λz=>some (x,z) else none
def Ma {fa:Fa}{n:Nat}{R:Rc}(rc:ie fa n R){g:G}{X:Cx}(o:dR fa n g X){e:Expr}{x:Str}{ga:GE}(h:cI R g e=some (x,ga)):∃p q a pos,e=.Call (.Name "isinstance" p) [a,.Name x q] [] pos/\Gl X "isinstance"/\X.mg "isinstance"=none/\Gl X x/\(x==("__debug__":Str))=false/\DE fa X a ga/\starEach [a,.Name x q] X.env=(false,eval a X.env)::starEach [.Name x q] X.env:=by
 replace h:=iE h;obtain⟨y,q,es,p,rfl,h⟩:=h;replace h:=ip h;obtain⟨a,b,rfl,h⟩:=h;replace h:=c8 h;obtain⟨x,q2,rfl,h⟩:=h;replace h:=oi h;obtain⟨⟨rfl,c1,c2,c3,c4⟩,h⟩:=h;obtain⟨z,hz,h⟩:=ob h;cases h;exact{_,_,_,_,rfl,(eC o c1).1,o.T.bl (mX c2),(eC o c3).1,(eC o c3).2,rc.e o hz,bp c4}
def CT:d3:=λR g e=>(cI R g e).bind λq=>if (match g.T.lookup q.1 with|some .bl=>true|_=>false)=true then(AF q.1).bind λt=>some (cQ t q.2) else none
def Aw:SE CT:=λ{fa n R} rc {g X} o {a ga} h=>by
 obtain⟨⟨x,z⟩,hq,h⟩:=ob h;obtain⟨c,h⟩:=oi h;obtain⟨t,ht,h⟩:=ob h;cases h;obtain⟨_,_,_,_,rfl,hg,hm,hx,hd,d,hs⟩:=Ma rc o hq;obtain⟨b1,b2,b3,b4⟩:=EH ht;exact J1 t b2 d hg hm `k hx (o.T.bl (mX c)) b1 b3 b4 hs
def C0:d3:=λR g e=>oN e λx es _=>nC es λa es=>if 0<g.lv then(match vr g x with
 |some i=>(cA (R.e g) (a::es)).bind λgs=>some (mh i g.c gs)
 | none => if jT g x = true then(match g.T.lookup x with
   |some (.fn i _)=>(cA (R.e g) (a::es)).bind λgs=>some (au i g.c gs)
   |_=>none) else none) else none
def AD:SE C0:=λ{fa n R} rc {g X} o {a ga} h=>by
 replace h:=iE h;obtain⟨x,q,es,p,rfl,h⟩:=h;replace h:=jO h;obtain⟨a,es,rfl,h⟩:=h
 ·obtain⟨lv,h⟩:=oi h;split at h
  ·next e=>
   obtain⟨gs,hgs,h⟩:=ob h;cases h;obtain⟨d,ns⟩:=jW (rc.e o) hgs;rw[PL,OF] at ns;obtain⟨a,b,c1,c2⟩:=CO o e;exact Gq (o.C lv) ((o.hr lv).mono (Nat.le_succ _)) a b d c1 c2 (bp ns.1) (eG ns.2)
  ·obtain⟨c,h⟩:=oi h;split at h
   ·next e=>
    obtain⟨gs,hgs,h⟩:=ob h;cases h;obtain⟨d,ns⟩:=jW (rc.e o) hgs;rw[PL,OF] at ns;exact J6 (o.C lv _) ((o.hr lv).mono (Nat.le_succ _)) (eC o c).1 (o.T.fn e) d (eC o c).2 (bp ns.1) (eG ns.2)
   ·cases h
def CI:d3:=λR g e=>(oN e λx es _=>nC es λa es=>if 2<=g.lv/\jT g x=true then(match g.T.lookup x with
 |some (.fn i true)=>(cA (R.e g) (a::es)).bind λgs=>some (cU i g.c gs)
 |_=>none) else none).or (Bw e λc a b _=>(R.x g a).bind λx=>(R.x g b).bind λy=>(R.t g c).bind λt=>some (wF t x y))
def Aj:SX CI:=λ{fa n R} rc {g X} o {a ga} h=>by
 replace h:=bO h;rcases h with h|h
 ·replace h:=iE h;obtain⟨x,q,es,p,rfl,h⟩:=h;replace h:=jO h;obtain⟨a,es,rfl,h⟩:=h;replace h:=oi h;obtain⟨⟨lv,c⟩,h⟩:=h;split at h
  ·next e=>
   replace h:=ob h;obtain⟨gs,hgs,h⟩:=h;cases h;obtain⟨d,ns⟩:=jW (rc.e o) hgs;rw[PL,OF] at ns;exact x_call _ (o.C `a) ((o.hr `a).mono (Nat.le_succ _)) (o.top lv).1 (eC o c).1 (o.T.fn e) d (eC o c).2 ns.1 ns.2
  ·cases h
 ·replace h:=u2 h;obtain⟨c,a,b,p,rfl,h⟩:=h;obtain⟨x,hx,h⟩:=ob h;obtain⟨y,hy,h⟩:=ob h;obtain⟨t,ht,h⟩:=ob h;cases h;exact Kw (rc.t o ht) (rc.x o hx) (rc.x o hy)
def kA:Expr->Bool
 |.Call ..=>false
 |_=>true
def ia {a:Expr}{m:Str}{env:Pp}{w:Sem Ox}(h:kA a=true):attributeBase a m env w=w:=by
 cases a<;>first|rfl|cases h
def Mj:d3:=λR g e=>IT e λl _=>nC l λa l=>n2 l λb c=>Bv a λz=>MD b λb=>Bv c λy=>(R.e g b).bind λx=>some (tH z y x)
def G6:SE Mj:=λ{fa n R} rc {g X} o {a ga} h=>by
 replace h:=FE h;obtain⟨l,p,rfl,h⟩:=h;replace h:=jO h;obtain⟨a,l,rfl,h⟩:=h;replace h:=ip h;obtain⟨b,c,rfl,h⟩:=h;replace h:=u1 h;obtain⟨z,_,_,rfl,h⟩:=h;replace h:=IV h;obtain⟨b,_,rfl,h⟩:=h;replace h:=u1 h;obtain⟨y,_,_,rfl,h⟩:=h;obtain⟨x,hx,h⟩:=ob h;cases h;exact Ni (rc.e o hx)
def CM:qT:=λR g _ e=>(cR R g "range" e).bind λq=>some (dX q.2)
def Aq:SW CM:=λ{fa n R} rc {g X} o {t a ga} h=>by
 obtain⟨⟨b,y⟩,hq,h⟩:=ob h;cases h;obtain⟨_,_,rfl,hg,hm,_,d,hs⟩:=pq rc o hq;exact Gf d hg hm hs
def CN:qT:=λR g t e=>pO t λ_ _ _=>(cR R g "enumerate" e).bind λq=>some (g6 q.2)
def Ar:SW CN:=λ{fa n R} rc {g X} o {t a ga} h=>by
 replace h:=hZ h;obtain⟨_,_,_,rfl,h⟩:=h;obtain⟨⟨b,y⟩,hq,h⟩:=ob h;cases h;obtain⟨_,_,rfl,hg,hm,_,d,hs⟩:=pq rc o hq;exact Gh d hg hm hs
def cN (R:Rc)(g:G)(nm:Str)(e:Expr):Option (List Expr):=oN e λx es _=>if x=nm/\jT g x=true/\(match g.T.lookup x with|some .bl=>true|_=>false)=true/\0<g.lv/\es.all notStar=true then some es else none
def DZ {fa:Fa}{n:Nat}{R:Rc}{nm:Str}{g:G}{X:Cx}(o:dR fa n g X){e:Expr}{es:List Expr}(h:cN R g nm e=some es):∃p pos,e=.Call (.Name nm p) es [] pos/\Gl X nm/\X.mg nm=none/\es.all notStar=true:=by
 replace h:=iE h;obtain⟨x,q,es,p,rfl,h⟩:=h;replace h:=oi h;obtain⟨⟨rfl,c1,c2,c3,c4⟩,h⟩:=h;cases h;exact{_,_,rfl,(eC o c1).1,o.T.bl (mX c2),c4}
def n9 {env:Pp}:∀{es:List Expr},es.all notStar=true->starEach es env=es.map λa=>(false,eval a env)
 |[],_=>rfl
 | a :: es, h => by
   rw[PL,OF] at h;rw[bp h.1,n9 h.2];rfl
def CK:qT:=λR g _ e=>(cN R g "range" e).bind λes=>n2 es λa b=>(R.e g a).bind λx=>(R.e g b).bind λy=>some (mP x y)
def Ap:SW CK:=λ{fa n R} rc {g X} o {t a ga} h=>by
 obtain⟨es,hq,k⟩:=ob h;clear h;obtain⟨_,_,rfl,hg,hm,ns⟩:=DZ o hq;replace k:=ip k;obtain⟨a,b,rfl,k⟩:=k;obtain⟨x,hx,k⟩:=ob k;obtain⟨y,hy,k⟩:=ob k;cases k;rw[PL,OF] at ns;exact Ge (rc.e o hx) (rc.e o hy) hg hm (n9 (by rw[PL,ns.1,ns.2];rfl)) (n9 ns.2)
def CJ:qT:=λR g t e=>pO t λ_ _ _=>(cN R g "zip" e).bind λes=>n2 es λa b=>(R.e g a).bind λx=>(R.e g b).bind λy=>some (oU x y)
def Ao:SW CJ:=λ{fa n R} rc {g X} o {t a ga} h=>by
 replace h:=hZ h;obtain⟨_,_,_,rfl,h⟩:=h;obtain⟨es,hq,k⟩:=ob h;clear h;obtain⟨_,_,rfl,hg,hm,ns⟩:=DZ o hq;replace k:=ip k;obtain⟨a,b,rfl,k⟩:=k;obtain⟨x,hx,k⟩:=ob k;obtain⟨y,hy,k⟩:=ob k;cases k;exact Gd (rc.e o hx) (rc.e o hy) hg hm (n9 ns) (n9 (QA.mp (PL ▸ ns)).2)
def GX:qT:=λR g _ e=>if g.tx e.pos=false then(R.e g e).bind λx=>some (cz x) else none
def Er:SW GX:=λ{fa n R} rc {g X} o {t a ga} h=>by
 obtain⟨_,h⟩:=oi h;obtain⟨x,hx,h⟩:=ob h;cases h;exact JW (rc.e o hx)
def jw:Expr->Bool
 |.Set ..=>false
 |_=>true
def tL {a:Expr}{env:Pp}(h:jw a=true)(x:Ox):foldedSetIterable a env x=pure x:=by
 cases a<;>first|rfl|cases h
def sH:Expr->List Str
 |.Name x _=>[x]
 |.Tuple es _ _=>(es.map fun|.Name x _=>[x]|.Tuple bs _ _=>bs.filterMap (fun|.Name x _=>some x|_=>none)|_=>[]).flatten
 |_=>[]
def ud (g:G)(own:List Str):List Str:=g.N.map λx=>if own.contains x then x++("%":Str) else x
def Bd (scope sc:Scope):Scope:={scope with names:=scope.names.map λ(n,k)=>if (k==.free&&sc.kind==.function&&sc.names.lookup n==some .cell) then(n,.cell) else(n,k)}
def G.inC (g:G)(own:List Str)(scope:Scope):G:={g with N:=own++ud g own,sc:=Bd scope g.sc,lv:=1,oc:=(scope.names.filter λy=>scope.names.lookup y.1==some .cell).map (·.1)}
def sL (g:G)(own:List Str)(scope:Scope):Prop:=0<g.lv/\scope.kind=.function/\qe (ud g own) g.N g.sc scope=true/\(own++ud g own).Nodup
instance (g:G) (own:List Str) (scope:Scope):Decidable (sL g own scope):=by unfold sL;infer_instance
def rB {fa:Fa}{n:Nat}{g:G}{X:Cx}(o:dR fa n g X){own:List Str}{scope:Scope}(c:sL g own scope):fv X own (ud g own) scope/\∀cl C fp s H,dR fa n (g.inC own scope) (fD X own (ud g own) scope cl C fp s H):=by
 obtain⟨c1,c2,c3,c4⟩:=c;refine{zP c2 o.sc o.N c3,λcl C fp s H=>{rfl,c4,?_,o.T,o.tw,o.xf,o.ms,(λz=>absurd rfl z),(λx hx=>by obtain⟨y,hy,e⟩:=OK.mp hx;subst e;exact(QW.mp hy).2),λ_=>o.calm c1,λ_=>o.C c1,λ_=>o.hr c1,(λz=>absurd (show 2<=1 from z) `d),(λz=>nomatch z)}}
 show relabel scope X.env=Bd scope g.sc;unfold relabel Bd Env.kindOf;rw[o.sc]
structure Kt (fa:Fa) (X:Cx) (e:Expr) (k:Nat) (t:cf) (gw:GW) (gb:GB):Prop where
 ex:∃elt tg iter ifs rest scope pos own bn W body,e=.ListComp elt ({tg,iter,ifs,0}::rest) scope pos/\k=own.length/\fv X own bn scope/\DI fa X tg iter gw/\Block fa X (LA fa X.K) own bn scope tg t W body gb/\mB X elt tg iter ifs rest scope pos body/\(∀i∈W,i∉slots t)/\(∀i∈slots t++W,i<own.length)/\∀x,foldedSetIterable iter X.env x=pure x
def cC (R:Rc)(g:G)(e:Expr):Option (Nat×cf×GW×GB):=Dl e λelt gens scope _=>(n1 gens λc=>nG c λtg iter ifs=>let own:=sH tg
 if sL g own scope/\jw iter=true then(R.w g tg iter).bind λw=>(cG (g.inC own scope) tg).bind λt=>(R.e (g.inC own scope) elt).bind λx=>if (slots t).all (· < own.length)=true then(n0 ifs (some (own.length,t,w,bw x))).or (n1 ifs λc=>(R.t (g.inC own scope) c).bind λq=>some (own.length,t,w,tD q (bw x))) else none else none).or
 (n2 gens λc d=>nG c λtg iter ifs=>nG d λt2 i2 ifs2=>let own:=sH tg++sH t2
  n0 ifs (n0 ifs2 (if sL g own scope/\jw iter=true/\jw i2=true then(R.w g tg iter).bind λw=>(cG (g.inC own scope) tg).bind λt=>(R.w (g.inC own scope) t2 i2).bind λw2=>(cG (g.inC own scope) t2).bind λu=>(R.e (g.inC own scope) elt).bind λx=>if (slots t++slots u).all (· < own.length)=true/\(slots u).all (λi=>!(slots t).contains i)=true then some (own.length,t,w,tG u w2 (bw x)) else none else none)))
def D3 {fa:Fa}{n:Nat}{R:Rc}(rc:ie fa n R){g:G}{X:Cx}(o:dR fa n g X){e:Expr}{k:Nat}{t:cf}{gw:GW}{gb:GB}(h:cC R g e=some (k,t,gw,gb)):Kt fa X e k t gw gb:=by
 replace h:=sS h;obtain⟨elt,gens,scope,p,rfl,h⟩:=h;replace h:=bO h;rcases h with h|h
 ·replace h:=dj h;obtain⟨c,rfl,h⟩:=h;replace h:=oK h;obtain⟨tg,iter,ifs,rfl,h⟩:=h;replace h:=oi h;obtain⟨⟨c,cs⟩,h⟩:=h;replace h:=ob h;obtain⟨w,hw,h⟩:=h;replace h:=ob h;obtain⟨t,ht,h⟩:=h;replace h:=ob h;obtain⟨x,hx,h⟩:=h;replace h:=oi h;obtain⟨c2,h⟩:=h;obtain⟨S,O⟩:=rB o c;replace h:=bO h;rcases h with h|h
  ·replace h:=dU h;obtain⟨rfl,h⟩:=h;cases h;exact{_,_,_,_,_,_,_,_,_,[],(λa env=>eval elt env >>= λx=>call (.builtin "list.append") [.ref a,x] >>= λ_=>pure ()),rfl,rfl,S,rc.w o hw,{λcl C fp s H=>i8 (O cl C fp s H) ht,λcl C fp s H a=>pd (rc.e (O cl C fp s H) hx)},(λit a env=>rP _ _ _ [] _ _ (.ref it) (.ref a) env),(λi h=>nomatch h),(by simpa using jq c2),tL cs}
  ·replace h:=dj h;obtain⟨d,rfl,h⟩:=h;replace h:=ob h;obtain⟨q,hq,h⟩:=h;cases h;exact{_,_,_,_,_,_,_,_,_,[],(λa env=>PySem.isTrue d env (eval d env) >>= λok=>if ok=true then(eval elt env >>= λx=>call (.builtin "list.append") [.ref a,x] >>= λ_=>pure ()) else pure ()),rfl,rfl,S,rc.w o hw,{λcl C fp s H=>i8 (O cl C fp s H) ht,λcl C fp s H a=>LL LA.stab (rc.t (O cl C fp s H) hq) (pd (rc.e (O cl C fp s H) hx))},(λit a env=>turn_if _ _ _ _ _ _ (.ref it) (.ref a) env),(λi h=>nomatch h),(by simpa using jq c2),tL cs}
 ·replace h:=ip h;obtain⟨c,d,rfl,h⟩:=h;replace h:=oK h;obtain⟨tg,iter,ifs,rfl,h⟩:=h;replace h:=oK h;obtain⟨t2,i2,ifs2,rfl,h⟩:=h;replace h:=dU h;obtain⟨rfl,h⟩:=h;replace h:=dU h;obtain⟨rfl,h⟩:=h;obtain⟨⟨c,cs,cs2⟩,h⟩:=oi h;obtain⟨w,hw,h⟩:=ob h;obtain⟨t,ht,h⟩:=ob h;obtain⟨w2,hw2,h⟩:=ob h;obtain⟨u,hu,h⟩:=ob h;obtain⟨x,hx,h⟩:=ob h;obtain⟨⟨c2,c3⟩,h⟩:=oi h;cases h;obtain⟨S,O⟩:=rB o c;exact{_,_,_,_,_,_,_,_,_,slots u,(λa env=>eval i2 env >>= λx=>standAt i2.pos >>= λ_=>foldedSetIterable i2 env x >>= λx=>holding [x] (pyIter x) >>= λj=>runOwn (.compStart (.ListComp elt [{tg,iter,[],0},{t2,i2,[],0}] scope p) 1 j (.ref a) env) env >>= λ_=>pure ()),rfl,rfl,S,rc.w o hw,{λcl C fp s H=>i8 (O cl C fp s H) ht,λcl C fp s H a=>JZ (X:=fD X _ _ _ cl C fp s H) rfl (o.calm c.1) (rc.w (O cl C fp s H) hw2) (i8 (O cl C fp s H) hu) (rc.e (O cl C fp s H) hx) (tL cs2)},(λit a env=>AH _ _ _ _ _ _ _ (.ref it) (.ref a) env),yh c3,jq c2,tL cs}
def CY:d3:=λR g e=>if 0<g.lv then(cC R g e).bind λq=>some (bo (g.cl e.pos) q.1 q.2.1 q.2.2.1 q.2.2.2) else none
def AA:SE CY:=λ{fa n R} rc {g X} o {a ga} h=>by
 obtain⟨lv,h⟩:=oi h;obtain⟨⟨k,t,w,b⟩,hq,h⟩:=ob h;cases h;obtain⟨elt,tg,iter,ifs,rest,scope,pos,own,bn,W,body,rfl,rfl,S,hi,B,T,h1,h2,h3⟩:=(D3 rc o hq).ex;exact zH _ S (o.calm lv) hi B T h1 h2 h3
def pj (f:Stmt->Option GS):List Stmt->Option GS
 |[]=>some ai
 |a::r=>(f a).bind λx=>(pj f r).bind λy=>some (af x y)
def iJ {fa:Fa}{X:Cx}{f:Stmt->Option GS}(hf:∀{a:Stmt}{ga:GS},f a=some ga->DS fa X a ga):∀{ss:List Stmt}{gs:GS},pj f ss=some gs->kI fa X ss gs
 |[],_,h=>by cases h;exact F6
 | a :: r, _, h => by
   obtain⟨x,hx,h⟩:=ob h;obtain⟨y,hy,h⟩:=ob h;cases h;exact B9 (hf hx) (iJ hf hy)
def uV:Expr->Bool
 |.ListComp ..=>false
 |.SetComp ..=>false
 |.DictComp ..=>false
 |_=>true
def uW {a:Expr}{t:Option Expr}{l:Nat}{env:Pp}(h:uV a=true):swapsWith a t l env=pure false:=by
 cases a<;>first|rfl|cases h
def Kg (g:G)(tg a:Expr):Bool:=match a with
 |.ListComp ..=>(match tg with|.Name y _=>g.sc.names.lookup y==some .cell|_=>false)
 |.Tuple ..=>(match tg with|.Name ..=>true|_=>false)
 |.SetComp ..=>false
 |.DictComp ..=>false
 |_=>true
def Kf {fa:Fa}{n:Nat}{g:G}{X:Cx}(o:dR fa n g X){tg a:Expr}{t:cf}{l:Nat}(c:Kg g tg a=true)(ht:cG g tg=some t):swapsWithSole [tg] a l X.env=pure false/\swappedStores [tg] a X.env=pure none/\(assignEach [tg] X.env).map (·.2)=[assign tg X.env]:=by
 refine{?_,?_,?_}
 ·cases a<;>first|rfl|cases c|skip
  cases tg<;>first|cases c|skip
  next y p=>
  have e:=eq_of_beq c;have hk:(X.env.kindOf y==some .local)=false:=by unfold Env.kindOf;rw[o.sc,e];rfl
  show(pure (X.env.blockKind==.function&&X.env.kindOf y==some .local&&_&&_):Sem Bool)=pure false;rw[hk,Bool.and_false,Bool.false_and,Bool.false_and]
 ·replace ht:=bO ht;rcases ht with h|h
  ·replace h:=c8 h;obtain⟨_,_,rfl,_⟩:=h;cases a<;>first|rfl|cases c
  ·replace h:=hZ h;obtain⟨_,_,_,rfl,_⟩:=h;cases a<;>first|rfl|cases c
 ·replace ht:=bO ht;rcases ht with h|h
  ·replace h:=c8 h;obtain⟨_,_,rfl,_⟩:=h;rfl
  ·replace h:=hZ h;obtain⟨_,_,_,rfl,_⟩:=h;rfl
def GO:kG:=λR g st=>si st λts a _=>n1 ts λtg=>if Kg g tg a=true then(cG g tg).bind λt=>((R.x g a).bind λx=>some (fK t x)).or ((R.e g a).bind λx=>some (aC t x)) else none
def El:SS GO:=λ{fa n R} rc {g X} o {a ga} h=>by
 replace h:=mJ h;obtain⟨ts,a,p,rfl,h⟩:=h;replace h:=dj h;obtain⟨tg,rfl,h⟩:=h;obtain⟨c,h⟩:=oi h;obtain⟨t,ht,h⟩:=ob h;obtain⟨a1,a2,a3⟩:=Kf (l:=p.line) o c ht;replace h:=bO h;rcases h with h|h
 ·obtain⟨x,e,h⟩:=ob h;cases h;exact Hx (rc.x o e) (i8 o ht) a1 a2 a3
 ·obtain⟨x,hx,h⟩:=ob h;cases h;exact JS (rc.e o hx) (i8 o ht) a1 a2 a3
def CF:kG:=λR g st=>si st λts d _=>n1 ts λt=>nName t λy py=>Dl d λelt gens scope p=>if 2<=g.lv/\g.sc.names.lookup y=some .local/\(py.line==p.line)=true/\(scope.names.any λ(n,k)=>n==y&&(k==.local||k==.cell))=false then(cC R g (.ListComp elt gens scope p)).bind λq=>(g.N.findIdx? (·==y)).bind λi=>some (aC (.one i) (bo (g.cl p) q.1 q.2.1 q.2.2.1 q.2.2.2)) else none
def Af:SS CF:=λ{fa n R} rc {g X} o {a ga} h=>by
 replace h:=mJ h;obtain⟨ts,d,_,rfl,h⟩:=h;replace h:=dj h;obtain⟨t,rfl,h⟩:=h;replace h:=c8 h;obtain⟨y,py,rfl,h⟩:=h;replace h:=sS h;obtain⟨_,_,sc0,p,rfl,h⟩:=h
 ·next=>
  obtain⟨⟨lv,c1,c2,c3⟩,h⟩:=oi h;obtain⟨⟨k,t,w,b⟩,hq,h⟩:=ob h;obtain⟨i,hi,h⟩:=ob h;cases h;obtain⟨elt,tg,iter,ifs,rest,scope,pos,own,bn,W,body,e0,rfl,S,hi',B,T,h1,h2,h3⟩:=(D3 rc o hq).ex;cases e0;have hl:X.env.scope.names.lookup y=some .local:=by rw[o.sc];exact c1
  refine wJ _ S (o.calm `a) hi' B T h1 h2 h3 (o.N ▸ o.nd) (wB o hi) hl ?_
  have hk:=(o.top lv).2.2.2;have hb:(X.env.blockKind==.function)=true:=by unfold Env.blockKind;rw[hk];rfl
  have hkd:(X.env.kindOf y==some .local)=true:=by unfold Env.kindOf;rw[hl];rfl
  show(pure (X.env.blockKind==.function&&X.env.kindOf y==some .local&&(py.line==p.line)&&!(sc0.names.any λ(n,k)=>n==y&&(k==.local||k==.cell))):Sem Bool)=pure true;rw[hb,hkd,c2,c3];rfl
def GN:kG:=λR g st=>si st λts d _=>n1 ts λt=>pP t λa b _=>if kz b=true then(R.e g a).bind λx=>(R.e g b).bind λy=>(R.e g d).bind λz=>some (d4 x y z) else none
def Ej:SS GN:=λ{fa n R} rc {g X} o {a ga} h=>by
 replace h:=mJ h;obtain⟨ts,d,_,rfl,h⟩:=h;replace h:=dj h;obtain⟨t,rfl,h⟩:=h;replace h:=kB h;obtain⟨a,b,p2,rfl,h⟩:=h
 ·next=>
  obtain⟨c,h⟩:=oi h;obtain⟨x,hx,h⟩:=ob h;obtain⟨y,hy,h⟩:=ob h;obtain⟨z,hz,h⟩:=ob h;cases h;refine JO (rc.e o hx) (rc.e o hy) (rc.e o hz) (λv=>?_) ?_ ?_ rfl
  ·cases b<;>first|rfl|cases c
  ·cases d<;>rfl
  ·cases d<;>rfl
def GP:kG:=λR g st=>vW st λe _=>Dm e λa m d q=>if m="append"/\kA a=true/\q=true/\notStar d=true then(R.e g a).bind λx=>(R.e g d).bind λy=>some (d5 x y) else none
def Em:SS GP:=λ{fa n R} rc {g X} o {a ga} h=>by
 replace h:=pF h;obtain⟨e,_,rfl,h⟩:=h;replace h:=sT h;obtain⟨a,m,q,d,p,rfl,h⟩:=h;replace h:=oi h;obtain⟨⟨rfl,c1,c2,c3⟩,h⟩:=h;obtain⟨x,hx,h⟩:=ob h;obtain⟨y,hy,h⟩:=ob h;cases h;exact JT (rc.e o hx) (rc.e o hy) (ia c1) c2 (bp c3) rfl
def GL:kG:=λR g st=>(vW st λa _=>if uV a=true then((R.x g a).bind λx=>some (iS x)).or ((R.e g a).bind λx=>some (yp x)) else none).or
 ((Ms st λq _ => match q with
   |none=>some C8
   |some a=>((R.x g a).bind λx=>some (vV x)).or ((R.e g a).bind λx=>some (aS x))).or
 ((Mv st λ_=>some C9).or
 ((Mw st λc st sf _=>(R.t g c).bind λt=>(pj (R.s g) st).bind λx=>(pj (R.s g) sf).bind λy=>some (aV t x y)).or
 (Mx st λtg a body el _=>n0 el (if g.lv=2/\jw a=true then(R.w g tg a).bind λw=>(cG g tg).bind λt=>(pj (R.s g) body).bind λx=>some (cD t w x) else none)))))
def Ei:SS GL:=λ{fa n R} rc {g X} o {a ga} h=>by
 replace h:=bO h;rcases h with h|h
 ·replace h:=pF h;obtain⟨a,p,rfl,h⟩:=h;obtain⟨c,h⟩:=oi h;rcases bO h with h|h
  ·obtain⟨x,e,h⟩:=ob h;cases h;exact KO (rc.x o e) (uW c)
  ·obtain⟨x,hx,h⟩:=ob h;cases h;exact LJ (rc.e o hx) (uW c)
 replace h:=bO h;rcases h with h|h
 ·replace h:=HB h;obtain⟨q,p,rfl,h⟩:=h;cases q with
  |none=>cases h;exact F7
  | some a =>
    rcases bO h with h|h
    ·obtain⟨x,e,h⟩:=ob h;cases h;exact Hu (rc.x o e)
    ·obtain⟨x,hx,h⟩:=ob h;cases h;exact JN (rc.e o hx)
 replace h:=bO h;rcases h with h|h
 ·replace h:=HE h;obtain⟨p,rfl,h⟩:=h;cases h;exact F8
 replace h:=bO h;rcases h with h|h
 ·replace h:=HG h;obtain⟨c,st,sf,p,rfl,h⟩:=h;obtain⟨t,ht,h⟩:=ob h;obtain⟨x,hx,h⟩:=ob h;obtain⟨y,hy,h⟩:=ob h;cases h;exact JP (rc.t o ht) (iJ (rc.s o) hx) (iJ (rc.s o) hy)
 ·replace h:=HH h;obtain⟨tg,a,body,el,p,rfl,h⟩:=h;replace h:=dU h;obtain⟨rfl,h⟩:=h;obtain⟨⟨lv,c⟩,h⟩:=oi h;obtain⟨w,hw,h⟩:=ob h;obtain⟨t,ht,h⟩:=ob h;obtain⟨x,hx,h⟩:=ob h;cases h;exact JQ (o.po lv) (o.calm `a) (rc.w o hw) (i8 o ht) (iJ (rc.s o) hx) (tL c)
def xq:kG:=λR g st=>HC st λe c _=>if c.isNone=true then e.bind λe=>oN e λx es _=>nC es λa es=>if 2<=g.lv/\jT g x=true then(match g.T.lookup x with
 |some (.xc k)=>(cA (R.e g) (a::es)).bind λgs=>some (gQ k gs)
 |_=>none) else none else none
def xp:SS xq:=λ{fa n R} rc {g X} o {a ga} h=>by
 replace h:=E7 h;obtain⟨e,c,_,rfl,h⟩:=h;replace h:=oi h;obtain⟨c,h⟩:=h;rw[QS.mp c];replace h:=ob h;obtain⟨e,rfl,h⟩:=h;replace h:=iE h;obtain⟨x,q,es,p,rfl,h⟩:=h;replace h:=jO h;obtain⟨a,es,rfl,h⟩:=h
 ·obtain⟨⟨lv,c⟩,k⟩:=oi h;clear h;split at k
  ·next e=>
   obtain⟨gs,hgs,k⟩:=ob k;cases k;obtain⟨d,ns⟩:=jW (rc.e o) hgs;rw[PL,OF] at ns;obtain⟨C,h1,h2,h3,_⟩:=o.T.xc e;exact E6 _ ⟨C,h1,h2,h3⟩ (o.top lv).1 (eC o c).1 (o.calm `a) d (eC o c).2 ns.1 ns.2
  ·cases k
def BY {fa:Fa}{n:Nat}{g:G}{X:Cx}(o:dR fa n g X)(lv:2<=g.lv)(pn:List (Addr×Obj))(E:Ox->Oy->Prop):dR fa n {g with lv:=3} (oR X pn E):={o.N,o.nd,o.sc,o.T,o.tw,o.xf,o.ms,λ_=>o.fn `a,o.oc,λ_=>o.calm `a,λ_=>o.C `a,λ_=>o.hr `a,λ_=>o.top lv,(λz=>nomatch z)}
def BZ {fa:Fa}{n:Nat}{g:G}{X:Cx}(o:dR fa n g X)(lv:2<=g.lv)(v:Ox)(E:Ox->Oy->Prop):dR fa n {g with lv:=0} (rn X v E):={o.N,o.nd,o.sc,o.T,o.tw,o.xf,o.ms,λ_=>o.fn `a,o.oc,(λz=>absurd (show 0<0 from z) `d),(λz=>absurd (show 0<0 from z) `d),(λz=>absurd (show 0<0 from z) `d),(λz=>absurd (show 2<=0 from z) `d),(λz=>nomatch z)}
def uB:kG:=λR g st=>Mr st λbody hs el fi _=>n0 el (n0 fi (n1 hs fun
 |.ExceptHandler t nm su _=>t.bind λt=>nName t λx _=>nC su λb suite=>if nm.isNone=true/\2<=g.lv/\jT g x=true then(g.tw.find? λq=>q.1==x&&q.2.1==x&&q.2.2.1==q.2.2.2).bind λq=>(pj (R.s {g with lv:=3}) body).bind λu=>(pj (R.s {g with lv:=0}) (b::suite)).bind λv=>some (lW u q.2.2.1 q.2.2.1 v) else none))
def vJ:SS uB:=λ{fa n R} rc {g X} o {a ga} h=>by
 replace h:=HA h;obtain⟨body,hs,el,fi,_,rfl,h⟩:=h;replace h:=dU h;obtain⟨rfl,h⟩:=h;replace h:=dU h;obtain⟨rfl,h⟩:=h;replace h:=dj h;obtain⟨hd,rfl,h⟩:=h;obtain⟨t,nm,su,_⟩:=hd;replace h:=ob h;obtain⟨t,rfl,h⟩:=h;replace h:=c8 h;obtain⟨x,_,rfl,h⟩:=h;replace h:=jO h;obtain⟨b,suite,rfl,h⟩:=h;obtain⟨⟨cn,lv,c⟩,k⟩:=oi h;clear h;rw[QS.mp cn];obtain⟨q,hq,k⟩:=ob k;obtain⟨u,hu,k⟩:=ob k;obtain⟨v,hv,k⟩:=ob k;cases k;have tw:=o.tw q (List.mem_of_find?_eq_some hq);have e:=List.find?_some hq;rw[OF,OF] at e;rw[eq_of_beq e.1.1,eq_of_beq e.1.2,<- eq_of_beq e.2] at tw;have tp:=o.top lv;exact Ba tw tp.1 tp.2.1 tp.2.2.1 (eC o c).1 (eC o c).2 (λpn E=>iJ (rc.s (BY o lv pn E)) hu) (λv E=>iJ (rc.s (BZ o lv v E)) hv)
section
variable{β:Type}{e:Expr}{st:Stmt}{r:β}
def Bx (e:Expr)(k:List (Option Expr)->List Expr->Pos->Option β):Option β:=if h:e.ctorIdx=6 then @Expr.Dict.elim (λ_=>Option β) e h k else none
def u3 {k:List (Option Expr)->List Expr->Pos->Option β}(h:Bx e k=some r):∃a b c,e=.Dict a b c/\k a b c=some r:=(od h).elim λz h=>@Expr.Dict.elim (λe=>∀z,@Expr.Dict.elim (λ_=>Option β) e z k=some r->∃a b c,e=.Dict a b c/\k a b c=some r) e z (λa b c _ h=>⟨a,b,c,rfl,h⟩) z h
def Mq (e:Stmt)(k:Expr->List Stmt->List Stmt->Pos->Option β):Option β:=if h:e.ctorIdx=11 then @Stmt.While.elim (λ_=>Option β) e h k else none
def Hz {k:Expr->List Stmt->List Stmt->Pos->Option β}(h:Mq st k=some r):∃a b c d,st=.While a b c d/\k a b c d=some r:=(od h).elim λz h=>@Stmt.While.elim (λe=>∀z,@Stmt.While.elim (λ_=>Option β) e z k=some r->∃a b c d,e=.While a b c d/\k a b c d=some r) st z (λa b c d _ h=>⟨a,b,c,d,rfl,h⟩) z h
def ME (e:Expr)(k:Expr->Expr->List Qb->Scope->Pos->Option β):Option β:=if h:e.ctorIdx=10 then @Expr.DictComp.elim (λ_=>Option β) e h k else none
def IW {k:Expr->Expr->List Qb->Scope->Pos->Option β}(h:ME e k=some r):∃a b c d p,e=.DictComp a b c d p/\k a b c d p=some r:=(od h).elim λz h=>@Expr.DictComp.elim (λe=>∀z,@Expr.DictComp.elim (λ_=>Option β) e z k=some r->∃a b c d p,e=.DictComp a b c d p/\k a b c d p=some r) e z (λa b c d p _ h=>⟨a,b,c,d,p,rfl,h⟩) z h
end
def mw {fa:Fa}{n:Nat}{g:G}{X:Cx}(o:dR fa n g X):fJ fa:=⟨o.T.of,o.T.od.1,o.T.od.2⟩
def CW:d3:=λR g e=>pP e λa b p=>if g.tx p=true/\kz b=true/\0<g.lv then(R.e g a).bind λx=>(R.e g b).bind λy=>some (fZ x y) else none
def Az:SE CW:=λ{fa n R} rc {g X} o {a ga} h=>by
 replace h:=kB h;obtain⟨a,b,p,rfl,h⟩:=h;replace h:=oi h;obtain⟨⟨_,c,lv⟩,h⟩:=h;obtain⟨x,hx,h⟩:=ob h;obtain⟨y,hy,h⟩:=ob h;cases h;exact J4 (o.rm lv) (mw o) (rc.e o hx) (rc.e o hy) (nH c)
def isIn (q:CmpOp):Option Bool:=match q with
 |.In=>some false
 |.NotIn=>some true
 |_=>none
def FR {q:CmpOp}{n:Bool}(h:isIn q=some n):q=if n then .NotIn else .In:=by
 cases q<;>first|(cases h;rfl)|cases h
def Kb (R:Rc)(g:G)(e:Expr):Option GE:=Bz e λa qs bs p=>n1 qs λq=>n1 bs λb=>if g.tx p=true/\behindInMarks q b=false/\0<g.lv then(isIn q).bind λn=>(R.e g a).bind λx=>(R.e g b).bind λy=>some (j9 n x y) else none
def Gy {fa:Fa}{n:Nat}{R:Rc}(rc:ie fa n R){g:G}{X:Cx}(o:dR fa n g X){e:Expr}{ge:GE}(h:Kb R g e=some ge):DE fa X e ge/\DT fa X e (ay ge):=by
 replace h:=pQ h;obtain⟨a,qs,bs,p,rfl,h⟩:=h;replace h:=dj h;obtain⟨q,rfl,h⟩:=h;replace h:=dj h;obtain⟨b,rfl,h⟩:=h;replace h:=oi h;obtain⟨⟨_,c,lv⟩,h⟩:=h;obtain⟨m,hm,h⟩:=ob h;obtain⟨x,hx,h⟩:=ob h;obtain⟨y,hy,h⟩:=ob h;cases h;have e:=FR hm;subst e;exact{LY m (o.rm lv) (mw o) (rc.e o hx) (rc.e o hy) c,JK m (o.rm lv) (mw o) (rc.e o hx) (rc.e o hy) c}
def GY:Ea:=λR g e=>(Kb R g e).bind λx=>some (ay x)
def Ew:ST GY:=λ{fa n R} rc {g X} o {a ga} h=>by
 obtain⟨x,hx,h⟩:=ob h;cases h;exact(Gy rc o hx).2
def CD:kG:=λR g st=>si st λts d _=>n1 ts λt=>pP t λa b p=>if g.tx p=true/\kz b=true/\0<g.lv then(R.e g a).bind λx=>(R.e g b).bind λy=>(R.e g d).bind λz=>some (jL x y z) else none
def Ae:SS CD:=λ{fa n R} rc {g X} o {a ga} h=>by
 replace h:=mJ h;obtain⟨ts,d,_,rfl,h⟩:=h;replace h:=dj h;obtain⟨t,rfl,h⟩:=h;replace h:=kB h;obtain⟨a,b,p2,rfl,h⟩:=h;replace h:=oi h;obtain⟨⟨_,c,lv⟩,h⟩:=h;obtain⟨x,hx,h⟩:=ob h;obtain⟨y,hy,h⟩:=ob h;obtain⟨z,hz,h⟩:=ob h;cases h;refine Hv (o.rm lv) (mw o) (rc.e o hx) (rc.e o hy) (rc.e o hz) (λv=>?_) ?_ ?_
 ·cases b<;>first|rfl|cases c
 ·cases d<;>rfl
 ·cases d<;>rfl
def CU:d3:=λR g e=>Bx e λks vs p=>n0 ks (n0 vs (some (rq (if g.tx p=true then 78 else 77))))
def Ax:SE CU:=λ{fa n R} rc {g X} o {a ga} h=>by
 replace h:=u3 h;obtain⟨ks,vs,p,rfl,h⟩:=h;replace h:=dU h;obtain⟨rfl,h⟩:=h;replace h:=dU h;obtain⟨rfl,h⟩:=h;cases h;exact J2 _ (by split<;>simp) (mw o)
def CV:d3:=λR g e=>if g.tx e.pos=true then(cR R g "len" e).bind λq=>if notStar q.1=true then some (jU q.2) else none else none
def Ay:SE CV:=λ{fa n R} rc {g X} o {a ga} h=>by
 obtain⟨_,h⟩:=oi h;obtain⟨⟨b,y⟩,hq,h⟩:=ob h;obtain⟨c,h⟩:=oi h;cases h;obtain⟨_,_,rfl,hg,hm,_,d,hs⟩:=pq rc o hq;exact J3 (mw o) hg hm d c
def xG:d3:=λR g e=>ME e λkx vx gens scope p=>n1 gens λc=>nG c λtg iter ifs=>let own:=sH tg
 n0 ifs (if sL g own scope/\jw iter=true then(R.w g tg iter).bind λw=>(cG (g.inC own scope) tg).bind λt=>(R.e (g.inC own scope) kx).bind λx=>(R.e (g.inC own scope) vx).bind λy=>if (slots t).all (· < own.length)=true then some (jA (if g.tx p=true then 78 else 77) own.length t w (jV x y)) else none else none)
def xF:SE xG:=λ{fa n R} rc {g X} o {a ga} h=>by
 replace h:=IW h;obtain⟨kx,vx,gens,scope,p,rfl,h⟩:=h;replace h:=dj h;obtain⟨c,rfl,h⟩:=h;replace h:=oK h;obtain⟨tg,iter,ifs,rfl,h⟩:=h;replace h:=dU h;obtain⟨rfl,h⟩:=h;replace h:=oi h;obtain⟨⟨c,cs⟩,h⟩:=h;obtain⟨w,hw,h⟩:=ob h;obtain⟨t,ht,h⟩:=ob h;obtain⟨x,hx,h⟩:=ob h;obtain⟨y,hy,h⟩:=ob h;obtain⟨c2,h⟩:=oi h;cases h;obtain⟨S,O⟩:=rB o c;exact Gp (by split<;>simp) (mw o) S (o.calm c.1) (rc.w o hw) {λcl C fp s H=>i8 (O cl C fp s H) ht,λcl C fp s H a=>Gk ((O cl C fp s H).rm Nat.zero_lt_one) (mw o) (rc.e (O cl C fp s H) hx) (rc.e (O cl C fp s H) hy)} (by simpa using jq c2) (tL cs)
def xo:kG:=λR g st=>Mq st λc body el _=>n0 el (if g.lv=2 then(R.t g c).bind λt=>(pj (R.s g) body).bind λb=>some (gP t b) else none)
def xn:SS xo:=λ{fa n R} rc {g X} o {a ga} h=>by
 replace h:=Hz h;obtain⟨c,body,el,p,rfl,h⟩:=h;replace h:=dU h;obtain⟨rfl,h⟩:=h;replace h:=oi h;obtain⟨lv,h⟩:=h;obtain⟨t,ht,h⟩:=ob h;obtain⟨b,hb,h⟩:=ob h;cases h;exact E5 (o.po lv) (rc.t o ht) (iJ (rc.s o) hb)
def Ha:d3:=λR g e=>(cR R g "any" e).bind λq=>if notStar q.1=true then some (tK q.2) else none
def EF:SE Ha:=λ{fa n R} rc {g X} o {a ga} h=>by
 obtain⟨⟨b,y⟩,hq,h⟩:=ob h;obtain⟨c,h⟩:=oi h;cases h;obtain⟨_,_,rfl,hg,hm,lv,d,hs⟩:=pq rc o hq;exact L6 (o.calm lv) hg hm d c
def CZ:d3:=λR g e=>Dm e λa m d q=>if m="count"/\kA a=true/\q=true/\notStar d=true then(R.e g a).bind λx=>(R.e g d).bind λy=>some (oV x y) else none
def AB:SE CZ:=λ{fa n R} rc {g X} o {a ga} h=>by
 replace h:=sT h;obtain⟨a,m,q,d,p,rfl,h⟩:=h;replace h:=oi h;obtain⟨⟨rfl,c1,c2,c3⟩,h⟩:=h;obtain⟨x,hx,h⟩:=ob h;obtain⟨y,hy,h⟩:=ob h;cases h;exact J5 (rc.e o hx) (rc.e o hy) (ia c1) c2 (bp c3)
def G9:d3:=λR g e=>oM e λh es ks p=>rf h λa m ap=>n0 ks (n0 es (if m="clear"/\kA a=true/\(ap.endLine==p.line)=true then(R.e g a).bind λx=>some (pX x) else none))
def EE:SE G9:=λ{fa n R} rc {g X} o {a ga} h=>by
 replace h:=la h;obtain⟨hd,es,ks,p,rfl,h⟩:=h;replace h:=nM h;obtain⟨a,m,ap,rfl,h⟩:=h;replace h:=dU h;obtain⟨rfl,h⟩:=h;replace h:=dU h;obtain⟨rfl,h⟩:=h;replace h:=oi h;obtain⟨⟨rfl,c1,c2⟩,h⟩:=h;obtain⟨x,hx,h⟩:=ob h;cases h;exact L3 (rc.e o hx) (ia c1) c2
def Ml:d3:=λR g e=>Bx e λks vs p=>n1 ks λk=>k.bind λk=>n1 vs λv=>if 0<g.lv then(R.e g k).bind λx=>(R.e g v).bind λy=>some (zA (if g.tx p=true then 78 else 77) x y) else none
def G7:SE Ml:=λ{fa n R} rc {g X} o {a ga} h=>by
 replace h:=u3 h;obtain⟨ks,vs,p,rfl,h⟩:=h;replace h:=dj h;obtain⟨k,rfl,h⟩:=h;obtain⟨k,rfl,h⟩:=Pq.mp h;replace h:=dj h;obtain⟨v,rfl,h⟩:=h;replace h:=oi h;obtain⟨lv,h⟩:=h;obtain⟨x,hx,h⟩:=ob h;obtain⟨y,hy,h⟩:=ob h;cases h;exact Gn _ (by split<;>simp) (o.rm lv) (mw o) (rc.e o hx) (rc.e o hy)
def xA:qT:=λR g _ e=>if g.cl e.pos=true then(R.e g e).bind λx=>some (cu gu x) else none
def xy:SW xA:=λ{fa n R} rc {g X} o {t a ga} h=>by
 obtain⟨_,h⟩:=oi h;obtain⟨x,hx,h⟩:=ob h;cases h;exact Gg (mw o) (rc.e o hx)
def sO:Expr->Bool
 |.Call _ [] _ _=>false
 |_=>true
def Cq {a:Expr}{m:Str}{env:Pp}{w:Sem Ox}(h:sO a=true):attributeBase a m env w=w:=by
 cases a with
 | Call f es ks p =>
   cases es with
   |nil=>cases h
   |cons _ _=>cases f<;>rfl
 |_=>rfl
def MP (R:Rc)(g:G)(e:Expr):Option GW:=oM e λh es ks p=>rf h λa m ap=>n0 ks (n0 es (if m="values"/\sO a=true/\(ap.endLine==p.line)=true then(R.x g a).bind λx=>some (cu eV x) else none))
def Ka {fa:Fa}{n:Nat}{R:Rc}(rc:ie fa n R){g:G}{X:Cx}(o:dR fa n g X){t a:Expr}{w:GW}(h:MP R g a=some w):Eg fa X t a w/\jw a=true:=by
 replace h:=la h;obtain⟨hd,es,ks,p,rfl,h⟩:=h;replace h:=nM h;obtain⟨a,m,ap,rfl,h⟩:=h;replace h:=dU h;obtain⟨rfl,h⟩:=h;replace h:=dU h;obtain⟨rfl,h⟩:=h;replace h:=oi h;obtain⟨⟨rfl,c1,c2⟩,h⟩:=h;obtain⟨x,hx,h⟩:=ob h;cases h;exact{Ca (mw o) (rc.x o hx) (Cq c1) c2,rfl}
def CH:d3:=λR g e=>Dl e λelt gens scope p=>n1 gens λc=>nG c λtg iter ifs=>n0 ifs (let own:=sH tg
 if 2<=g.lv/\sL g own scope then(MP R g iter).bind λw=>(cG (g.inC own scope) tg).bind λtt=>(R.e (g.inC own scope) elt).bind λx=>if (slots tt).all (· < own.length)=true then some (iH w (bo (g.cl p) own.length tt w (bw x))) else none else none)
def Ai:SX CH:=λ{fa n R} rc {g X} o {a ga} h=>by
 replace h:=sS h;obtain⟨elt,gens,sc0,p,rfl,h⟩:=h;replace h:=dj h;obtain⟨c,rfl,h⟩:=h;replace h:=oK h;obtain⟨tg,iter,ifs,rfl,h⟩:=h;replace h:=dU h;obtain⟨rfl,h⟩:=h;replace h:=oi h;obtain⟨⟨lv,c⟩,h⟩:=h;obtain⟨w,hw,h⟩:=ob h;obtain⟨tt,ht,h⟩:=ob h;obtain⟨x,hx,h⟩:=ob h;obtain⟨c4,h⟩:=oi h;cases h;obtain⟨S,O⟩:=rB o c;obtain⟨hi',ns⟩:=Ka (t:=tg) rc o hw;exact F4 _ (W:=[]) (body:=λa env=>eval elt env >>= λx=>call (.builtin "list.append") [.ref a,x] >>= λ_=>pure ()) S (o.calm `a) hi' {λcl C fp s H=>i8 (O cl C fp s H) ht,λcl C fp s H a=>pd (rc.e (O cl C fp s H) hx)} (λit a env=>rP _ _ _ [] _ _ (.ref it) (.ref a) env) (λi h=>nomatch h) (by simpa using jq c4) (tL ns)
def CG:kG:=λR g st=>vW st λe _=>Dm e λa m d q=>if m="append"/\kA a=true/\q=true/\notStar d=true then(R.e g a).bind λx=>(R.x g d).bind λy=>some (oo x y) else none
def Ah:SS CG:=λ{fa n R} rc {g X} o {a ga} h=>by
 replace h:=pF h;obtain⟨e,_,rfl,h⟩:=h;replace h:=sT h;obtain⟨a,m,q,d,p,rfl,h⟩:=h;replace h:=oi h;obtain⟨⟨rfl,c1,c2,c3⟩,h⟩:=h;obtain⟨x,hx,h⟩:=ob h;obtain⟨y,hy,h⟩:=ob h;cases h;exact F9 (rc.e o hx) (rc.x o hy) (ia c1) c2 (bp c3) rfl
structure Ent where
 i:Nat
 x:Str
 st:Stmt
 ps:Nat
 N:List Str
 f:Addr
 pm:Str×Tok
 b:Call->GS
 r:Bool:=false
 q:Option Str:=none
 df:Addr:=0
def Ent.qn (e:Ent):Str:=e.q.getD e.x
structure lR where
 T:List (Str×En)
 tw:List (Str×Str×Nat×Nat)
 xf:List Str
 dl:List (Str×List (Str×Nat))
 il:List (Str×Nat)
 cel:List (Nat×Nat×Nat)
 txt:List (Nat×Nat×Nat)
 ms:List (Str×Nat×Nat)
 rs:Rs
 tb:List Ent
def lR.g (t:lR)(e:Ent)(c:Call):G:={t.T,t.tw,t.xf,t.cel,t.txt,t.ms,c,e.N,bc e.st,2,[]}
def lR.Pg (t:lR)(i:Nat):Option Df:=(t.tb.find? (·.i==i)).map λe=>⟨e.ps,e.N.length,e.b⟩
def lR.rd (t:lR)(c:Call)(e:Ent):Option GS:=pj ((It t.rs 60).s (t.g e c)) (dI e.st)
def B5 (e:Ent):Bool:=decide ((bc e.st).kind=.function)&&!(bc e.st).isCoroutine&&!(bc e.st).isGenerator&&decide e.N.Nodup&&((e.N.take e.ps).length==e.ps)&&((e.N.take e.ps).all λx=>(bc e.st).names.lookup x==some .local||(bc e.st).names.lookup x==some .cell)&&((bc e.st).names.all (·.2 != .free))
def oX {e:Ent}(h:B5 e=true):jl e.N (e.N.take e.ps) (bc e.st)/\(e.N.take e.ps).length=e.ps:=by
 unfold B5 at h;simp only[OF,decide_eq_true_eq,Bool.not_eq_true',O0,Qu,beq_iff_eq,bne_iff_ne] at h;obtain⟨⟨⟨⟨⟨⟨h1,h2⟩,h3⟩,h4⟩,h5⟩,h6⟩,h7⟩:=h;exact{{h1,h2,h3,h4,by rw[h5],h6,h7},h5}
def Ent.dV (e:Ent):Ox:=if e.df=0 then .none else .ref e.df
def JB (e:Ent):Option Obj:=some {.type "function",none,.func (PySem.W.fnOf e.x e.qn (gD e.st) (dI e.st) (bc e.st) e.dV .none .none (.str e.pm.1 e.pm.2) none (.ref (e.f-1)) .none),#[]}
def l9 {α β:Type}{f g:α->β}{l:List α}(h:l.map f=l.map g){a:α}(m:a∈l):f a=g a:=List.map_inj_left.mp h a m
def tO (e:Ent)(us:List Ox)(kV doc pm:Ox)(an:Option Addr)(cdv ct:Ox):Sem (List (Str×Ox)):=bindArgs (PySem.W.fnOf e.x e.qn (gD e.st) (dI e.st) (bc e.st) e.dV kV doc pm an cdv ct) {us,[]}
def n5 (tb:List Ent)(k:Nat)(us:List Ox):Prop:=∀(kV doc pm:Ox) (an:Option Addr) (cdv ct:Ox),(tb.filter λe=>e.ps==k&&e.df==0).map (λe=>tO e us kV doc pm an cdv ct)=(tb.filter λe=>e.ps==k&&e.df==0).map λe=>pure ((e.N.take e.ps).zip us)
structure w8 (t:lR):Prop where
 rs:Cu t.rs
 rd:∀c,t.tb.map (t.rd c)=t.tb.map λe=>some (e.b c)
 sc:t.tb.all B5=true
 ar:t.tb.all (λe=>e.ps==0||e.ps==1||e.ps==2||e.ps==3||e.ps==4||e.ps==6)=true
 a0:n5 t.tb 0 []
 a1:∀a,n5 t.tb 1 [a]
 a2:∀a b,n5 t.tb 2 [a,b]
 a3:∀a b c,n5 t.tb 3 [a,b,c]
 a4:∀a b c d,n5 t.tb 4 [a,b,c,d]
 a6:∀a b c d e f,n5 t.tb 6 [a,b,c,d,e,f]
 ad:AllP (λe=>e.ps=2/\∀(a b kV doc pm:Ox) (an:Option Addr) (cdv ct:Ox),∃k,tO e [a,b] kV doc pm an cdv ct=seqItems? (.ref e.df) >>= k/\k (some #[.none])=pure ((e.N.take e.ps).zip [a,b])) (t.tb.filter λe=>!(e.df==0))
structure D8 (K:Ow) (tb:List Ent):Prop where
 ns:(tb.filter (·.q.isNone)).map (λe=>PySem.W.nsIn K mainGlobals e.x)=(tb.filter (·.q.isNone)).map λe=>some (some (.ref e.f))
 lk:tb.map (λe=>K.lookup e.f)=tb.map JB
 dk:tb.all (λe=>e.df==0||(match K.lookup e.df with|some {_,_,.seq its _,_}=>its==#[.none]|_=>false))=true
 ck:tb.all (λe=>PySem.W.codeIn K (.ref (e.f-1)) e.qn&&PySem.W.keepIn K (.ref e.f))=true
def Hf {K:Ow}{tb:List Ent}(k:D8 K tb){e:Ent}(m:e∈tb):xh K e.x e.qn e.st e.f (PySem.W.fnOf e.x e.qn (gD e.st) (dI e.st) (bc e.st) e.dV .none .none (.str e.pm.1 e.pm.2) none (.ref (e.f-1)) .none):=by
 have c:=O0.mp k.ck e m;rw[OF] at c;exact{{_,_,_,_,_,_,_,_,_,_,rfl,l9 k.lk m,c.1},c.2}
def EK {K:Ow}{h:Heap}{mg:Str->Option Ox}{tb:List Ent}(k:D8 K tb)(X:K.In h)(G:h.Ns mainGlobals mg){e:Ent}(m:e∈tb)(hq:e.q.isNone=true)(hd:e.df=0):mg e.x=some (.ref e.f)/\∃fd,vG K e.x e.qn e.st e.f fd:=by
 have c:=O0.mp k.ck e m;rw[OF] at c;have l:=l9 k.lk m;unfold JB Ent.dV at l;rw[if_pos hd] at l;exact{Qm X G (l9 k.ns (QW.mpr ⟨m,hq⟩)),_,Ju l c.1 c.2}
def us6 {α:Type}{p:List α->Prop}(h:∀a b c d e f,p [a,b,c,d,e,f]):∀(us:List α) (hl:us.length=6),p us
 |[a,b,c,d,e,f],_=>h a b c d e f
def AO {t:lR}(T:w8 t){e:Ent}(m:e∈t.tb)(h0:e.df=0)(kV doc pm:Ox)(an:Option Addr)(cdv ct:Ox):∀us:List Ox,us.length=(e.N.take e.ps).length->tO e us kV doc pm an cdv ct=pure ((e.N.take e.ps).zip us):=by
 have hl:=(oX (O0.mp T.sc e m)).2;have a:=O0.mp T.ar e m;have f:∀{k:Nat}{us:List Ox},e.ps=k->n5 t.tb k us->tO e us kV doc pm an cdv ct=pure ((e.N.take e.ps).zip us):=λ{k us} hk ao=>l9 (ao kV doc pm an cdv ct) (QW.mpr {m,by rw[hk,h0];simp})
 rw[hl];simp only[Qu,beq_iff_eq] at a;rcases a with((((a|a)|a)|a)|a)|a
 ·rw[a];exact λus h=>by rw[QF.mp h];exact a ▸ f a T.a0
 ·rw[a];exact us1 (p:=λus=>_=_) λx=>a ▸ f a (T.a1 x)
 ·rw[a];exact us2 (p:=λus=>_=_) λx y=>a ▸ f a (T.a2 x y)
 ·rw[a];exact us3 (p:=λus=>_=_) λx y z=>a ▸ f a (T.a3 x y z)
 ·rw[a];exact us4 (p:=λus=>_=_) λx y z u=>a ▸ f a (T.a4 x y z u)
 ·rw[a];exact us6 (p:=λus=>_=_) λx y z u v w=>a ▸ f a (T.a6 x y z u v w)
section
variable{fa:Fa}{P:O2}{w:O9}{K:Ow}{mg:Str->Option Ox}{base:Heap}{t:lR}
def rW (T:w8 t)(TO:D9 fa P w K mg base t.T)(tw:∀q∈t.tw,vF fa K mg q.1 q.2.1 q.2.2.1 q.2.2.2)(xf:∀f∈t.xf,D7 fa K f)(ms:∀q∈t.ms,pB fa K q.1 q.2.1 q.2.2){e:Ent}(m:e∈t.tb){ad:Addr}(call:Call)(n:Nat)(cdv:Ox)(A:PR)(outer:List Pp)(s:Oy)(H:Hp)(E:XK)
 (C:∀f,iP fa P w K mg base n f (call f)) (hr:dD (2*n+5) (A.deeper (envOfC e.qn (bc e.st) s.heap.objs.size ad cdv))):kI fa (gx (iY P w) P w K mg base e.N e.qn (bc e.st) ad cdv A outer s H E) (dI e.st) (e.b call):=by
 have S:=(oX (O0.mp T.sc e m)).1;exact iJ ((Ee (n:=n) (fa:=fa) T.rs 60).s (g:=t.g e call) (X:=gx (iY P w) P w K mg base e.N e.qn (bc e.st) ad cdv A outer s H E) {rfl,S.nd,rfl,TO,tw,xf,ms,λ_ _=>rfl,(λ_ h=>nomatch h),λ_=>rfl,λ_=>C,λ_=>hr,λ_=>⟨rfl,rfl,rfl,S.kind⟩,λ_=>PassesOwn.leaving}) (l9 (T.rd call) m)
def AN (T:w8 t)(k:D8 K t.tb){h:Heap}(X:K.In h)(G:h.Ns mainGlobals mg)(TO:D9 fa P w K mg base t.T)(tw:∀q∈t.tw,vF fa K mg q.1 q.2.1 q.2.2.1 q.2.2.2)(xf:∀f∈t.xf,D7 fa K f)(ms:∀q∈t.ms,pB fa K q.1 q.2.1 q.2.2)(hf:t.tb.all (λe=>fa e.i==some e.f)=true) :
 ∀f d,t.Pg f=some d->xl fa P w K mg base f d:=by
 intro f d e;unfold lR.Pg at e;obtain⟨en,he,rfl⟩:=OW.mp e;have m:=List.mem_of_find?_eq_some he;have ei:en.i=f:=by have:=List.find?_some he;simpa using this
 have F:=Hf k m;obtain⟨S,hl⟩:=oX (O0.mp T.sc en m);have fe:fa f=some en.f:=by rw[<- ei];exact eq_of_beq (O0.mp hf en m)
 have B:Binds K (PySem.W.fnOf en.x en.qn (gD en.st) (dI en.st) (bc en.st) en.dV .none .none (.str en.pm.1 en.pm.2) none (.ref (en.f-1)) .none) (en.N.take en.ps) []:=by
  by_cases h0:en.df=0
  ·exact .all (AO T m h0 _ _ _ _ _ _)
  ·intro s us X hl2;obtain⟨h2,hk⟩:=T.ad.mem en (QW.mpr {m,by simpa using h0})
   have dk:=O0.mp k.dk en m;rw[Qu] at dk;rcases dk with dk|dk
   ·exact absurd (eq_of_beq dk) h0
   rw[Po] at hl2 ⊢;rw[hl,h2] at hl2
   match us,hl2 with
   | [a, b], _ =>
     obtain⟨kk,e1,e2⟩:=hk a b .none .none (.str en.pm.1 en.pm.2) none (.ref (en.f-1)) .none;split at dk
     ·next lk=>
      have q:=eq_of_beq dk;subst q;exact BindsTo.of_defaults (by show en.dV=_;unfold Ent.dV;rw[if_neg h0]) (X _ _ lk) rfl (by show tO en [a,b] _ _ _ _ _ _=seqItems? en.dV >>= _;unfold Ent.dV;rw[if_neg h0];exact e1) e2
     ·cases dk
 exact{en.f,_,en.N.take en.ps,en.N,en.st,en.x,en.qn,fe,F,B,S,hl.symm,rfl,λcall n cdv A outer s H E C hr=>rW T TO tw xf ms m call n cdv A outer s H E C hr}
def JD (K:Ow)(fa:Fa)(t:lR)(p:Str×En):Bool:=match p.2 with
 |.fn i _=>(match PySem.W.nsIn K mainGlobals p.1 with|some (some (.ref a))=>fa i==some a|_=>false)
 |.int i=>(match PySem.W.nsIn K mainGlobals p.1 with|some (some (.int j _))=>i==j|_=>false)
 |.str i=>(match PySem.W.nsIn K mainGlobals p.1 with|some (some (.str j _))=>i==j|_=>false)
 |.xc k=>(match PySem.W.nsIn K mainGlobals p.1 with|some (some (.ref a))=>fa (gE k)==some a&&PySem.W.excIn K a zT "ValueError.__new__"&&PySem.W.keepIn K (.ref a)|_=>false)
 |.xi k=>(match PySem.W.nsIn K mainGlobals p.1 with|some (some (.ref a))=>fa (gE k)==some a&&t.il.contains (p.1,k)|_=>false)
 |.xk k=>(match PySem.W.nsIn K mainGlobals p.1 with|some (some (.ref a))=>fa (gE k)==some a|_=>false)
 |.de=>(match PySem.W.nsIn K mainGlobals p.1 with|some (some (.ref a))=>fa 999==some a|_=>false)
 |.bl=>(match PySem.W.nsIn K mainGlobals p.1 with|some none=>true|_=>false)
 |.dct fs=>t.dl.contains (p.1,fs)
 |.cls c f=>(match PySem.W.nsIn K mainGlobals p.1 with|some (some (.ref a))=>fa (jN c)==some a&&PySem.W.makesIn K a&&PySem.W.keepIn K (.ref a)&&(match fa f with|some ad=>PySem.W.findIn K (.ref a) "__init__"==some (some (.ref ad))&&PySem.W.isFn K (.ref ad)|none=>true)|_=>false)
def EJ {h:Heap}(X:K.In h)(G:h.Ns mainGlobals mg)(hT:t.T.all (JD K fa t)=true)(hx:Ki fa K)(hob:Km fa K)(hof:∀o,5000<=o->fa o=none)(hod:fa (jN 77)=none/\fa (jN 78)=none)(hd:AllP (λq=>∃ad kvs,mg q.1=some (.ref ad)/\fT K w.params ad kvs/\eQ fa kvs q.2) t.dl)(hi:AllP (λq=>Ad fa P w K mg base q.2 q.1) t.il):D9 fa P w K mg base t.T:=by
 have key:∀{x:Str}{e:En},t.T.lookup x=some e->JD K fa t (x,e)=true:=λ{x e} l=>O0.mp hT _ (mem_of_lookup l);refine{λ{x i r} l ad ha=>?_,λ{x i} l=>?_,λ{x i} l=>?_,λ{x fs} l=>?_,λ{x k} l=>?_,λ{x k} l=>?_,λ{x k} l=>?_,λ{x} l=>?_,λ{x} l=>?_,hx,hob,hof,hod,λ{x c f} l=>?_};all_goals have b:=key l;unfold JD at b;dsimp only at b
 ·split at b
  ·next e=>have b:=eq_of_beq b;rw[ha] at b;cases b;exact Qm X G e
  ·cases b
 ·split at b
  ·next e=>have b:=eq_of_beq b;subst b;exact{_,Qm X G e}
  ·cases b
 ·split at b
  ·next e=>have b:=eq_of_beq b;subst b;exact{_,Qm X G e}
  ·cases b
 ·exact hd.mem (x,fs) (List.contains_iff_mem.mp b)
 ·split at b
  ·next e=>simp only[OF] at b;exact{_,Qm X G e,eq_of_beq b.1.1,b.1.2,b.2}
  ·cases b
 ·split at b
  ·next e=>rw[OF] at b;exact{hi.mem (x,k) (List.contains_iff_mem.mp b.2),_,Qm X G e,eq_of_beq b.1}
  ·cases b
 ·split at b
  ·next e=>exact{_,Qm X G e,eq_of_beq b}
  ·cases b
 ·split at b
  ·next e=>exact{_,Qm X G e,eq_of_beq b}
  ·cases b
 ·split at b
  ·next e=>exact PySem.W.mg_none_of X G e
  ·cases b
 ·split at b
  ·next a e=>
   simp only[OF] at b;refine{a,Qm X G e,eq_of_beq b.1.1.1,λad had=>?_};have b2:=b.2;rw[had] at b2;simp only[OF] at b2;exact{b.1.1.2,eq_of_beq b2.1,b2.2,b.1.2}
  ·cases b
end
def wQ (K:Ow)(C:Addr):Bool:=PySem.W.plainGet K C Str.empty&&PySem.W.hasDictIn K C&&PySem.W.plainOver K C&&PySem.W.findIn K (.ref C) "__setattr__"==some (some (.builtin "object.__setattr__"))
def zQ {K:Ow}{C:Addr}(h:wQ K C=true):vH K C:=by
 unfold wQ at h;simp only[OF] at h;exact{h.1.1.1,h.1.1.2,h.1.2,eq_of_beq h.2}
def IF (K:Ow)(fa:Fa):Bool:=match fa (jN 40) with
 |some C=>wQ K C&&(lF 40).all λf=>PySem.W.findIn K (.ref C) f==some none
 |none=>true
def IE {K:Ow}{fa:Fa}(h:IF K fa=true):Km fa K:=λc C e ne=>by
 have hc:c=40:=by
  unfold lF at ne;split at ne
  ·rfl
  ·exact absurd rfl ne
 subst hc;unfold IF at h;rw[e] at h;simp only[OF,O0] at h;exact{zQ h.1,λf m=>eq_of_beq (h.2 f m)}
def I9 (K:Ow)(fa:Fa)(q:Str×Nat×Nat):Bool:=match fa (jN q.2.1) with
 | some C => wQ K C && (match fa q.2.2 with
   |some ad=>PySem.W.findIn K (.ref C) q.1==some (some (.ref ad))&&PySem.W.isFn K (.ref ad)&&PySem.W.keepIn K (.ref ad)
   |none=>true)&&!(lF q.2.1).contains q.1&&!(lF q.2.1).isEmpty
 |none=>false
def I8 {K:Ow}{fa:Fa}{l:List (Str×Nat×Nat)}(h:l.all (I9 K fa)=true):∀q∈l,pB fa K q.1 q.2.1 q.2.2:=λq m=>by
 have h:=O0.mp h q m;unfold I9 at h;cases e:fa (jN q.2.1) with
 |none=>rw[e] at h;cases h
 | some C =>
   rw[e] at h;simp only[OF,Bool.not_eq_true'] at h;refine{C,e,zQ h.1.1.1,λad ea=>?_,λz=>?_,λz=>?_}
   ·have b:=h.1.1.2;rw[ea] at b;simp only[OF] at b;exact{eq_of_beq b.1.1,b.1.2,b.2}
   ·have:=List.contains_iff_mem.mpr z;rw[h.1.2] at this;cases this
   ·rw[z] at h;exact absurd h.2 `d
def B3 {l cl:List (Nat×Addr)}{D:Addr}(h:cl.all (λq=>decide (q.1<4000))=true):∀o,5000<=o->tM l cl D o=none:=λo ho=>by
 unfold tM;rw[if_neg `a,if_neg `a]
 cases e:cl.lookup (o-1000) with
 |none=>rfl
 | some C =>
   have:=of_decide_eq_true (O0.mp h _ (lookup_mem e));have:o-1000<4000:=this;omega
end LD
namespace LD
open PySem
abbrev gI (n:Int):GE:=gC (.int n)
abbrev gS (x:Str):GE:=gC (.str x)
abbrev gN:GE:=gC .non
abbrev gTt:GE:=gC (.bl true)
abbrev MN:GE:=gC (.bl false)
abbrev rF:GS:=af (aS MN) ai
def cF:List (Str×Nat):=[("turn",7),("join",8),("move",9),("put",10)]
def cH:List (Str×Nat):=[("turn",20),("join",21),("move",22),("put",23)]
def fF (c:Call):GS:=af (aV (iz (ay (cQ .bool (aa 0))) (dG (ay (cQ .int (aa 0))))) rF ai) (af (aS (tJ .le .le (aa 1) (aa 0) (aa 2))) ai)
def jY (c:Call):GS:=af (aS (au 0 c (ae (aa 1) (ae (gI 0) (ae (aq false .sub (aa 0) (gI 1)) ah))))) ai
def jb (c:Call):GS:=af (aS (au 0 c (ae (aa 1) (ae (gI 0) (ae (aq false .sub (aa 0) (gI 1)) ah))))) ai
def jZ (c:Call):GS:=af (aS (au 0 c (ae (aa 0) (ae (gI 1) (ae (gI 3) ah))))) ai
def gg (c:Call):GS:=af (aS (eU (cQ .tuple (aa 1)) (aL .eq (aY .len (ae (aa 1) ah)) (aa 0)))) ai
def ja (c:Call):GS:=af (aS (eU (au 4 c (ae (aa 0) (ae (aa 1) ah))) (aY .all (ae (bo false 1 (.one 0) (cz (aa 1)) (bw (au 1 c (ae (aa 1) (ae (aa 0) ah))))) ah)))) ai
def eP (c:Call):GS:=af (aS (eU (au 4 c (ae (aa 0) (ae (aa 1) ah))) (aY .all (ae (bo false 1 (.one 0) (cz (aa 1)) (bw (au 5 c (ae (aa 1) (ae (aa 0) ah))))) ah)))) ai
def gG (c:Call):GS:=af (aV (ay (aL .ne (aY .len (ae (aa 2) ah)) (gI 3))) rF ai) (af (aC (.tup [3,4,5]) (aa 2)) (af (aS (eU (au 2 c (ae (aa 1) (ae (aa 3) ah))) (eU (au 5 c (ae (aa 0) (ae (aa 4) ah))) (au 3 c (ae (aa 5) ah))))) ai))
def gK (c:Call):GS:=af (aV (ay (aL .ne (aY .len (ae (aa 2) ah)) (gI 4))) rF ai) (af (aC (.tup [3,4,5,6]) (aa 2)) (af (aV (iz (dG (ay (au 2 c (ae (aa 1) (ae (aa 3) ah))))) (dG (ay (au 2 c (ae (aa 1) (ae (aa 4) ah)))))) rF ai) (af (aS (eU (au 6 c (ae (aa 0) (ae (aa 5) ah))) (au 3 c (ae (aa 6) ah)))) ai)))
def gJ (c:Call):GS:=af (aV (ay (aL .ne (aY .len (ae (aa 2) ah)) (gI 3))) rF ai) (af (aC (.tup [3,4,5]) (aa 2)) (af (aS (eU (au 2 c (ae (aa 1) (ae (aa 3) ah))) (eU (au 2 c (ae (aa 1) (ae (aa 4) ah))) (au 3 c (ae (aa 5) ah))))) ai))
def ic (c:Call):GS:=af (aV (ay (aL .ne (aY .len (ae (aa 2) ah)) (gI 3))) rF ai) (af (aC (.tup [3,4,5]) (aa 2)) (af (aS (eU (au 2 c (ae (aa 1) (ae (aa 3) ah))) (eU (au 1 c (ae (aa 0) (ae (aa 4) ah))) (au 3 c (ae (aa 5) ah))))) ai))
def gL (c:Call):GS:=af (aV (iz (dG (ay (cQ .tuple (aa 2)))) (dG (ay (aa 2)))) rF ai) (af (aC (.one 3) (aw (aa 2) (gI 0))) (af (aV (iz (dG (ay (cQ .str (aa 3)))) (ay (i5 cF (aa 3)))) rF ai) (af (aC (.one 4) (lE cF (aa 3))) (af (aS (mh 4 c (ae (aa 0) (ae (aa 1) (ae (dC false true false (aa 2) (gI 1) gN) ah))))) ai))))
def fE (c:Call):GS:=af (aV (dG (ay (au 4 c (ae (gI 3) (ae (aa 0) ah))))) rF ai) (af (aC (.tup [1,2,3]) (aa 0)) (af (aV (iz (dG (ay (au 0 c (ae (aa 1) (ae (gI 2) (ae (gI 4) ah)))))) (dG (ay (au 0 c (ae (aa 2) (ae (gI 1) (ae (gI 2) ah))))))) rF ai) (af (aV (iz (dG (ay (cQ .tuple (aa 3)))) (dG (ay (tJ .le .le (gI 1) (aY .len (ae (aa 3) ah)) (gI 6))))) rF ai) (af (aS (aY .all (ae (bo false 1 (.one 0) (cz (aa 3)) (bw (au 11 c (ae (aa 2) (ae (aa 3) (ae (aa 0) ah)))))) ah))) ai))))
def ib (c:Call):GS:=af (aV (dG (ay (au 12 c (ae (aa 0) ah)))) (af (gQ 3 (ae (gS "this is no machine") ah)) ai) ai) ai
def dQ (c:Call):GS:=af (iS (cU 13 c (ae (aa 0) ah))) (af (aC (.tup [1,2,3]) (aa 0)) (af (aC (.one 4) (bu false (ae (bj ah) ah))) (af (cD (.one 5) (dX (aa 2)) (af (aC (.one 4) (bo false 2 (.one 0) (cz (aa 4)) (tG (.one 1) (dX (aa 3)) (bw (aq false .add (aa 0) (bj (ae (aa 1) ah))))))) ai)) (af (aS (aa 4)) ai))))
def nZ (c:Call):GS:=af (aS (au 0 c (ae (aa 1) (ae (gI 0) (ae (aq false .sub (aY .len (ae (aw (aa 0) (gI 2)) ah)) (gI 1)) ah))))) ai
def qh (c:Call):GS:=af (aV (dG (ay (cQ .list (aa 1)))) (af (uN 0 (gI 0)) ai) ai) (af (cD (.tup [2,3]) (g6 (aa 1)) (af (aV (dG (ay (au 16 c (ae (aa 0) (ae (aa 3) ah))))) (af (uN 0 (aa 2)) ai) ai) ai)) ai)
def wV (c:Call):GS:=af (iS (cU 13 c (ae (aa 0) ah))) (af (iS (cU 17 c (ae (aa 0) (ae (aa 1) ah)))) (af (aV (ay (aL .gt (aY .len (ae (aa 1) ah)) (gI 40))) (af (gQ 4 (ae (tH "a row has at most " " deeds" (gI 40)) ah)) ai) ai) ai))
def lK (c:Call):GS:=af (aC (.tup [2,3,4,5]) (aa 0)) (af (aS (aw (aa 4) (aw (aa 1) (aa 3)))) ai)
def lM (c:Call):GS:=af (aC (.tup [2,3,4,5,6]) (aa 0)) (af (aS (aw (aw (aa 5) (aw (aa 1) (aa 3))) (aw (aa 1) (aa 4)))) ai)
def mY (c:Call):GS:=af (aC (.tup [2,3,4,5]) (aa 0)) (af (aS (aw (aa 1) (aa 4))) ai)
def lL (c:Call):GS:=af (aC (.tup [2,3,4,5]) (aa 0)) (af (aS (aa 4)) ai)
def pz (c:Call):GS:=af (aC (.one 2) (lE cH (aw (aa 0) (gI 0)))) (af (aC (.one 3) (aw (aa 0) (gI 1))) (af (aS (aq false .add (aq false .add (dC false false true (aa 1) gN (aa 3)) (bj (ae (mh 2 c (ae (aa 0) (ae (aa 1) ah))) ah))) (dC false true false (aa 1) (aq false .add (aa 3) (gI 1)) gN))) ai))
def qi (c:Call):GS:=af (aC (.one 3) (bu true (ae (aa 2) ah))) (af (cD (.one 4) (cz (aa 1)) (af (d5 (aa 3) (au 24 c (ae (aw (aw (aa 0) (gI 2)) (aa 4)) (ae (aw (aa 3) (cE (gI 1))) ah)))) ai)) (af (aS (aa 3)) ai))
def gi (c:Call):GS:=af (aV (ay (aL .ge (aa 0) (aq false .pow (gI 10) (gI 18)))) (af (aS (aa 0)) ai) ai) (af (aC (.one 2) (bu false (ae (gI 2147483629) (ae (gI 2147483587) (ae (gI 2147483579) (ae (gI 2147483563) (ae (gI 2147483549) (ae (gI 2147483543) (ae (gI 2147483497) (ae (gI 2147483489) ah)))))))))) (af (aC (.one 2) (aq false .add (aa 2) (bu false (ae (gI 2147483477) (ae (gI 2147483423) (ae (gI 2147483399) (ae (gI 2147483353) (ae (gI 2147483323) ah)))))))) (af (aC (.one 3) (aq false .mod (aq false .pow (aq false .add (aq false .add (aq false .mul (aq false .mod (aa 0) (gI 1000000007)) (aq false .add (aq false .mul (gI 2) (aa 1)) (gI 69069))) (aq false .mul (aa 1) (gI 40503))) (gI 977)) (gI 3)) (aw (aa 2) (aq false .mod (aa 1) (gI 13))))) (af (aC (.one 4) (aq false .mod (aq false .pow (aq false .add (aq false .add (aq false .mul (aa 3) (aq false .add (aa 1) (gI 3))) (aq false .mod (aa 0) (gI 65537))) (gI 5)) (gI 5)) (aw (aa 2) (aq false .mod (aq false .add (aa 1) (gI 5)) (gI 13))))) (af (aC (.one 5) (aq false .mod (aq false .pow (aq false .add (aq false .add (aa 4) (aq false .mod (aa 3) (gI 1009))) (aa 1)) (gI 3)) (aw (aa 2) (aq false .mod (aq false .add (aa 1) (gI 7)) (gI 13))))) (af (aS (aq false .add (aq false .mul (aq false .add (aq false .mul (aa 3) (gI 2147483647)) (aa 4)) (gI 2147483647)) (aa 5))) ai))))))
def ke (c:Call):GS:=af (aC (.one 1) (aY (.list true) (ae (dC false false true (aa 0) gN (gI 12)) ah))) (af (cD (.tup [2,3]) (g6 (dC false true true (aa 0) (gI 12) (gI 63))) (af (d4 (aa 1) (aq false .mod (aa 2) (gI 12)) (aq false .add (aw (aa 1) (aq false .mod (aa 2) (gI 12))) (aa 3))) ai)) (af (aS (bu true (ae (aa 1) (ae (gI 0) (ae (gI 0) ah))))) ai))
def kg (c:Call):GS:=af (d4 (aa 0) (gI 2) (gI 0)) (af (aS (aa 0)) ai)
def nj (c:Call):GS:=af (aV (ay (aL .lt (aw (aa 0) (gI 2)) (aa 1))) (af (aC (.one 2) (aw (aa 0) (gI 1))) (af (aC (.one 3) (gI 0)) (af (aV (ay (aL .lt (aa 2) (aY .len (ae (aw (aa 0) (gI 0)) ah)))) (af (aC (.one 3) (aw (aw (aa 0) (gI 0)) (aa 2))) ai) (af (aV (ay (aL .gt (aY .len (ae (aw (aa 0) (gI 0)) ah)) (gI 0))) (af (aC (.one 3) (aq false .mod (aw (aw (aa 0) (gI 0)) (aq false .mod (aq false .add (aq false .mul (aa 2) (gI 5)) (gI 3)) (aY .len (ae (aw (aa 0) (gI 0)) ah)))) (aq false .add (aq false .pow (gI 10) (gI 17)) (aa 2)))) ai) ai) ai)) (af (d4 (aa 0) (gI 1) (aq false .add (aa 2) (gI 1))) (af (d4 (aa 0) (gI 2) (au 28 c (ae (aa 3) (ae (aa 2) ah)))) ai))))) ai) (af (aC (.one 4) (aq false .mod (aw (aa 0) (gI 2)) (aa 1))) (af (d4 (aa 0) (gI 2) (aq false .fdiv (aw (aa 0) (gI 2)) (aa 1))) (af (aS (aa 4)) ai)))
def jc (c:Call):GS:=af (aC (.one 2) (au 31 c (ae (aa 0) (ae (gI 6) ah)))) (af (aC (.one 3) (au 31 c (ae (aa 0) (ae (aa 1) ah)))) (af (aC (.one 4) (au 31 c (ae (aa 0) (ae (aa 1) ah)))) (af (aV (ay (aL .lt (aa 2) (gI 2))) (af (aS (aY .tuple (ae (bo false 1 (.one 0) (dX (aa 1)) (bw (au 31 c (ae (aa 1) (ae (aa 2) ah))))) ah))) ai) ai) (af (aV (ay (aL .eq (aa 2) (gI 2))) (af (aS (aY .tuple (ae (bo false 1 (.one 0) (dX (aa 1)) (bw (aq false .mod (aq false .add (aq false .add (aa 0) (gI 1)) (aa 4)) (aa 2)))) ah))) ai) ai) (af (aV (ay (aL .eq (aa 2) (gI 3))) (af (aS (aY .tuple (ae (bo false 1 (.one 0) (dX (aa 1)) (bw (lD (ay (aL .eq (aa 0) (aa 4))) (aa 5) (aa 0)))) ah))) ai) ai) (af (aV (ay (aL .eq (aa 2) (gI 4))) (af (aS (aq false .mul (bj (ae (aa 3) ah)) (aa 1))) ai) ai) (af (aC (.one 5) (mf true (aa 1))) (af (d4 (aa 5) (aa 3) (aa 4)) (af (d4 (aa 5) (aa 4) (aa 3)) (af (aS (aY .tuple (ae (aa 5) ah))) ai))))))))))
def ir (c:Call):GS:=af (aC (.one 3) (au 31 c (ae (aa 0) (ae (gI 8) ah)))) (af (aC (.one 4) (aq false .add (gI 1) (au 31 c (ae (aa 0) (ae (gI 3) ah))))) (af (aC (.one 5) (au 31 c (ae (aa 0) (ae (aa 2) ah)))) (af (aC (.one 6) (au 31 c (ae (aa 0) (ae (aa 2) ah)))) (af (aV (ay (aL .lt (aa 3) (gI 3))) (af (aS (bj (ae (gS "turn") (ae (aa 5) (ae (au 32 c (ae (aa 0) (ae (aa 1) ah))) (ae (aa 4) ah)))))) ai) ai) (af (aV (ay (aL .lt (aa 3) (gI 5))) (af (aS (bj (ae (gS "move") (ae (aa 5) (ae (lD (ay (aL .eq (aa 3) (gI 3))) (aq false .mod (aq false .add (aa 5) (gI 1)) (aa 2)) (aa 6)) (ae (aa 4) ah)))))) ai) ai) (af (aV (ay (aL .eq (aa 3) (gI 5))) (af (aS (bj (ae (gS "put") (ae (aa 5) (ae (au 31 c (ae (aa 0) (ae (aa 1) ah))) (ae (aa 4) ah)))))) ai) ai) (af (aS (bj (ae (gS "join") (ae (aa 5) (ae (aa 6) (ae (aY .tuple (ae (bo false 1 (.one 0) (dX (aa 1)) (bw (au 32 c (ae (aa 1) (ae (aa 2) ah))))) ah)) (ae (aa 4) ah))))))) ai)))))))
def fR (c:Call):GS:=af (aC (.one 1) (aq false .add (gI 2) (au 31 c (ae (aa 0) (ae (aq false .sub (aa 1) (gI 1)) ah))))) (af (aC (.one 2) (aq false .add (gI 1) (au 31 c (ae (aa 0) (ae (aa 2) ah))))) (af (aC (.one 4) (bu true ah)) (af (cD (.one 5) (dX (aq false .add (gI 1) (au 31 c (ae (aa 0) (ae (aa 3) ah))))) (af (aC (.one 6) (au 31 c (ae (aa 0) (ae (gI 5) ah)))) (af (aC (.one 7) (au 33 c (ae (aa 0) (ae (aa 1) (ae (aa 2) ah))))) (af (aV (gq (ay (aL .eq (aa 6) (gI 0))) (ay (aL .ne (aa 4) (bu false ah)))) (af (aC (.one 7) (aq false .add (dC false false true (aw (aa 4) (au 31 c (ae (aa 0) (ae (aY .len (ae (aa 4) ah)) ah)))) gN (cE (gI 1))) (bj (ae (aw (aa 7) (cE (gI 1))) ah)))) ai) ai) (af (d5 (aa 4) (aa 7)) ai))))) (af (aS (bj (ae (aa 1) (ae (aa 2) (ae (aY .tuple (ae (aa 4) ah)) ah))))) ai))))
def dr (c:Call):GS:=af (aV (ay (aL .isN (aa 1) gN)) (af (aS (aL .isN (aa 0) gN)) ai) ai) (af (aV (iz (ay (cQ .bool (aa 1))) (ay (cQ .bool (aa 0)))) (af (aS (eU (cQ .bool (aa 1)) (eU (cQ .bool (aa 0)) (aL .eq (aa 0) (aa 1))))) ai) ai) (af (aV (ay (cQ .int (aa 1))) (af (aS (eU (cQ .int (aa 0)) (aL .eq (aa 0) (aa 1)))) ai) ai) (af (aV (ay (cQ .str (aa 1))) (af (aS (eU (cQ .str (aa 0)) (aL .eq (aa 0) (aa 1)))) ai) ai) (af (aV (iz (ay (aL .ne (cQ .tuple (aa 1)) (cQ .tuple (aa 0)))) (ay (aL .ne (cQ .list (aa 1)) (cQ .list (aa 0))))) rF ai) (af (aV (ay (aL .ne (aY .len (ae (aa 0) ah)) (aY .len (ae (aa 1) ah)))) rF ai) (af (aS (aL .notin MN (bo false 2 (.tup [0,1]) (oU (aa 0) (aa 1)) (bw (au 40 c (ae (aa 0) (ae (aa 1) ah))))))) ai))))))
def jE (c:Call):GS:=af (aC (.one 2) (aY (.list true) (ae (aa 1) ah))) (af (aC (.one 3) (aw (aa 1) (aw (aa 0) (gI 1)))) (af (aV (ay (aL .eq (aw (aa 0) (gI 0)) (gS "turn"))) (af (d4 (aa 2) (aw (aa 0) (gI 1)) (aw (aw (aa 0) (gI 2)) (aa 3))) ai) ai) (af (aV (ay (aL .eq (aw (aa 0) (gI 0)) (gS "join"))) (af (d4 (aa 2) (aw (aa 0) (gI 1)) (aw (aw (aw (aa 0) (gI 3)) (aa 3)) (aw (aa 1) (aw (aa 0) (gI 2))))) ai) ai) (af (aV (ay (aL .eq (aw (aa 0) (gI 0)) (gS "move"))) (af (d4 (aa 2) (aw (aa 0) (gI 1)) (aw (aa 1) (aw (aa 0) (gI 2)))) ai) ai) (af (aV (ay (aL .eq (aw (aa 0) (gI 0)) (gS "put"))) (af (d4 (aa 2) (aw (aa 0) (gI 1)) (aw (aa 0) (gI 2))) ai) ai) (af (aS (aY .tuple (ae (aa 2) ah))) ai))))))
def iU (c:Call):GS:=af (aV (ay (aL .eq (aw (aa 0) (gI 1)) (gI 1))) (af (aS (bo false 1 (.one 0) (dX (aw (aa 0) (gI 0))) (bw (bj (ae (aa 0) ah))))) ai) ai) (af (aS (bo false 1 (.one 0) (dX (aq false .mul (aw (aa 0) (gI 0)) (aw (aa 0) (gI 0)))) (bw (bj (ae (aq false .fdiv (aa 0) (aw (aa 1) (gI 0))) (ae (aq false .mod (aa 0) (aw (aa 1) (gI 0))) ah)))))) ai)
def da (c:Call):GS:=af (fK (.one 1) (cU 15 c (ae (aa 0) ah))) (af (aS (bo false 1 (.one 0) (cz (aw (aa 0) (gI 2))) (bw (bj (ae (aw (aa 0) (cE (gI 1))) (ae (jA 77 1 (.one 0) (cz (aa 2)) (jV (aa 0) (au 24 c (ae (aa 1) (ae (aa 0) ah))))) ah)))))) ai)
def fm (c:Call):GS:=af (aS (aY .tuple (ae (bo false 1 (.one 0) (cz (aa 1)) (bw (fZ (aa 1) (aa 0)))) ah))) ai
def dP (c:Call):GS:=af (aC (.one 3) (aY .len (ae (aa 1) ah))) (af (aC (.one 4) (bu true ah)) (af (cD (.two 5 [6,7]) (g6 (aa 0)) (af (aC (.one 8) (lD (ay (aL .le (aa 6) (aa 3))) (aw (aa 1) (aq false .sub (aa 3) (aa 6))) (bu false ah))) (af (cD (.one 9) (cz (aa 8)) (af (aC (.one 10) (au 152 c (ae (aa 7) (ae (aa 9) ah)))) (af (aV (ay (j9 true (aa 10) (aa 2))) (af (jL (aa 2) (aa 10) (bj (ae (aa 3) (ae (aq false .add (aw (fZ (aa 2) (aa 9)) (gI 1)) (bu false (ae (aa 5) ah))) ah)))) (af (d5 (aa 4) (aa 10)) (af (aV (ay (aL .gt (jU (aa 2)) (gI 255))) (af (gQ 8 (ae (tH "rows have more than " " behaviours" (gI 255)) ah)) ai) ai) ai))) ai) ai))) ai))) (af (aS (aa 4)) ai)))
def gF (c:Call):GS:=af (fK (.one 2) (cU 151 c (ae (aa 0) ah))) (af (aC (.one 3) (aY .tuple (ae (au 15 c (ae (aa 0) ah)) ah))) (af (aC (.one 4) (zA 78 (aa 3) (bj (ae (gI 0) (ae (bu false ah) ah))))) (af (aC (.one 5) (bu true (ae (bu false (ae (aa 3) ah)) ah))) (af (gP (gq (ay (tK (dC false true false (aa 5) (cE (gI 3)) gN))) (iz (ay (aL .isN (aa 1) gN)) (ay (aL .le (aY .len (ae (aa 5) ah)) (aa 1))))) (af (oo (aa 5) (cU 153 c (ae (aa 2) (ae (aa 5) (ae (aa 4) ah))))) ai)) (af (aS (aa 4)) ai)))))
def eX (c:Call):GS:=af (iS (cU 13 c (ae (aa 0) ah))) (af (aV (dG (ay (au 0 c (ae (aa 1) (ae (gI 0) (ae (gI 12) ah)))))) (af (Bb) ai) ai) ai)
def eW (c:Call):GS:=af (aC (.one 2) (bu true (ae (gI 1) ah))) (af (cD (.one 3) (mP (gI 1) (aq false .add (aa 1) (gI 1))) (af (d5 (aa 2) (aY .sum (ae (bo false 1 (.one 0) (cz (aw (aa 0) (gI 2))) (tD (ay (aL .le (aw (aa 0) (cE (gI 1))) (aa 4))) (bw (aw (aa 3) (aq false .sub (aa 4) (aw (aa 0) (cE (gI 1)))))))) ah))) ai)) (af (aS (aa 2)) ai))
def lN (c:Call):GS:=af (iS (cU 155 c (ae (aa 0) (ae (aa 1) ah)))) (af (fK (.one 2) (iH (cu eV (cU 154 c (ae (aa 0) (ae (aa 1) ah)))) (bo false 2 (.tup [0,1]) (cu eV (cU 154 c (ae (aa 0) (ae (aa 1) ah)))) (bw (aa 0))))) (af (aS (bj (ae (au 156 c (ae (aa 0) (ae (aa 1) ah))) (ae (bo true 1 (.one 0) (dX (aq false .add (aa 1) (gI 1))) (bw (oV (aa 3) (aa 0)))) ah)))) ai))
def cg (c:Call):GS:=af (aS (aY .tuple (ae (bo false 1 (.one 0) (cz (aa 1)) (bw (au 41 c (ae (aw (aw (aa 1) (gI 2)) (aa 3)) (ae (aa 0) ah))))) ah))) ai
def eZ (c:Call):GS:=af (aC (.one 2) (rq 78)) (af (aC (.one 3) (bu true (ae (bu true (ae (aY .tuple (ae (au 42 c (ae (aa 0) ah)) ah)) ah)) ah))) (af (aC (.one 4) (gI 0)) (af (gP (gq (ay (aL .lt (aa 4) (aY .len (ae (aa 3) ah)))) (ay (aL .le (aa 4) (aa 1)))) (af (cD (.one 5) (cz (aw (aa 3) (aa 4))) (af (aV (ay (j9 true (aa 5) (aa 2))) (af (jL (aa 2) (aa 5) (aa 4)) (af (aV (ay (aL .gt (jU (aa 2)) (gI 255))) (af (aS gN) ai) ai) (af (cD (.tup [6,7]) (g6 (aw (aa 0) (gI 2))) (af (gP (ay (aL .le (aY .len (ae (aa 3) ah)) (aq false .add (aa 4) (aw (aa 7) (cE (gI 1)))))) (af (d5 (aa 3) (bu true ah)) ai)) (af (d5 (aw (aa 3) (aq false .add (aa 4) (aw (aa 7) (cE (gI 1))))) (au 158 c (ae (aa 0) (ae (aa 5) (ae (aa 6) ah))))) ai))) ai))) ai) ai)) (af (aC (.one 4) (aq false .add (aa 4) (gI 1))) ai))) (af (aS (aa 2)) ai))))
def cV (c:Call):GS:=af (aC (.one 2) (aw (bu false (ae (bj (ae (gI 3) (ae (gI 1) (ae (gI 6) ah)))) (ae (bj (ae (gI 2) (ae (gI 2) (ae (gI 3) ah)))) (ae (bj (ae (gI 3) (ae (gI 1) (ae (gI 4) ah)))) (ae (bj (ae (gI 2) (ae (gI 2) (ae (gI 2) ah)))) (ae (bj (ae (gI 4) (ae (gI 1) (ae (gI 2) ah)))) ah)))))) (aq false .mod (aa 1) (gI 5)))) (af (aS (au 34 c (ae (aa 0) (ae (aw (aa 2) (gI 0)) (ae (aw (aa 2) (gI 1)) (ae (aw (aa 2) (gI 2)) ah)))))) ai)
def eE (c:Call):GS:=af (aC (.one 1) (bu false (ae (bj (ae (gI 1) (ae (gI 2) (ae (gI 3) (ae (gI 0) ah))))) (ae (bj (ae (gI 1) (ae (gI 0) (ae (gI 2) (ae (gI 3) ah))))) (ae (bj (ae (gI 0) (ae (gI 0) (ae (gI 2) (ae (gI 3) ah))))) ah))))) (af (aC (.one 2) (au 31 c (ae (aa 0) (ae (gI 3) ah)))) (af (aC (.one 3) (bo false 1 (.one 0) (cz (aq false .add (dC false true false (aa 1) (aa 2) gN) (dC false false true (aa 1) gN (aa 2)))) (bw (bj (ae (gS "turn") (ae (gI 0) (ae (aa 0) (ae (aq false .add (gI 1) (au 31 c (ae (aa 1) (ae (gI 3) ah)))) ah)))))))) (af (aS (bj (ae (gI 4) (ae (gI 1) (ae (aY .tuple (ae (aa 3) ah)) ah))))) ai)))
def eY (c:Call):GS:=af (aC (.one 2) gN) (af (lW (af (fK (.one 2) (cU 157 c (ae (aa 0) (ae (aa 1) ah)))) ai) 8 8 (af (aC (.one 2) (gS "many")) ai)) (af (aS (aa 2)) ai))
def gj (c:Call):GS:=af (aC (.one 2) (au 159 c (ae (aa 0) (ae (aa 1) ah)))) (af (aV (ay (aL .isN (aa 2) gN)) (af (aS (gS "many")) ai) ai) (af (aC (.one 3) (bu true (ae (gI 1) ah))) (af (cD (.one 4) (mP (gI 1) (aq false .add (aa 1) (gI 1))) (af (aC (.one 5) (bo false 1 (.one 0) (cz (aw (aa 0) (gI 2))) (tD (ay (aL .le (aw (aa 0) (cE (gI 1))) (aa 5))) (bw (aw (aa 4) (aq false .sub (aa 5) (aw (aa 0) (cE (gI 1))))))))) (af (d5 (aa 3) (aY .sum (ae (aa 5) ah))) ai))) (af (aC (.one 6) (aq true .mul (bu false (ae (gI 0) ah)) (aq false .add (aa 1) (gI 1)))) (af (cD (.one 7) (cu gu (aa 2)) (af (d4 (aa 6) (fZ (aa 2) (aa 7)) (aq false .add (aw (aa 6) (fZ (aa 2) (aa 7))) (gI 1))) ai)) (af (aS (bj (ae (aa 3) (ae (aa 6) ah)))) ai))))))
def mZ (c:Call):GS:=af (aC (.one 1) (au 29 c (ae (aa 0) ah))) (af (cD (.one 2) (dX (gI 6)) (af (aC (.one 3) (au 160 c (ae (au 30 c (ae (aa 1) ah)) (ae (aa 2) ah)))) (af (aV (ay (aL .eq (aa 2) (gI 5))) (af (aC (.one 3) (au 161 c (ae (aa 1) ah))) ai) ai) (af (aV (gq (ay (aL .eq (aa 2) (gI 4))) (ay (aL .eq (au 31 c (ae (aa 1) (ae (gI 3) ah))) (gI 0)))) (af (aC (.one 3) (au 34 c (ae (aa 1) (ae (gI 4) (ae (gI 2) (ae (gI 4) ah)))))) ai) ai) (af (aV (ay (aL .eq (au 31 c (ae (aa 1) (ae (gI 3) ah))) (gI 0))) (af (aC (.one 4) (aq false .add (gI 1) (au 31 c (ae (aa 1) (ae (gI 3) ah))))) (af (aC (.one 3) (aq false .add (dC false false true (aa 3) gN (gI 2)) (bj (ae (aY .tuple (ae (bo false 1 (.one 0) (cz (aw (aa 3) (gI 2))) (bw (aq false .add (dC false false true (aa 0) gN (cE (gI 1))) (bj (ae (aa 5) ah))))) ah)) ah)))) ai)) ai) (af (cD (.one 5) (cz (bu false (ae (au 31 c (ae (aa 1) (ae (gI 13) ah))) (ae (aw (bu false (ae (gI 0) (ae (gI 12) (ae (gI 1) (ae (gI 4) ah))))) (au 31 c (ae (aa 1) (ae (gI 4) ah)))) ah)))) (af (aC (.one 6) (au 163 c (ae (aa 3) (ae (aa 5) ah)))) (af (cD (.one 7) (dX (gI 2)) (af (aC (.one 8) (au 162 c (ae (aa 3) (ae (aa 5) ah)))) (af (aV (dG (ay (au 40 c (ae (aa 8) (ae (aa 6) ah))))) rF ai) (af (aV (ay (aL .ne (aa 6) (gS "many"))) (af (yp (pX (aw (aa 8) (gI 0)))) (af (d5 (aw (aa 8) (gI 1)) (gI 0)) ai)) ai) ai)))) ai))) ai)))))) (af (aS gTt) ai))
@[simp] theorem ba {α β:Type}{r:Res α}{f:α->Mem->Res β}{k:β->Mem->Prop}:ag (r.bind f) k↔ag r λa M=>ag (f a M) k:=by cases r<;>rfl
@[simp] theorem a7 {α:Type}{a:α}{M:Mem}{k:α->Mem->Prop}:ag (.ok a M) k↔k a M:=PZ
@[simp] theorem OT {α:Type}{k:α->Mem->Prop}:ag (.bad:Res α) k↔False:=PZ
@[simp] theorem iD {α:Type}{M:Mem}{o:Option α}{k:α->Mem->Prop}:ag (b6 M o) k↔∃a,o=some a/\k a M:=by cases o<;>simp[b6]
def k9 {α:Type}{r:Res α}{k:α->Mem->Prop}:ag r k↔∃a M,r=.ok a M/\k a M:=by
 cases r with
 |ok a M=>exact{λh=>⟨a,M,rfl,h⟩,λ⟨_,_,e,h⟩=>by cases e;exact h}
 |err=>simp[ag]
 |bad=>simp[ag]
def Gx {x y:D}{M:Mem}{v:Bool}(px:aA 64 (view M x)=true)(py:aA 64 (view M y)=true)(h:bV (view M x) (view M y)=v):bC .eq x y M=some v:=by
 have e:jB (view M x) (view M y)=some v:=by unfold jB;rw[px,py,h];simp
 show lQ M x y=_;unfold lQ;rw[e]
def Gw {x y:D}{M:Mem}{v:Bool}(px:aA 64 (view M x)=true)(py:aA 64 (view M y)=true)(h:bV (view M x) (view M y)=v):bC .ne x y M=some (!v):=by
 show(bC .eq x y M).map (!·)=_;rw[Gx px py h];rfl
section
variable{Z:Env}{M:Mem}{a b d lo hi:GE}{s:GA}{t u:GT}{k:D->Mem->Prop}{c:Call}
@[simp] theorem aZ {i:Nat}:ag (aa i Z M) k↔∃d,Z[i]?.getD none=some d/\k d M:=by simp[aa]
@[simp] theorem cb {d:D}:ag (gC d Z M) k↔k d M:=PZ
@[simp] theorem fQ {m:Bool}{o:kJ}:ag (aq m o a b Z M) k↔ag (a Z M) λx M=>ag (b Z M) λy M=>ag (fU m o x y M) k:=by simp[aq]
@[simp] theorem dZ {o:jI}:ag (aL o a b Z M) k↔ag (a Z M) λx M=>ag (b Z M) λy M=>∃v,bC o x y M=some v/\k (.bl v) M:=by simp[aL]
@[simp] theorem LH {o o':jI}:ag (tJ o o' a b d Z M) k↔ag (a Z M) λx M=>ag (b Z M) λy M=>∃v,bC o x y M=some v/\if v=true then ag (d Z M) λz M=>∃v,bC o' y z M=some v/\k (.bl v) M else k (.bl false) M:=by
 simp only[tJ,ba,iD];refine iff_of_eq ?_
 congr 1;funext x M;congr 1;funext y M;refine propext (exists_congr λv=>and_congr_right λ_=>?_)
 cases v<;>simp
@[simp] theorem mS:ag (cE a Z M) k↔ag (a Z M) λx M=>∃i,x=.int i/\k (.int (-i)) M:=by
 simp only[cE,ba];refine iff_of_eq ?_;congr 1;funext x M;cases x<;>simp
@[simp] theorem DQ:ag (eU a b Z M) k↔ag (a Z M) λx M=>∃v,x=.bl v/\if v=true then ag (b Z M) k else k (.bl false) M:=by
 simp only[eU,ba];refine iff_of_eq ?_;congr 1;funext x M;cases x<;>simp;rename_i v;cases v<;>simp
@[simp] theorem f7:ag (aw a b Z M) k↔ag (a Z M) λx M=>ag (b Z M) λy M=>∃d,bS x y M=some d/\k d M:=by simp[aw]
@[simp] theorem rA {m hl hh:Bool}:ag (dC m hl hh a lo hi Z M) k↔ag (a Z M) λx M=>ag (lo Z M) λl M=>ag (hi Z M) λh M=>eT hl l=true/\eT hh h=true/\ag (hU m x l h M) k:=by
 simp only[dC,ba];refine iff_of_eq ?_
 congr 1;funext x M;congr 1;funext l M;congr 1;funext h M
 cases eT hl l<;>cases eT hh h<;>simp
@[simp] theorem bQ {k:List D->Mem->Prop}:ag (ah Z M) k↔k [] M:=PZ
@[simp] theorem bg {k:List D->Mem->Prop}:ag (ae a s Z M) k↔ag (a Z M) λx M=>ag (s Z M) λxs M=>k (x::xs) M:=by simp[ae]
@[simp] theorem f6:ag (bj s Z M) k↔ag (s Z M) λxs M=>xs.length<=sz/\k (.tup xs) M:=by
 simp only[bj,ba];refine iff_of_eq ?_;congr 1;funext xs M;unfold lh;split<;>simp[*]
def nJ {m:Bool}{xs:List D}:ag (br m xs M) k↔xs.length<=sz/\if m=true then k (.cell M.length) (M++[xs]) else k (.lst xs) M:=by
 unfold br;cases m<;>split<;>simp[*]
@[simp] theorem cq {xs:List D}:ag (br false xs M) k↔xs.length<=sz/\k (.lst xs) M:=by simp[nJ]
@[simp] theorem pN {xs:List D}:ag (br true xs M) k↔xs.length<=sz/\k (.cell M.length) (M++[xs]):=by simp[nJ]
@[simp] theorem DN {m:Bool}:ag (bu m s Z M) k↔ag (s Z M) λxs M=>ag (br m xs M) k:=by simp[bu]
@[simp] theorem mv {f:Nat}:ag (au f c s Z M) k↔ag (s Z M) λds M=>ag (c f ds M) k:=by simp[au]
@[simp] theorem F3 {i:Nat}:ag (mh i c s Z M) k↔∃f,Z[i]?.getD none=some (.fn f)/\ag (s Z M) λds M=>ag (c f ds M) k:=by
 unfold mh;cases e:Z[i]?.getD none with
 |none=>simp
 |some d=>cases d<;>simp
@[simp] theorem dA {f:vI}:ag (aY f s Z M) k↔ag (s Z M) λds M=>ag (fh f ds M) k:=by simp[aY]
@[simp] theorem JE {t:Ty}:ag (cQ t a Z M) k↔ag (a Z M) λx M=>∃v,eO t x=some v/\k (.bl v) M:=by simp[cQ]
@[simp] theorem JF {fs:List (Str×Nat)}:ag (lE fs a Z M) k↔ag (a Z M) λx M=>∃y f,x=.str y/\fs.lookup y=some f/\k (.fn f) M:=by
 simp only[lE,ba];refine iff_of_eq ?_;congr 1;funext x M;cases x<;>simp;exact{λ⟨_,⟨f,h,e⟩,q⟩=>{f,h,e ▸ q},λ⟨f,h,q⟩=>{_,⟨f,h,rfl⟩,q}}
@[simp] theorem Pa {fs:List (Str×Nat)}:ag (i5 fs a Z M) k↔ag (a Z M) λx M=>∃y,x=.str y/\k (.bl (!(fs.lookup y).isSome)) M:=by
 simp only[i5,ba];refine iff_of_eq ?_;congr 1;funext x M;cases x<;>simp
@[simp] theorem F1 {m:Bool}:ag (mf m a Z M) k↔ag (a Z M) λx M=>∃n,x=.int n/\(-(2^62)<=n/\n<2^20)/\ag (br m ((List.range n.toNat).map λ(k:Nat)=>D.int (k:Int)) M) k:=by
 simp only[mf,ba];refine iff_of_eq ?_;congr 1;funext x M;cases x<;>simp;rename_i n;split<;>simp[*]
variable{kb:Bool->Mem->Prop}
@[simp] theorem fx:ag (ay a Z M) kb↔ag (a Z M) λx M=>∃v,j7 M x=some v/\kb v M:=by simp[ay]
@[simp] theorem KA:ag (gq t u Z M) kb↔ag (t Z M) λv M=>if v=true then ag (u Z M) kb else kb false M:=by
 simp only[gq,ba];refine iff_of_eq ?_;congr 1;funext v M;cases v<;>simp
@[simp] theorem MX:ag (iz t u Z M) kb↔ag (t Z M) λv M=>if v=true then kb true M else ag (u Z M) kb:=by
 simp only[iz,ba];refine iff_of_eq ?_;congr 1;funext v M;cases v<;>simp
@[simp] theorem Kz:ag (dG t Z M) kb↔ag (t Z M) λv M=>kb (!v) M:=by simp[dG]
variable{kf:Fl->Mem->Prop}{sa sb:GS}
def ij (b:GS)(k:Fl->Mem->Prop):Fl->Mem->Prop
 |.next Z,M=>ag (b Z M) k
 |.ret d,M=>k (.ret d) M
 |.exc x Z,M=>k (.exc x Z) M
@[simp] theorem MW {b:GS}{x:D}:ij b kf (.exc x Z) M↔kf (.exc x Z) M:=PZ
@[simp] theorem a9 {b:GS}:ij b kf (.next Z) M↔ag (b Z M) kf:=PZ
@[simp] theorem nt {b:GS}{d:D}:ij b kf (.ret d) M↔kf (.ret d) M:=PZ
@[simp] theorem az:ag (af sa sb Z M) kf↔ag (sa Z M) (ij sb kf):=by
 simp only[af,ba];refine iff_of_eq ?_;congr 1;funext fl M;cases fl<;>rfl
@[simp] theorem yo:ag (ai Z M) kf↔kf (.next Z) M:=PZ
@[simp] theorem om {i:Nat}:ag (aC (.one i) a Z M) kf↔ag (a Z M) λx M=>kf (.next (Z.set i (some x))) M:=by simp[aC,bU]
@[simp] theorem Hw {l:List Nat}:ag (aC (.tup l) a Z M) kf↔ag (a Z M) λx M=>∃ds ρ1,x=.tup ds/\eR l ds Z=some ρ1/\kf (.next ρ1) M:=by
 simp only[aC,ba,iD,a7];refine iff_of_eq ?_;congr 1;funext x M;cases x<;>simp[bU]
@[simp] theorem km:ag (d4 a b d Z M) kf↔ag (d Z M) λz M=>ag (a Z M) λx M=>ag (b Z M) λy M=>∃j n ds i,x=.cell j/\y=.int n/\M[j]?=some ds/\bW ds.length n=some i/\kf (.next Z) (M.set j (ds.set i z)):=by
 simp only[d4,ba];refine iff_of_eq ?_
 congr 1;funext z M;congr 1;funext x M;congr 1;funext y M
 cases x with
 | cell j =>
   cases y with
   | int n =>
     cases e:M[j]? with
     |none=>simp[e]
     | some ds =>
       cases e2:bW ds.length n with
       |none=>simp[e,e2]
       |some i=>simp[e,e2]
   |_=>simp
 |_=>simp
@[simp] theorem Hy:ag (d5 a d Z M) kf↔ag (a Z M) λx M=>ag (d Z M) λz M=>∃j ds,x=.cell j/\M[j]?=some ds/\ds.length<sz/\kf (.next Z) (M.set j (ds++[z])):=by
 simp only[d5,ba];refine iff_of_eq ?_
 congr 1;funext x M;congr 1;funext z M
 cases x<;>simp;rename_i j;cases e:M[j]? with
 |none=>simp
 |some ds=>by_cases h:ds.length<sz<;>simp[h]
@[simp] theorem cp:ag (aS a Z M) kf↔ag (a Z M) λx M=>kf (.ret x) M:=by simp[aS]
@[simp] theorem Od:ag (C8 Z M) kf↔kf (.ret .non) M:=PZ
@[simp] theorem Oe:ag (C9 Z M) kf↔kf (.next Z) M:=PZ
@[simp] theorem ON:ag (Bb Z M) kf↔False:=PZ
@[simp] theorem fW:ag (aV t sa sb Z M) kf↔ag (t Z M) λv M=>if v=true then ag (sa Z M) kf else ag (sb Z M) kf:=by
 simp only[aV,ba];refine iff_of_eq ?_;congr 1;funext v M;cases v<;>simp
variable{kw:Walk->Mem->Prop}
@[simp] theorem iw:ag (dX a Z M) kw↔ag (a Z M) λx M=>∃n,x=.int n/\(-(2^62)<=n/\n<2^62)/\kw (λ_=>some ((List.range n.toNat).map λ(k:Nat)=>D.int (k:Int))) M:=by
 simp only[dX,ba];refine iff_of_eq ?_;congr 1;funext x M;cases x<;>simp;rename_i n;split<;>simp[*]
@[simp] theorem ig:ag (cz a Z M) kw↔ag (a Z M) λx M=>fY x=true/\kw (λM=>b5 M x) M:=by
 simp only[cz,ba];refine iff_of_eq ?_;congr 1;funext x M;cases x<;>simp[fY]<;>rfl
@[simp] theorem xx:ag (g6 a Z M) kw↔ag (a Z M) λx M=>fY x=true/\kw (λM=>(b5 M x).map (dY 0)) M:=by
 simp only[g6,ba];refine iff_of_eq ?_;congr 1;funext x M;split<;>simp[*]
@[simp] theorem GV:ag (oU a b Z M) kw↔ag (a Z M) λx M=>ag (b Z M) λy M=>(fY x&&fY y)=true/\kw (n6 x y) M:=by
 simp only[oU,ba];refine iff_of_eq ?_;congr 1;funext x M;congr 1;funext y M;split<;>simp[*]
def nS (k:D->Mem->Prop):Fl->Mem->Prop
 |.ret d,M=>k d M
 |.next _,M=>k .non M
 |.exc _ _,_=>False
@[simp] theorem FW {d:D}:nS k (.ret d) M↔k d M:=PZ
@[simp] theorem NS:nS k (.next Z) M↔k .non M:=PZ
def aM {P:Nat->Option Df}{n f:Nat}{d:Df}{ds:List D}(e:P f=some d)(hl:ds.length=d.params)(h:ag (d.body (aj P n) (ds.map some++List.replicate (d.slots-ds.length) none) M) (nS k)):ag (aj P (n+1) f ds M) k:=by
 show ag (match P f with|none=>Res.bad|some d=>gr (aj P n) d ds M) k
 rw[e];show ag (gr (aj P n) d ds M) k;unfold gr;rw[if_pos hl];revert h;cases d.body (aj P n) (ds.map some++List.replicate (d.slots-ds.length) none) M with
 |ok fl M=>cases fl<;>exact id
 |err=>exact id
 |bad=>exact id
@[simp] theorem OU {α:Type}{a:α}{k:α->Mem->Prop}{kx:D->Mem->Prop}:fA (.ok a M) k kx↔k a M:=PZ
@[simp] theorem Oh {α:Type}{x:D}{k:α->Mem->Prop}{kx:D->Mem->Prop}:fA (.err x M:Res α) k kx↔kx x M:=PZ
def wH (k kx:D->Mem->Prop):Fl->Mem->Prop
 |.ret d,M=>k d M
 |.next _,M=>k .non M
 |.exc x _,M=>kx x M
def nX {P:Nat->Option Df}{n f:Nat}{d:Df}{ds:List D}{kx:D->Mem->Prop}(e:P f=some d)(hl:ds.length=d.params)(h:ag (d.body (aj P n) (ds.map some++List.replicate (d.slots-ds.length) none) M) (wH k kx)):fA (aj P (n+1) f ds M) k kx:=by
 show fA (match P f with|none=>Res.bad|some d=>gr (aj P n) d ds M) k kx
 rw[e];show fA (gr (aj P n) d ds M) k kx;unfold gr;rw[if_pos hl];revert h;cases d.body (aj P n) (ds.map some++List.replicate (d.slots-ds.length) none) M with
 |ok fl M=>cases fl<;>exact id
 |err=>exact id
 |bad=>exact id
@[simp] theorem O7 {d:D}{kx:D->Mem->Prop}:wH k kx (.ret d) M↔k d M:=PZ
@[simp] theorem Ol {kx:D->Mem->Prop}:wH k kx (.next Z) M↔k .non M:=PZ
@[simp] theorem O8 {x:D}{kx:D->Mem->Prop}:wH k kx (.exc x Z) M↔kx x M:=PZ
@[simp] theorem Oa {f:Nat}{kx:D->Mem->Prop}:fA (cU f c s Z M) k kx↔ag (s Z M) λds M=>fA (c f ds M) k kx:=by
 unfold cU;cases s Z M<;>rfl
@[simp] theorem OM:ag (iS a Z M) kf↔fA (a Z M) (λ_ M=>kf (.next Z) M) (λx M=>kf (.exc x Z) M):=by
 unfold iS;cases a Z M<;>rfl
@[simp] theorem pE {i:Nat}:ag (fK (.one i) a Z M) kf↔fA (a Z M) (λx M=>kf (.next (Z.set i (some x))) M) (λx M=>kf (.exc x Z) M):=by
 unfold fK;cases a Z M<;>rfl
@[simp] theorem A9 {i:Nat}:ag (gQ i s Z M) kf↔ag (s Z M) λds M=>ds.length<=sz/\kf (.exc (.exc i none) Z) M:=by
 unfold gQ;cases s Z M with
 |ok ds M1=>by_cases h:ds.length<=sz<;>simp[h]
 |err=>exact PZ
 |bad=>exact PZ
def NZ (k1 k2:Nat)(h:GS)(kf:Fl->Mem->Prop):Fl->Mem->Prop
 |.exc x Z,M=>∃c p,x=.exc c p/\(c=k1\/c=k2)/\ag (h Z M) (λfl M=>match fl with|.exc _ _=>False|fl=>kf fl M)
 |fl,M=>kf fl M
@[simp] theorem sg {k1 k2:Nat}{h:GS}:ag (lW sa k1 k2 h Z M) kf↔ag (sa Z M) (NZ k1 k2 h kf):=by
 simp only[lW,ba];refine iff_of_eq ?_;congr 1;funext fl M;cases fl with
 | exc x Z =>
   cases x with
   | exc c p =>
     by_cases hc:c=k1\/c=k2
     ·have e:ki k1 k2 h (.exc (.exc c p) Z) M=(h Z M).bind λfl M=>match fl with|.exc _ _=>.bad|fl=>.ok fl M:=if_pos hc
      rw[e];simp only[ba];refine propext {λz=>{c,p,rfl,hc,aP z λfl M q=>?_},λ⟨_,_,e,_,z⟩=>?_}
      ·cases fl with
       |exc=>exact q.elim
       |next=>exact q
       |ret=>exact q
      ·refine aP z λfl M q=>?_;cases fl with
       |exc=>exact q.elim
       |next=>exact q
       |ret=>exact q
     ·have e:ki k1 k2 h (.exc (.exc c p) Z) M=.bad:=if_neg hc;rw[e];exact propext {λz=>z.elim,λ⟨_,_,e,z,_⟩=>by cases e;exact absurd z hc}
   |_=>exact propext {λz=>z.elim,λ⟨_,_,e,_⟩=>by cases e}
 |next Z=>rfl
 |ret d=>rfl
def gn {α:Type}{f:α->D->Mem->Res α}{w:Walk}{ds:List D}{a:α}{k:α->Mem->Prop}(I:Nat->α->Mem->Prop)(hw:∀i a M,I i a M->w M=some ds)(h0:I 0 a M)
 (hs:∀i d a M,ds[i]?=some d->I i a M->ag (f a d M) (I (i+1))) (hk:∀a M,I ds.length a M->k a M):ag (dg f w a M) k:=by
 have key:∀(m i:Nat) (a:α) (M:Mem),ds.length-i<m->i<=ds.length->I i a M->ag (fO f w m i a M) k:=by
  intro m;induction m with
  |zero=>intro i a M h;exact absurd h (Qq _)
  | succ m ih =>
    intro i a M h hi hI;show ag (match w M with|none=>Res.bad|some ds=>match ds[i]? with|none=>Res.ok a M|some d=>(f a d M).bind (fO f w m (i+1))) k
    rw[hw i a M hI];dsimp only;by_cases hlt:i<ds.length
    ·rw[OO hlt];simp only[ba];exact aP (hs i ds[i] a M (OO hlt) hI) λa' M' h'=>ih (i+1) a' M' `a hlt h'
    ·have e:i=ds.length:=`a
     subst e;rw[List.getElem?_eq_none (OC _)];exact hk a M hI
 unfold dg;rw[hw 0 a M h0];exact key _ 0 a M `s (Qc _) h0
def fw {t:cf}{w:Walk}{gb:GS}{ds:List D}(I:Nat->Env->Mem->Prop)(hw:∀i Z M,I i Z M->w M=some ds)(h0:I 0 Z M)
 (hs:∀i d Z M,ds[i]?=some d->I i Z M->∃ρ1,bU t d Z=some ρ1/\ag (gb ρ1 M) λfl M=>∃ρ',fl=.next ρ'/\I (i+1) ρ' M) (hk:∀Z M,I ds.length Z M->kf (.next Z) M):ag (dg (gO t gb) w (.next Z) M) kf:=by
 refine gn (λi fl M=>∃Z,fl=.next Z/\I i Z M) (λi fl M ⟨Z,_,h⟩=>hw i Z M h) ⟨Z,rfl,h0⟩ ?_ ?_
 ·rintro i d fl M hd ⟨Z,rfl,hI⟩;obtain⟨ρ1,e,h⟩:=hs i d Z M hd hI;simp only[gO,ba,iD,e];exact⟨ρ1,rfl,h⟩
 ·rintro fl M ⟨Z,rfl,hI⟩;exact hk Z M hI
@[simp] theorem fz {tg:cf}{w:GW}{gb:GS}:ag (cD tg w gb Z M) kf↔ag (w Z M) λw M=>ag (dg (gO tg gb) w (.next Z) M) kf:=by simp[cD]
@[simp] theorem eD {m:Bool}{n:Nat}{tg:cf}{w:GW}{g:GB}:ag (bo m n tg w g Z M) k↔ag (w Z M) λw M=>ag (dg (cK tg g (List.replicate n none++Z)) w [] M) λacc M=>ag (br m acc M) k:=by simp[bo]
variable{kl:List D->Mem->Prop}
@[simp] theorem D6 {ge:GE}{acc:List D}:ag (bw ge Z acc M) kl↔ag (ge Z M) λx M=>acc.length<sz/\kl (acc++[x]) M:=by
 simp only[bw,ba];refine iff_of_eq ?_;congr 1;funext x M;split<;>simp[*]
def comp_map {tg:cf}{w:Walk}{ge:GE}{ds:List D}{ρ0:Env}(I:Nat->List D->Mem->Prop)(hz:ds.length<=sz)(hw:∀i acc M,I i acc M->w M=some ds)(h0:I 0 [] M)
 (hs:∀i d acc M,ds[i]?=some d->acc.length=i->I i acc M->∃ρ1,bU tg d ρ0=some ρ1/\ag (ge ρ1 M) λx M=>I (i+1) (acc++[x]) M) (hk:∀acc M,acc.length=ds.length->I ds.length acc M->kl acc M) :
 ag (dg (cK tg (bw ge) ρ0) w [] M) kl:=by
 refine gn (λi acc M=>acc.length=i/\I i acc M) (λi acc M h=>hw i acc M h.2) ⟨rfl,h0⟩ ?_ (λacc M h=>hk acc M h.1 h.2);rintro i d acc M hd ⟨hl,hI⟩;obtain⟨ρ1,e,h⟩:=hs i d acc M hd hl hI;have hi:i<ds.length:=(Ov.mp hd).1;simp only[cK,ba,iD,e,D6];exact{ρ1,rfl,aP h λx M h=>{`a,by simp[hl],h}}
end
def bH {t:GT}{A rest:GS}{Z:Env}{M:Mem}{k:Fl->Mem->Prop}(ht:t Z M=.ok false M)(h:ag (rest Z M) k):ag (af (aV t A ai) rest Z M) k:=by
 simp only[az,fW];rw[ht];exact h
def jg {t:GT}{e:GE}{rest:GS}{Z:Env}{M:Mem}{v:D}{k:Fl->Mem->Prop}(ht:t Z M=.ok true M)(he:e Z M=.ok v M)(h:k (.ret v) M):ag (af (aV t (af (aS e) ai) ai) rest Z M) k:=by
 simp only[az,fW,cp];rw[ht];show ag (e Z M) _;rw[he];exact h
def dz {e:GE}{Z:Env}{M:Mem}{v:D}{k:Fl->Mem->Prop}(he:e Z M=.ok v M)(h:k (.ret v) M):ag (af (aS e) ai Z M) k:=by
 simp only[az,cp];rw[he];exact h
def du {r:Res Fl}{v:D}{M:Mem}(e:r=.ok (.ret v) M):ag r (nS λx M'=>x=v/\M'=M):=by rw[e];exact⟨rfl,rfl⟩
structure HasB0 (P:Nat->Option Df):Prop where
 is_between:P 0=some {3,3,fF}
 is_word:P 1=some {2,2,jY}
 is_place:P 2=some {2,2,jb}
 is_cost:P 3=some {1,1,jZ}
 is_tuple_of:P 4=some {2,2,gg}
 is_table:P 5=some {2,2,ja}
 is_double_table:P 6=some {2,2,eP}
 is_turn:P 7=some {3,6,gG}
 is_join:P 8=some {3,7,gK}
 is_move:P 9=some {3,6,gJ}
 is_put:P 10=some {3,6,ic}
 is_deed:P 11=some {3,5,gL}
 is_machine:P 12=some {1,4,fE}
 need_machine:P 13=some {1,1,ib}
structure HasM0 (P:Nat->Option Df):Prop extends HasB0 P where
 is_deed_number:P 16=some {2,2,nZ}
 need_numbers:P 17=some {2,4,qh}
 need_row:P 18=some {2,2,wV}
structure HasM (P:Nat->Option Df):Prop extends HasM0 P where
 turned:P 20=some {2,6,lK}
 joined:P 21=some {2,7,lM}
 moved:P 22=some {2,6,mY}
 put_in:P 23=some {2,6,lL}
 done:P 24=some {2,4,pz}
 all_standing:P 25=some {3,5,qi}
structure HasP0 (P:Nat->Option Df):Prop where
 law_spread:P 28=some {2,6,gi}
 law_open:P 29=some {1,4,ke}
 law_anew:P 30=some {1,1,kg}
 law_take:P 31=some {2,5,nj}
structure HasP (P:Nat->Option Df):Prop extends HasP0 P where
 law_tab:P 32=some {2,6,jc}
 law_deed:P 33=some {3,7,ir}
 law_machine:P 34=some {4,8,fR}
instance coeHasB0 {P:Nat->Option Df}:Coe (HasM0 P) (HasB0 P):=⟨HasM0.toHasB0⟩
instance coeHasBM {P:Nat->Option Df}:Coe (HasM P) (HasB0 P):={λh=>h.toHasM0.toHasB0}
structure j4 (P:Nat->Option Df):Prop where
 turned:P 20=some {2,6,lK}
 joined:P 21=some {2,7,lM}
 moved:P 22=some {2,6,mY}
 put_in:P 23=some {2,6,lL}
 done:P 24=some {2,4,pz}
def HasM.r {P:Nat->Option Df}(h:HasM P):j4 P:=⟨h.turned,h.joined,h.moved,h.put_in,h.done⟩
instance coeHasR0 {P:Nat->Option Df}:Coe (HasM P) (j4 P):=⟨HasM.r⟩
instance coeHasM {P:Nat->Option Df}:Coe (HasM P) (HasM0 P):=⟨HasM.toHasM0⟩
instance coeHasP {P:Nat->Option Df}:Coe (HasP P) (HasP0 P):=⟨HasP.toHasP0⟩
@[simp] theorem Pe {d:Option D}{r:Env}:(d::r)[0]?.getD none=d:=rfl
section
variable{M:Mem}{k:D->Mem->Prop}
def l4 {α:Type}{c:Prop}[Decidable c]{r:Res α}{k:α->Mem->Prop}:ag (if c then r else .bad) k↔c/\ag r k:=by split<;>simp[*]
@[simp] theorem iM {m:Bool}{i j:Int}:ag (fU m .add (.int i) (.int j) M) k↔k (.int (i+j)) M:=PZ
@[simp] theorem xW {m:Bool}{i j:Int}:ag (fU m .sub (.int i) (.int j) M) k↔k (.int (i-j)) M:=PZ
@[simp] theorem OX {m:Bool}{i j:Int}:ag (fU m .mul (.int i) (.int j) M) k↔((-(2^64)<i/\i<2^64)\/(-(2^64)<j/\j<2^64))/\k (.int (i*j)) M:=l4
@[simp] theorem OY {m:Bool}{i j:Int}:ag (fU m .mod (.int i) (.int j) M) k↔0<j/\k (.int (i % j)) M:=l4
@[simp] theorem Om {m:Bool}{i j:Int}:ag (fU m .fdiv (.int i) (.int j) M) k↔(0<j/\j<1073741824)/\k (.int (i / j)) M:=l4
@[simp] theorem Ab {m:Bool}{x y:List D}:ag (fU m .add (.tup x) (.tup y) M) k↔(x++y).length<=sz/\k (.tup (x++y)) M:=by
 show ag (lh _ _) k↔_;unfold lh;exact l4
@[simp] theorem Pb {m:Bool}{x y:List D}:ag (fU m .add (.lst x) (.lst y) M) k↔ag (br m (x++y) M) k:=PZ
@[simp] theorem Oo {i j:Int}:bC .lt (.int i) (.int j) M=some (decide (i<j)):=rfl
@[simp] theorem Oq {i j:Int}:bC .le (.int i) (.int j) M=some (decide (i<=j)):=rfl
@[simp] theorem Ot {i j:Int}:bC .gt (.int i) (.int j) M=some (decide (j<i)):=rfl
@[simp] theorem Ou {i j:Int}:bC .ge (.int i) (.int j) M=some (decide (j<=i)):=rfl
@[simp] theorem Ph {i j:Int}:bC .eq (.int i) (.int j) M=some (i==j):=rfl
@[simp] theorem Pf {i j:Int}:bC .ne (.int i) (.int j) M=some (!(i==j)):=rfl
@[simp] theorem OB {b:Bool}:j7 M (.bl b)=some b:=rfl
@[simp] theorem Ob {ds:List D}:j7 M (.tup ds)=some (!ds.isEmpty):=rfl
@[simp] theorem Oc {ds:List D}:j7 M (.lst ds)=some (!ds.isEmpty):=rfl
@[simp] theorem FL {ds:List D}:ag (fh .len [.tup ds] M) k↔k (.int ds.length) M:=PZ
@[simp] theorem Oi {ds:List D}:ag (fh .len [.lst ds] M) k↔k (.int ds.length) M:=PZ
@[simp] theorem GJ {ds:List D}:ag (fh .all [.lst ds] M) k↔∃bs,boolsOf ds=some bs/\k (.bl (bs.all id)) M:=by
 show ag (match boolsOf ds with|some bs=>_|none=>_) k↔_
 cases boolsOf ds<;>simp
@[simp] theorem EM {ds:List D}:ag (fh .sum [.lst ds] M) k↔∃bs,intsOf ds=some bs/\k (.int bs.sum) M:=by
 show ag (match intsOf ds with|some bs=>_|none=>_) k↔_
 cases intsOf ds<;>simp
@[simp] theorem Mn {ds:List D}:ag (fh .tuple [.lst ds] M) k↔k (.tup ds) M:=PZ
@[simp] theorem vN {j:Nat}:ag (fh .tuple [.cell j] M) k↔∃ds,M[j]?=some ds/\k (.tup ds) M:=by
 show ag (match M[j]? with|some xs=>_|none=>_) k↔_
 cases M[j]?<;>simp
@[simp] theorem BH {m:Bool}{ds:List D}:ag (fh (.list m) [.lst ds] M) k↔ag (br m ds M) k:=PZ
@[simp] theorem mO {ds:List D}{i:Int}:bS (.tup ds) (.int i) M=(bW ds.length i).bind λj=>ds[j]?:=rfl
@[simp] theorem Oj {ds:List D}{i:Int}:bS (.lst ds) (.int i) M=(bW ds.length i).bind λj=>ds[j]?:=rfl
@[simp] theorem NO {j:Nat}{i:Int}:bS (.cell j) (.int i) M=(M[j]?).bind λds=>(bW ds.length i).bind λj=>ds[j]?:=rfl
def dN {n i:Nat}(h:i<n):bW n (i:Int)=some i:=by
 unfold bW;rw[if_pos (Int.natCast_nonneg i),if_pos (by exact_mod_cast h)];rfl
end
def dw {α:Type}{r:Res α}{d:α}{M:Mem}(h:ag r λx M'=>x=d/\M'=M):r=.ok d M:=by
 obtain⟨a,M',e,rfl,rfl⟩:=k9.mp h;exact e
def av {r:Res D}{d:D}{M:Mem}(h:ag r λx M'=>x=d/\M'=M):r=.ok d M:=by
 obtain⟨a,M',e,rfl,rfl⟩:=k9.mp h;exact e
section
variable{P:Nat->Option Df}(h:HasB0 P){M:Mem}
include h
theorem vR (n:Nat)(t lo hi:Int):aj P (n+1) 0 [.int t,.int lo,.int hi] M=.ok (.bl (decide (lo<=t)&&decide (t<=hi))) M:=by
 refine av (aM h.is_between rfl ?_);simp[fF,eO];by_cases h1:lo<=t<;>simp[h1]<;>omega
end
def fc {tg:cf}{w:Walk}{ge:GE}{ds:List D}{ρ0:Env}{M:Mem}{kl:List D->Mem->Prop}(f:D->D)(hz:ds.length<=sz)(hw:w M=some ds)(hs:∀d∈ds,∃ρ1,bU tg d ρ0=some ρ1/\ge ρ1 M=.ok (f d) M)(hk:kl (ds.map f) M) :
 ag (dg (cK tg (bw ge) ρ0) w [] M) kl:=by
 refine comp_map (λi acc M'=>M'=M/\acc=(ds.take i).map f) hz (λi acc M' h=>by rw[h.1];exact hw) ⟨rfl,rfl⟩ ?_ ?_
 ·rintro i d acc M' hd _ ⟨rfl,rfl⟩;obtain⟨ρ1,e1,e2⟩:=hs d (Pj hd);refine{ρ1,e1,?_};rw[e2];refine{rfl,?_};have hi:i<ds.length:=(Ov.mp hd).1;rw[P8,hd];simp
 ·rintro acc M' _ ⟨rfl,rfl⟩;simpa using hk
abbrev nD (n:Nat):D:=.int (n:Int)
def ax (l:List Nat):D:=.tup (l.map nD)
inductive aH where
 |turn (at_:Nat) (tab:List Nat) (cost:Nat)
 |join (at_ other:Nat) (tab:List (List Nat)) (cost:Nat)
 |move (at_ other cost:Nat)
 |put (at_ word cost:Nat)
def aH.d:aH->D
 |.turn a t c=>.tup [.str "turn",nD a,ax t,nD c]
 |.join a o t c=>.tup [.str "join",nD a,nD o,.tup (t.map ax),nD c]
 |.move a o c=>.tup [.str "move",nD a,nD o,nD c]
 |.put a w c=>.tup [.str "put",nD a,nD w,nD c]
def aH.cost:aH->Nat
 |.turn _ _ c=>c
 |.join _ _ _ c=>c
 |.move _ _ c=>c
 |.put _ _ c=>c
structure aN where
 words:Nat
 places:Nat
 deeds:List aH
def aN.d (m:aN):D:=.tup [nD m.words,nD m.places,.tup (m.deeds.map aH.d)]
def fS (w:Nat)(t:List Nat):Prop:=t.length=w/\∀x∈t,x<w
def fb (c:Nat):Prop:=1<=c/\c<=3
def bN (w p:Nat):aH->Prop
 |.turn a t c=>a<p/\fS w t/\fb c
 |.join a o t c=>a<p/\o<p/\(t.length=w/\∀x∈t,fS w x)/\fb c
 |.move a o c=>a<p/\o<p/\fb c
 |.put a x c=>a<p/\x<w/\fb c
structure aO (m:aN):Prop where
 w2:2<=m.words
 w4:m.words<=4
 p1:1<=m.places
 p2:m.places<=2
 d1:1<=m.deeds.length
 d6:m.deeds.length<=6
 ok:∀d∈m.deeds,bN m.words m.places d
def aF {n:Nat}(h:n<=100000):n<=sz:=OZ h `d
def Nr:cF.lookup (Str.ofString "turn")=some 7:=`k
def Nq:cF.lookup (Str.ofString "join")=some 8:=`k
def Np:cF.lookup (Str.ofString "move")=some 9:=`k
def Nn:cF.lookup (Str.ofString "put")=some 10:=`k
section
variable{Z:Env}{M:Mem}{a b:GE}{s:GA}{k:D->Mem->Prop}{kf:Fl->Mem->Prop}{t u:GT}{A rest:GS}
def bG {t rest:GS}{ρ':Env}(e:t Z M=.ok (.next ρ') M)(h:ag (rest ρ' M) kf):ag (af t rest Z M) kf:=by
 simp only[az];rw[e];exact h
def ak {x:D}{xs:List D}(ea:a Z M=.ok x M)(es:s Z M=.ok xs M):ae a s Z M=.ok (x::xs) M:=by
 unfold ae;rw[ea];show(s Z M).bind _=_;rw[es];rfl
def oO {xs:List D}(es:s Z M=.ok xs M)(hl:xs.length<=100):bu false s Z M=.ok (.lst xs) M:=by
 unfold bu;rw[es];show(if xs.length<=sz then(if false=true then _ else Res.ok (D.lst xs) M) else .bad)=_;rw[if_pos (aF `a)]
 rfl
def Kh {xs ys:List D}(ea:a Z M=.ok (.lst xs) M)(eb:b Z M=.ok (.lst ys) M)(hl:(xs++ys).length<=100):aq false .add a b Z M=.ok (.lst (xs++ys)) M:=by
 unfold aq;rw[ea];show(b Z M).bind _=_;rw[eb];show(if (xs++ys).length<=sz then(if false=true then _ else Res.ok (D.lst (xs++ys)) M) else .bad)=_;rw[if_pos (aF `a)]
 rfl
def cv {i:Nat}{x:D}(e:a Z M=.ok x M):aC (.one i) a Z M=.ok (.next (Z.set i (some x))) M:=by
 unfold aC;rw[e];rfl
def aK {j:Nat}{x:D}(h:Z[j]?.getD none=some x):aa j Z M=.ok x M:=by
 unfold aa;rw[h];rfl
def bz {f:Nat}{c:Call}{xs:List D}(e:s Z M=.ok xs M):au f c s Z M=c f xs M:=by
 unfold au;rw[e];rfl
def rC {f i:Nat}{c:Call}{x:D}{r:Res D}(h:Z[i]?.getD none=some x)(e:c f [x] M=r):au f c (ae (aa i) ah) Z M=r:=(bz (ak (aK h) rfl)).trans e
def i9 {f i j:Nat}{c:Call}{x y:D}{r:Res D}(h:Z[i]?.getD none=some x)(h2:Z[j]?.getD none=some y)(e:c f [x,y] M=r):au f c (ae (aa i) (ae (aa j) ah)) Z M=r:=(bz (ak (aK h) (ak (aK h2) rfl))).trans e
def c5 {i:Nat}(h:ag (a Z M) k)(hk:∀x M',k x M'->ag (rest (Z.set i (some x)) M') kf):ag (af (aC (.one i) a) rest Z M) kf:=by
 obtain⟨x,M',e,q⟩:=k9.mp h;simp only[az];unfold aC;rw[e];exact hk x M' q
def zo (ht:t Z M=.ok true M)(h:ag (A Z M) (ij rest kf)):ag (af (aV t A ai) rest Z M) kf:=by
 simp only[az,fW];rw[ht];exact h
def bY {b:Bool}(ht:t Z M=.ok b M)(h1:b=true->ag (A Z M) (ij rest kf))(h2:b=false->ag (rest Z M) kf):ag (af (aV t A ai) rest Z M) kf:=by
 cases b with
 |true=>exact zo ht (h1 rfl)
 |false=>exact bH ht (h2 rfl)
def oF {b:Bool}(h:t Z M=.ok b M):dG t Z M=.ok (!b) M:=by
 unfold dG;rw[h];rfl
def fq {b:Bool}(h:a Z M=.ok (.bl b) M):ay a Z M=.ok b M:=by
 unfold ay;rw[h];rfl
def Dg {x y:Bool}(h1:t Z M=.ok x M)(h2:u Z M=.ok y M):iz t u Z M=.ok (x||y) M:=by
 unfold iz;rw[h1];cases x with
 |true=>rfl
 |false=>exact h2
def qk {x y:Bool}(h1:t Z M=.ok x M)(h2:u Z M=.ok y M):gq t u Z M=.ok (x&&y) M:=by
 unfold gq;rw[h1];cases x with
 |true=>exact h2
 |false=>rfl
def iL {x y:Bool}(h1:a Z M=.ok (.bl x) M)(h2:x=true->b Z M=.ok (.bl y) M):eU a b Z M=.ok (.bl (x&&y)) M:=by
 unfold eU;rw[h1];cases x with
 |true=>exact h2 rfl
 |false=>rfl
def jh {k:Bool}{x:D}(ht:t Z M=.ok k M)(h1:k=true->a Z M=.ok x M)(h2:k=false->b Z M=.ok x M):lD t a b Z M=.ok x M:=by
 unfold lD;rw[ht];cases k with
 |true=>exact h1 rfl
 |false=>exact h2 rfl
def wo {j:Nat}{ds:List D}(e:Z[j]?.getD none=some (.tup ds)):aY .len (ae (aa j) ah) Z M=.ok (nD ds.length) M:=by
 unfold aY;rw[ak (aK e) rfl];rfl
def Lg {i j:Int}(h1:a Z M=.ok (.int i) M)(h2:b Z M=.ok (.int j) M):ay (aL .ne a b) Z M=.ok (!(i==j)) M:=by
 refine fq ?_;unfold aL;rw[h1];show(b Z M).bind _=_;rw[h2];rfl
end
def Th:Nat->Nat->D->Prop
 |_,_,.non=>True
 |_,_,.bl _=>True
 |_,_,.int _=>True
 |_,L,.str x=>x.cps.size<=L/\x.cps.all (· < 0x110000)=true
 |n+1,L,.tup ds=>ds.length<=L/\∀d∈ds,Th n L d
 |n+1,L,.lst ds=>ds.length<=L/\∀d∈ds,Th n L d
 |_,_,_=>False
def Th.mono:∀{n n' L L':Nat}{d:D},Th n L d->n<=n'->L<=L'->Th n' L' d
 |n,n',L,L',.non,_,_,_=>by cases n'<;>trivial
 |n,n',L,L',.bl _,_,_,_=>by cases n'<;>trivial
 |n,n',L,L',.int _,_,_,_=>by cases n'<;>trivial
 | n, n', L, L', .str x, h, _, l => by
   have h:x.cps.size<=L/\x.cps.all (· < 0x110000)=true:=by cases n<;>exact h
   have:x.cps.size<=L'/\x.cps.all (· < 0x110000)=true:={OZ h.1 l,h.2};cases n'<;>exact this
 |n+1,n'+1,L,L',.tup ds,h,a,l=>{OZ h.1 l,λd hd=>Th.mono (h.2 d hd) (Nat.le_of_succ_le_succ a) l}
 |n+1,n'+1,L,L',.lst ds,h,a,l=>{OZ h.1 l,λd hd=>Th.mono (h.2 d hd) (Nat.le_of_succ_le_succ a) l}
 |n+1,0,L,L',.tup ds,h,a,l=>`a
 |n+1,0,L,L',.lst ds,h,a,l=>`a
 |0,n',L,L',.tup ds,h,a,l=>h.elim
 |0,n',L,L',.lst ds,h,a,l=>h.elim
 |n,n',L,L',.frz _,h,_,_=>by cases n<;>exact h.elim
 |n,n',L,L',.cell _,h,_,_=>by cases n<;>exact h.elim
 |n,n',L,L',.fn _,h,_,_=>by cases n<;>exact h.elim
 |n,n',L,L',.exc _ _,h,_,_=>by cases n<;>exact h.elim
def Th.tup {n L:Nat}{ds:List D}(h:Th n L (.tup ds)):ds.length<=L/\∀d∈ds,Th n L d:=by
 cases n with
 |zero=>exact h.elim
 |succ n=>exact{h.1,λd hd=>(h.2 d hd).mono (Nat.le_succ n) (OC L)}
def bF (lo hi:Int):D->Bool
 |.int i=>decide (lo<=i)&&decide (i<=hi)
 |_=>false
def gp (w:Nat):D->Bool
 |.tup ds=>ds.length==w
 |_=>false
def kN (w:Nat):D->Bool
 |.tup ds=>ds.length==w&&ds.all (bF 0 ((w:Int)-1))
 |_=>false
def oY (w:Nat):D->Bool
 |.tup ds=>ds.length==w&&ds.all (kN w)
 |_=>false
def qZ (w p:Nat):List D->Bool
 |[a,t,c]=>bF 0 ((p:Int)-1) a&&(kN w t&&bF 1 3 c)
 |_=>false
def rj (w p:Nat):List D->Bool
 |[a,o,t,c]=>bF 0 ((p:Int)-1) a&&(bF 0 ((p:Int)-1) o&&(oY w t&&bF 1 3 c))
 |_=>false
def rg (w p:Nat):List D->Bool
 |[a,o,c]=>bF 0 ((p:Int)-1) a&&(bF 0 ((p:Int)-1) o&&bF 1 3 c)
 |_=>false
def vX (w p:Nat):List D->Bool
 |[a,x,c]=>bF 0 ((p:Int)-1) a&&(bF 0 ((w:Int)-1) x&&bF 1 3 c)
 |_=>false
def dF (w p:Nat)(s:Str)(ds:List D):Bool:=
 if s="turn" then qZ w p ds else if s="join" then rj w p ds else if s="move" then rg w p ds else if s="put" then vX w p ds else false
def i6 (w p:Nat):D->Bool
 |.tup (.str s::ds)=>dF w p s ds
 |_=>false
def iT:D->Bool
 |.tup ds=>decide (1<=ds.length)&&decide (ds.length<=6)
 |_=>false
def Jr:D->List D
 |.tup ds=>ds
 |_=>[]
def h9:D->Nat
 |.int i=>i.toNat
 |_=>0
def vC {lo hi:Int}{d:D}(h:bF lo hi d=true)(h0:0<=lo):d=nD (h9 d)/\lo<=(h9 d:Int)/\(h9 d:Int)<=hi:=by
 cases d with
 | int i =>
   simp[bF] at h;refine{?_,?_}
   ·show D.int i=D.int ((i.toNat:Nat):Int);rw[Int.toNat_of_nonneg `a]
   ·show lo<=((i.toNat:Nat):Int)/\((i.toNat:Nat):Int)<=hi;rw[Int.toNat_of_nonneg `a]
    exact h
 |_=>cases h
def i4:D->Bool
 |.tup [a,b,c]=>bF 2 4 a&&(bF 1 2 b&&(iT c&&(Jr c).all (i6 (h9 a) (h9 b))))
 |_=>false
def BC {d:D}(h:gp 3 d=false):i4 d=false:=by
 match d,h with
 |.tup [a,b,c],h=>cases h
 |.tup [],_=>rfl
 |.tup [_],_=>rfl
 |.tup [_,_],_=>rfl
 |.tup (_::_::_::_::r),_=>rfl
 |.non,_=>rfl
 |.bl _,_=>rfl
 |.int _,_=>rfl
 |.str _,_=>rfl
 |.lst _,_=>rfl
 |.frz _,_=>rfl
 |.cell _,_=>rfl
 |.fn _,_=>rfl
 |.exc _ _,_=>rfl
structure Ks (P:Nat->Option Df):Prop where
 is_between:P 0=some {3,3,fF}
 is_word:P 1=some {2,2,jY}
 is_place:P 2=some {2,2,jb}
 is_cost:P 3=some {1,1,jZ}
 is_tuple_of:P 4=some {2,2,gg}
 is_table:P 5=some {2,2,ja}
 is_double_table:P 6=some {2,2,eP}
 is_turn:P 7=some {3,6,gG}
 is_join:P 8=some {3,7,gK}
 is_move:P 9=some {3,6,gJ}
 is_put:P 10=some {3,6,ic}
 is_deed:P 11=some {3,5,gL}
 is_machine:P 12=some {1,4,fE}
def ni (f:D->Bool):∀ds:List D,boolsOf (ds.map λd=>.bl (f d))=some (ds.map f)
 |[]=>rfl
 |d::r=>by simp[boolsOf,ni f r]
def all_eq {w:GW}{ge:GE}{Z:Env}{M:Mem}{ds:List D}(f:D->Bool)(hw:ag (w Z M) λwk M'=>M'=M/\wk M=some ds)(hz:ds.length<=sz)(he:∀d∈ds,ge (some d::Z) M=.ok (.bl (f d)) M) :
 aY .all (ae (bo false 1 (.one 0) w (bw ge)) ah) Z M=.ok (.bl (ds.all f)) M:=by
 refine av ?_;simp only[dA,bg,eD,bQ];refine aP hw λwk M' ⟨e1,e2⟩=>?_;subst e1;refine fc (λd=>.bl (f d)) hz e2 (λd hd=>{some d::Z,rfl,he d hd}) ?_;simp only[cq,Oz,GJ];refine{hz,_,ni f ds,?_,trivial}
 congr 1
 rw[List.all_map];rfl
def BX {k L:Nat}{x:D}(hx:Th k L x){t:Ty}(h:((¬ ∃s,x=.str s)/\t=.str\/(¬ ∃s,x=.tup s)/\t=.tuple)):eO t x=some false:=by
 rcases h with⟨h,rfl⟩|⟨h,rfl⟩<;>cases x<;>first|rfl|exact absurd {_,rfl} h|(cases k<;>exact hx.elim)
section
variable{P:Nat->Option Df}(h:Ks P){M:Mem}{k L:Nat}{d:D}
include h
theorem kj (n:Nat)(hd:Th k L d)(lo hi:Int):aj P (n+1) 0 [d,.int lo,.int hi] M=.ok (.bl (bF lo hi d)) M:=by
 cases d with
 | int t =>
   refine av (aM h.is_between rfl ?_);simp[fF,eO,bF];by_cases h1:lo<=t<;>simp[h1]<;>omega
 |fn j=>cases k<;>exact hd.elim
 |exc y p=>cases k<;>exact hd.elim
 |_=>exact av (aM h.is_between rfl (du rfl))
theorem r8 (n:Nat){w:Nat}(hd:Th k L d):aj P (n+2) 1 [nD w,d] M=.ok (.bl (bF 0 ((w:Int)-1) d)) M:=by
 refine av (aM h.is_word rfl ?_);simp[jY,kj h _ hd]
theorem gy (n:Nat){w:Nat}(hd:Th k L d):aj P (n+2) 2 [nD w,d] M=.ok (.bl (bF 0 ((w:Int)-1) d)) M:=by
 refine av (aM h.is_place rfl ?_);simp[jb,kj h _ hd]
theorem kO (n:Nat)(hd:Th k L d):aj P (n+2) 3 [d] M=.ok (.bl (bF 1 3 d)) M:=by
 refine av (aM h.is_cost rfl ?_);simp[jZ,kj h _ hd]
theorem mH (n:Nat){w:Nat}(hd:Th k L d):aj P (n+1) 4 [nD w,d] M=.ok (.bl (gp w d)) M:=by
 refine av (aM h.is_tuple_of rfl ?_);cases d with
 |fn j=>cases k<;>exact hd.elim
 |exc y p=>cases k<;>exact hd.elim
 | tup ds =>
   simp[gg,eO,gp];by_cases e:ds.length=w
   ·simp[e]
   ·have:¬ ((ds.length:Int)=(w:Int)):=`a
    simp[e,this]
 |_=>exact du rfl
theorem uL (n:Nat){w:Nat}(hd:Th k L d)(hL:L<=100):aj P (n+3) 5 [nD w,d] M=.ok (.bl (kN w d)) M:=by
 refine av (aM h.is_table rfl ?_);have e:=mH h (n+1) (w:=w) (M:=M) hd;simp only[ja,az,cp,DQ,mv,bg,bQ,aZ,Pr,QK,QJ,Qi,QH,QI,Option.getD_some,Option.some.injEq,exists_eq_left'];rw[e];refine{_,rfl,?_};cases d with
 | tup ds =>
   have ht:=hd.tup;by_cases el:ds.length=w
   ·have:gp w (.tup ds)=true:=by simp[gp,el]
    rw[this,if_pos rfl,all_eq (ds:=ds) (bF 0 ((w:Int)-1)) (by simp;exact⟨rfl,rfl⟩) (aF `a) (λd hd=>av (by simp[r8 h n (ht.2 d hd)]))]
    exact{by simp[kN,el],rfl}
   ·have:gp w (.tup ds)=false:=by simp[gp,el]
    rw[this,if_neg `s]
    exact{by simp[kN,el],rfl}
 |_=>exact⟨rfl,rfl⟩
theorem A1 (n:Nat){w:Nat}(hd:Th k L d)(hL:L<=100):aj P (n+4) 6 [nD w,d] M=.ok (.bl (oY w d)) M:=by
 refine av (aM h.is_double_table rfl ?_);have e:=mH h (n+2) (w:=w) (M:=M) hd;simp only[eP,az,cp,DQ,mv,bg,bQ,aZ,Pr,QK,QJ,Qi,QH,QI,Option.getD_some,Option.some.injEq,exists_eq_left'];rw[e];refine{_,rfl,?_};cases d with
 | tup ds =>
   have ht:=hd.tup;by_cases el:ds.length=w
   ·have:gp w (.tup ds)=true:=by simp[gp,el]
    rw[this,if_pos rfl,all_eq (ds:=ds) (kN w) (by simp;exact⟨rfl,rfl⟩) (aF `a) (λd hd=>av (by simp[uL h n (ht.2 d hd) hL]))]
    exact{by simp[oY,el],rfl}
   ·have:gp w (.tup ds)=false:=by simp[gp,el]
    rw[this,if_neg `s]
    exact{by simp[oY,el],rfl}
 |_=>exact⟨rfl,rfl⟩
omit h in
theorem oW {j c:Nat}{ds:List D}{Z:Env}(e:Z[j]?.getD none=some (.tup ds))(hc:ds.length≠c):(ay (aL .ne (aY .len (ae (aa j) ah)) (gC (.int (c:Int)))):GT) Z M=.ok true M:=by
 rw[Lg (wo e) rfl,PB.mpr `a]
 rfl
theorem AU (n:Nat){w p:Nat}{ds:List D}(hd:∀d∈ds,Th k L d)(hL:L<=100)(hl:ds.length<=100):aj P (n+4) 7 [nD w,nD p,.tup ds] M=.ok (.bl (qZ w p ds)) M:=by
 refine av (aM h.is_turn rfl ?_)
 match ds,hd,hl with
 | [a, t, c], hd, _ =>
   show ag (gG (aj P (n+3)) [some (nD w),some (nD p),some (.tup [a,t,c]),none,none,none] M) _;unfold gG;refine bH rfl (bG rfl ?_);show ag _ _;exact dz (iL (i9 rfl rfl (gy h (n+1) (hd a (.head _)))) λ_=>iL (i9 rfl rfl (uL h n (hd t (.tail _ (.head _))) hL)) λ_=>rC rfl (kO h (n+1) (hd c (.tail _ (.tail _ (.head _)))))) ⟨rfl,rfl⟩
 |[],_,_=>exact du rfl
 |[_],_,_=>exact du rfl
 |[_,_],_,_=>exact du rfl
 | a :: b :: c :: d :: r, _, _ =>
   show ag (gG (aj P (n+3)) [some (nD w),some (nD p),some (.tup (a::b::c::d::r)),none,none,none] M) _;exact jg (oW (c:=3) (ds:=a::b::c::d::r) rfl (λz=>by simp at z)) rfl ⟨rfl,rfl⟩
theorem A0 (n:Nat){w p:Nat}{ds:List D}(hd:∀d∈ds,Th k L d)(hL:L<=100)(hl:ds.length<=100):aj P (n+5) 8 [nD w,nD p,.tup ds] M=.ok (.bl (rj w p ds)) M:=by
 refine av (aM h.is_join rfl ?_)
 match ds,hd,hl with
 | [a, o, t, c], hd, _ =>
   show ag (gK (aj P (n+4)) [some (nD w),some (nD p),some (.tup [a,o,t,c]),none,none,none,none] M) _;unfold gK;refine bH rfl (bG rfl ?_);refine bY (Dg (oF (fq (i9 rfl rfl (gy h (n+2) (hd a (.head _)))))) (oF (fq (i9 rfl rfl (gy h (n+2) (hd o (.tail _ (.head _)))))))) (λe=>?_) λe=>?_
   ·refine dz (v:=.bl false) rfl {?_,rfl};show D.bl false=.bl (_&&(_&&_));cases q:bF 0 ((p:Int)-1) a with
    |false=>rfl
    | true =>
      rw[q] at e;cases q2:bF 0 ((p:Int)-1) o with
      |false=>rfl
      |true=>rw[q2] at e;cases e
   ·refine dz (iL (i9 rfl rfl (A1 h n (hd t (.tail _ (.tail _ (.head _)))) hL)) λ_=>rC rfl (kO h (n+2) (hd c (.tail _ (.tail _ (.tail _ (.head _))))))) {?_,rfl};show _=D.bl (bF 0 ((p:Int)-1) a&&(bF 0 ((p:Int)-1) o&&_));cases q:bF 0 ((p:Int)-1) a with
    |false=>rw[q] at e;cases e
    | true =>
      rw[q] at e;cases q2:bF 0 ((p:Int)-1) o with
      |false=>rw[q2] at e;cases e
      |true=>rfl
 |[],_,_=>exact du rfl
 |[_],_,_=>exact du rfl
 |[_,_],_,_=>exact du rfl
 |[_,_,_],_,_=>exact du rfl
 | a :: b :: c :: d :: e :: r, _, _ =>
   show ag (gK (aj P (n+4)) [some (nD w),some (nD p),some (.tup (a::b::c::d::e::r)),none,none,none,none] M) _;exact jg (oW (c:=4) (ds:=a::b::c::d::e::r) rfl (λz=>by simp at z)) rfl ⟨rfl,rfl⟩
theorem AX (n:Nat){w p:Nat}{ds:List D}(hd:∀d∈ds,Th k L d)(hL:L<=100)(hl:ds.length<=100):aj P (n+3) 9 [nD w,nD p,.tup ds] M=.ok (.bl (rg w p ds)) M:=by
 refine av (aM h.is_move rfl ?_)
 match ds,hd,hl with
 | [a, t, c], hd, _ =>
   show ag (gJ (aj P (n+2)) [some (nD w),some (nD p),some (.tup [a,t,c]),none,none,none] M) _;unfold gJ;refine bH rfl (bG rfl ?_);show ag _ _;exact dz (iL (i9 rfl rfl (gy h n (hd a (.head _)))) λ_=>iL (i9 rfl rfl (gy h n (hd t (.tail _ (.head _))))) λ_=>rC rfl (kO h n (hd c (.tail _ (.tail _ (.head _)))))) ⟨rfl,rfl⟩
 |[],_,_=>exact du rfl
 |[_],_,_=>exact du rfl
 |[_,_],_,_=>exact du rfl
 | a :: b :: c :: d :: r, _, _ =>
   show ag (gJ (aj P (n+2)) [some (nD w),some (nD p),some (.tup (a::b::c::d::r)),none,none,none] M) _;exact jg (oW (c:=3) (ds:=a::b::c::d::r) rfl (λz=>by simp at z)) rfl ⟨rfl,rfl⟩
theorem ES (n:Nat){w p:Nat}{ds:List D}(hd:∀d∈ds,Th k L d)(hL:L<=100)(hl:ds.length<=100):aj P (n+3) 10 [nD w,nD p,.tup ds] M=.ok (.bl (vX w p ds)) M:=by
 refine av (aM h.is_put rfl ?_)
 match ds,hd,hl with
 | [a, t, c], hd, _ =>
   show ag (ic (aj P (n+2)) [some (nD w),some (nD p),some (.tup [a,t,c]),none,none,none] M) _;unfold ic;refine bH rfl (bG rfl ?_);show ag _ _;exact dz (iL (i9 rfl rfl (gy h n (hd a (.head _)))) λ_=>iL (i9 rfl rfl (r8 h n (hd t (.tail _ (.head _))))) λ_=>rC rfl (kO h n (hd c (.tail _ (.tail _ (.head _)))))) ⟨rfl,rfl⟩
 |[],_,_=>exact du rfl
 |[_],_,_=>exact du rfl
 |[_,_],_,_=>exact du rfl
 | a :: b :: c :: d :: r, _, _ =>
   show ag (ic (aj P (n+2)) [some (nD w),some (nD p),some (.tup (a::b::c::d::r)),none,none,none] M) _;exact jg (oW (c:=3) (ds:=a::b::c::d::r) rfl (λz=>by simp at z)) rfl ⟨rfl,rfl⟩
omit h in
theorem yK {w p:Nat}{ds:List D}:dF w p "turn" ds=qZ w p ds:=by unfold dF;rw[if_pos rfl]
omit h in
theorem yJ {w p:Nat}{ds:List D}:dF w p "join" ds=rj w p ds:=by unfold dF;rw[if_neg `k,if_pos rfl]
omit h in
theorem yI {w p:Nat}{ds:List D}:dF w p "move" ds=rg w p ds:=by unfold dF;rw[if_neg `k,if_neg `k,if_pos rfl]
omit h in
theorem yH {w p:Nat}{ds:List D}:dF w p "put" ds=vX w p ds:=by unfold dF;rw[if_neg `k,if_neg `k,if_neg `k,if_pos rfl]
omit h in
theorem Io {w p:Nat}{ds:List D}{s:Str}(e1:¬ s="turn")(e2:¬ s="join")(e3:¬ s="move")(e4:¬ s="put"):dF w p s ds=false:=by unfold dF;rw[if_neg e1,if_neg e2,if_neg e3,if_neg e4]
omit h in
theorem vS {s:Str}(e1:¬ s="turn")(e2:¬ s="join")(e3:¬ s="move")(e4:¬ s="put"):cF.lookup s=none:=by
 unfold cF;simp only[List.lookup,PB.mpr e1,PB.mpr e2,PB.mpr e3,PB.mpr e4]
theorem mT (n:Nat){w p f:Nat}{s:Str}{ds:List D}{v:Bool}(lk:cF.lookup s=some f)(q:aj P (n+5) f [nD w,nD p,.tup ds] M=.ok (.bl v) M):aj P (n+6) 11 [nD w,nD p,.tup (.str s::ds)] M=.ok (.bl v) M:=by
 refine av (aM h.is_deed rfl ?_);simp[-List.lookup_isSome_iff,gL,eO,bW,lk,hU,aT,eT,cut,q]
theorem Cd (n:Nat){w p:Nat}{s:Str}{ds:List D}(lk:cF.lookup s=none):aj P (n+6) 11 [nD w,nD p,.tup (.str s::ds)] M=.ok (.bl false) M:=by
 refine av (aM h.is_deed rfl ?_);have e:(cF.lookup s).isSome=false:=by rw[lk];rfl
 simp[-List.lookup_isSome_iff,-List.lookup_eq_none_iff,-Option.isSome_eq_false_iff,gL,eO,bW,e];exact lk
theorem A4 (n:Nat){w p:Nat}(hd:Th k L d)(hL:L<=100):aj P (n+6) 11 [nD w,nD p,d] M=.ok (.bl (i6 w p d)) M:=by
 cases d with
 |fn j=>cases k<;>exact hd.elim
 |exc y p=>cases k<;>exact hd.elim
 | tup xs =>
   have ht:=hd.tup;cases xs with
   |nil=>exact av (aM h.is_deed rfl (du rfl))
   | cons x ds =>
     have hx:=ht.2 x O4;have hds:∀d∈ds,Th k L d:=λd hd=>ht.2 d (OP _ hd);have hl:ds.length<=100:=by have:=ht.1;simp at this;omega
     by_cases hs:∃s,x=.str s
     ·obtain⟨s,rfl⟩:=hs;show _=Res.ok (D.bl (dF w p s ds)) M;by_cases e1:s="turn"
      ·subst e1;rw[yK];exact mT h n Nr (AU h (n+1) hds hL hl)
      by_cases e2:s="join"
      ·subst e2;rw[yJ];exact mT h n Nq (A0 h n hds hL hl)
      by_cases e3:s="move"
      ·subst e3;rw[yI];exact mT h n Np (AX h (n+2) hds hL hl)
      by_cases e4:s="put"
      ·subst e4;rw[yH];exact mT h n Nn (ES h (n+2) hds hL hl)
      rw[Io e1 e2 e3 e4];exact Cd h n (vS e1 e2 e3 e4)
     ·have e1:i6 w p (.tup (x::ds))=false:=by cases x<;>first|rfl|exact absurd {_,rfl} hs
      have e2:=BX hx (t:=.str) (.inl ⟨hs,rfl⟩);rw[e1];refine av (aM h.is_deed rfl ?_);have e3:eO .tuple (.tup (x::ds))=some true:=rfl;simp[gL,bW,e2,e3]
 |_=>exact av (aM h.is_deed rfl (du rfl))
theorem BD (n:Nat)(hd:Th k L d)(hn:gp 3 d=false):aj P (n+7) 12 [d] M=.ok (.bl false) M:=by
 refine av (aM h.is_machine rfl ?_);have e:aj P (n+6) 4 [.int 3,d] M=.ok (.bl (gp 3 d)) M:=mH h (n+5) (w:=3) (M:=M) hd;rw[hn] at e;simp[fE,e]
theorem Li (n:Nat){a b c:D}(hd:Th k L (.tup [a,b,c]))(hL:L<=100):aj P (n+7) 12 [.tup [a,b,c]] M=.ok (.bl (i4 (.tup [a,b,c]))) M:=by
 refine av (aM h.is_machine rfl ?_);have ht:=hd.tup.2;simp only[O6,QP,or_false,forall_eq_or_imp,forall_eq] at ht;have e:aj P (n+6) 4 [.int 3,.tup [a,b,c]] M=.ok (.bl true) M:=mH h (n+5) (w:=3) (M:=M) hd;have b1:=kj h (n+5) (M:=M) ht.1 2 4;have b2:=kj h (n+5) (M:=M) ht.2.1 1 2;simp only[fE,az,yo,cp,a9,nt,fW,Kz,fx,MX,Hw,cb,mv,bg,bQ,aZ,JE,Pr,QK,QJ,Qi,QH,QI,Option.getD_some,Option.some.injEq,exists_eq_left'];rw[e];refine{_,rfl,?_};rw[if_neg `s]
 refine{_,_,rfl,rfl,_,rfl,?_};rw[b1];refine{_,rfl,?_};by_cases c1:bF 2 4 a=false
 ·rw[c1,if_pos `d,if_pos trivial]
  exact{by simp[i4,c1],rfl}
 have c1:bF 2 4 a=true:=by simpa using c1
 rw[c1,if_neg `s]
 refine{_,rfl,?_};rw[b2];refine{_,rfl,?_};by_cases c2:bF 1 2 b=false
 ·rw[c2,if_pos `d]
  exact{by simp[i4,c2],rfl}
 have c2:bF 1 2 b=true:=by simpa using c2
 rw[c2,if_neg `s]
 refine{_,rfl,?_};obtain⟨ea,_,_⟩:=vC c1 `d
 obtain⟨eb,_,_⟩:=vC c2 `d
 cases c with
 |fn j=>exact absurd ht.2.2 (by cases k<;>exact id)
 |exc y p=>exact absurd ht.2.2 (by cases k<;>exact id)
 | tup ds =>
   have hc:=ht.2.2.tup;refine{true,rfl,true,rfl,?_};rw[if_neg `s]
   simp only[LH,cb];refine dA.mpr (bg.mpr (aZ.mpr {_,rfl,bQ.mpr (FL.mpr {_,rfl,?_})}));by_cases l1:(1:Int)<=(ds.length:Int)
   ·rw[decide_eq_true l1,if_pos `d]
    refine{_,rfl,_,rfl,?_};by_cases l6:(ds.length:Int)<=6
    ·rw[decide_eq_true l6,if_neg `s]
     have lb:iT (.tup ds)=true:=by simp[iT];omega
     rw[all_eq (ds:=ds) (i6 (h9 a) (h9 b)) (by simp;exact⟨rfl,rfl⟩) (aF `a) (λd hd=>av (by
      have q:=A4 h n (w:=h9 a) (p:=h9 b) (M:=M) (hc.2 d hd) hL;rw[<- ea,<- eb] at q;simp[q]))]
     refine{?_,rfl};show D.bl (ds.all (i6 (h9 a) (h9 b)))=D.bl (bF 2 4 a&&(bF 1 2 b&&(iT (.tup ds)&&ds.all (i6 (h9 a) (h9 b)))));rw[c1,c2,lb];simp
    ·rw[decide_eq_false l6,if_pos `d]
     refine{?_,rfl};have lb:iT (.tup ds)=false:=by simp[iT];omega
     simp[i4,lb]
   ·rw[decide_eq_false l1,if_neg `s]
    refine{_,rfl,?_};rw[if_pos `d]
    refine{?_,rfl};have lb:iT (.tup ds)=false:=by simp[iT];omega
    simp[i4,lb]
 | _ =>
   refine{false,rfl,false,rfl,?_};rw[if_pos `d]
   exact{by simp[i4,iT],rfl}
theorem AY (n:Nat)(hd:Th k L d)(hL:L<=100):aj P (n+7) 12 [d] M=.ok (.bl (i4 d)) M:=by
 by_cases hn:gp 3 d=false
 ·rw[BD h n hd hn,BC hn]
 ·match d,hd,hn with
  |.tup [a,b,c],hd,_=>exact Li h n hd hL
  |.tup [],_,hn=>exact absurd rfl hn
  |.tup [_],_,hn=>exact absurd rfl hn
  |.tup [_,_],_,hn=>exact absurd rfl hn
  |.tup (_::_::_::_::r),_,hn=>exact absurd (by simp[gp]) hn
  |.non,_,hn=>exact absurd rfl hn
  |.bl _,_,hn=>exact absurd rfl hn
  |.int _,_,hn=>exact absurd rfl hn
  |.str _,_,hn=>exact absurd rfl hn
  |.lst _,_,hn=>exact absurd rfl hn
  |.frz _,_,hn=>exact absurd rfl hn
  |.cell _,_,hn=>exact absurd rfl hn
  |.fn _,_,hn=>exact absurd rfl hn
  |.exc _ _,_,hn=>exact absurd rfl hn
omit h in
theorem dB {lo hi:Int}{n:Nat}(h1:lo<=(n:Int))(h2:(n:Int)<=hi):bF lo hi (nD n)=true:=by simp[bF];omega
omit h in
theorem rV {w:Nat}{t:List Nat}(ht:fS w t):kN w (ax t)=true:=by
 have e:(t.map nD).all (bF 0 ((w:Int)-1))=true:=by
  rw[O0];intro x hx;obtain⟨i,hi,rfl⟩:=OK.mp hx;have:=ht.2 i hi;exact dB `a `a
 show((t.map nD).length==w&&(t.map nD).all (bF 0 ((w:Int)-1)))=true;rw[e,Oz,ht.1];simp
omit h in
theorem zF {w p:Nat}{d:aH}(hd:bN w p d):i6 w p d.d=true:=by
 cases d with
 | turn a t c =>
   obtain⟨h1,h2,h3⟩:=hd;unfold fb at h3;show dF w p "turn" _=true;rw[yK];simp only[qZ];rw[dB `a `a,rV h2,dB `a `a];rfl
 | join a o t c =>
   obtain⟨h1,h2,h3,h4⟩:=hd;unfold fb at h4;show dF w p "join" _=true;rw[yJ];simp only[rj];have e:oY w (.tup (t.map ax))=true:=by
    have e:(t.map ax).all (kN w)=true:=by
     rw[O0];intro x hx;obtain⟨i,hi,rfl⟩:=OK.mp hx;exact rV (h3.2 i hi)
    show((t.map ax).length==w&&(t.map ax).all (kN w))=true;rw[e,Oz,h3.1];simp
   rw[dB `a `a,dB `a `a,e,dB `a `a];rfl
 | move a o c =>
   obtain⟨h1,h2,h3⟩:=hd;unfold fb at h3;show dF w p "move" _=true;rw[yI];simp only[rg];rw[dB `a `a,dB `a `a,dB `a `a];rfl
 | put a o c =>
   obtain⟨h1,h2,h3⟩:=hd;unfold fb at h3;show dF w p "put" _=true;rw[yH];simp only[vX];rw[dB `a `a,dB `a `a,dB `a `a];rfl
omit h in
theorem yW {m:aN}(hm:aO m):i4 m.d=true:=by
 have w2:=hm.w2;have w4:=hm.w4;have p1:=hm.p1;have p2:=hm.p2;have l1:=hm.d1;have l6:=hm.d6;have e:(m.deeds.map aH.d).all (i6 m.words m.places)=true:=by
  rw[O0];intro x hx;obtain⟨i,hi,rfl⟩:=OK.mp hx;exact zF (hm.ok i hi)
 have e2:iT (.tup (m.deeds.map aH.d))=true:=by simp[iT];omega
 show(bF 2 4 (nD m.words)&&(bF 1 2 (nD m.places)&&(iT (.tup (m.deeds.map aH.d))&&(m.deeds.map aH.d).all (i6 m.words m.places))))=true;rw[dB `a `a,dB `a `a,e,e2];rfl
end
def uE:Nat->Nat->D->Bool
 |_,_,.non=>true
 |_,_,.bl _=>true
 |_,_,.int _=>true
 |_,L,.str x=>decide (x.cps.size<=L)&&x.cps.all (· < 0x110000)
 |n+1,L,.tup ds=>decide (ds.length<=L)&&ds.all (uE n L)
 |n+1,L,.lst ds=>decide (ds.length<=L)&&ds.all (uE n L)
 |_,_,_=>false
def rT:∀{n L:Nat}{d:D},uE n L d=true->Th n L d
 |n,L,.non,_=>by cases n<;>trivial
 |n,L,.bl _,_=>by cases n<;>trivial
 |n,L,.int _,_=>by cases n<;>trivial
 | n, L, .str x, h => by
   have q:(decide (x.cps.size<=L)&&x.cps.all (· < 0x110000))=true:=by cases n<;>exact h
   simp only[OF,decide_eq_true_eq] at q;have q:x.cps.size<=L/\x.cps.all (· < 0x110000)=true:=q;cases n<;>exact q
 | n + 1, L, .tup ds, h => by
   have h:(decide (ds.length<=L)&&ds.all (uE n L))=true:=h;simp only[OF,decide_eq_true_eq] at h;exact{h.1,λd hd=>rT (O0.mp h.2 d hd)}
 | n + 1, L, .lst ds, h => by
   have h:(decide (ds.length<=L)&&ds.all (uE n L))=true:=h;simp only[OF,decide_eq_true_eq] at h;exact{h.1,λd hd=>rT (O0.mp h.2 d hd)}
 |0,L,.tup ds,h=>by cases h
 |0,L,.lst ds,h=>by cases h
 |n,L,.frz _,h=>by cases n<;>cases h
 |n,L,.cell _,h=>by cases n<;>cases h
 |n,L,.fn _,h=>by cases n<;>cases h
 |n,L,.exc _ _,h=>by cases n<;>cases h
def xR {w:Nat}{t:List Nat}(h:fS w t)(w4:w<=4):Th 2 6 (ax t):=by
 refine{by have:=h.1;simp;omega,λd hd=>?_}
 obtain⟨i,_,rfl⟩:=OK.mp hd;trivial
def q9 {n:Nat}{z:Str}(h:uE 0 6 (.str z)=true):Th n 6 (.str z):=(rT h).mono (Qc n) (OC 6)
def g4 {n:Nat}{i:Int}:Th n 6 (.int i):=by cases n<;>trivial
def Gj {w p:Nat}{d:aH}(h:bN w p d)(w4:w<=4):Th 4 6 d.d:=by
 cases d with
 | turn a t c =>
   refine{`s,λx hx=>?_}
   simp only[O6,QP,or_false] at hx;rcases hx with rfl|rfl|rfl|rfl
   ·exact q9 `k
   ·exact g4
   ·exact(xR h.2.1 w4).mono `d `d
   ·exact g4
 | join a o t c =>
   refine{`s,λx hx=>?_}
   simp only[O6,QP,or_false] at hx;rcases hx with rfl|rfl|rfl|rfl|rfl
   ·exact q9 `k
   ·exact g4
   ·exact g4
   ·refine{by have:=h.2.2.1.1;simp;omega,λy hy=>?_}
    obtain⟨z,hz,rfl⟩:=OK.mp hy;exact xR (h.2.2.1.2 z hz) w4
   ·exact g4
 | move a o c =>
   refine{`s,λx hx=>?_}
   simp only[O6,QP,or_false] at hx;rcases hx with rfl|rfl|rfl|rfl
   ·exact q9 `k
   all_goals exact g4
 | put a o c =>
   refine{`s,λx hx=>?_}
   simp only[O6,QP,or_false] at hx;rcases hx with rfl|rfl|rfl|rfl
   ·exact q9 `k
   all_goals exact g4
def FJ {m:aN}(h:aO m):Th 6 6 m.d:=by
 refine{`s,λx hx=>?_}
 simp only[O6,QP,or_false] at hx;rcases hx with rfl|rfl|rfl
 ·exact g4
 ·exact g4
 ·refine{by have:=h.d6;simpa using this,λy hy=>?_}
  obtain⟨z,hz,rfl⟩:=OK.mp hy;exact Gj (h.ok z hz) h.w4
def HasB0.q {P:Nat->Option Df}(h:HasB0 P):Ks P:=⟨h.is_between,h.is_word,h.is_place,h.is_cost,h.is_tuple_of,h.is_table,h.is_double_table,h.is_turn,h.is_join,h.is_move,h.is_put,h.is_deed,h.is_machine⟩
structure Sub (M M':Mem):Prop where
 len:M.length<=M'.length
 at':∀k,k<M.length->M'[k]?=M[k]?
def Sub.refl {M:Mem}:Sub M M:={OC _,λ_ _=>rfl}
def Sub.trans {M M1 M2:Mem}(a:Sub M M1)(b:Sub M1 M2):Sub M M2:={OZ a.len b.len,λk hk=>(b.at' k (O1 hk a.len)).trans (a.at' k hk)}
def Sub.app {M X:Mem}:Sub M (M++X):={`s,λk hk=>OG hk}
def Sub.get {k:Nat}{M M':Mem}{ds:List D}(h:Sub M M')(e:M[k]?=some ds):M'[k]?=some ds:=by rw[h.at' k (Ov.mp e).1];exact e
def Sub.setq {M M':Mem}{q:Nat}{ds:List D}(h:Sub M M')(hq:M.length<=q):Sub M (M'.set q ds):={by simpa using h.len,λk hk=>by rw[OE `a];exact h.at' k hk}
def wN {tg:cf}{w:Walk}{ge:GE}{ds:List D}{ρ0:Env}{M:Mem}{acc0:List D}{kl:List D->Mem->Prop}(f:D->D)(hz:acc0.length+ds.length<=sz)(hw:w M=some ds)(hs:∀d∈ds,∃ρ1,bU tg d ρ0=some ρ1/\ge ρ1 M=.ok (f d) M)(hk:kl (acc0++ds.map f) M) :
 ag (dg (cK tg (bw ge) ρ0) w acc0 M) kl:=by
 refine gn (ds:=ds) (λi acc M'=>M'=M/\acc=acc0++(ds.take i).map f) (λi acc M' h=>by rw[h.1];exact hw) {rfl,`s} ?_ ?_
 ·rintro i d acc M' hd ⟨rfl,rfl⟩;obtain⟨ρ1,e1,e2⟩:=hs d (Pj hd);have hi:i<ds.length:=(Ov.mp hd).1;simp only[cK,ba,iD,e1,D6];refine{ρ1,rfl,?_};rw[e2];refine{by simp;omega,rfl,?_}
  rw[P8,hd];simp
 ·rintro acc M' ⟨rfl,rfl⟩;simpa using hk
def pZ {α β:Type}(f:α->List β)(n:Nat):∀(ds:List α),(∀d∈ds,(f d).length<=n)->(ds.flatMap f).length<=ds.length*n
 |[],_=>`s
 | d :: r, h => by
   have h1:=h d O4;have h2:=pZ f n r λd hd=>h d (OP _ hd);simp only[List.flatMap_cons,Pn,Ql,Nat.succ_mul];omega
def wO {t u:cf}{w:Walk}{gw2:GW}{ge:GE}{ds:List D}{ρ0:Env}{M:Mem}{kl:List D->Mem->Prop}(its:D->List D)(f:D->D->D)(n:Nat)(hn:∀d∈ds,(its d).length<=n)(hz:ds.length*n<=sz)(hw:w M=some ds)
 (hs:∀d∈ds,∃ρ1,bU t d ρ0=some ρ1/\∃w2,gw2 ρ1 M=.ok w2 M/\w2 M=some (its d)/\∀e∈its d,∃ρ2,bU u e ρ1=some ρ2/\ge ρ2 M=.ok (f d e) M) (hk:kl (ds.flatMap λd=>(its d).map (f d)) M) :
 ag (dg (cK t (tG u gw2 (bw ge)) ρ0) w [] M) kl:=by
 refine gn (ds:=ds) (λi acc M'=>M'=M/\acc=(ds.take i).flatMap λd=>(its d).map (f d)) (λi acc M' h=>by rw[h.1];exact hw) {rfl,`s} ?_ ?_
 ·rintro i d acc M' hd ⟨rfl,rfl⟩;obtain⟨ρ1,e1,w2,e2,e3,e4⟩:=hs d (Pj hd);have hi:i<ds.length:=(Ov.mp hd).1;simp only[cK,ba,iD,e1,tG];refine{ρ1,rfl,?_};rw[e2];show ag (dg (cK u (bw ge) ρ1) w2 _ M') _;have e5:(ds.take (i+1)).flatMap (λd=>(its d).map (f d))=(ds.take i).flatMap (λd=>(its d).map (f d))++(its d).map (f d):=by
   rw[P8,hd];simp
  have l1:=pZ (λd=>(its d).map (f d)) n (ds.take (i+1)) (λd hd=>by simpa using hn d (List.mem_of_mem_take hd))
  rw[e5] at l1;simp only[Pn,Oz,List.length_take] at l1;refine wN (f d) ?_ e3 e4 ⟨rfl,e5.symm⟩;have:(min (i+1) ds.length)*n<=ds.length*n:=Nat.mul_le_mul_right _ (Nat.min_le_right _ _);omega
 ·rintro acc M' ⟨rfl,rfl⟩;simpa using hk
def nU (w:Nat)(l:List (List Nat)):List (List Nat):=l.flatMap λs=>(List.range w).map λx=>s++[x]
def cS (w:Nat):Nat->List (List Nat)
 |0=>[[]]
 |p+1=>nU w (cS w p)
def bq (m:aN):List (List Nat):=cS m.words m.places
def e9 (m:aN)(s:List Nat):Prop:=s.length=m.places/\∀x∈s,x<m.words
def ug {w p:Nat}:∀s∈cS w p,s.length=p/\∀x∈s,x<w:=by
 induction p with
 |zero=>intro s hs;simp[cS] at hs;subst hs;simp
 | succ p ih =>
   intro s hs;simp only[cS,nU,List.mem_flatMap,OK,QE] at hs;obtain⟨t,ht,x,hx,rfl⟩:=hs;obtain⟨h1,h2⟩:=ih t ht;refine{by simp[h1],λy hy=>?_}
   rcases Pk.mp hy with z|z
   ·exact h2 y z
   ·simp at z;omega
def qg {m:aN}:∀s∈bq m,e9 m s:=ug
def jX {w:Nat}(hw:w<=4):∀p≤2,(cS w p).length<=4^p
 |0,_=>by simp[cS]
 | p + 1, hp => by
   have:=jX hw p `a
   have l:=pZ (λs:List Nat=>(List.range w).map λx=>s++[x]) 4 (cS w p) (λd hd=>by simpa using hw)
   simp only[cS,nU]
   calc _<=(cS w p).length*4:=l
    _<=4^p*4:=Nat.mul_le_mul_right _ this
    _=4^(p+1):=by rw[Nat.pow_succ]
def lJ {m:aN}(hm:aO m):(bq m).length<=16:=by
 have h:=jX hm.w4 m.places hm.p2;have h1:=hm.p1;have h2:=hm.p2;have:m.places=1\/m.places=2:=`a
 rcases this with e|e<;>rw[e] at h<;>unfold bq<;>rw[e]<;>omega
def qR {w:Nat}:∀(p:Nat) (s:List Nat),s.length=p->(∀x∈s,x<w)->s∈cS w p
 | 0, s, hl, _ => by
   obtain rfl:=QF.mp hl;simp[cS]
 | p + 1, s, hl, hx => by
   have ne:s≠[]:=by intro e;subst e;cases hl
   have es:=List.dropLast_concat_getLast ne;show s∈nU w (cS w p);unfold nU;rw[List.mem_flatMap];refine{s.dropLast,qR p _ (by simp[hl]) (λx h=>hx x (List.dropLast_subset _ h)),?_}
   rw[OK];exact{s.getLast ne,QE.mpr (hx _ (List.getLast_mem ne)),es}
def Cp {m:aN}(hm:aO m){s:List Nat}(h:e9 m s):s∈bq m:=qR _ s h.1 h.2
def d9:aH->List Nat->Nat
 |.turn a t _,s=>t.getD (s.getD a 0) 0
 |.join a o t _,s=>(t.getD (s.getD a 0) []).getD (s.getD o 0) 0
 |.move _ o _,s=>s.getD o 0
 |.put _ x _,_=>x
def aH.at':aH->Nat
 |.turn a _ _=>a
 |.join a _ _ _=>a
 |.move a _ _=>a
 |.put a _ _=>a
def aU (d:aH)(s:List Nat):List Nat:=s.take d.at'++[d9 d s]++s.drop (d.at'+1)
def getD_mem {α:Type}{l:List α}{i:Nat}{d:α}(h:i<l.length):l.getD i d∈l:=by
 rw[P4,OO h];exact QR h
def oH {m:aN}{d:aH}{s:List Nat}(hd:bN m.words m.places d)(hs:e9 m s):d9 d s<m.words:=by
 obtain⟨hl,hx⟩:=hs;cases d with
 | turn a t c =>
   obtain⟨h1,h2,h3⟩:=hd;have:=hx _ (getD_mem (d:=0) (show a<s.length by omega))
   exact h2.2 _ (getD_mem (by rw[h2.1];exact this))
 | join a o t c =>
   obtain⟨h1,h2,h3,h4⟩:=hd;have a1:=hx _ (getD_mem (d:=0) (show a<s.length by omega))
   have a2:=hx _ (getD_mem (d:=0) (show o<s.length by omega))
   have a3:=h3.2 _ (getD_mem (d:=[]) (show s.getD a 0<t.length by rw[h3.1];exact a1))
   exact a3.2 _ (getD_mem (by rw[a3.1];exact a2))
 |move a o c=>exact hx _ (getD_mem (by obtain⟨h1,h2,h3⟩:=hd;omega))
 |put a x c=>exact hd.2.1
def rE {w p:Nat}{d:aH}(hd:bN w p d):d.at'<p:=by cases d<;>exact hd.1
def zD {m:aN}{d:aH}{s:List Nat}(hd:bN m.words m.places d)(hs:e9 m s):e9 m (aU d s):=by
 have h1:=rE hd;have h2:=oH hd hs;obtain⟨hl,hx⟩:=hs;refine{by simp[aU];omega,λx hm=>?_}
 simp only[aU,Pk,OQ] at hm;rcases hm with(z|z)|z
 ·exact hx x (List.mem_of_mem_take z)
 ·omega
 ·exact hx x (List.mem_of_mem_drop z)
def cZ (m:aN)(i:Nat):aH:=m.deeds.getD i (.put 0 0 1)
def JC (m:aN):List Nat->List Nat->List Nat
 |[],s=>s
 |i::r,s=>JC m r (aU (cZ m i) s)
def kL {m:aN}(hm:aO m){i:Nat}(hi:i<m.deeds.length):bN m.words m.places (cZ m i):=hm.ok _ (getD_mem hi)
def AQ {s:List Nat}{i:Nat}(hi:i<s.length):(bW (s.map nD).length (i:Int)).bind (λj=>(s.map nD)[j]?)=some (nD (s.getD i 0)):=by
 rw[dN (by simpa using hi)]
 simp[P4,hi]
def BE {m:aN}{i:Nat}(hi:i<m.deeds.length):((bW (m.deeds.map aH.d).length (i:Int)).bind λj=>(m.deeds.map aH.d)[j]?)=some (cZ m i).d:=by
 rw[dN (by simpa using hi)]
 simp[cZ,P4,hi]
def B1 {m:aN}{M:Mem}{i:Nat}(hi:i<m.deeds.length):bS (.tup (m.deeds.map aH.d)) (nD i) M=some (cZ m i).d:=BE hi
def iG {d:aH}{M:Mem}:bS d.d (.int (-1)) M=some (nD d.cost):=by cases d<;>rfl
def g5 {s:List Nat}{M:Mem}{i:Nat}(hi:i<s.length):bS (ax s) (nD i) M=some (nD (s.getD i 0)):=AQ hi
def zv {t:List (List Nat)}{M:Mem}{i:Nat}(hi:i<t.length):bS (.tup (t.map ax)) (nD i) M=some (ax (t.getD i [])):=by
 show(bW (t.map ax).length (i:Int)).bind (λj=>(t.map ax)[j]?)=_;rw[dN (by simpa using hi)]
 simp[P4,hi]
def iu (M:Mem)(x:D)(r:List Nat):Prop:=x=.lst (r.map nD)\/∃q,x=.cell q/\M[q]?=some (r.map nD)
def iu.seq {M:Mem}{x:D}{r:List Nat}(h:iu M x r):b5 M x=some (r.map nD):=by
 rcases h with rfl|⟨q,rfl,e⟩
 ·rfl
 ·exact e
def iu.is {M:Mem}{x:D}{r:List Nat}(h:iu M x r):fY x=true/\iq x=true/\eO .list x=some true:=by
 rcases h with rfl|⟨q,rfl,e⟩<;>exact⟨rfl,rfl,rfl⟩
def iu.len {M:Mem}{x:D}{r:List Nat}{k:D->Mem->Prop}(h:iu M x r):ag (fh .len [x] M) k↔k (.int r.length) M:=by
 rcases h with rfl|⟨q,rfl,e⟩
 ·show k (.int (r.map nD).length) M↔_;simp
 ·show ag (match M[q]? with|some xs=>_|none=>_) k↔_
  rw[e];simp
def iu.non {M:Mem}{x:D}{r:List Nat}(h:iu M x r):lA x=false:=by
 rcases h with rfl|⟨q,rfl,e⟩<;>rfl
section
variable{P:Nat->Option Df}(h:HasB0 P){M:Mem}
include h
theorem r9 (n:Nat){m:aN}(hm:aO m):aj P (n+8) 13 [m.d] M=.ok .non M:=by
 refine av (aM h.need_machine rfl ?_);simp[ib,AY h.q n (FJ hm) `d,yW hm]
theorem uM (h15:P 15=some {1,6,dQ})(n:Nat){m:aN}(hm:aO m):aj P (n+9) 15 [m.d] M=.ok (.lst ((bq m).map ax)) M:=by
 refine av (aM h15 rfl ?_);have w4:=hm.w4;have p2:=hm.p2;simp[dQ,r9 h n hm];simp[aN.d,eR];refine{`d,`a,?_}
 refine fw (ds:=(List.range m.places).map λ(k:Nat)=>D.int (k:Int)) (λi Z M'=>M'=M/\∃a,Z=[some m.d,some (nD m.words),some (nD m.places),some (.tup (m.deeds.map aH.d)),some (.lst ((cS m.words i).map ax)),a]) (λ_ _ _ _=>rfl) {rfl,none,by simp[aN.d,cS,ax]} ?_ ?_
 ·rintro i d Z M' hd ⟨rfl,a,rfl⟩;have hi:i<m.places:=by
   have:=(Ov.mp hd).1;simpa using this
  refine{_,rfl,?_};simp[fY];refine wO (ds:=(cS m.words i).map ax) (λ_=>(List.range m.words).map λ(k:Nat)=>D.int (k:Int)) (λd e=>match d,e with|.tup x,e=>.tup (x++[e])|_,_=>.non) 4 (by simpa using λ_ _=>w4) ?_ rfl ?_ ?_
  ·have:=jX w4 i `a
   have:(4:Nat)^i<=4^2:=Nat.pow_le_pow_right `d `a
   simp only[Oz];exact aF `a
  ·intro d hd;obtain⟨s,hs,rfl⟩:=OK.mp hd;have{l1,_}:=ug s hs;refine{_,rfl,(λ_=>some ((List.range m.words).map λ(k:Nat)=>D.int (k:Int))),dw ?_,rfl,λe he=>{_,rfl,av ?_}}
   ·simp;omega
   ·simp[ax,sz];omega
  ·have e0:((cS m.words i).map ax).flatMap (λd=>((List.range m.words).map λ(k:Nat)=>D.int (k:Int)).map (λe=>match d,e with|.tup x,e=>D.tup (x++[e])|_,_=>.non))=(cS m.words (i+1)).map ax:=by
    simp only[cS,nU,List.flatMap_map,List.map_flatMap,Pw]
    congr 1
    funext s
    simp[ax,Function.comp_def]
   rw[e0];refine{?_,rfl,rfl};have:=jX w4 (i+1) `a
   have:(4:Nat)^(i+1)<=4^2:=Nat.pow_le_pow_right `d `a
   simp only[Oz];exact aF `a
 ·rintro Z M' ⟨rfl,a,rfl⟩;simp[bq]
end
section
variable{P:Nat->Option Df}(h:j4 P){M:Mem}
include h
theorem xY (n:Nat){m:aN}{a c:Nat}{t s:List Nat}(hd:bN m.words m.places (.turn a t c))(hs:e9 m s):aj P (n+1) 20 [(aH.turn a t c).d,ax s] M=.ok (nD (d9 (.turn a t c) s)) M:=by
 obtain⟨h1,h2,h3⟩:=hd;have a1:a<s.length:=by rw[hs.1];exact h1
 have a2:s.getD a 0<t.length:=by rw[h2.1];exact hs.2 _ (getD_mem a1)
 refine av (aM h.turned rfl ?_);simp[-mO,-List.getD_eq_getElem?_getD,lK,aH.d,eR,g5 a1,g5 a2,d9]
theorem yd (n:Nat){m:aN}{a o c:Nat}{t:List (List Nat)}{s:List Nat}(hd:bN m.words m.places (.join a o t c))(hs:e9 m s):aj P (n+1) 21 [(aH.join a o t c).d,ax s] M=.ok (nD (d9 (.join a o t c) s)) M:=by
 obtain⟨h1,h2,h3,h4⟩:=hd;have a1:a<s.length:=by rw[hs.1];exact h1
 have a2:o<s.length:=by rw[hs.1];exact h2
 have a3:s.getD a 0<t.length:=by rw[h3.1];exact hs.2 _ (getD_mem a1)
 have a4:s.getD o 0<(t.getD (s.getD a 0) []).length:=by rw[(h3.2 _ (getD_mem a3)).1];exact hs.2 _ (getD_mem a2)
 refine av (aM h.joined rfl ?_);simp[-mO,-List.getD_eq_getElem?_getD,lM,aH.d,eR,g5 a1,g5 a2,zv a3,g5 a4,d9]
theorem AW (n:Nat){m:aN}{a o c:Nat}{s:List Nat}(hd:bN m.words m.places (.move a o c))(hs:e9 m s):aj P (n+1) 22 [(aH.move a o c).d,ax s] M=.ok (nD (d9 (.move a o c) s)) M:=by
 obtain⟨h1,h2,h3⟩:=hd;have a2:o<s.length:=by rw[hs.1];exact h2
 refine av (aM h.moved rfl ?_);simp[-mO,-List.getD_eq_getElem?_getD,mY,aH.d,eR,g5 a2,d9]
theorem AV (n:Nat){a x c:Nat}{s:List Nat}:aj P (n+1) 23 [(aH.put a x c).d,ax s] M=.ok (nD (d9 (.put a x c) s)) M:=by
 refine av (aM h.put_in rfl ?_);simp[lL,aH.d,eR,d9]
end
def Nw:cH.lookup (Str.ofString "turn")=some 20:=`k
def Nv:cH.lookup (Str.ofString "join")=some 21:=`k
def Nu:cH.lookup (Str.ofString "move")=some 22:=`k
def Nt:cH.lookup (Str.ofString "put")=some 23:=`k
def Hm {s:List Nat}{M:Mem}{k:D->Mem->Prop}{a:Nat}(ha:a<=s.length):ag (hU false (ax s) .non (.int a) M) k↔k (ax (s.take a)) M:=by
 simp only[hU,ax,aT,cut];rw[if_neg `a]
 simp;rw[Nat.min_eq_left (by simpa using ha)]
def EY {s:List Nat}{M:Mem}{k:D->Mem->Prop}{a:Nat}(ha:a<=s.length):ag (hU false (ax s) (.int a) .non M) k↔k (ax (s.drop a)) M:=by
 simp only[hU,ax,aT,cut];rw[if_neg `a]
 simp;rw[Nat.min_eq_left (by simpa using ha),PJ `s]
section
variable{P:Nat->Option Df}(h:j4 P){M:Mem}
include h
theorem EW (n:Nat){m:aN}{d:aH}{s:List Nat}(hm:aO m)(hd:bN m.words m.places d)(hs:e9 m s):aj P (n+2) 24 [d.d,ax s] M=.ok (ax (aU d s)) M:=by
 have a0:=rE hd;have l0:=hs.1;have p2:=hm.p2;have key:∀f,aj P (n+1) f [d.d,ax s] M=.ok (nD (d9 d s)) M->bS d.d (.int 1) M=some (nD d.at')->(∀k:D->Mem->Prop,(∃y,bS d.d (.int 0) M=some (.str y)/\cH.lookup y=some f))->aj P (n+2) 24 [d.d,ax s] M=.ok (ax (aU d s)) M:=λf e1 e2 e3=>by
  obtain⟨y,e3,e4⟩:=e3 λ_ _=>True;refine av (aM h.done rfl ?_);simp only[pz,az,om,JF,f7,aZ,cb,a9,cp,fQ,rA,f6,bg,bQ,F3];simp[-mO,e1,e2,e3,e4,eT];rw[Hm `a,e1]
  have e5:(d.at':Int)+1=((d.at'+1:Nat):Int):=`a
  rw[e5];simp only[a7,ax,Ab];refine{`d,?_,?_}
  ·simp;exact aF `a
  ·rw[show D.tup (s.map nD)=ax s from rfl,EY `a]
   simp only[ax,Ab];refine{?_,?_,trivial}
   ·simp;exact aF `a
   ·simp[aU]
 cases d with
 |turn a t c=>exact key 20 (xY h n hd hs) rfl λ_=>{_,rfl,Nw}
 |join a o t c=>exact key 21 (yd h n hd hs) rfl λ_=>{_,rfl,Nv}
 |move a o c=>exact key 22 (AW h n hd hs) rfl λ_=>{_,rfl,Nu}
 |put a x c=>exact key 23 (AV h n) rfl λ_=>{_,rfl,Nt}
end
@[simp] theorem sY {j:Nat}{M:Mem}{k:D->Mem->Prop}:ag (fh .len [.cell j] M) k↔∃ds,M[j]?=some ds/\k (.int ds.length) M:=by
 show ag (match M[j]? with|some xs=>_|none=>_) k↔_
 cases M[j]?<;>simp
structure aJ (M:Mem) (p B:Nat):Prop where
 ex:∃(c:Nat) (cells:List Int) (at_ st:Int),M[p]?=some [.cell c,.int at_,.int st]/\M[c]?=some (cells.map D.int)/\c<p/\0<=at_/\at_<=B/\0<=st
structure bh (p:Nat) (M M':Mem):Prop where
 len:M.length<=M'.length
 at':∀k,k<M.length->k≠p->M'[k]?=M[k]?
def bh.refl {p:Nat}{M:Mem}:bh p M M:={OC _,λ_ _ _=>rfl}
def bh.trans {p:Nat}{M M1 M2:Mem}(a:bh p M M1)(b:bh p M1 M2):bh p M M2:={OZ a.len b.len,λk hk n=>(b.at' k (O1 hk a.len) n).trans (a.at' k hk n)}
def bh.set {p:Nat}{M:Mem}{ds:List D}:bh p M (M.set p ds):={`s,λk _ n=>OE (PN n)}
def bh.app {p:Nat}{M X:Mem}:bh p M (M++X):={`s,λk hk _=>OG hk}
def bh.get {p k:Nat}{M M':Mem}{ds:List D}(h:bh p M M')(e:M[k]?=some ds)(n:k≠p):M'[k]?=some ds:=by rw[h.at' k (Ov.mp e).1 n];exact e
def aJ.lt {M:Mem}{p B:Nat}(h:aJ M p B):p<M.length:=by obtain⟨_,_,_,_,e,_⟩:=h.ex;exact(Ov.mp e).1
def aJ.app {M X:Mem}{p B:Nat}(h:aJ M p B):aJ (M++X) p B:=by
 obtain⟨c,cells,a,st,e1,e2,r⟩:=h.ex;exact{c,cells,a,st,by rw[OG (Ov.mp e1).1];exact e1,by rw[OG (Ov.mp e2).1];exact e2,r}
def aJ.mono {M:Mem}{p B B':Nat}(h:aJ M p B)(hb:B<=B'):aJ M p B':=by
 obtain⟨c,cells,a,st,e1,e2,e3,e4,e5,e6⟩:=h.ex;exact{c,cells,a,st,e1,e2,e3,e4,`a,e6}
def aJ.setq {M:Mem}{p q B:Nat}{ds:List D}(h:aJ M p B)(hq:p<q):aJ (M.set q ds) p B:=by
 obtain⟨c,cells,a,st,e1,e2,e3,e4,e5,e6⟩:=h.ex;exact{c,cells,a,st,by rw[OE `a];exact e1,by rw[OE `a];exact e2,e3,e4,e5,e6}
def bh.setq {p q:Nat}{M M':Mem}{ds:List D}(h:bh p M M')(hq:M.length<=q):bh p M (M'.set q ds):={by simpa using h.len,λk hk n=>by rw[OE `a];exact h.at' k hk n}
def yQ {a b A B:Int}(h1:0<=a)(h2:a<=A)(h3:0<=b)(h4:b<=B):0<=a*b/\a*b<=A*B:=
 {Int.mul_nonneg h1 h3,Int.mul_le_mul h2 h4 h3 (Int.le_trans h1 h2)}
def ko:List Int:=[2147483629,2147483587,2147483579,2147483563,2147483549,2147483543,2147483497,2147483489,2147483477,2147483423,2147483399,2147483353,2147483323]
def fM:List D:=ko.map D.int
def yA:∀q∈ko,0<q/\q<2147483648:=`d
def nB (j:Int)(M:Mem):∃q:Int,bS (.lst fM) (.int (j % 13)) M=some (.int q)/\0<q/\q<2147483648:=by
 have h1:0<=j % 13:=Qj _ `d
 have h2:j % 13<13:=Qa _ `d
 generalize j % 13=i at h1 h2;obtain⟨k,rfl⟩:=Int.eq_ofNat_of_zero_le h1;have hk:k<ko.length:=Int.ofNat_lt.mp h2;refine{ko[k],?_,yA _ (QR hk)};show(bW fM.length (k:Int)).bind (λj=>fM[j]?)=_;rw[dN (n:=fM.length) hk];show(ko.map D.int)[k]?=_;rw[OL,OO hk];rfl
section
variable{P:Nat->Option Df}(h:HasP0 P){M:Mem}
include h
omit h in
theorem fV {m:Bool}{a b:GE}{Z:Env}{x y:Int}(ha:a Z M=.ok (.int x) M)(hb:b Z M=.ok (.int y) M):aq m .add a b Z M=.ok (.int (x+y)) M:=by
 unfold aq;rw[ha];show(b Z M).bind _=_;rw[hb];rfl
omit h in
theorem nN {m:Bool}{a b:GE}{Z:Env}{x y:Int}(ha:a Z M=.ok (.int x) M)(hb:b Z M=.ok (.int y) M)(c:(-(2^64)<x/\x<2^64)\/(-(2^64)<y/\y<2^64)):aq m .mul a b Z M=.ok (.int (x*y)) M:=by
 unfold aq;rw[ha];show(b Z M).bind _=_;rw[hb];exact if_pos c
omit h in
theorem j8 {m:Bool}{a b:GE}{Z:Env}{x y:Int}(ha:a Z M=.ok (.int x) M)(hb:b Z M=.ok (.int y) M)(c:0<y):aq m .mod a b Z M=.ok (.int (x % y)) M:=by
 unfold aq;rw[ha];show(b Z M).bind _=_;rw[hb];exact if_pos c
omit h in
theorem Bj {m:Bool}{a b:GE}{Z:Env}{x y:Int}(ha:a Z M=.ok (.int x) M)(hb:b Z M=.ok (.int y) M)(c:0<=y/\y<=1000000)(d:x.natAbs<2^64):aq m .pow a b Z M=.ok (.int (x^y.toNat)) M:=by
 unfold aq;rw[ha];show(b Z M).bind _=_;rw[hb];exact if_pos ⟨c.1,c.2,d⟩
omit h in
theorem nE {a:GE}{Z:Env}{i:Nat}{x q:Int}(hi:Z[i]?.getD none=some (.lst fM))(ha:a Z M=.ok (.int x) M)(e:bS (.lst fM) (.int (x % 13)) M=some (.int q)):aw (aa i) (aq false .mod a (gI 13)) Z M=.ok (.int q) M:=by
 unfold aw;rw[aK hi];show(aq false .mod a _ Z M).bind _=_;rw[j8 ha rfl `d];show b6 M _=_;rw[e];rfl
theorem ya (n:Nat){x a:Int}(h0:0<=a)(h1:a<=1000000):ag (aj P (n+1) 28 [.int x,.int a] M) λd M'=>M'=M/\∃v:Int,d=.int v/\0<=v:=by
 refine aM h.law_spread rfl ?_;show ag (gi (aj P n) [some (.int x),some (.int a),none,none,none,none] M) _;unfold gi;refine bY (b:=decide ((1000000000000000000:Int)<=x)) rfl (λe=>?_) λe=>?_
 ·exact{rfl,x,rfl,Int.le_trans `d (of_decide_eq_true e)}
 clear e;refine bG (cv rfl) (bG (cv rfl) ?_);show ag (af _ _ [some (.int x),some (.int a),some (.lst fM),none,none,none] M) _;obtain⟨q1,e1,p1,p2⟩:=nB a M;obtain⟨q2,e2,p3,_⟩:=nB (a+5) M;obtain⟨q3,e3,p5,_⟩:=nB (a+7) M;have sm:∀{z c:Int},0<=z->z<=c->c<2^64->z.natAbs<2^64:=λz0 zc c0=>`a
 have lt:∀{z c:Int},0<=z->z<=c->c<2^64->-(2^64)<z/\z<2^64:=λz0 zc c0=>`a
 have r1:=Qj x (show(1000000007:Int)≠0 by decide)
 have r2:=Qa x (show(0:Int)<1000000007 by decide)
 have r3:=Qj x (show(65537:Int)≠0 by decide)
 have r4:=Qa x (show(0:Int)<65537 by decide)
 obtain⟨m1,m2⟩:=yQ r1 (Int.le_of_lt r2) (show 0<=2*a+69069 by omega) (show 2*a+69069<=2069069 by omega)
 refine bG (cv (j8 (Bj (fV (fV (nN (j8 (aK rfl) rfl `d) (fV (nN rfl (aK rfl) (.inl `d)) rfl) (.inl (lt r1 (Int.le_of_lt r2) `d))) (nN (aK rfl) rfl (.inl (lt h0 h1 `d)))) rfl) rfl `d (sm (c:=10000000000000000000) `a `a `d)) (nE rfl (aK rfl) e1) p1)) ?_
 generalize (x % 1000000007*(2*a+69069)+a*40503+977)^(3:Int).toNat=y1;have b1:=Qj y1 (Int.ne_of_gt p1);have b2:=Qa y1 p1;generalize y1 % q1=one at b1 b2;show ag (af _ _ [some (.int x),some (.int a),some (.lst fM),some (.int one),none,none] M) _;have b3:one<=2147483648:=Int.le_of_lt (Int.lt_trans b2 p2);obtain⟨m3,m4⟩:=yQ b1 b3 (show 0<=a+3 by omega) (show a+3<=1000003 by omega)
 refine bG (cv (j8 (Bj (fV (fV (nN (aK rfl) (fV (aK rfl) rfl) (.inl (lt b1 b3 `d))) (j8 (aK rfl) rfl `d)) rfl) rfl `d (sm (c:=10000000000000000000) `a `a `d)) (nE rfl (fV (aK rfl) rfl) e2) p3)) ?_
 generalize (one*(a+3)+x % 65537+5)^(5:Int).toNat=y2;have c1:=Qj y2 (Int.ne_of_gt p3);have c2:=Qa y2 p3;generalize y2 % q2=two at c1 c2;show ag (af _ _ [some (.int x),some (.int a),some (.lst fM),some (.int one),some (.int two),none] M) _;have r5:=Qj one (show(1009:Int)≠0 by decide)
 have r6:=Qa one (show(0:Int)<1009 by decide)
 refine bG (cv (j8 (Bj (fV (fV (aK rfl) (j8 (aK rfl) rfl `d)) (aK rfl)) rfl `d (sm (c:=10000000000) `a `a `d)) (nE rfl (fV (aK rfl) rfl) e3) p5)) ?_
 generalize (two+one % 1009+a)^(3:Int).toNat=y3;have d1:=Qj y3 (Int.ne_of_gt p5);refine dz (fV (nN (fV (nN (aK rfl) rfl (.inr `d)) (aK rfl)) rfl (.inr `d)) (aK rfl)) {rfl,_,rfl,?_}
 exact Int.add_nonneg (Int.mul_nonneg (Int.add_nonneg (Int.mul_nonneg b1 `d) c1) `d) d1
omit h in
theorem NM:bW 3 2=some 2:=rfl
omit h in
theorem pV {l:List Int}{i:Int}(h0:0<=i)(h1:i<l.length):∃x,((bW l.length i).bind λj=>Option.map D.int l[j]?)=some (.int x):=by
 obtain⟨k,rfl⟩:=Int.eq_ofNat_of_zero_le h0;have hk:k<l.length:=`a
 refine{l[k],?_};rw[dN hk];simp[hk]
def kM:GS:=af (aC (.one 4) (aq false .mod (aw (aa 0) (gI 2)) (aa 1))) (af (d4 (aa 0) (gI 2) (aq false .fdiv (aw (aa 0) (gI 2)) (aa 1))) (af (aS (aa 4)) ai))
def uF (c:Call):GS:=af (d4 (aa 0) (gI 1) (aq false .add (aa 2) (gI 1))) (af (d4 (aa 0) (gI 2) (au 28 c (ae (aa 3) (ae (aa 2) ah)))) ai)
omit h in
theorem Lx {m:Bool}{a b:GE}{Z:Env}{x y:Int}(ha:a Z M=.ok (.int x) M)(hb:b Z M=.ok (.int y) M)(c:0<y/\y<1073741824):aq m .fdiv a b Z M=.ok (.int (x / y)) M:=by
 unfold aq;rw[ha];show(b Z M).bind _=_;rw[hb];exact if_pos c
omit h in
theorem bX {a b:GE}{Z:Env}{x y d:D}(ha:a Z M=.ok x M)(hb:b Z M=.ok y M)(e:bS x y M=some d):aw a b Z M=.ok d M:=by
 unfold aw;rw[ha];show(b Z M).bind _=_;rw[hb];show b6 M _=_;rw[e];rfl
omit h in
theorem Jq {p:Nat}{c0 c1 c2:D}(e:M[p]?=some [c0,c1,c2]):bS (.cell p) (.int 0) M=some c0/\bS (.cell p) (.int 1) M=some c1/\bS (.cell p) (.int 2) M=some c2:=by
 refine{?_,?_,?_}<;>(show(M[p]?).bind _=_;rw[e];rfl)
omit h in
theorem sv {a b d:GE}{rest:GS}{Z:Env}{p i:Nat}{n:Int}{z:D}{ds:List D}{M':Mem}{kf:Fl->Mem->Prop}(hd:d Z M=.ok z M')(ha:a Z M'=.ok (.cell p) M')(hb:b Z M'=.ok (.int n) M')(e:M'[p]?=some ds)(hi:bW ds.length n=some i)(h:ag (rest Z (M'.set p (ds.set i z))) kf):ag (af (d4 a b d) rest Z M) kf:=by
 simp only[az];unfold d4;rw[hd];show ag ((a Z M').bind _) _;rw[ha];show ag ((b Z M').bind _) _;rw[hb];show ag (match M'[p]? with|some ds=>(match bW ds.length n with|some j=>Res.ok (Fl.next Z) (M'.set p (ds.set j z))|none=>.bad)|none=>.bad) _
 rw[e];show ag (match bW ds.length n with|some j=>Res.ok (Fl.next Z) (M'.set p (ds.set j z))|none=>.bad) _
 rw[hi];exact h
omit h in
theorem Js {t:GT}{A B rest:GS}{Z:Env}{b:Bool}{kf:Fl->Mem->Prop}(ht:t Z M=.ok b M)(h1:b=true->ag (A Z M) (ij rest kf))(h2:b=false->ag (B Z M) (ij rest kf)):ag (af (aV t A B) rest Z M) kf:=by
 simp only[az,fW];rw[ht];cases b with
 |true=>exact h1 rfl
 |false=>exact h2 rfl
omit h in
theorem qv {M M1:Mem}{p c many B:Nat}{cells:List Int}{a st:Int}{x y:Option D}(e1:M1[p]?=some [.cell c,.int a,.int st])(e2:M1[c]?=some (cells.map D.int))(lt:c<p)(a0:0<=a)(aB:a<=(B+1:Nat))(s0:0<=st)(k:bh p M M1)
 (h0:0<many) (h1:many<=10000000):ag (kM [some (.cell p),some (nD many),x,y,none] M1) (nS λd M'=>∃v:Nat,d=nD v/\v<many/\aJ M' p (B+1)/\bh p M M'):=by
 have hp:p<M1.length:=(Ov.mp e1).1;have b0:(0:Int)<(many:Int):=Int.ofNat_lt.mpr h0;have r1:=Qj st (Int.ne_of_gt b0);have r2:=Qa st b0;unfold kM;refine bG (cv (j8 (bX (aK rfl) rfl (Jq e1).2.2) (aK rfl) b0)) (sv (Lx (bX (aK rfl) rfl (Jq e1).2.2) (aK rfl) {b0,`a}) (aK rfl) rfl e1 (i:=2) rfl (dz (aK rfl) ?_))
 obtain⟨v,hv⟩:=Int.eq_ofNat_of_zero_le r1;refine{v,congrArg D.int hv,`a,{c,cells,a,st / many,O3 hp,?_,lt,a0,aB,Int.ediv_nonneg s0 (Int.le_of_lt b0)},k.trans bh.set}
 rw[OE (PM lt)];exact e2
theorem uK (n:Nat){p B many:Nat}(hp:aJ M p B)(hB:B<=1000000)(h0:0<many)(h1:many<=10000000):ag (aj P (n+2) 31 [.cell p,nD many] M) λd M'=>∃v:Nat,d=nD v/\v<many/\aJ M' p (B+1)/\bh p M M':=by
 obtain⟨c,cells,a,st,e1,e2,lt,a0,aB,s0⟩:=hp.ex;have hpl:p<M.length:=(Ov.mp e1).1;obtain⟨i0,i1,i2⟩:=Jq e1;refine aM h.law_take rfl ?_;show ag (af (aV _ (af _ (af _ (af _ (uF (aj P (n+1)))))) _) kM [some (.cell p),some (nD many),none,none,none] M) _;have mid:∀(x:Int),ag (uF (aj P (n+1)) [some (.cell p),some (nD many),some (.int a),some (.int x),none] M) (ij kM (nS λd M'=>∃v:Nat,d=nD v/\v<many/\aJ M' p (B+1)/\bh p M M')):=by
  intro x;refine sv (fV (aK rfl) rfl) (aK rfl) rfl e1 (i:=1) rfl ?_;obtain⟨_,_,es,rfl,v,rfl,v0⟩:=k9.mp (ya h n (M:=M.set p [.cell c,.int (a+1),.int st]) (x:=x) (a:=a) a0 `a)
  refine sv ((bz (ak (aK rfl) (ak (aK rfl) rfl))).trans es) (aK rfl) rfl (O3 hpl) (i:=2) rfl ?_;have ne:=PM lt;exact qv (c:=c) (cells:=cells) (a:=a+1) (st:=v) (O3 (by rw[List.length_set];exact hpl)) (by rw[OE ne,OE ne];exact e2) lt `a `a v0 (bh.set.trans bh.set) h0 h1
 have len:aY .len (ae (aw (aa 0) (gI 0)) ah) [some (.cell p),some (nD many),some (.int a),some (.int 0),none] M=.ok (.int (cells.length:Nat)) M:=by
  refine av ?_;simp only[dA];rw[ak (bX (aK rfl) rfl i0) rfl,a7];exact sY.mpr {_,e2,by rw[Oz],rfl}
 refine bY (b:=decide (st<(many:Int))) (fq (av ?_)) (λc1=>?_) λc1=>?_
 ·simp only[dZ];rw[bX (aK rfl) rfl i2,a7,aK (x:=nD many) rfl,a7];exact{_,rfl,rfl,rfl}
 ·refine bG (cv (bX (aK rfl) rfl i1)) (bG (cv rfl) ?_);show ag (af _ _ [some (.cell p),some (nD many),some (.int a),some (.int 0),none] M) _;have ixx:∀{i:Int}{x:D},((bW cells.length i).bind λj=>Option.map D.int cells[j]?)=some x->bS (.cell c) (.int i) M=some x:=λ{i x} ex=>by
   show(M[c]?).bind _=_;rw[e2];show((bW (cells.map D.int).length i).bind λj=>(cells.map D.int)[j]?)=_;simp only[Oz,OL];exact ex
  refine Js (b:=decide (a<(cells.length:Int))) (fq (av ?_)) (λc2=>?_) λ_=>?_
  ·simp only[dZ];rw[aK (x:=.int a) rfl,a7,len,a7];exact{_,rfl,rfl,rfl}
  ·obtain⟨x,ex⟩:=pV a0 (of_decide_eq_true c2);exact bG (cv (bX (bX (aK rfl) rfl i0) (aK rfl) (ixx ex))) (mid x)
  ·refine bY (b:=decide ((0:Int)<(cells.length:Int))) (fq (av ?_)) (λc3=>?_) λ_=>mid 0
   ·simp only[dZ,cb];rw[len,a7];exact{_,rfl,rfl,rfl}
   ·have c4:=of_decide_eq_true c3;obtain⟨x,ex⟩:=pV (Qj (a*5+3) (Int.ne_of_gt c4)) (Qa _ c4);exact bG (cv (j8 (bX (bX (aK rfl) rfl i0) (j8 (fV (nN (aK rfl) rfl (.inr `d)) rfl) len c4) (ixx ex)) (fV (x:=100000000000000000) rfl (aK rfl)) (Int.lt_of_lt_of_le `d (Int.le_add_of_nonneg_right a0)))) (mid _)
 ·exact qv e1 e2 lt a0 `a s0 .refl h0 h1
end
def aH.withC:aH->Nat->aH
 |.turn a t _,c=>.turn a t c
 |.join a o t _,c=>.join a o t c
 |.move a o _,c=>.move a o c
 |.put a x _,c=>.put a x c
def rM {w p c:Nat}{d:aH}(h:bN w p d)(hc:fb c):bN w p (d.withC c):=by
 cases d with
 |turn=>exact⟨h.1,h.2.1,hc⟩
 |join=>exact⟨h.1,h.2.1,h.2.2.1,hc⟩
 |move=>exact⟨h.1,h.2.1,hc⟩
 |put=>exact⟨h.1,h.2.1,hc⟩
def qa {w p:Nat}{d:aH}(h:bN w p d):fb d.cost:=by
 cases d with
 |turn=>exact h.2.2
 |join=>exact h.2.2.2
 |move=>exact h.2.2
 |put=>exact h.2.2
def tR {d:aH}{c:Nat}{M:Mem}{k:D->Mem->Prop}(hk:k (d.withC c).d M):ag (hU false d.d .non (.int (-1)) M) λx M=>ag (fU false .add x (.tup [nD c]) M) k:=by
 cases d<;>(simp[aH.d,hU,aT,cut];exact{`d,hk})
def AR (n:Nat)(d:aH):aA (n+3) d.d=true:=by
 have tp:∀(n:Nat) (l:List Nat),(l.map nD).all (aA n)=true:=λn l=>by
  rw[O0];intro x hx;obtain⟨i,_,rfl⟩:=OK.mp hx;cases n<;>rfl
 cases d with
 |turn a t c=>simp[aH.d,aA,ax,nD];decide +kernel
 |join a o t c=>simp[aH.d,aA,nD,ax];decide +kernel
 |move a o c=>simp[aH.d,aA,nD];decide +kernel
 |put a x c=>simp[aH.d,aA,nD];decide +kernel
def ne_nil {M:Mem}{q:Nat}{ds:List aH}(e:M[q]?=some (ds.map aH.d)):bC .ne (.cell q) (.lst []) M=some (!ds.isEmpty):=by
 have hp:(ds.map aH.d).all (aA 63)=true:=by
  rw[O0];intro x hx;obtain⟨d,_,rfl⟩:=OK.mp hx;exact AR 60 d
 have hv:view M (.cell q)=.lst (ds.map aH.d):=by simp[view,e]
 have h1:aA 64 (.lst (ds.map aH.d))=true:=hp;refine Gw (by rw[hv];exact h1) rfl ?_
 rw[hv];cases ds<;>rfl
@[simp] theorem IY {m:Bool}{x:List D}{j:Int}{M:Mem}{k:D->Mem->Prop}:ag (fU m .mul (.tup x) (.int j) M) k↔(x.length*j.toNat<=sz/\-(2^63)<=j/\j<2^63)/\k (.tup (List.replicate j.toNat x).flatten) M:=l4
def tV {w:Nat}{ge:GE}{Z:Env}{M:Mem}{kl:List D->Mem->Prop}(f:Nat->Nat)(hw:w<=100)(hf:∀k,k<w->ge (some (.int (k:Int))::Z) M=.ok (nD (f k)) M)(hk:kl (((List.range w).map f).map nD) M) :
 ag (dg (cK (.one 0) (bw ge) (none::Z)) (λ_=>some ((List.range w).map λ(k:Nat)=>D.int (k:Int))) [] M) kl:=by
 refine fc (ds:=(List.range w).map λ(k:Nat)=>D.int (k:Int)) (λd=>match d with|.int i=>nD (f i.toNat)|_=>.non) (aF `o) rfl (λd hd=>?_) ?_
 ·obtain⟨k,hk,rfl⟩:=OK.mp hd;exact{_,rfl,hf k (QE.mp hk)}
 ·simpa[Function.comp_def] using hk
def uH {w:Nat}{f:Nat->Nat}(hf:∀k,k<w->f k<w):fS w ((List.range w).map f):={`s,λx hx=>by
 obtain⟨k,hk,rfl⟩:=OK.mp hx;exact hf k (QE.mp hk)}
section
variable{P:Nat->Option Df}(h:HasP0 P){M:Mem}
include h
theorem EX (n:Nat){p B:Nat}(hp:aJ M p B):ag (aj P (n+1) 30 [.cell p] M) λd M'=>d=.cell p/\aJ M' p B/\bh p M M':=by
 obtain⟨c,cells,a,st,e1,e2,lt,a0,aB,s0⟩:=hp.ex;have ne:c≠p:=Pm lt;have hpl:p<M.length:=(Ov.mp e1).1;refine aM h.law_anew rfl ?_;simp[kg,e1,NM];refine{{c,cells,a,0,by simp[hpl],?_,lt,a0,aB,`a},bh.set}
 rw[OE (PN ne)];exact e2
theorem tk (n:Nat){p B many:Nat}{k:D->Mem->Prop}(hp:aJ M p B)(hB:B<=1000000)(h0:0<many)(h1:many<=10000000)(hk:∀(v:Nat) (M':Mem),v<many->aJ M' p (B+1)->bh p M M'->k (nD v) M'):ag (aj P (n+2) 31 [.cell p,nD many] M) k:=
 aP (uK h n hp hB h0 h1) λd M' ⟨v,e,hv,hp',hk'⟩=>by subst e;exact hk v M' hv hp' hk'
end
def bd {B c k m:Nat}(h:B<=c)(e:c+k<=m):B+k<=m:=OZ (Nat.add_le_add_right h k) e
def wx {B k m:Nat}(e:k<=m):B+k<=B+m:=Nat.add_le_add_left e B
def Ln {xs:List D}{v:Nat}{M:Mem}(h:v<xs.length):bS (.lst xs) (nD v) M=some xs[v]:=by
 show(bW xs.length (v:Int)).bind (λj=>xs[j]?)=_;rw[dN h];simp[h]
def wm {Z:Env}{M:Mem}{j v c:Nat}(h:Z[j]?.getD none=some (nD v)):(ay (aL .lt (aa j) (gC (.int (c:Int)))):GT) Z M=.ok (decide (v<c)) M:=by
 refine dw ?_;simp only[fx,dZ,aZ,cb];refine{_,h,_,rfl,_,rfl,?_,trivial};simp
def mR {Z:Env}{M:Mem}{j v c:Nat}(h:Z[j]?.getD none=some (nD v)):(ay (aL .eq (aa j) (gC (.int (c:Int)))):GT) Z M=.ok ((v:Int)==(c:Int)) M:=by
 refine dw ?_;simp only[fx,dZ,aZ,cb];exact{_,h,_,rfl,_,rfl,rfl,trivial}
section
variable{Z:Env}{M:Mem}{g a:GE}{rest:GS}{kf:Fl->Mem->Prop}
section
variable{P:Nat->Option Df}(hp_:HasP0 P)(n:Nat){i j p B many:Nat}(hj:Z[j]?.getD none=some (.cell p))(hg:g Z M=.ok (nD many) M)(hp:aJ M p B)(hB:B<=1000000)(h0:0<many)(h1:many<=10000000)
include hp_ hj hg hp hB h0 h1
theorem fu:ag (au 31 (aj P (n+2)) (ae (aa j) (ae g ah)) Z M) λd M'=>∃v:Nat,d=nD v/\v<many/\aJ M' p (B+1)/\bh p M M':=by
 rw[bz (ak (aK hj) (ak hg rfl))];exact uK hp_ n hp hB h0 h1
theorem iA (hk:∀(v:Nat) (M':Mem),v<many->aJ M' p (B+1)->bh p M M'->ag (rest (Z.set i (some (nD v))) M') kf):ag (af (aC (.one i) (au 31 (aj P (n+2)) (ae (aa j) (ae g ah)))) rest Z M) kf:=by
 refine c5 (fu hp_ n hj hg hp hB h0 h1) ?_;rintro x M' ⟨v,rfl,a,b,c⟩;exact hk v M' a b c
theorem B0 {xs:List D}(hl:a Z M=.ok (.lst xs) M)(hz:xs.length=many):ag (aw a (au 31 (aj P (n+2)) (ae (aa j) (ae g ah))) Z M) λd M'=>d∈xs/\aJ M' p (B+1)/\bh p M M':=by
 unfold aw;rw[hl,ba,a7,ba];refine aP (fu hp_ n hj hg hp hB h0 h1) ?_;rintro x M' ⟨v,rfl,a,b,c⟩;rw[Ln `a]
 exact{QR _,b,c}
end
end
section
variable{Z:Env}{M:Mem}{k:D->Mem->Prop}
def js {e:GE}{K:Fl->Mem->Prop}(h:ag (e Z M) λx M=>K (.ret x) M):ag (af (aS e) ai Z M) K:=by
 simp only[az,cp];exact h
def yR {e:GE}{j v w:Nat}(he:e Z M=.ok (nD v) M)(hj:Z[j]?.getD none=some (nD w))(hw:0<w):aq false .mod e (aa j) Z M=.ok (nD (v % w)) M:=by
 unfold aq;rw[he];show(aa j Z M).bind _=_;rw[aK hj];show(if (0:Int)<(w:Int) then Res.ok (D.int ((v:Int) % (w:Int))) M else .bad)=_;rw[if_pos `a]
 rfl
def qm {e f:GE}{v w:Nat}(he:e Z M=.ok (nD v) M)(hf:f Z M=.ok (nD w) M):aq false .add e f Z M=.ok (nD (v+w)) M:=by
 unfold aq;rw[he];show(f Z M).bind _=_;rw[hf];rfl
def Hi {e:GE}{v c:Nat}(he:e Z M=.ok (nD v) M)(hc:c<=v):aq false .sub e (gC (.int (c:Int))) Z M=.ok (nD (v-c)) M:=by
 unfold aq;rw[he];show Res.ok (D.int ((v:Int)-(c:Int))) M=_;rw[<- Int.ofNat_sub hc]
end
section
variable{P:Nat->Option Df}(h:HasP P){M:Mem}
include h
theorem xZ (n:Nat){p B w:Nat}(hp:aJ M p B)(hB:B<=900000)(w2:2<=w)(w4:w<=4):ag (aj P (n+3) 32 [.cell p,nD w] M) λd M'=>∃t,d=ax t/\fS w t/\aJ M' p (B+7)/\bh p M M':=by
 have w0:0<w:=O1 `d w2
 have wM:w<=10000000:=OZ w4 (OI rfl);refine aM h.law_tab rfl ?_;show ag (jc (aj P (n+2)) [some (.cell p),some (nD w),none,none,none,none] M) _;unfold jc;refine iA h n (many:=6) rfl rfl hp (OZ hB `d) `d `d λkind M1 hk p1 k1=>?_
 refine iA h n (many:=w) rfl rfl p1 (bd (k:=1) hB `d) w0 wM λword M2 hw p2 k2=>?_
 refine iA h n (many:=w) rfl rfl p2 (bd (k:=2) hB `d) w0 wM λother M3 ho p3 k3=>?_
 have K3:=(k1.trans k2).trans k3;have fin:∀(l:List Nat) (M':Mem),fS w l->aJ M' p (B+7)->bh p M M'->(l.map nD).length<=sz/\∃t,D.tup (l.map nD)=ax t/\fS w t/\aJ M' p (B+7)/\bh p M M':=λl M' hl hp' hk'=>{aF (by rw[Oz,hl.1];omega),l,rfl,hl,hp',hk'}
 have p7:aJ M3 p (B+7):=p3.mono (wx (k:=3) `d)
 show ag (af _ _ [some (.cell p),some (nD w),some (nD kind),some (nD word),some (nD other),none] M3) _;refine bY (wm (c:=2) rfl) (λ_=>?_) λ_=>?_
 ·simp only[az,cp,dA,bg,bQ,eD,iw,aZ];refine{_,rfl,_,rfl,{`a,`a},?_}
  refine comp_map (ds:=(List.range w).map λ(k:Nat)=>D.int (k:Int)) (λi acc M'=>∃t:List Nat,acc=t.map nD/\(∀x∈t,x<w)/\aJ M' p (B+3+i)/\bh p M M') (aF `o) (λ_ _ _ _=>rfl) {[],rfl,(λ_ hx=>nomatch hx),p3,K3} ?_ ?_
  ·rintro i d acc M' hd _ ⟨t,rfl,ht,hp',hk'⟩;have hi:i<w:=by
    have:=(Ov.mp hd).1;simpa using this
   refine{_,rfl,aP (fu h n (many:=w) rfl rfl hp' `a w0 wM) ?_}
   rintro _ M4 ⟨v,rfl,hv,p4,k4⟩;refine{t++[v],by rw[OV];rfl,λx hx=>?_,p4,hk'.trans k4}
   rcases Pk.mp hx with z|z
   ·exact ht x z
   ·rw[OQ.mp z];exact hv
  ·rintro acc M' hl ⟨t,rfl,ht,hp',hk'⟩;simp only[Oz,PV] at hl hp';exact cq.mpr (fin t M' ⟨hl,ht⟩ (hp'.mono `a) hk')
 refine bY (mR (c:=2) rfl) (λ_=>?_) λ_=>?_
 ·simp only[az,cp,dA,bg,bQ,eD,iw,aZ];refine{_,rfl,_,rfl,{`a,`a},?_}
  exact tV (λk=>(k+1+word) % w) `a (λk hk=>yR (qm (qm (aK rfl) rfl) (aK rfl)) rfl w0) (cq.mpr (fin _ M3 (uH λk _=>Nat.mod_lt _ w0) p7 K3))
 refine bY (mR (c:=3) rfl) (λ_=>?_) λ_=>?_
 ·simp only[az,cp,dA,bg,bQ,eD,iw,aZ];refine{_,rfl,_,rfl,{`a,`a},?_}
  refine tV (λk=>if k=word then other else k) `a (λk hk=>?_) (cq.mpr (fin _ M3 (uH λk hk=>by split<;>assumption) p7 K3))
  have e:(ay (aL .eq (aa 0) (aa 4)):GT) [some (.int (k:Int)),some (.cell p),some (nD w),some (nD kind),some (nD word),some (nD other),none] M3=.ok ((k:Int)==(word:Int)) M3:=rfl;by_cases ck:k=word
  ·rw[if_pos ck];exact jh (k:=true) (e.trans (by rw[ck,beq_self_eq_true])) (λ_=>rfl) (λz=>nomatch z)
  ·rw[if_neg ck];exact jh (k:=false) (e.trans (by rw[PB.mpr `a])) (λz=>nomatch z) (λ_=>rfl)
 refine bY (mR (c:=4) rfl) (λ_=>js ?_) λ_=>?_
 ·simp only[fQ,f6,bg,bQ,aZ];refine{_,rfl,aF (n:=1) `d,_,rfl,IY.mpr {{aF `o,`a,`a},List.replicate w word,?_,{List.length_replicate,λx hx=>by rw[List.eq_of_mem_replicate hx];exact hw},p7,K3}}
  simp[ax,nD]
 ·simp only[az,om,F1,aZ,km,cp,dA,bg,bQ,a9];simp;refine{`a,aF `a,word,dN hw,other,dN ho,((List.range w).set word other).set other word,?_,{`s,λx hx=>?_},p7.app,K3.trans bh.app}
  ·simp[ax,nD,List.map_set]
  ·rcases List.mem_or_eq_of_mem_set hx with z|rfl
   ·rcases List.mem_or_eq_of_mem_set z with y|rfl
    ·exact QE.mp y
    ·exact ho
   ·exact hw
theorem A3 (n:Nat){p B w pl:Nat}(hp:aJ M p B)(hB:B<=800000)(w2:2<=w)(w4:w<=4)(p1:1<=pl)(p2:pl<=2):ag (aj P (n+4) 33 [.cell p,nD w,nD pl] M) λd M'=>∃e:aH,d=e.d/\bN w pl e/\aJ M' p (B+40)/\bh p M M':=by
 have pM:pl<=10000000:=OZ p2 (OI rfl);refine aM h.law_deed rfl ?_;show ag (ir (aj P (n+3)) [some (.cell p),some (nD w),some (nD pl),none,none,none,none] M) _;unfold ir;refine iA h (n+1) (many:=8) rfl rfl hp (OZ hB `d) `d `d λkind M1 hk q1 k1=>?_
 refine c5 (k:=λd M'=>∃v:Nat,d=nD (1+v)/\v<3/\aJ M' p (B+2)/\bh p M1 M') ?_ ?_
 ·rw[fQ];simp only[cb];refine aP (fu h (n+1) (many:=3) rfl rfl q1 (bd (k:=1) hB `d) `d `d) ?_
  rintro _ M2 ⟨v,rfl,hv,q,kk⟩;exact iM.mpr {v,by show D.int (1+(v:Int))=D.int ((1+v:Nat):Int);rw[Int.natCast_add];rfl,hv,q,kk}
 rintro _ M2 ⟨price,rfl,hc,q2,k2⟩;refine iA h (n+1) (many:=pl) rfl rfl q2 (bd (k:=2) hB `d) p1 pM λat_ M3 ha q3 k3=>?_
 refine iA h (n+1) (many:=pl) rfl rfl q3 (bd (k:=3) hB `d) p1 pM λother M4 ho q4 k4=>?_
 have K4:=((k1.trans k2).trans k3).trans k4;have co:fb (1+price):={`a,`a}
 have q40:aJ M4 p (B+40):=q4.mono (wx (k:=4) `d)
 show ag (af _ _ [some (.cell p),some (nD w),some (nD pl),some (nD kind),some (nD (1+price)),some (nD at_),some (nD other)] M4) _;refine bY (wm (c:=3) rfl) (λ_=>js ?_) λ_=>?_
 ·simp only[f6,bg,bQ,cb,aZ,mv];refine{_,rfl,_,rfl,_,rfl,aP (xZ h n q4 (bd (k:=4) hB `d) w2 w4) λd M' ⟨t,e,ht,hp',hk'⟩=>{_,rfl,aF (n:=4) `d,.turn at_ t (1+price),?_,⟨ha,ht,co⟩,hp'.mono (wx (k:=11) `d),K4.trans hk'}}
  subst e;rfl
 refine bY (wm (c:=5) rfl) (λ_=>js ?_) λ_=>?_
 ·obtain⟨o,eo,ho'⟩:∃o:Nat,lD (ay (aL .eq (aa 3) (gI 3))) (aq false .mod (aq false .add (aa 5) (gI 1)) (aa 2)) (aa 6) [some (.cell p),some (nD w),some (nD pl),some (nD kind),some (nD (1+price)),some (nD at_),some (nD other)] M4=.ok (nD o) M4/\o<pl:=by
   have e:(ay (aL .eq (aa 3) (gI 3)):GT) [some (.cell p),some (nD w),some (nD pl),some (nD kind),some (nD (1+price)),some (nD at_),some (nD other)] M4=.ok ((kind:Int)==3) M4:=mR (c:=3) rfl;cases q:(kind:Int)==3 with
   |true=>rw[q] at e;exact{(at_+1) % pl,jh e (λ_=>yR (w:=pl) (qm (v:=at_) (w:=1) (aK rfl) rfl) rfl p1) (λz=>nomatch z),Nat.mod_lt _ p1}
   |false=>rw[q] at e;exact{other,jh e (λz=>nomatch z) (λ_=>aK rfl),ho}
  simp only[f6,bg,bQ,cb,aZ];refine{_,rfl,?_};rw[eo,a7];exact{_,rfl,aF (n:=4) `d,.move at_ o (1+price),rfl,⟨ha,ho',co⟩,q40,K4}
 refine bY (mR (c:=5) rfl) (λ_=>js ?_) λ_=>?_
 ·simp only[f6,bg,bQ,cb];show ag (aj P (n+3) 31 [.cell p,nD w] M4) _;refine tk h (n+1) q4 (bd (k:=4) hB `d) (O1 `d w2) (OZ w4 (OI rfl)) λv M5 hv q5 k5=>?_
  exact{aF (n:=4) `d,.put at_ v (1+price),rfl,⟨ha,hv,co⟩,q5.mono (wx (k:=5) `d),K4.trans k5}
 ·simp only[az,cp,f6,bg,bQ,cb,dA,eD,iw,aZ];refine{_,rfl,_,rfl,_,rfl,_,rfl,{`a,`a},?_}
  refine comp_map (ds:=(List.range w).map λ(k:Nat)=>D.int (k:Int)) (λi acc M'=>∃t:List (List Nat),acc=t.map ax/\(∀x∈t,fS w x)/\aJ M' p (B+4+i*7)/\bh p M M') (aF `o) (λ_ _ _ _=>rfl) {[],rfl,(λ_ hx=>nomatch hx),q4,K4} ?_ ?_
  ·rintro i d acc M' hd _ ⟨t,rfl,ht,hp',hk'⟩;have hi:i<w:=by
    have:=(Ov.mp hd).1;simpa using this
   refine{_,rfl,?_};rw[bz (ak (aK rfl) (ak (aK rfl) rfl))];refine aP (xZ h n hp' `a w2 w4) ?_
   rintro _ M4 ⟨v,rfl,hv,p4,k4⟩;refine{t++[v],by rw[OV];rfl,λx hx=>?_,p4.mono `a,hk'.trans k4}
   rcases Pk.mp hx with z|z
   ·exact ht x z
   ·rw[OQ.mp z];exact hv
  ·rintro acc M' hl ⟨t,rfl,ht,hp',hk'⟩;simp only[Oz,PV] at hl hp';exact cq.mpr {aF (by rw[Oz];omega),_,rfl,aF (n:=5) `d,.join at_ other t (1+price),rfl,{ha,ho,⟨hl,ht⟩,co},hp'.mono `a,hk'}
theorem og (n:Nat){p B W Pl mo:Nat}(hp:aJ M p B)(hB:B<=700000)(W2:2<=W)(W4:W<=4)(P1:1<=Pl)(P2:Pl<=2)(m1:1<=mo)(m6:mo<=6):ag (aj P (n+5) 34 [.cell p,nD W,nD Pl,nD mo] M) λd M'=>∃m:aN,d=m.d/\aO m/\m.words<=W/\m.places<=Pl/\m.deeds.length<=mo/\aJ M' p (B+300)/\bh p M M':=by
 refine aM h.law_machine rfl ?_;show ag (fR (aj P (n+4)) [some (.cell p),some (nD W),some (nD Pl),some (nD mo),none,none,none,none] M) _;unfold fR;have plus:∀{Z:Env}{M:Mem}{g:GE}{B c many:Nat}{rest:GS}{K:Fl->Mem->Prop}{i:Nat},Z[0]?.getD none=some (.cell p)->g Z M=.ok (nD many) M->aJ M p B->B<=1000000->0<many->many<=10000000->(∀(v:Nat) (M':Mem),v<many->aJ M' p (B+1)->bh p M M'->ag (rest (Z.set i (some (nD (c+v)))) M') K)->ag (af (aC (.one i) (aq false .add (gC (.int (c:Int))) (au 31 (aj P (n+4)) (ae (aa 0) (ae g ah))))) rest Z M) K:=by
  intro Z M g B c many rest K i e0 eg hp hB h0 h1 hk;refine c5 (k:=λd M'=>∃v:Nat,d=nD (c+v)/\v<many/\aJ M' p (B+1)/\bh p M M') ?_ ?_
  ·rw[fQ];simp only[cb];refine aP (fu h (n+2) (many:=many) e0 eg hp hB h0 h1) ?_;rintro _ M2 ⟨v,rfl,hv,q,kk⟩;exact iM.mpr {v,by show D.int ((c:Int)+(v:Int))=D.int ((c+v:Nat):Int);rw[Int.natCast_add],hv,q,kk}
  ·rintro _ M' ⟨v,rfl,a,b,c⟩;exact hk v M' a b c
 refine plus (c:=2) (many:=W-1) rfl (Hi (c:=1) (aK rfl) `a) hp (OZ hB `d) `a `a λw M1 hw q1 k1=>?_
 refine plus (c:=1) (many:=Pl) rfl (aK rfl) q1 (bd (k:=1) hB `d) P1 (OZ P2 (OI rfl)) λpl M2 hpl q2 k2=>?_
 have pl2:p<M2.length:=q2.lt;have K2:=k1.trans k2;have ML:M.length<=M2.length:=K2.len;have w2:2<=2+w:=QD _ _;have w4:2+w<=4:=`a
 have l1:1<=1+pl:=QD _ _;have l2:1+pl<=2:=`a
 generalize hW:2+w=w' at w2 w4;generalize hP:1+pl=p' at l1 l2;refine c5 (k:=λd M'=>d=.cell M2.length/\M'=M2++[[]]) ?_ ?_
 ·simp only[DN,bQ];exact pN.mpr {Qc _,rfl,rfl}
 rintro _ _ ⟨rfl,rfl⟩;show ag (af _ _ [some (.cell p),some (nD w'),some (nD p'),some (nD mo),some (.cell M2.length),none,none,none] (M2++[[]])) _;simp only[az,fz,iw,fQ,cb];refine aP (fu h (n+2) (many:=mo) rfl rfl q2.app (bd (k:=2) hB `d) m1 (OZ m6 (OI rfl))) ?_
 rintro _ M3 ⟨many,rfl,hmany,q3,k3⟩;have e3:M3[M2.length]?=some []:=k3.get (List.getElem?_concat_length) `a
 have K3:bh p M M3:=K2.trans (bh.app.trans k3);generalize hq:M2.length=q at *;refine iM.mpr {_,rfl,{`a,`a},?_}
 rw[show(1+(many:Int)).toNat=1+many by omega]
 refine fw (ds:=(List.range (1+many)).map λ(k:Nat)=>D.int (k:Int)) (λi Z M'=>∃ds:List aH,M'[q]?=some (ds.map aH.d)/\ds.length=i/\(∀d∈ds,bN w' p' d)/\aJ M' p (B+3+i*45)/\bh p M M'/\∃a b c,Z=[some (.cell p),some (nD w'),some (nD p'),some (nD mo),some (.cell q),a,b,c])
  (λ_ _ _ _=>rfl) {[],e3,rfl,(λ_ hd=>nomatch hd),q3,K3,none,none,none,rfl} ?_ ?_
 ·rintro i d Z M' hd ⟨ds,e4,hl,hds,q4,K4,a,b,c,rfl⟩;have hi:i<1+many:=by
   have:=(Ov.mp hd).1;simpa using this
  have hi6:i<=5:=`a
  have hB4:B+3+i*45<=700228:=`a
  have hqM:M.length<=q:=ML;have hpq:p<q:=pl2;refine{_,rfl,?_};refine iA h (n+2) (many:=5) rfl rfl q4 (OZ hB4 `d) `d `d λagain M5 ha q5 k5=>?_
  have e5:=k5.get e4 (PM hpq);refine c5 (k:=λd M'=>∃e:aH,d=e.d/\bN w' p' e/\aJ M' p (B+3+i*45+41)/\bh p M5 M') ?_ ?_
  ·rw[bz (ak (aK rfl) (ak (aK rfl) (ak (aK rfl) rfl)))];exact aP (A3 h n (w:=w') (pl:=p') q5 (bd (k:=1) hB4 `d) w2 w4 l1 l2) λd M' ⟨e,a,b,c,d⟩=>⟨e,a,b,c,d⟩
  rintro _ M6 ⟨e,rfl,he,q6,k6⟩;have e6:=k6.get e5 (PM hpq);have K6:=(K4.trans k5).trans k6;have hsm:(ds.map aH.d).length<sz:=P9 (show(ds.map aH.d).length<=50 by rw[Oz,hl];omega) `d
  have fin:∀(e:aH) (M'':Mem) (x5 x6:Option D),bN w' p' e->M''[q]?=some (ds.map aH.d)->aJ M'' p (B+3+(i+1)*45)->bh p M M''->
   ag (af (d5 (aa 4) (aa 7)) ai [some (.cell p),some (nD w'),some (nD p'),some (nD mo),some (.cell q),x5,x6,some e.d] M'') λfl M'=>∃ρ',fl=.next ρ'/\∃ds:List aH,M'[q]?=some (ds.map aH.d)/\ds.length=i+1/\(∀d∈ds,bN w' p' d)/\aJ M' p (B+3+(i+1)*45)/\bh p M M'/\∃a b c,ρ'=[some (.cell p),some (nD w'),some (nD p'),some (nD mo),some (.cell q),a,b,c]:=by
   intro e M'' x5 x6 he e7 q7 K7;simp only[az,Hy,aZ];refine{_,rfl,_,rfl,q,ds.map aH.d,rfl,e7,hsm,_,rfl,ds++[e],?_,by rw[Pn,hl];rfl,λd hd=>?_,q7.setq hpq,K7.setq hqM,_,_,_,rfl}
   ·rw[O3 (Ov.mp e7).1,OV];rfl
   ·rcases Pk.mp hd with z|z
    ·exact hds d z
    ·rw[OQ.mp z];exact he
  show ag (af _ _ [some (.cell p),some (nD w'),some (nD p'),some (nD mo),some (.cell q),some d,some (nD again),some e.d] M6) _;have en:(ay (aL .ne (aa 4) (bu false ah)):GT) [some (.cell p),some (nD w'),some (nD p'),some (nD mo),some (.cell q),some d,some (nD again),some e.d] M6=.ok (!ds.isEmpty) M6:=by
   refine fq ?_;unfold aL;show(b6 M6 (bC .ne (.cell q) (.lst []) M6)).bind _=_;rw[ne_nil e6];rfl
  refine bY (qk (mR (c:=0) rfl) en) (λcc=>?_) λ_=>fin e M6 _ _ he e6 (q6.mono `a) K6
  have hpos:0<ds.length:=by
   rw[OF] at cc;cases ds with
   |nil=>exact absurd cc.2 `d
   |cons _ _=>exact Nat.succ_pos _
  simp only[az,om,fQ,rA,f7,f6,bg,bQ,mS,cb];have el:aY .len (ae (aa 4) ah) [some (.cell p),some (nD w'),some (nD p'),some (nD mo),some (.cell q),some d,some (nD again),some e.d] M6=.ok (nD ds.length) M6:=by
   refine av ?_;simp only[dA,bg,bQ,aZ];exact{_,rfl,sY.mpr {_,e6,by rw[Oz],rfl}}
  show ag (au 31 (aj P (n+4)) (ae (aa 0) (ae (aY .len (ae (aa 4) ah)) ah)) [some (.cell p),some (nD w'),some (nD p'),some (nD mo),some (.cell q),some d,some (nD again),some e.d] M6) _;refine aP (fu h (n+2) (many:=ds.length) rfl el q6 (bd (k:=41) hB4 `d) hpos `a) ?_
  rintro _ M7 ⟨v,rfl,hv,q7,k7⟩;have e7:=k7.get e6 (PM hpq);refine{(ds.getD v e).d,?_,1,rfl,rfl,rfl,?_}
  ·show(M7[q]?).bind (λds=>(bW ds.length (v:Int)).bind λj=>ds[j]?)=_;rw[e7];show(bW (ds.map aH.d).length (v:Int)).bind (λj=>(ds.map aH.d)[j]?)=_;rw[dN (by rw[Oz];exact hv)]
   simp[P4,hv]
  ·refine aP (tR (d:=ds.getD v e) (c:=e.cost) (k:=λx M'=>ag (af (d5 (aa 4) (aa 7)) ai [some (.cell p),some (nD w'),some (nD p'),some (nD mo),some (.cell q),some d,some (nD again),some x] M') λfl M'=>∃ρ',fl=.next ρ'/\∃ds:List aH,M'[q]?=some (ds.map aH.d)/\ds.length=i+1/\(∀d∈ds,bN w' p' d)/\aJ M' p (B+3+(i+1)*45)/\bh p M M'/\∃a b c,ρ'=[some (.cell p),some (nD w'),some (nD p'),some (nD mo),some (.cell q),a,b,c]) ?_) λx1 M3 hx=>{1,rfl,nD e.cost,iG,aF (n:=1) `d,hx}
   exact fin _ M7 _ _ (rM (hds _ (getD_mem hv)) (qa he)) e7 (q7.mono `a) (K6.trans k7)
 ·rintro Z M' ⟨ds,e4,hl,hds,q4,K4,a,b,c,rfl⟩;simp only[Oz,PV] at hl q4;refine js ?_;simp only[f6,bg,bQ,dA,aZ];refine{_,rfl,_,rfl,_,rfl,vN.mpr {_,e4,aF (n:=3) `d,⟨w',p',ds⟩,rfl,{w2,w4,l1,l2,?_,?_,hds},?_,?_,?_,q4.mono `a,K4}}
  ·show 1<=ds.length;omega
  ·show ds.length<=6;omega
  ·show w'<=W;omega
  ·show p'<=Pl;omega
  ·show ds.length<=mo;omega
end
def EZ {xs:List D}{a b:Nat}{M:Mem}{k:D->Mem->Prop}:ag (hU false (.frz xs) (.int a) (.int b) M) k↔(cut xs (min a xs.length) (min b xs.length)).length<=sz/\k (.lst (cut xs (min a xs.length) (min b xs.length))) M:=by
 show ag (match aT xs.length 0 (.int a),aT xs.length xs.length (.int b) with|some l,some h=>br false (cut xs l h) M|_,_=>.bad) k↔_
 have e1:aT xs.length 0 (.int a)=some (min a xs.length):=by
  show some _=_;rw[if_neg `a];simp
 have e2:aT xs.length xs.length (.int b)=some (min b xs.length):=by
  show some _=_;rw[if_neg `a];simp
 rw[e1,e2];exact cq
def A8 {xs:List D}{b:Nat}{M:Mem}{k:D->Mem->Prop}:ag (hU false (.frz xs) .non (.int b) M) k↔(cut xs 0 (min b xs.length)).length<=sz/\k (.lst (cut xs 0 (min b xs.length))) M:=by
 show ag (match aT xs.length 0 D.non,aT xs.length xs.length (.int b) with|some l,some h=>br false (cut xs l h) M|_,_=>.bad) k↔_
 have e2:aT xs.length xs.length (.int b)=some (min b xs.length):=by
  show some _=_;rw[if_neg `a];simp
 rw[e2];exact cq
def vA {α β:Type}(f:α->β)(l:List α)(a b:Nat):cut (l.map f) a b=(cut l a b).map f:=by simp[cut,List.map_take,List.map_drop]
def p9 {α:Type}(l:List α)(a b:Nat):(cut l a b).length<=l.length:=by simp[cut];omega
section
variable{P:Nat->Option Df}(h:HasP0 P){M:Mem}
include h
theorem ET (n:Nat){ns:List Int}(hn:ns.length<=63):ag (aj P (n+1) 29 [.frz (ns.map D.int)] []) λd M'=>d=.cell 1/\aJ M' 1 0:=by
 refine aM h.law_open rfl ?_;simp[ke,eT];refine(A8 (b:=12)).mpr {?_,?_}
 ·exact aF (OZ (p9 _ _ _) `o)
 simp only[BH,pN];refine{aF (OZ (p9 _ _ _) `o),(EZ (a:=12) (b:=63)).mpr {aF (OZ (p9 _ _ _) `o),rfl,?_}}
 rw[vA,vA];simp only[Oz,List.length_nil,Qi];have e63:min 63 ns.length=ns.length:=`a
 rw[e63];refine fw (ds:=dY 0 ((cut ns (min 12 ns.length) ns.length).map D.int)) (λi Z M'=>∃l:List Int,M'=[l.map D.int]/\l.length=min 12 ns.length/\∃a b,Z=[some (.frz (ns.map D.int)),some (.cell 0),a,b]) (λ_ _ _ _=>rfl) {cut ns 0 (min 12 ns.length),rfl,by simp[cut],none,none,rfl} ?_ ?_
 ·rintro i d Z M' hd ⟨l,rfl,hl,a,b,rfl⟩;rw[mr,OL] at hd;cases e:(cut ns (min 12 ns.length) ns.length)[i]? with
  |none=>rw[e] at hd;cases hd
  | some x =>
    rw[e] at hd;have hd:D.tup [.int ((0+i:Nat):Int),.int x]=d:=OD hd;subst hd;have hi:=(Ov.mp e).1;have hlen:12<ns.length:=by
     by_cases c:12<ns.length
     ·exact c
     ·have:min 12 ns.length=ns.length:=`a
      rw[this] at hi;simp[cut] at hi
    have l12:l.length=12:=`a
    have r1:=Qj (i:Int) (show(12:Int)≠0 by decide)
    have r2:=Qa (i:Int) (show(0:Int)<12 by decide)
    obtain⟨y,ey⟩:=pV (l:=l) r1 (by rw[l12];exact r2)
    obtain⟨k,ek⟩:∃k:Nat,(i:Int) % 12=(k:Int):={((i:Int) % 12).toNat,`a}
    refine{_,rfl,?_};simp;rw[ek] at ey ⊢;have hk:k<l.length:=`a
    refine{_,ey,?_};simp only[iM];refine{l.map D.int,rfl,k,?_,l.set k (y+x),?_,by simp[hl]}
    ·simpa using dN hk
    ·simp[List.map_set]
 ·rintro Z M' ⟨l,rfl,hl,a,b,rfl⟩;simp;exact{`d,{0,l,0,0,rfl,rfl,`d,`d,`d,`d}}
end
abbrev a8:=List (List Nat)
def bD (b:a8):D:=.tup (b.map ax)
def di (m:aN)(i:Nat)(b:a8):a8:=b.map (aU (cZ m i))
def cst (m:aN)(i:Nat):Nat:=(cZ m i).cost
inductive lS (m:aN):Nat->a8->Prop
 |start:lS m 0 (bq m)
 |step {q:Nat}{b:a8}{i:Nat}:lS m q b->i<m.deeds.length->lS m (q+cst m i) (di m i b)
def bt (m:aN)(q:Nat)(b:a8):Prop:=lS m q b/\∀q'<q,¬ lS m q' b
section
variable{m:aN}{q q' p:Nat}{b:a8}
def iI (hm:aO m){i:Nat}(hi:i<m.deeds.length):1<=cst m i/\cst m i<=3:=qa (kL hm hi)
def uP (h:lS m q b):(q=0/\b=bq m)\/∃i b',i<m.deeds.length/\cst m i<=q/\lS m (q-cst m i) b'/\b=di m i b':=by
 cases h with
 |start=>exact .inl ⟨rfl,rfl⟩
 | @step q b i h hi=>exact .inr {i,b,hi,Nat.le_add_left _ _,by rw[Nat.add_sub_cancel];exact h,rfl}
def yw (hm:aO m)(h:lS m q b):b.length=(bq m).length/\∀s∈b,e9 m s:=by
 induction h with
 |start=>exact⟨rfl,qg⟩
 | step _ hi ih =>
   refine{by unfold di;rw[Oz];exact ih.1,λs hs=>?_}
   obtain⟨t,ht,rfl⟩:=OK.mp hs;exact zD (kL hm hi) (ih.2 t ht)
def qB:∀{q:Nat},lS m q b->∃q',q'<=q/\bt m q' b:=by
 intro q;induction q using Nat.strongRecOn with
 | ind q ih =>
   intro h;by_cases z:∃q',q'<q/\lS m q' b
   ·obtain⟨q',h1,h2⟩:=z;obtain⟨r,h3,h4⟩:=ih q' h1 h2;exact{r,OZ h3 (Nat.le_of_lt h1),h4}
   ·exact{q,OC _,h,λq' h1 h2=>z ⟨q',h1,h2⟩}
def wt (h:bt m q b)(h':bt m q' b):q=q':=by
 rcases Nat.lt_trichotomy q q' with z|z|z
 ·exact absurd h.1 (h'.2 q z)
 ·exact z
 ·exact absurd h'.1 (h.2 q' z)
def gX (hm:aO m):bt m 0 b↔b=bq m:=by
 constructor
 ·intro h;rcases uP h.1 with⟨_,e⟩|⟨i,b',hi,hc,_⟩
  ·exact e
  ·have:=(iI hm hi).1;omega
 ·rintro rfl;exact{.start,λq' h=>absurd h (Qq _)}
def gY (hm:aO m)(hp:0<p):bt m p b↔(∃i b',i<m.deeds.length/\cst m i<=p/\bt m (p-cst m i) b'/\b=di m i b')/\∀q<p,¬ bt m q b:=by
 constructor
 ·intro h;refine{?_,λq hq z=>h.2 q hq z.1};rcases uP h.1 with⟨e,_⟩|⟨i,b',hi,hc,h1,rfl⟩
  ·omega
  ·refine{i,b',hi,hc,?_,rfl};obtain⟨r,hr,hl⟩:=qB h1;have h2:¬ r+cst m i<p:=λz=>h.2 _ z (.step hl.1 hi);have e:r=p-cst m i:=`a
   rw[<- e];exact hl
 ·rintro⟨⟨i,b',hi,hc,h1,rfl⟩,h2⟩;refine{by have:=lS.step h1.1 hi;rwa [Nat.sub_add_cancel hc] at this,λq' hq' z=>?_}
  obtain⟨r,hr,hl⟩:=qB z;exact h2 r `a hl
def wu (hm:aO m)(hp:0<p)(h:∀q,q<p->p<=q+3->∀b,¬ bt m q b):∀q,p<=q->∀b,¬ bt m q b:=by
 intro q;induction q using Nat.strongRecOn with
 | ind q ih =>
   intro hq b hl;obtain⟨⟨i,b',hi,hc,h1,_⟩,_⟩:=(gY hm `a).mp hl
   have c:=iI hm hi;by_cases z:p<=q-cst m i
   ·exact ih _ `a z b' h1
   ·exact h _ `a `a b' h1
def sR {α β:Type}{f:α->β}:∀{l:List α},(l.map f).Nodup->l.Nodup
 |[],_=>.nil
 | a :: l, h => by
   rw[Pr,Pz] at h;exact List.nodup_cons.mpr {λz=>h.1 (Pc z),sR h.2}
def len_sub {α:Type}[DecidableEq α]:∀{l l':List α},l.Nodup->(∀x∈l,x∈l')->l.length<=l'.length
 |[],_,_,_=>Qc _
 | a :: l, l', h, s => by
   have ha:=s a O4;have h1:=len_sub (l:=l) (l':=l'.erase a) (Pz.mp h).2 λx hx=>by
    have ne:x≠a:=λe=>(Pz.mp h).1 (by rw[<- e];exact hx)
    exact(List.mem_erase_of_ne ne).mpr (s x (OP _ hx))
   rw[List.length_erase_of_mem ha] at h1;have h2:=List.length_pos_of_mem ha;rw[Ql];omega
structure bA (m:aN) (p:Nat) (l:List (a8×Nat)):Prop where
 nd:(l.map (·.1)).Nodup
 sound:∀x∈l,bt m x.2 x.1/\x.2<p
 all:∀q b,q<p->bt m q b->(b,q)∈l
def bA.count {l l':List (a8×Nat)}(h:bA m p l)(h':bA m p l')(k:Nat):(l.map (·.2)).count k=(l'.map (·.2)).count k:=by
 have nd:∀{l:List (a8×Nat)},bA m p l->l.Nodup:=λh=>sR h.nd;have e:l.Perm l':=(List.perm_ext_iff_of_nodup (nd h) (nd h')).mpr λx=>{λhx=>by
  obtain⟨h1,h2⟩:=h.sound x hx;exact h'.all x.2 x.1 h2 h1,λhx=>by
  obtain⟨h1,h2⟩:=h'.sound x hx;exact h.all x.2 x.1 h2 h1}
 exact(e.map _).count_eq k
def g7 (m:aN)(p:Nat):Prop:=∃l:List (a8×Nat),(l.map (·.1)).Nodup/\(∀x∈l,bt m x.2 x.1/\x.2<p)/\255<l.length
def bA.few {l:List (a8×Nat)}(h:bA m p l)(hl:l.length<=255):¬ g7 m p:=by
 rintro⟨l',n',s',hl'⟩;have:=len_sub (sR n') λx hx=>h.all x.2 x.1 (s' x hx).2 (s' x hx).1;omega
def bA.mono {l:List (a8×Nat)}(h:bA m p l)(hq:p<=q)(he:∀k b,p<=k->k<q->¬ bt m k b):bA m q l:=
 {h.nd,λx hx=>{(h.sound x hx).1,O1 (h.sound x hx).2 hq},λk b hk hl=>by
  by_cases z:k<p
  ·exact h.all k b z hl
  ·exact absurd hl (he k b `a hk)}
end
def zV:∀l:List Nat,d7 (l.map nD) (l.map nD)=true
 |[]=>rfl
 | i :: l => by
   show(bV (nD i) (nD i)&&d7 (l.map nD) (l.map nD))=true;rw[zV l];simp[nD,Mb]
def GF (l:List Nat):bV (ax l) (ax l)=true:=zV l
structure HasB (P:Nat->Option Df):Prop where
 after:P 41=some {2,4,jE}
 begins:P 42=some {1,1,iU}
structure m7 (P:Nat->Option Df):Prop where
 same:P 40=some {2,2,dr}
def qo:∀ds:List D,iQ ds ds=ds.map λd=>.tup [d,d]
 |[]=>rfl
 |d::r=>by simp[iQ,qo r]
def oE {ds:List D}{M:Mem}:bC .notin (.bl false) (.lst (ds.map λ_=>.bl true)) M=some true:=by
 show((b5 M (.lst (ds.map λ_=>.bl true))).bind (m9 (view M (.bl false)))).map (!·)=_;show(m9 (.bl false) (ds.map λ_=>.bl true)).map (!·)=_;unfold m9;rw[if_pos]
 ·have:(ds.map λ_=>D.bl true).any (λy=>bV y (.bl false))=false:=by
   rw[List.any_eq_false];intro x hx;obtain⟨_,_,rfl⟩:=OK.mp hx;exact OR
  rw[this];rfl
 ·simp[aA]
@[simp] theorem BG {m:Bool}{ds:List D}{M:Mem}{k:D->Mem->Prop}:ag (fh (.list m) [.tup ds] M) k↔ag (br m ds M) k:=PZ
def bZ {x y:Str}{b:Bool}(e:jB (.str x) (.str y)=some b)(M:Mem):bC .eq (.str x) (.str y) M=some b:=by
 show lQ M (.str x) (.str y)=some b;unfold lQ;rw[show jB (view M (.str x)) (view M (.str y))=some b from e]
def wK {m:aN}{d:aH}{s:List Nat}(hd:bN m.words m.places d)(hs:e9 m s):aU d s=s.set d.at' (d9 d s):=by
 have a0:=rE hd;rw[List.set_eq_take_append_cons_drop,if_pos (by rw[hs.1];exact a0)]
 simp[aU]
def d8 {D0:D}{nm w:Str}{A rest:GS}{Z:Env}{M:Mem}{k:Fl->Mem->Prop}(h0:Z[0]?=some (some D0))(e0:bS D0 (.int 0) M=some (.str nm))(c:bC .eq (.str nm) (.str w) M=some false)(h:ag (rest Z M) k):ag (af (aV (ay (aL .eq (aw (aa 0) (gI 0)) (gC (.str w)))) A ai) rest Z M) k:=by
 simp[h0,e0,c,h]
def mG {D0:D}{nm w:Str}{A rest:GS}{Z:Env}{M:Mem}{k:Fl->Mem->Prop}(h0:Z[0]?=some (some D0))(e0:bS D0 (.int 0) M=some (.str nm))(c:bC .eq (.str nm) (.str w) M=some true)(h:ag (A Z M) (ij rest k)):ag (af (aV (ay (aL .eq (aw (aa 0) (gI 0)) (gC (.str w)))) A ai) rest Z M) k:=by
 simp[h0,e0,c,h]
section
variable{P:Nat->Option Df}(h:m7 P){M:Mem}
include h
theorem yc (n:Nat)(i:Nat):aj P (n+1) 40 [nD i,nD i] M=.ok (.bl true) M:=by
 refine av (aM h.same rfl ?_);show ag (dr (aj P n) [some (nD i),some (nD i)] M) _;unfold dr;exact bH rfl (bH rfl (jg rfl (v:=.bl ((i:Int)==(i:Int))) rfl {`s,rfl}))
theorem yk (n:Nat){x y:D}{ds:List D}{Z:Env}{kl:List D->Mem->Prop}(hx:b5 M x=some ds)(hy:b5 M y=some ds)(hz:ds.length<=sz)(hs:∀d∈ds,aj P n 40 [d,d] M=.ok (.bl true) M)(hk:kl (ds.map λ_=>.bl true) M) :
 ag (dg (cK (.tup [0,1]) (bw (au 40 (aj P n) (ae (aa 0) (ae (aa 1) ah)))) (none::none::Z)) (n6 x y) [] M) kl:=by
 refine fc (ds:=ds.map λd=>.tup [d,d]) (λ_=>.bl true) (by simpa using hz) ?_ ?_ ?_
 ·simp[n6,hx,hy,qo]
 ·intro d hd;obtain⟨e,he,rfl⟩:=OK.mp hd;refine{_,rfl,?_};refine av ?_;simp;rw[hs e he];exact⟨rfl,rfl⟩
 ·simpa[Function.comp_def] using hk
theorem yb (n:Nat){x y:D}{r:List Nat}(hx:iu M x r)(hy:iu M y r)(hz:r.length<=100000):aj P (n+2) 40 [x,y] M=.ok (.bl true) M:=by
 refine av (aM h.same rfl ?_);have hs:∀d∈r.map nD,aj P (n+1) 40 [d,d] M=.ok (.bl true) M:=λd hd=>by obtain⟨i,_,rfl⟩:=OK.mp hd;exact yc h n i
 have e1:=hx.seq;have e2:=hy.seq;have lx:∀k:D->Mem->Prop,ag (fh .len [x] M) k↔k (.int r.length) M:=λk=>hx.len;have ly:∀k:D->Mem->Prop,ag (fh .len [y] M) k↔k (.int r.length) M:=λk=>hy.len;have ix:∀t,eO t x=some (t==.list):=by
  intro t;rcases hx with rfl|⟨q,rfl,_⟩<;>rfl
 have iy:∀t,eO t y=some (t==.list):=by
  intro t;rcases hy with rfl|⟨q,rfl,_⟩<;>rfl
 have sx:=hx.is.1;have sy:=hy.is.1;have ny:=hy.non;have c1:bC .isN y .non M=some false:=by
  show some (lA y)=_;rw[ny]
 simp[dr,c1,ix,iy,lx,ly,sx,sy];exact{`r,`r,yk h (n+1) e1 e2 (aF `o) hs {aF `o,oE,rfl}}
end
section
variable{P:Nat->Option Df}(h:HasB P){M:Mem}
include h
set_option maxHeartbeats 2000000 in
theorem jd (n:Nat){D0:D}{nm:Str}{s:List Nat}{a:Nat}{v:Nat}(ha:a<s.length)(hz:s.length<=100)(e0:∀M,bS D0 (.int 0) M=some (.str nm))(e1:∀M,bS D0 (.int 1) M=some (nD a))
 (bT bJ bM bP:Bool) (cT:∀M,bC .eq (.str nm) (.str "turn") M=some bT) (cJ:∀M,bC .eq (.str nm) (.str "join") M=some bJ) (cM:∀M,bC .eq (.str nm) (.str "move") M=some bM) (cP:∀M,bC .eq (.str nm) (.str "put") M=some bP)
 (hb:(bT=true/\bJ=false/\bM=false/\bP=false/\∀M,∃t,bS D0 (.int 2) M=some t/\bS t (nD (s.getD a 0)) M=some (nD v))
  \/(bT=false/\bJ=true/\bM=false/\bP=false/\∀M,∃t u o,bS D0 (.int 3) M=some t/\bS t (nD (s.getD a 0)) M=some u/\bS D0 (.int 2) M=some (nD o)/\o<s.length/\bS u (nD (s.getD o 0)) M=some (nD v))
  \/(bT=false/\bJ=false/\bM=true/\bP=false/\∀M,∃o,bS D0 (.int 2) M=some (nD o)/\o<s.length/\v=s.getD o 0)
  \/(bT=false/\bJ=false/\bM=false/\bP=true/\∀M,bS D0 (.int 2) M=some (nD v))) :
 aj P (n+1) 41 [D0,ax s] M=.ok (ax (s.set a v)) (M++[(s.set a v).map nD]):=by
 refine av (aM h.after rfl ?_);have S:∀M i,i<s.length->bS (ax s) (nD i) M=some (nD (s.getD i 0)):=λM i hi=>g5 hi;have T:ag (fh (.list true) [ax s] M) (λx M'=>x=.cell M.length/\M'=M++[s.map nD]):=by
  show ag (fh (.list true) [.tup (s.map nD)] M) _;rw[BG,pN];exact{aF `o,rfl,rfl}
 simp only[jE,az,om,dA,f7,cb,bg,bQ,aZ,Pr,QK,QJ,Qi,QH,QI,Option.getD_some,Option.some.injEq,exists_eq_left',a9];refine aP T λx M' hx=>?_;obtain⟨rfl,rfl⟩:=hx;have q:=S (M++[s.map nD]) a ha;refine{_,rfl,_,rfl,_,e1 _,_,q,?_};have fin:∀Z:Env,Z[2]?=some (some (.cell M.length))->ag (af (aS (aY .tuple (ae (aa 2) ah))) ai Z ((M++[s.map nD]).set M.length ((s.map nD).set a (nD v)))) (nS λx M'=>x=ax (s.set a v)/\M'=M++[(s.set a v).map nD]):=λZ hρ=>by
  simp[hρ];simp[ax,List.map_set]
 have gl:(M++[s.map nD])[M.length]?=some (s.map nD):=`s
 have ix:bW (s.map nD).length (a:Int)=some a:=dN (by simpa using ha)
 rcases hb with⟨rfl,rfl,rfl,rfl,hv⟩|⟨rfl,rfl,rfl,rfl,hv⟩|⟨rfl,rfl,rfl,rfl,hv⟩|⟨rfl,rfl,rfl,rfl,hv⟩
 ·obtain⟨t,v1,v2⟩:=hv (M++[s.map nD]);refine az.mp (mG rfl (e0 _) (cT _) ?_);simp only[az,km,f7,aZ,cb];refine{_,rfl,_,v1,_,rfl,_,v2,_,rfl,_,rfl,_,e1 _,_,_,_,_,rfl,rfl,gl,ix,?_};exact d8 rfl (e0 _) (cJ _) (d8 rfl (e0 _) (cM _) (d8 rfl (e0 _) (cP _) (fin _ rfl)))
 ·obtain⟨t,u,o,v1,v2,v3,v4,v5⟩:=hv (M++[s.map nD]);refine az.mp (d8 rfl (e0 _) (cT _) (mG rfl (e0 _) (cJ _) ?_));simp only[az,km,f7,aZ,cb];refine{_,rfl,_,v1,_,rfl,_,v2,_,rfl,_,rfl,_,v3,_,S _ _ v4,_,v5,_,rfl,_,rfl,_,e1 _,_,_,_,_,rfl,rfl,gl,ix,?_};exact d8 rfl (e0 _) (cM _) (d8 rfl (e0 _) (cP _) (fin _ rfl))
 ·obtain⟨o,v1,v2,v3⟩:=hv (M++[s.map nD]);subst v3;refine az.mp (d8 rfl (e0 _) (cT _) (d8 rfl (e0 _) (cJ _) (mG rfl (e0 _) (cM _) ?_)));simp only[az,km,f7,aZ,cb];refine{_,rfl,_,rfl,_,v1,_,S _ _ v2,_,rfl,_,rfl,_,e1 _,_,_,_,_,rfl,rfl,gl,ix,?_};exact d8 rfl (e0 _) (cP _) (fin _ rfl)
 ·have v1:=hv (M++[s.map nD]);refine az.mp (d8 rfl (e0 _) (cT _) (d8 rfl (e0 _) (cJ _) (d8 rfl (e0 _) (cM _) (mG rfl (e0 _) (cP _) ?_))));simp only[az,km,f7,aZ,cb];refine{_,rfl,_,v1,_,rfl,_,rfl,_,e1 _,_,_,_,_,rfl,rfl,gl,ix,?_};exact fin [some D0,some (ax s),some (.cell M.length),some (nD (s.getD a 0))] rfl
theorem A7 (n:Nat){m:aN}{d:aH}{s:List Nat}(hm:aO m)(hd:bN m.words m.places d)(hs:e9 m s):aj P (n+1) 41 [d.d,ax s] M=.ok (ax (aU d s)) (M++[(aU d s).map nD]):=by
 rw[wK hd hs];have l0:=hs.1;have p2:=hm.p2;have g:∀i,i<m.places->s.getD i 0<m.words:=λi hi=>hs.2 _ (getD_mem `a)
 have nw:=oH hd hs;have a0:=rE hd;have ha:d.at'<s.length:=`a
 cases d with
 |turn a t c=>exact jd h n ha `a (λ_=>rfl) (λ_=>rfl) true false false false (bZ `k) (bZ `k) (bZ `k) (bZ `k) (.inl {rfl,rfl,rfl,rfl,λM=>{ax t,rfl,g5 (by rw[hd.2.1.1];exact g _ hd.1)}})
 | join a o t c =>
   refine jd h n ha `a (λ_=>rfl) (λ_=>rfl) false true false false (bZ `k) (bZ `k) (bZ `k) (bZ `k) (.inr (.inl {rfl,rfl,rfl,rfl,λM=>{.tup (t.map ax),ax (t.getD (s.getD a 0) []),o,rfl,zv (by rw[hd.2.2.1.1];exact g _ hd.1),rfl,by rw[l0];exact hd.2.1,g5 ?_}}))
   rw[(hd.2.2.1.2 _ (getD_mem (by rw[hd.2.2.1.1];exact g _ hd.1))).1]
   exact g _ hd.2.1
 |move a o c=>exact jd h n ha `a (λ_=>rfl) (λ_=>rfl) false false true false (bZ `k) (bZ `k) (bZ `k) (bZ `k) (.inr (.inr (.inl {rfl,rfl,rfl,rfl,λM=>{o,rfl,by rw[l0];exact hd.2.1,rfl}})))
 |put a x c=>exact jd h n ha `a (λ_=>rfl) (λ_=>rfl) false false false true (bZ `k) (bZ `k) (bZ `k) (bZ `k) (.inr (.inr (.inr {rfl,rfl,rfl,rfl,λM=>rfl})))
theorem yg (n:Nat){m:aN}(hm:aO m):aj P (n+1) 42 [m.d] M=.ok (.lst ((bq m).map ax)) M:=by
 refine av (aM h.begins rfl ?_);simp[iU];have p1:=hm.p1;have p2:=hm.p2;have w2:=hm.w2;have w4:=hm.w4;refine{_,rfl,?_};have hp:m.places=1\/m.places=2:=`a
 have hw:m.words=2\/m.words=3\/m.words=4:=`a
 rcases hp with ep|ep
 ·refine .inr {by rw[ep];rfl,_,rfl,_,rfl,`a,?_}
  refine fc (ds:=(List.range m.words).map λ(k:Nat)=>D.int (k:Int)) (λd=>.tup [d]) (aF `o) `s (λd hd=>{_,rfl,av (by simp;exact aF `a)}) {aF `o,?_,rfl}
  unfold bq;rw[ep];rcases hw with e|e|e<;>rw[e]<;>rfl
 ·refine .inl {by rw[ep];rfl,_,rfl,_,rfl,?_}
  simp;refine{`a,?_}
  have ew:((m.words:Int)*(m.words:Int)).toNat=m.words*m.words:=by rw[<- Int.natCast_mul];rfl
  have hw2:m.words*m.words<=16:=Nat.mul_le_mul w4 w4;rw[ew];refine{{by rw[<- Int.natCast_mul];omega,by rw[<- Int.natCast_mul];omega},?_}
  have key:∀k:Nat,(bj (ae (aq false kJ.fdiv (aa 0) (aw (aa 1) (gC (D.int 0)))) (ae (aq false kJ.mod (aa 0) (aw (aa 1) (gC (D.int 0)))) ah))) [some (nD k),some m.d] M=.ok (ax [k / m.words,k % m.words]) M:=by
   intro k;refine av ?_;simp;refine{_,rfl,?_};simp;refine{`a,_,rfl,?_}
   simp;exact{`a,aF `a,rfl}
  refine comp_map (ds:=(List.range (m.words*m.words)).map λ(k:Nat)=>D.int (k:Int)) (λi acc M'=>M'=M/\acc=((List.range (m.words*m.words)).take i).map λk=>ax [k / m.words,k % m.words]) (aF (by simpa using by omega)) (λ_ _ _ _=>rfl) ⟨rfl,rfl⟩ ?_ ?_
  ·rintro i d acc M' hd _ ⟨rfl,rfl⟩;have hi:=(Ov.mp hd).1;simp at hi;have:d=nD i:=by
    rw[OL,P7 `a] at hd
    exact(OD hd).symm
   subst this;refine{_,rfl,?_};rw[show List.set [none,some m.d] 0 (some (nD i))=[some (nD i),some m.d] from rfl,key i];refine{rfl,?_};rw[P8,P7 `a]
   simp
  ·rintro acc M' _ ⟨rfl,rfl⟩;simp;refine{aF `a,?_}
   unfold bq;rw[ep];rcases hw with e|e|e<;>rw[e]<;>rfl
end
section
variable{Z:Env}{M:Mem}{a b d:GE}{k:D->Mem->Prop}{kw:Walk->Mem->Prop}{kf:Fl->Mem->Prop}
@[simp] theorem Og {m:Bool}{xs:List D}:ag (HI m (.lst xs) M) k↔ag (br m xs.reverse M) k:=PZ
@[simp] theorem Of {m:Bool}{xs:List D}:ag (HI m (.tup xs) M) k↔k (.tup xs.reverse) M:=PZ
end
def Kd (i j:Nat):bV (nD i) (nD j)=decide (i=j):=by
 show((i:Int)==(j:Int))=_;rw[P6];simp;omega
def zX:∀l r:List Nat,d7 (l.map nD) (r.map nD)=decide (l=r)
 |[],[]=>rfl
 |[],_::_=>rfl
 |_::_,[]=>rfl
 | i :: l, j :: r => by
   show(bV (nD i) (nD j)&&d7 (l.map nD) (r.map nD))=_;rw[Kd,zX l r,P6];simp
def uf (l r:List Nat):bV (ax l) (ax r)=decide (l=r):=zX l r
def zW:∀l r:List (List Nat),d7 (l.map ax) (r.map ax)=decide (l=r)
 |[],[]=>rfl
 |[],_::_=>rfl
 |_::_,[]=>rfl
 | i :: l, j :: r => by
   show(bV (ax i) (ax j)&&d7 (l.map ax) (r.map ax))=_;rw[uf,zW l r,P6];simp
def sC (n:Nat)(l:List Nat):aA (n+1) (.lst (l.map nD))=true:=by
 show(l.map nD).all (aA n)=true;rw[O0];intro x hx;obtain⟨i,_,rfl⟩:=OK.mp hx;cases n<;>rfl
def ends (m:aN)(r:List Nat):List (List Nat):=(bq m).map (JC m r)
def jz:∀s:List Nat,intsOf (s.map nD)=some (s.map λ(n:Nat)=>(n:Int))
 |[]=>rfl
 |a::s=>by show(intsOf (s.map nD)).map _=_;rw[jz s];rfl
def vb (s:List Nat):isKey 77 (ax s)=true:=by
 show(intsOf (s.map nD)).isSome=true;rw[jz];rfl
def zi:∀b:a8,jP (b.map ax)=some (b.map λs=>s.map λ(n:Nat)=>(n:Int))
 |[]=>rfl
 | s :: b => by
   show((intsOf (s.map nD)).bind λk=>(jP (b.map ax)).map (k::·))=_;rw[jz,zi b];rfl
def lu (b:a8):isKey 78 (bD b)=true:=by
 show(jP (b.map ax)).isSome=true;rw[zi];rfl
def D5 (a b:a8):bV (bD a) (bD b)=decide (a=b):=zW a b
section
variable{Z:Env}{M:Mem}{a b:GE}{k:D->Mem->Prop}
def dO {j:Nat}{c:Int}{es:List D}(e:M[j]?=some (.int c::es))(hc:c=77\/c=78):bK M (aE j)=some (c,es):=by
 unfold bK;rw[if_pos (show 5000<=aE j from QD _ _),show aE j-5000=j from Qo _ _,e];exact if_pos hc
def lp {α:Type}(f g:α->D)(l:List α)(x:D):cL (l.map λy=>.tup [f y,g y]) x=(l.find? λy=>bV (f y) x).map g:=by
 unfold cL;rw[List.find?_map,Option.map_map];rfl
def tB {x:D}{o:Nat}{y d:D}(ha:a Z M=.ok (.fn o) M)(hb:b Z M=.ok y M)(e:getD M o y=some d):fZ a b Z M=.ok d M:=by
 unfold fZ;rw[ha];show(b Z M).bind _=_;rw[hb];show b6 M (getD M o y)=_;rw[e];rfl
end
def fX (m:aN)(d:aH):List D:=.int 77::(bq m).map λs=>.tup [ax s,ax (aU d s)]
section
variable{P:Nat->Option Df}{M:Mem}{m:aN}{d:aH}{j:Nat}
def nO (e:M[j]?=some (fX m d))(hm:aO m){s:List Nat}(hs:e9 m s):getD M (aE j) (ax s)=some (ax (aU d s)):=by
 unfold getD;rw[dO e (.inl rfl)];show(if isKey 77 (ax s)=true then cL ((bq m).map λs=>.tup [ax s,ax (aU d s)]) (ax s) else none)=_;rw[if_pos (vb s),lp ax λs=>ax (aU d s)];have e2:((bq m).find? λy=>bV (ax y) (ax s))=some s:=by
  cases e3:(bq m).find? λy=>bV (ax y) (ax s) with
  |none=>exact absurd (GF s) (QX.mp e3 s (Cp hm hs))
  | some y =>
    have:=List.find?_some e3;rw[uf] at this;rw[of_decide_eq_true this]
 rw[e2];rfl
def Hj (h152:P 152=some {2,2,fm})(n:Nat){b:a8}(e:M[j]?=some (fX m d))(hm:aO m)(hl:b.length<=16)(hb:∀s∈b,e9 m s):aj P (n+1) 152 [.fn (aE j),bD b] M=.ok (bD (b.map (aU d))) M:=by
 refine av (aM h152 rfl ?_);simp only[fm,az,cp,dA,bg,eD,bQ,ig,aZ];refine{_,rfl,rfl,?_};refine fc (ds:=b.map ax) (λx=>(getD M (aE j) x).getD .non) (aF `o) rfl ?_ ?_
 ·intro x hx;obtain⟨s,hs,rfl⟩:=OK.mp hx;refine{_,rfl,?_};rw[nO e hm (hb s hs)];exact tB (x:=.non) rfl rfl (nO e hm (hb s hs))
 ·have e2:(b.map ax).map (λx=>(getD M (aE j) x).getD .non)=(b.map (aU d)).map ax:=by
   rw[Pw,Pw];refine Qs λs hs=>?_;show(getD M (aE j) (ax s)).getD .non=_;rw[nO e hm (hb s hs)];rfl
  rw[e2];exact cq.mpr {aF `o,rfl,rfl}
end
def uZ {α β:Type}{f:α->List β}:∀{l:List α},l.Nodup->(∀a,(f a).Nodup)->(∀a b x,a≠b->x∈f a->x∉f b)->(l.flatMap f).Nodup
 |[],_,_,_=>`s
 | a :: l, h, h1, h2 => by
   rw[List.flatMap_cons,Qe];rw[Pz] at h;refine{h1 a,uZ h.2 h1 h2,λx hx y hy e=>?_};subst e;obtain⟨b,hb,hx2⟩:=List.mem_flatMap.mp hy;exact h2 a b x (λz=>h.1 (z ▸ hb)) hx hx2
def uY (s:List Nat):∀{l:List Nat},l.Nodup->(l.map λx=>s++[x]).Nodup
 |[],_=>`s
 | a :: l, h => by
   rw[Pz] at h;rw[Pr,Pz];refine{λz=>?_,uY s h.2};obtain⟨b,hb,e⟩:=OK.mp z;have e:b=a:=by simpa using e
   exact h.1 (e ▸ hb)
def uh (w:Nat):∀p,(cS w p).Nodup
 |0=>by unfold cS;simp
 | p + 1 => by
   unfold cS nU;refine uZ (uh w p) (λs=>uY s List.nodup_range) λa b x hab hx hy=>?_;obtain⟨i,_,rfl⟩:=OK.mp hx;obtain⟨j,_,e⟩:=OK.mp hy;exact hab (List.append_inj_left' e rfl).symm
def oJ {α:Type}{l:List α}(h:l.Nodup){i j:Nat}{x:α}(hij:i<j)(hi:l[i]?=some x)(hj:l[j]?=some x):False:=by
 obtain⟨h1,e1⟩:=Ov.mp hi;obtain⟨h2,e2⟩:=Ov.mp hj;exact List.pairwise_iff_getElem.mp h i j h1 h2 hij (e1.trans e2.symm)
section
variable{Z:Env}{M:Mem}{k:D->Mem->Prop}{kl:List D->Mem->Prop}
def F2 {c:Int}{n:Nat}{tg:cf}{w:GW}{g:GB}(h:ag (w Z M) λw M=>ag (dg (cK tg g (List.replicate n none++Z)) w [.fn (aE M.length)] (M++[[.int c]])) λacc M=>∃d,acc=[d]/\k d M):ag (jA c n tg w g Z M) k:=by
 unfold jA;refine ba.mpr (aP h λw M h=>ba.mpr (aP h ?_));rintro _ M ⟨d,rfl,h⟩;exact h
def JG {gk gv:GE}{o:Nat}{x y:D}{q:Int×List D}(h1:gk Z M=.ok x M)(h2:gv Z M=.ok y M)(e:bK M o=some q)(hk:isKey q.1 x=true)(hl:q.2.length<1000000)(h:kl [.fn o] (M.set (o-5000) (.int q.1::putD q.2 x y))):ag (jV gk gv Z [.fn o] M) kl:=by
 unfold jV;rw[h1];show ag ((gv Z M).bind _) kl;rw[h2];show ag (match bK M o with|some q=>if isKey q.1 x=true/\q.2.length<1000000 then Res.ok [D.fn o] (M.set (o-5000) (.int q.1::putD q.2 x y)) else .bad|none=>.bad) kl
 rw[e];show ag (if isKey q.1 x=true/\q.2.length<1000000 then Res.ok [D.fn o] (M.set (o-5000) (.int q.1::putD q.2 x y)) else .bad) kl;rw[if_pos ⟨hk,hl⟩];exact h
end
def pI {es:List D}{x y:D}(h:cL es x=none):putD es x y=es++[.tup [x,y]]:=by
 unfold putD;rw[h];rfl
section
variable{P:Nat->Option Df}{M:Mem}{m:aN}{d:aH}
def kQ {M:Mem}{x y:List D}{j:Nat}(h:j=M.length):(M++[x]).set j y=M++[y]:=by
 subst h;rw[List.set_append_right _ _ (OC _),Nat.sub_self];rfl
def yZ {n:Nat}(h24:∀s M,e9 m s->aj P (n+2) 24 [d.d,ax s] M=.ok (ax (aU d s)) M)(hm:aO m){y:Option D}{k:D->Mem->Prop}(hk:k (.fn (aE M.length)) (M++[fX m d])) :
 ag (jA 77 1 (.one 0) (cz (aa 2)) (jV (aa 0) (au 24 (aj P (n+2)) (ae (aa 1) (ae (aa 0) ah)))) [some d.d,y,some (.lst ((bq m).map ax))] M) k:=by
 refine F2 ?_;simp only[ig,aZ];refine{_,rfl,rfl,?_};have bl:=lJ hm;have nd:=uh m.words m.places;refine gn (ds:=(bq m).map ax) (λi acc M'=>acc=[.fn (aE M.length)]/\M'=M++[.int 77::((bq m).take i).map λs=>.tup [ax s,ax (aU d s)]]) (λ_ _ _ _=>rfl) {rfl,`s} ?_ ?_
 ·rintro i x acc M' hd ⟨rfl,rfl⟩;rw[OL] at hd;cases e:(bq m)[i]? with
  |none=>rw[e] at hd;cases hd
  | some s =>
    rw[e] at hd;have hd:ax s=x:=OD hd;subst hd;have hs:=qg s (Pj e);have hi:=(Ov.mp e).1;simp only[cK,ba,iD];refine{_,rfl,?_};have em:(M++[.int 77::((bq m).take i).map λs=>D.tup [ax s,ax (aU d s)]])[M.length]?=some (.int 77::((bq m).take i).map λs=>D.tup [ax s,ax (aU d s)]):=`s
    refine JG (q:=(77,((bq m).take i).map λs=>.tup [ax s,ax (aU d s)])) rfl ((bz (ak rfl (ak rfl rfl))).trans (h24 s _ hs)) (dO em (.inl rfl)) (vb s) `o {rfl,?_}
    have none:cL (((bq m).take i).map λs=>.tup [ax s,ax (aU d s)]) (ax s)=Option.none:=by
     rw[lp ax λs=>ax (aU d s)];rw[QX.mpr];rfl;intro t ht;rw[uf];intro z;have z:=of_decide_eq_true z;subst z;obtain⟨j,hj⟩:=Qz ht;have hj2:j<i:=by
      have:=(Ov.mp hj).1;simp at this;omega
     rw[List.getElem?_take_of_lt hj2] at hj;exact oJ nd hj2 hj e
    rw[pI none];rw[show aE M.length-5000=M.length from Qo _ _,kQ rfl,P8,e];simp
 ·rintro acc M' ⟨rfl,rfl⟩;rw[Oz,PJ (OC _)];exact{_,rfl,hk}
end
section
variable{Z:Env}{M:Mem}
def GH {i:Nat}{a:GE}{x:D}(e:a Z M=.ok x M):fK (.one i) a Z M=.ok (.next (Z.set i (some x))) M:=by
 unfold fK;rw[e];rfl
def fg {f:Nat}{c:Call}{s:GA}{xs:List D}(e:s Z M=.ok xs M):cU f c s Z M=c f xs M:=by
 unfold cU;rw[e]
end
def dM (m:aN)(L:Nat):D:=.lst ((List.range m.deeds.length).map λi=>.tup [nD (cst m i),.fn (aE (L+i))])
def p8 {m:aN}{i:Nat}{d:aH}(e:m.deeds[i]?=some d):cZ m i=d:=by
 unfold cZ;rw[P4,e];rfl
section
variable{P:Nat->Option Df}{M:Mem}{m:aN}
def AZ (hb:HasB0 P)(hr:j4 P)(h15:P 15=some {1,6,dQ})(h151:P 151=some {1,2,da})(n:Nat)(hm:aO m):aj P (n+10) 151 [m.d] M=.ok (dM m M.length) (M++m.deeds.map (fX m)):=by
 refine av (aM h151 rfl ?_);show ag (da (aj P (n+9)) [some m.d,none] M) _;unfold da;refine bG (GH ((fg (ak rfl rfl)).trans (uM hb h15 n hm))) ?_;simp only[az,cp,eD,ig,f7,aZ,cb];refine{_,rfl,_,rfl,rfl,?_};have d6:=hm.d6;refine comp_map (ds:=m.deeds.map aH.d) (λi acc M'=>acc=(List.range i).map (λi=>.tup [nD (cst m i),.fn (aE (M.length+i))])/\M'=M++(m.deeds.take i).map (fX m)) (aF `o) (λ_ _ _ _=>rfl) {rfl,`s} ?_ ?_
 ·rintro i x acc M' hd _ ⟨rfl,rfl⟩;rw[OL] at hd;cases e:m.deeds[i]? with
  |none=>rw[e] at hd;cases hd
  | some d =>
    rw[e] at hd;have hd:d.d=x:=OD hd;subst hd;have hi:=(Ov.mp e).1;have hok:=hm.ok d (Pj e);refine{_,rfl,?_};simp only[f6,bg,f7,aZ,mS,cb,bQ];refine{_,rfl,_,rfl,nD d.cost,iG,?_};refine yZ (n:=n+7) (λs M hs=>EW hr (n+7) hm hok hs) hm {aF (n:=2) `d,?_,?_}
    ·have l:(M++(m.deeds.take i).map (fX m)).length=M.length+i:=by simp;omega
     rw[l,List.range_succ,OV];have c:cst m i=d.cost:=by unfold cst;rw[p8 e]
     rw[<- c];rfl
    ·rw[P8,e];simp
 ·rintro acc M' _ ⟨rfl,rfl⟩;rw[Oz,PJ (OC _)];exact cq.mpr {aF `o,rfl,rfl}
end
section
variable{Z ρ':Env}{M M':Mem}{a b d:GE}{t rest:GS}{kf:Fl->Mem->Prop}
def fy (e:t Z M=.ok (.next ρ') M')(h:ag (rest ρ' M') kf):ag (af t rest Z M) kf:=by
 rw[az,e];exact h
def zE {n r:Bool}{x:D}{o:Nat}(ha:a Z M=.ok x M)(hb:b Z M=.ok (.fn o) M)(e:inD M o x=some r):j9 n a b Z M=.ok (.bl (n != r)) M:=by
 unfold j9;rw[ha];show(b Z M).bind _=_;rw[hb];show(match inD M o x with|some r=>Res.ok (D.bl (n != r)) M|none=>.bad)=_
 rw[e]
def vm {o:Nat}{q:Int×List D}(ha:a Z M=.ok (.fn o) M)(e:bK M o=some q):jU a Z M=.ok (nD q.2.length) M:=by
 unfold jU;rw[ha];show(match bK M o with|some q=>Res.ok (D.int q.2.length) M|none=>.bad)=_
 rw[e]
def vk {x z:D}{o:Nat}{q:Int×List D}(hd:d Z M=.ok z M)(ha:a Z M=.ok (.fn o) M)(hb:b Z M=.ok x M)(e:bK M o=some q)(hk:isKey q.1 x=true)(hl:q.2.length<1000000):jL a b d Z M=.ok (.next Z) (M.set (o-5000) (.int q.1::putD q.2 x z)):=by
 unfold jL;rw[hd];show(a Z M).bind _=_;rw[ha];show(b Z M).bind _=_;rw[hb];show(match bK M o with|some q=>if isKey q.1 x=true/\q.2.length<1000000 then Res.ok (Fl.next Z) (M.set (o-5000) (.int q.1::putD q.2 x z)) else .bad|none=>.bad)=_
 rw[e];exact if_pos ⟨hk,hl⟩
def um {j:Nat}{ds:List D}{z:D}(ha:a Z M=.ok (.cell j) M)(hd:d Z M=.ok z M)(e:M[j]?=some ds)(hl:ds.length<sz):d5 a d Z M=.ok (.next Z) (M.set j (ds++[z])):=by
 unfold d5;rw[ha];show(d Z M).bind _=_;rw[hd];show(match M[j]? with|some ds=>if ds.length<sz then Res.ok (Fl.next Z) (M.set j (ds++[z])) else .bad|none=>.bad)=_
 rw[e];exact if_pos hl
def lV {s:GA}{xs:List D}(e:s Z M=.ok xs M)(hl:xs.length<=100):bj s Z M=.ok (.tup xs) M:=by
 unfold bj;rw[e];exact if_pos (aF `a)
def zy {i j:Int}(h1:a Z M=.ok (.int i) M)(h2:b Z M=.ok (.int j) M):ay (aL .gt a b) Z M=.ok (decide (j<i)) M:=by
 refine dw (fx.mpr (dZ.mpr ?_));rw[h1,a7,h2,a7];exact{_,rfl,_,rfl,rfl,rfl}
def LF {z y:Str}{i:Int}(ha:a Z M=.ok (.int i) M)(h1:z.length<=1000)(h2:y.length<=1000)(h3:i.natAbs<2^64):tH z y a Z M=.ok (.str (z++(toString i:Str)++y)) M:=by
 unfold tH;rw[ha];exact if_pos ⟨h1,h2,h3⟩
end
abbrev cY:=List (a8×Nat×List Nat)
def kc (e:a8×Nat×List Nat):D:=.tup [bD e.1,.tup [nD e.2.1,.lst (e.2.2.map nD)]]
def fC (E:cY):List D:=.int 78::E.map kc
section
variable{M:Mem}{fk:Nat}{E:cY}{b:a8}
def nR (E:cY)(b:a8):cL (E.map kc) (bD b)=(E.find? λe=>decide (e.1=b)).map λe=>.tup [nD e.2.1,.lst (e.2.2.map nD)]:=by
 have e:=lp (λe:a8×Nat×List Nat=>bD e.1) (λe=>.tup [nD e.2.1,.lst (e.2.2.map nD)]) E (bD b);refine Eq.trans e ?_
 congr 2
 funext x
 exact D5 x.1 b
def Jv (e:M[fk]?=some (fC E)):inD M (aE fk) (bD b)=some (E.any λe=>decide (e.1=b)):=by
 unfold inD;rw[dO e (.inr rfl)];show(if isKey 78 (bD b)=true then some (cL (E.map kc) (bD b)).isSome else none)=_;rw[if_pos (lu b),nR,Qw]
 congr 1
 rw[P6,List.find?_isSome,Qt]
def FV (e:M[fk]?=some (fC E))(h:∃x∈E,x.1=b):∃x∈E,x.1=b/\getD M (aE fk) (bD b)=some (.tup [nD x.2.1,.lst (x.2.2.map nD)]):=by
 unfold getD;rw[dO e (.inr rfl)];show ∃x∈E,x.1=b/\(if isKey 78 (bD b)=true then cL (E.map kc) (bD b) else none)=_;rw[if_pos (lu b),nR];cases ef:E.find? λe=>decide (e.1=b) with
 | none =>
   obtain⟨x,hx,e⟩:=h;exact absurd (decide_eq_true e) (QX.mp ef x hx)
 |some x=>exact{x,List.mem_of_find?_eq_some ef,of_decide_eq_true (p:=x.1=b) (List.find?_some (p:=λe:a8×Nat×List Nat=>decide (e.1=b)) ef),rfl}
def FU {z:D}{q:Nat}{r:List Nat}(hn:∀e∈E,e.1≠b):putD (E.map kc) (bD b) (.tup [nD q,.lst (r.map nD)])=(E++[(b,q,r)]).map kc:=by
 rw[pI,OV];rfl;rw[nR,QX.mpr];rfl;exact λx hx e=>hn x hx (of_decide_eq_true e)
end
def oG (c:Call):GS:=af (aC (.one 10) (au 152 c (ae (aa 7) (ae (aa 9) ah)))) (af (aV (ay (j9 true (aa 10) (aa 2))) (af (jL (aa 2) (aa 10) (bj (ae (aa 3) (ae (aq false .add (aw (fZ (aa 2) (aa 9)) (gI 1)) (bu false (ae (aa 5) ah))) ah)))) (af (d5 (aa 4) (aa 10)) (af (aV (ay (aL .gt (jU (aa 2)) (gI 255))) (af (gQ 8 (ae (tH "rows have more than " " behaviours" (gI 255)) ah)) ai) ai) ai))) ai) ai)
def Dk (c:Call):GS:=af (aC (.one 8) (lD (ay (aL .le (aa 6) (aa 3))) (aw (aa 1) (aq false .sub (aa 3) (aa 6))) (bu false ah))) (af (cD (.one 9) (cz (aa 8)) (oG c)) ai)
def Le (c:Call):dP c=af (aC (.one 3) (aY .len (ae (aa 1) ah))) (af (aC (.one 4) (bu true ah)) (af (cD (.two 5 [6,7]) (g6 (aa 0)) (Dk c)) (af (aS (aa 4)) ai))):=rfl
section
variable{P:Nat->Option Df}{M:Mem}{m:aN}{d:aH}{lk fk lc p i:Nat}{E:cY}{L:List a8}{b:a8}{x0 x1 x6 x8 x10:Option D}
def zR (h152:P 152=some {2,2,fm})(n:Nat)(hm:aO m)(hE:E.length<=255)(hr:∀e∈E,e.2.2.length<=90)(eF:M[fk]?=some (fC E))(eL:M[lc]?=some (L.map bD))(hL:L.length<=255)(ek:M[lk]?=some (fX m d))(ne:fk≠lc)
 (hl:b.length<=16) (hb:∀s∈b,e9 m s) (hin:∃e∈E,e.1=b) :
 ag (oG (aj P (n+1)) [x0,x1,some (.fn (aE fk)),some (nD p),some (.cell lc),some (nD i),x6,some (.fn (aE lk)),x8,some (bD b),x10] M) λfl M'=>
  ((∃e∈E,e.1=b.map (aU d))/\M'=M/\fl=.next [x0,x1,some (.fn (aE fk)),some (nD p),some (.cell lc),some (nD i),x6,some (.fn (aE lk)),x8,some (bD b),some (bD (b.map (aU d)))])\/
  ((∀ e ∈ E, e.1 ≠ b.map (aU d)) /\ ∃ e ∈ E, e.1 = b /\ M' = (M.set fk (fC (E ++ [(b.map (aU d), p, e.2.2 ++ [i])]))).set lc ((L ++ [b.map (aU d)]).map bD) /\
    ((E.length < 255 /\ fl = .next [x0, x1, some (.fn (aE fk)), some (nD p), some (.cell lc), some (nD i), x6, some (.fn (aE lk)), x8, some (bD b), some (bD (b.map (aU d)))]) \/
     (E.length=255/\∃Z,fl=.exc (.exc 8 none) Z))):=by
 unfold oG;refine bG (cv ((bz (ak rfl (ak rfl rfl))).trans (Hj h152 n ek hm hl hb))) ?_;refine bY (fq (zE (n:=true) rfl rfl (Jv eF))) (λhc=>?_) λhc=>?_
 ·have hno:∀e∈E,e.1≠b.map (aU d):=λe he z=>by
   have:(E.any λe=>decide (e.1=b.map (aU d)))=true:=Qt.mpr {e,he,decide_eq_true z};rw[this] at hc;cases hc
  obtain⟨e,he,eb,eg⟩:=FV eF hin;have eq:=dO eF (.inr rfl);refine fy (vk (z:=.tup [nD p,.lst ((e.2.2++[i]).map nD)]) (lV (ak rfl (ak ?_ rfl)) (OI rfl)) rfl rfl eq (lu _) `o) ?_
  ·have hx:(e.2.2.map nD++[nD i]).length<=100:=by simp;have:=hr e he;omega
   refine(Kh (xs:=e.2.2.map nD) (ys:=[nD i]) (bX (tB (x:=.non) rfl rfl eg) rfl rfl) (oO (ak rfl rfl) (OI rfl)) hx).trans ?_;rw[OV];rfl
  have s1:(M.set (aE fk-5000) (.int 78::putD (E.map kc) (bD (b.map (aU d))) (.tup [nD p,.lst ((e.2.2++[i]).map nD)])))=M.set fk (fC (E++[(b.map (aU d),p,e.2.2++[i])])):=by
   rw[show aE fk-5000=fk from Qo _ _,FU (z:=.non) hno];rfl
  rw[s1];have eL1:(M.set fk (fC (E++[(b.map (aU d),p,e.2.2++[i])])))[lc]?=some (L.map bD):=by rw[OE ne];exact eL
  refine fy (um rfl rfl eL1 (by rw[Oz];exact P9 hL `d)) ?_
  have s2:(M.set fk (fC (E++[(b.map (aU d),p,e.2.2++[i])]))).set lc (L.map bD++[bD (b.map (aU d))])=(M.set fk (fC (E++[(b.map (aU d),p,e.2.2++[i])]))).set lc ((L++[b.map (aU d)]).map bD):=by
   rw[OV];rfl
  rw[s2];have hlt:fk<M.length:=(Ov.mp eF).1;have eF2:((M.set fk (fC (E++[(b.map (aU d),p,e.2.2++[i])]))).set lc ((L++[b.map (aU d)]).map bD))[fk]?=some (fC (E++[(b.map (aU d),p,e.2.2++[i])])):=by
   rw[OE (PN ne),O3 hlt]
  have eln:=vm (a:=aa 2) (Z:=[x0,x1,some (.fn (aE fk)),some (nD p),some (.cell lc),some (nD i),x6,some (.fn (aE lk)),x8,some (bD b),some (bD (b.map (aU d)))]) rfl (dO eF2 (.inr rfl));refine bY (zy eln rfl) (λh=>?_) λh=>?_
  ·have h:=of_decide_eq_true h;simp only[az,A9];refine bg.mpr ?_;rw[LF rfl `d `d `d,a7]
   refine{aF (n:=1) `d,.inr {hno,e,he,eb,rfl,.inr {?_,_,rfl}}}
   simp at h;omega
  ·have h:=of_decide_eq_false h;refine .inr {hno,e,he,eb,rfl,.inl {?_,rfl}};simp at h;omega
 ·have hc:(E.any λe=>decide (e.1=b.map (aU d)))=true:=by
   cases z:(E.any λe=>decide (e.1=b.map (aU d))) with
   |true=>rfl
   |false=>rw[z] at hc;cases hc
  obtain⟨e,he,z⟩:=Qt.mp hc;exact .inl {{e,he,of_decide_eq_true z},rfl,rfl}
end
def pY {t:cf}{w:Walk}{gb:GS}{ds:List D}{Z:Env}{M:Mem}{kf:Fl->Mem->Prop}(I:Nat->Env->Mem->Prop)(X:Fl->Mem->Prop)(hX:∀fl M,X fl M->∀Z,fl≠.next Z)(hw:∀i Z M,I i Z M->w M=some ds)(hwX:∀fl M,X fl M->w M=some ds)(h0:I 0 Z M)
 (hs:∀i d Z M,ds[i]?=some d->I i Z M->∃ρ1,bU t d Z=some ρ1/\ag (gb ρ1 M) λfl M=>(∃ρ',fl=.next ρ'/\I (i+1) ρ' M)\/X fl M) (hk:∀Z M,I ds.length Z M->kf (.next Z) M) (hx:∀fl M,X fl M->kf fl M) :
 ag (dg (gO t gb) w (.next Z) M) kf:=by
 refine gn (λi fl M=>(∃Z,fl=.next Z/\I i Z M)\/X fl M) (λi fl M h=>h.elim (λ⟨Z,_,h⟩=>hw i Z M h) λh=>hwX fl M h) (.inl ⟨Z,rfl,h0⟩) ?_ ?_
 ·rintro i d fl M hd (⟨Z,rfl,hI⟩|hR)
  ·obtain⟨ρ1,e,h⟩:=hs i d Z M hd hI;simp only[gO,ba,iD,e];exact⟨ρ1,rfl,h⟩
  ·cases fl with
   |next Z=>exact absurd rfl (hX _ _ hR Z)
   |ret d=>exact .inr hR
   |exc x Z=>exact .inr hR
 ·rintro fl M (⟨Z,rfl,hI⟩|hR)
  ·exact hk Z M hI
  ·exact hx fl M hR
def set_same {α:Type}{l:List α}{k:Nat}{x:α}(e:l[k]?=some x):l.set k x=l:=by
 obtain⟨h,rfl⟩:=Ov.mp e;exact List.set_getElem_self h
structure NW (p:Nat) (E0:cY) (S:a8->Prop) (N:cY):Prop where
 nd:((E0++N).map (·.1)).Nodup
 fr:∀x∈N,S x.1/\x.2.1=p/\x.2.2.length<=p
 al:∀b,S b->b∈(E0++N).map (·.1)
def qU (p:Nat)(E0:cY)(S:a8->Prop):Prop:=∃N:cY,((E0++N).map (·.1)).Nodup/\(∀x∈N,S x.1/\x.2.1=p)/\255<(E0++N).length
def qU.mono {p:Nat}{E0:cY}{S S':a8->Prop}(h:qU p E0 S)(hs:∀b,S b->S' b):qU p E0 S':=let⟨N,h1,h2,h3⟩:=h;{N,h1,λx hx=>{hs _ (h2 x hx).1,(h2 x hx).2},h3}
def NW.old {p:Nat}{E0 N:cY}{S S':a8->Prop}{b:a8}(h:NW p E0 S N)(hs:∀x,S' x↔S x\/x=b)(hb:∃e∈E0++N,e.1=b):NW p E0 S' N:=
 {h.nd,λx hx=>{(hs _).mpr (.inl (h.fr x hx).1),(h.fr x hx).2},λc hc=>by
  rcases(hs c).mp hc with z|z
  ·exact h.al c z
  ·obtain⟨e,he,z2⟩:=hb;rw[z,<- z2];exact Pc he}
def NW.new {p:Nat}{E0 N:cY}{S S':a8->Prop}{b:a8}{r:List Nat}(h:NW p E0 S N)(hs:∀x,S' x↔S x\/x=b)(hb:∀e∈E0++N,e.1≠b)(hr:r.length<=p):NW p E0 S' (N++[(b,p,r)]):=by
 refine{?_,λx hx=>?_,λc hc=>?_}
 ·rw[<- PK,OV,Qe];refine{h.nd,`s,λx hx y hy e=>?_}
  obtain⟨z,hz,rfl⟩:=OK.mp hx;have hy:y=b:=by simpa using hy
  exact hb z hz (e.trans hy)
 ·rcases Pk.mp hx with z|z
  ·exact{(hs _).mpr (.inl (h.fr x z).1),(h.fr x z).2}
  ·obtain rfl:=OQ.mp z;exact{(hs _).mpr (.inr rfl),rfl,hr}
 ·rw[<- PK,OV];rcases(hs c).mp hc with z|z
  ·exact Pt _ (h.al c z)
  ·exact Pd _ (by rw[z];exact OQ.mpr rfl)
def b9 (M:Mem)(fk:Nat)(E0 N:cY):Mem:=M.set fk (fC (E0++N))++[(N.map (·.1)).map bD]
section
variable{M:Mem}{fk:Nat}{E0 N:cY}
def yU (h:fk<M.length):(b9 M fk E0 N)[fk]?=some (fC (E0++N)):=by
 unfold b9;rw[OG (by simpa using h),O3 h]
def yT:(b9 M fk E0 N)[M.length]?=some ((N.map (·.1)).map bD):=by
 unfold b9;rw[O5 `s]
 simp
def l7 {c:Nat}{x:List D}(hc:c≠fk)(e:M[c]?=some x):(b9 M fk E0 N)[c]?=some x:=by
 unfold b9;rw[OG (by simpa using(Ov.mp e).1),OE (PN hc)]
 exact e
def BB (h:fk<M.length){x:a8×Nat×List Nat}:((b9 M fk E0 N).set fk (fC (E0++N++[x]))).set M.length ((N.map (·.1)++[x.1]).map bD)=b9 M fk E0 (N++[x]):=by
 unfold b9;rw[List.set_append_left _ _ (by simpa using h),List.set_set,List.set_append_right _ _ `s]
 simp[PK]
def Ja (e:M[fk]?=some (fC E0)):b9 M fk E0 []=M++[[]]:=by
 unfold b9;rw[Po,set_same e];rfl
end
def ux (M:Mem)(fk:Nat)(x:D)(A:List a8):Prop:=x=.lst (A.map bD)\/∃c,x=.cell c/\c≠fk/\M[c]?=some (A.map bD)
section
variable{P:Nat->Option Df}{M:Mem}{m:aN}{lk fk p i:Nat}{E0:cY}{A:List a8}{x8:D}{S:a8->Prop}{x0 x1 x6 x9 x10:Option D}
def yX (h:ux M fk x8 A)(N:cY):b5 (b9 M fk E0 N) x8=some (A.map bD):=by
 rcases h with rfl|⟨c,rfl,hc,e⟩
 ·rfl
 ·exact l7 hc e
def zt (h152:P 152=some {2,2,fm})(n:Nat)(hm:aO m)(hf:fk<M.length)(ek:M[lk]?=some (fX m (cZ m i)))(hk:lk≠fk)(hA:ux M fk x8 A)(hAE:∀b∈A,∃e∈E0,e.1=b/\e.2.2.length+1<=p)(hok:∀b∈A,b.length<=16/\∀s∈b,e9 m s)(hp:p<=80)(hE0:∀e∈E0,e.2.2.length<=80)
 {N:cY} (h:NW p E0 S N) (hl:(E0++N).length<=255) {kf:Fl->Mem->Prop}
 (k1:∀N' y9 y10,NW p E0 (λb=>S b\/b∈A.map (di m i)) N'->(E0++N').length<=255->kf (.next [x0,x1,some (.fn (aE fk)),some (nD p),some (.cell M.length),some (nD i),x6,some (.fn (aE lk)),some x8,y9,y10]) (b9 M fk E0 N'))
 (k2:∀Z N',qU p E0 (λb=>S b\/b∈A.map (di m i))->kf (.exc (.exc 8 none) Z) (b9 M fk E0 N')) :
 ag (cD (.one 9) (cz (aa 8)) (oG (aj P (n+1))) [x0,x1,some (.fn (aE fk)),some (nD p),some (.cell M.length),some (nD i),x6,some (.fn (aE lk)),some x8,x9,x10] (b9 M fk E0 N)) kf:=by
 simp only[fz,ig,aZ];refine{_,rfl,by rcases hA with rfl|⟨c,rfl,_⟩<;>rfl,?_}
 refine pY (ds:=A.map bD) (λj Z M'=>∃N' y9 y10,NW p E0 (λb=>S b\/b∈(A.take j).map (di m i)) N'/\(E0++N').length<=255/\M'=b9 M fk E0 N'/\Z=[x0,x1,some (.fn (aE fk)),some (nD p),some (.cell M.length),some (nD i),x6,some (.fn (aE lk)),some x8,y9,y10])
  (λfl M'=>(∃Z,fl=.exc (.exc 8 none) Z)/\(∃N',M'=b9 M fk E0 N')/\qU p E0 (λb=>S b\/b∈A.map (di m i))) ?_ ?_ ?_ {N,x9,x10,?_,hl,rfl,rfl} ?_ ?_ ?_
 ·rintro fl M' ⟨⟨Z,rfl⟩,_⟩ ρ' z;cases z
 ·rintro j Z M' ⟨N',_,_,_,_,rfl,_⟩;exact yX hA N'
 ·rintro fl M' ⟨_,⟨N',rfl⟩,_⟩;exact yX hA N'
 ·exact{h.nd,λx hx=>{.inl (h.fr x hx).1,(h.fr x hx).2},λb hb=>hb.elim (h.al b) λz=>by simp at z}
 ·rintro j x Z M' hd ⟨N',y9,y10,nw,hl',rfl,rfl⟩;rw[OL] at hd;cases e:A[j]? with
  |none=>rw[e] at hd;cases hd
  | some b =>
    rw[e] at hd;have hd:bD b=x:=OD hd;subst hd;have hb:=Pj e;refine{_,rfl,?_};obtain⟨e0,he0,eb,hr0⟩:=hAE b hb;have hset:∀x,(S x\/x∈(A.take (j+1)).map (di m i))↔((S x\/x∈(A.take j).map (di m i))\/x=b.map (aU (cZ m i))):=λx=>by
     rw[P8,e];simp[di,or_assoc]
    have hsub:∀x,(S x\/x∈(A.take (j+1)).map (di m i))->(S x\/x∈A.map (di m i)):=λx hx=>hx.imp id λz=>by
     obtain⟨y,hy,rfl⟩:=OK.mp z;exact Pc (List.mem_of_mem_take hy)
    refine aP (zR h152 n hm hl' (λe he=>?_) (yU hf) yT (by rw[Oz];simp at hl';omega) (l7 hk ek) (Pm hf) (hok b hb).1 (hok b hb).2 {e0,Pt _ he0,eb}) ?_
    ·rcases Pk.mp he with z|z
     ·have:=hE0 e z;omega
     ·have:=(nw.fr e z).2.2;omega
    rintro fl M' (⟨hin,rfl,rfl⟩|⟨hno,e2,he2,eb2,rfl,hh⟩)
    ·exact .inl {_,rfl,N',_,_,nw.old hset hin,hl',rfl,rfl}
    ·have hr:(e2.2.2++[i]).length<=p:=by
      have:e2=e0:=by
       rcases Pk.mp he2 with z|z
       ·have nd0:(E0.map (·.1)).Nodup:=by
         have:=nw.nd;rw[OV,Qe] at this;exact this.1
        obtain⟨a1,h1⟩:=Qz z;obtain⟨a2,h2⟩:=Qz he0;have q1:(E0.map (·.1))[a1]?=some b:=by rw[OL,h1];exact congrArg some eb2
        have q2:(E0.map (·.1))[a2]?=some b:=by rw[OL,h2];exact congrArg some eb
        rcases Nat.lt_trichotomy a1 a2 with z|z|z
        ·exact(oJ nd0 z q1 q2).elim
        ·subst z;rw[h1] at h2;exact OD h2
        ·exact(oJ nd0 z q2 q1).elim
       ·have nd1:=nw.nd;rw[OV,Qe] at nd1;exact absurd (eb.trans eb2.symm) (nd1.2.2 _ (Pc he0) _ (Pc z))
      rw[this];simp;omega
     have nw2:=nw.new hset hno hr;rw[BB hf];rcases hh with⟨hlt,rfl⟩|⟨heq,Z,rfl⟩
     ·exact .inl {_,rfl,_,_,_,nw2,by simp at hlt ⊢;omega,rfl,rfl}
     ·exact .inr {{_,rfl},{_,rfl},_,nw2.nd,λx hx=>{hsub _ (nw2.fr x hx).1,(nw2.fr x hx).2.1},by simp at heq ⊢;omega}
 ·rintro Z M' ⟨N',y9,y10,nw,hl',rfl,rfl⟩;rw[Oz,PJ (OC _)] at nw;exact k1 N' y9 y10 nw hl'
 ·rintro fl M' ⟨⟨Z,rfl⟩,⟨N',rfl⟩,ov⟩;exact k2 Z N' ov
end
def vj {ds:List D}:∀{k i:Nat}{d:D},(dY k ds)[i]?=some d->∃x,ds[i]?=some x/\d=.tup [nD (k+i),x]:=by
 induction ds with
 |nil=>intro k i d h;simp[dY] at h
 | cons a ds ih =>
   intro k i d h;cases i with
   |zero=>cases h;exact⟨a,rfl,rfl⟩
   | succ i =>
     obtain⟨x,h1,h2⟩:=ih (k:=k+1) (i:=i) h;exact{x,h1,by rw[h2,QM,Nat.add_comm 1 i]}
def nW:∀{ds:List D}{k:Nat},(dY k ds).length=ds.length
 |[],_=>rfl
 |_::ds,k=>by show(dY (k+1) ds).length+1=ds.length+1;rw[nW]
def gm (m:aN)(p:Nat)(Ls:Nat->List a8)(i:Nat):List a8:=if cst m i<=p then Ls (p-cst m i) else []
def iW (m:aN)(p:Nat)(Ls:Nat->List a8)(i:Nat)(b:a8):Prop:=∃i',i'<i/\b∈(gm m p Ls i').map (di m i')
structure jF (M:Mem) (m:aN) (L0 lv fk:Nat) (E0:cY) (lvs:List D) (p:Nat) (Ls:Nat->List a8):Prop where
 f:M[fk]?=some (fC E0)
 l:M[lv]?=some lvs
 ne:lv≠fk
 len:lvs.length=p
 lvl:∀q x,lvs[q]?=some x->ux M fk x (Ls q)
 led:∀i d,m.deeds[i]?=some d->M[L0+i]?=some (fX m d)/\L0+i≠fk/\L0+i≠lv
 lvn:∀(q c:Nat),lvs[q]?=some (D.cell c)->c≠lv
 mem:∀q,q<p->∀b∈Ls q,(∃e∈E0,e.1=b/\e.2.2.length<=q)/\b.length<=16/\∀s∈b,e9 m s
 row:∀e∈E0,e.2.2.length<=80
 p80:p<=80
 nd:(E0.map (·.1)).Nodup
 few:E0.length<=255
section
variable{P:Nat->Option Df}{M:Mem}{m:aN}{L0 lv fk p:Nat}{E0:cY}{lvs:List D}{Ls:Nat->List a8}
def EU (h152:P 152=some {2,2,fm})(h153:P 153=some {3,11,dP})(n:Nat)(hm:aO m)(s:jF M m L0 lv fk E0 lvs p Ls) :
 fA (aj P (n+2) 153 [dM m L0,.cell lv,.fn (aE fk)] M) (λd M'=>d=.cell M.length/\∃N,NW p E0 (iW m p Ls m.deeds.length) N/\(E0++N).length<=255/\M'=b9 M fk E0 N)
  (λx M'=>x=.exc 8 none/\qU p E0 (iW m p Ls m.deeds.length)/\∃N,M'=b9 M fk E0 N):=by
 refine nX h153 rfl ?_;show ag (dP (aj P (n+1)) [some (dM m L0),some (.cell lv),some (.fn (aE fk)),none,none,none,none,none,none,none,none] M) _;rw[Le];have hf:fk<M.length:=(Ov.mp s.f).1;have el:aY .len (ae (aa 1) ah) [some (dM m L0),some (.cell lv),some (.fn (aE fk)),none,none,none,none,none,none,none,none] M=.ok (nD p) M:=by
  refine av (dA.mpr ?_);rw[ak (xs:=[]) (x:=.cell lv) rfl rfl,a7];show ag (match M[lv]? with|some xs=>Res.ok (D.int xs.length) M|none=>.bad) _
  rw[s.l];exact{by show D.int (lvs.length:Int)=_;rw[s.len],rfl}
 refine bG (cv el) ?_;refine fy (ρ':=[some (dM m L0),some (.cell lv),some (.fn (aE fk)),some (nD p),some (.cell M.length),none,none,none,none,none,none]) (M':=M++[[]]) rfl ?_;rw[<- Ja s.f];rw[az];simp only[fz,xx,aZ];refine{_,rfl,rfl,?_};have hd6:=hm.d6;have step:∀i,gm m p Ls i=gm m p Ls i:=λ_=>rfl;refine pY (ds:=dY 0 ((List.range m.deeds.length).map λi=>.tup [nD (cst m i),.fn (aE (L0+i))])) (λi Z M'=>∃N y5 y6 y7 y8 y9 y10,NW p E0 (iW m p Ls i) N/\(E0++N).length<=255/\M'=b9 M fk E0 N/\Z=[some (dM m L0),some (.cell lv),some (.fn (aE fk)),some (nD p),some (.cell M.length),y5,y6,y7,y8,y9,y10])
  (λfl M'=>(∃Z,fl=.exc (.exc 8 none) Z)/\(∃N',M'=b9 M fk E0 N')/\qU p E0 (iW m p Ls m.deeds.length)) ?_ (λ_ _ _ _=>rfl) (λ_ _ _=>rfl) {[],none,none,none,none,none,none,?_,?_,rfl,rfl} ?_ ?_ ?_
 ·rintro fl M' ⟨⟨Z,rfl⟩,_⟩ ρ' z;cases z
 ·exact{by rw[Po];exact s.nd,(λx hx=>nomatch hx),λb ⟨i,hi,_⟩=>absurd hi (Qq _)}
 ·rw[Po];exact s.few
 ·rintro i x Z M' hx ⟨N,y5,y6,y7,y8,y9,y10,nw,hl,rfl,rfl⟩;obtain⟨x2,hx2,rfl⟩:=vj hx;clear hx
  rename _=some x2=>hx
  rw[OL] at hx;cases er:(List.range m.deeds.length)[i]? with
  |none=>rw[er] at hx;cases hx
  | some i' =>
    rw[er] at hx;have hi:i<m.deeds.length:=by simpa using(Ov.mp er).1
    have ei:i'=i:=by rw[P7 hi] at er;exact(OD er).symm
    subst ei;cases hx;rw[Nat.zero_add];refine{_,rfl,?_};have ed:m.deeds[i']?=some (cZ m i'):=by
     rw[OO hi]
     congr 1
     exact(p8 (OO hi)).symm
    obtain⟨hk1,hk2,_⟩:=s.led i' _ ed;have cok:=iI hm hi;have hset:∀b,(iW m p Ls i' b\/b∈(gm m p Ls i').map (di m i'))↔iW m p Ls (i'+1) b:=λb=>by
     constructor
     ·rintro(⟨j,hj,h⟩|h)
      ·exact{j,Qx hj,h}
      ·exact{i',Nat.lt_succ_self _,h}
     ·rintro⟨j,hj,h⟩;rcases Qy j i' with z|z
      ·exact .inl ⟨j,z,h⟩
      ·have:j=i':=`a
       subst this;exact .inr h
    have hx8:∃x8,lD (ay (aL .le (aa 6) (aa 3))) (aw (aa 1) (aq false .sub (aa 3) (aa 6))) (bu false ah) [some (dM m L0),some (.cell lv),some (.fn (aE fk)),some (nD p),some (.cell M.length),some (nD i'),some (nD (cst m i')),some (.fn (aE (L0+i'))),y8,y9,y10] (b9 M fk E0 N)=.ok x8 (b9 M fk E0 N)/\ux M fk x8 (gm m p Ls i'):=by
     have hle:ay (aL .le (aa 6) (aa 3)) [some (dM m L0),some (.cell lv),some (.fn (aE fk)),some (nD p),some (.cell M.length),some (nD i'),some (nD (cst m i')),some (.fn (aE (L0+i'))),y8,y9,y10] (b9 M fk E0 N)=.ok (decide ((cst m i':Int)<=(p:Int))) (b9 M fk E0 N):=by
      exact dw (fx.mpr (dZ.mpr (aZ.mpr {_,rfl,aZ.mpr {_,rfl,_,rfl,_,rfl,rfl,rfl}})))
     by_cases hc:cst m i'<=p
     ·have hq:p-cst m i'<lvs.length:=by rw[s.len];omega
      refine{lvs[p-cst m i'],jh hle (λ_=>?_) (λz=>absurd `a (of_decide_eq_false z)),?_}
      ·refine bX (x:=.cell lv) (y:=nD (p-cst m i')) rfl ?_ ?_
       ·refine av (fQ.mpr (aZ.mpr {_,rfl,aZ.mpr {_,rfl,xW.mpr {?_,rfl}}}));show D.int _=D.int _
        congr 1;omega
       ·have e2:=l7 (E0:=E0) (N:=N) s.ne s.l;show((b9 M fk E0 N)[lv]?).bind _=_;rw[e2];show((bW lvs.length ((p-cst m i':Nat):Int)).bind λj=>lvs[j]?)=_;rw[dN hq];exact OO hq
      ·have:=s.lvl _ _ (OO hq);unfold gm;rw[if_pos hc];exact this
     ·refine{.lst [],jh hle (λz=>absurd (of_decide_eq_true z) `a) (λ_=>oO rfl `d),?_}
      unfold gm;rw[if_neg hc];exact .inl rfl
    obtain⟨x8,e8,l8⟩:=hx8;unfold Dk;refine bG (cv e8) ?_;rw[az];refine zt (S:=iW m p Ls i') (A:=gm m p Ls i') h152 n hm hf hk1 hk2 l8 (λb hb=>?_) (λb hb=>?_) s.p80 s.row nw hl (λN' z9 z10 nw' hl'=>?_) λZ N' ov=>?_
    ·unfold gm at hb;split at hb
     ·next hc=>
      obtain⟨e,he,eb,hr⟩:=(s.mem (p-cst m i') `a b hb).1
      exact{e,he,eb,`a}
     ·exact nomatch hb
    ·unfold gm at hb;split at hb
     ·exact(s.mem (p-cst m i') `a b hb).2
     ·exact nomatch hb
    ·refine .inl {_,rfl,N',_,_,_,_,_,_,?_,hl',rfl,rfl};exact{nw'.nd,λx hx=>{(hset _).mp (nw'.fr x hx).1,(nw'.fr x hx).2},λb hb=>nw'.al b ((hset b).mpr hb)}
    ·refine .inr {{_,rfl},{_,rfl},ov.mono λb hb=>?_};obtain⟨j,hj,h⟩:=(hset b).mp hb;exact{j,`a,h}
 ·rintro Z M' ⟨N,y5,y6,y7,y8,y9,y10,nw,hl,rfl,rfl⟩;rw[nW,Oz,PV] at nw;exact a9.mpr (dz (v:=.cell M.length) rfl ⟨rfl,N,nw,hl,rfl⟩)
 ·rintro fl M' ⟨⟨Z,rfl⟩,hN,ov⟩;exact⟨rfl,ov,hN⟩
end
def pr (e:a8×Nat×List Nat):a8×Nat:=(e.1,e.2.1)
section
variable{m:aN}{p:Nat}{E0 N:cY}{Ls:Nat->List a8}
def hV (E:cY):(E.map pr).map (·.1)=E.map (·.1):=by rw[Pw];rfl
def t8 (hm:aO m)(hLs:∀q,q<p->∀b,b∈Ls q↔bt m q b)(b:a8):iW m p Ls m.deeds.length b↔∃i b',i<m.deeds.length/\cst m i<=p/\bt m (p-cst m i) b'/\b=di m i b':=by
 constructor
 ·rintro⟨i,hi,h⟩;have c:=iI hm hi;obtain⟨b',hb,rfl⟩:=OK.mp h;unfold gm at hb;split at hb
  ·next hc=>exact{i,b',hi,hc,(hLs _ `a b').mp hb,rfl}
  ·exact nomatch hb
 ·rintro⟨i,b',hi,hc,hl,rfl⟩;have c:=iI hm hi;refine{i,hi,Pc ?_};unfold gm;rw[if_pos hc];exact(hLs _ `a b').mpr hl
def ng (hm:aO m)(hp:0<p)(hLs:∀q,q<p->∀b,b∈Ls q↔bt m q b)(h0:bA m p (E0.map pr))(nd:((E0++N).map (·.1)).Nodup){x:a8×Nat×List Nat}(hx:x∈N)(hc:iW m p Ls m.deeds.length x.1):bt m p x.1:=by
 refine(gY hm hp).mpr {(t8 hm hLs _).mp hc,λq hq hl=>?_};have z:=h0.all q x.1 hq hl;have z2:x.1∈E0.map (·.1):=by rw[<- hV];exact Pc z
 rw[OV,Qe] at nd;exact nd.2.2 _ z2 _ (Pc hx) rfl
def FK (hm:aO m)(hp:0<p)(hLs:∀q,q<p->∀b,b∈Ls q↔bt m q b)(h0:bA m p (E0.map pr))(nw:NW p E0 (iW m p Ls m.deeds.length) N):bA m (p+1) ((E0++N).map pr)/\∀b,b∈N.map (·.1)↔bt m p b:=by
 have fl:∀x∈N,bt m p x.1:=λx hx=>ng hm hp hLs h0 nw.nd hx (nw.fr x hx).1;have back:∀b,bt m p b->∃x∈N,x.1=b:=λb hl=>by
  have hc:=(t8 hm hLs b).mpr ((gY hm hp).mp hl).1;obtain⟨x,hx,e⟩:=OK.mp (nw.al b hc);rcases Pk.mp hx with z|z
  ·have s:=h0.sound (pr x) (Pc z);have s1:bt m x.2.1 b:=e ▸ s.1;have:=wt s1 hl;have s2:x.2.1<p:=s.2;omega
  ·exact⟨x,z,e⟩
 refine{{by rw[hV];exact nw.nd,λy hy=>?_,λq b hq hl=>?_},λb=>{λh=>?_,λh=>?_}}
 ·obtain⟨x,hx,rfl⟩:=OK.mp hy;rcases Pk.mp hx with z|z
  ·have s:=h0.sound (pr x) (Pc z);exact{s.1,Qx s.2}
  ·have e:x.2.1=p:=(nw.fr x z).2.1;exact{by show bt m x.2.1 x.1;rw[e];exact fl x z,by show x.2.1<p+1;omega}
 ·rcases Qy q p with z|z
  ·rw[OV];exact Pt _ (h0.all q b z hl)
  ·have:q=p:=`a
   subst this;obtain⟨x,hx,rfl⟩:=back b hl;rw[OV];refine Pd _ (OK.mpr {x,hx,?_});show(x.1,x.2.1)=_;rw[(nw.fr x hx).2.1]
 ·obtain⟨x,hx,rfl⟩:=OK.mp h;exact fl x hx
 ·obtain⟨x,hx,rfl⟩:=back b h;exact Pc hx
def Bo (hm:aO m)(hp:0<p)(hLs:∀q,q<p->∀b,b∈Ls q↔bt m q b)(h0:bA m p (E0.map pr))(ov:qU p E0 (iW m p Ls m.deeds.length)):g7 m (p+1):=by
 obtain⟨N,nd,fr,hl⟩:=ov;refine{(E0++N).map pr,by rw[hV];exact nd,λy hy=>?_,by rw[Oz];exact hl}
 obtain⟨x,hx,rfl⟩:=OK.mp hy;rcases Pk.mp hx with z|z
 ·have s:=h0.sound (pr x) (Pc z);exact{s.1,Qx s.2}
 ·have e:x.2.1=p:=(fr x z).2;exact{by show bt m x.2.1 x.1;rw[e];exact ng hm hp hLs h0 nd z (fr x z).1,by show x.2.1<p+1;omega}
def g7.mono {p q:Nat}(h:g7 m p)(hq:p<=q):g7 m q:=let⟨l,h1,h2,h3⟩:=h;{l,h1,λx hx=>{(h2 x hx).1,O1 (h2 x hx).2 hq},h3}
end
def lsN (Ls:Nat->List a8)(p:Nat)(A:List a8):Nat->List a8:=λq=>if q=p then A else Ls q
section
variable{M:Mem}{m:aN}{L0 lv fk p:Nat}{E0 N:cY}{lvs:List D}{Ls:Nat->List a8}
def jF.next (hm:aO m)(hp:0<p)(hp2:p<80)(s:jF M m L0 lv fk E0 lvs p Ls)(hLs:∀q,q<p->∀b,b∈Ls q↔bt m q b)(h0:bA m p (E0.map pr))(nw:NW p E0 (iW m p Ls m.deeds.length) N)(hl:(E0++N).length<=255) :
 jF ((b9 M fk E0 N).set lv (lvs++[.cell M.length])) m L0 lv fk (E0++N) (lvs++[.cell M.length]) (p+1) (lsN Ls p (N.map (·.1)))/\(∀q,q<p+1->∀b,b∈lsN Ls p (N.map (·.1)) q↔bt m q b)/\bA m (p+1) ((E0++N).map pr):=by
 obtain⟨h1,h2⟩:=FK hm hp hLs h0 nw;have hf:fk<M.length:=(Ov.mp s.f).1;have hlv:lv<M.length:=(Ov.mp s.l).1;have hLs':∀q,q<p+1->∀b,b∈lsN Ls p (N.map (·.1)) q↔bt m q b:=λq hq b=>by
  unfold lsN;split
  ·next z=>rw[z];exact h2 b
  ·next z=>exact hLs q `a b
 have ml:lv<(b9 M fk E0 N).length:=by unfold b9;simp;omega
 have old:∀{c:Nat}{x:List D},c≠fk->c≠lv->M[c]?=some x->((b9 M fk E0 N).set lv (lvs++[.cell M.length]))[c]?=some x:=λn1 n2 e=>by
  rw[OE (PN n2)];exact l7 n1 e
 refine{{?_,O3 ml,s.ne,by simp[s.len],λq x hx=>?_,λi d e=>?_,λq c hc=>?_,λq hq b hb=>?_,λe he=>?_,`a,nw.nd,hl},hLs',h1}
 ·rw[OE s.ne];exact yU hf
 ·rcases Qy q p with z|z
  ·rw[OG (by rw[s.len];exact z)] at hx
   unfold lsN;rw[if_neg `a]
   rcases s.lvl q x hx with y|⟨c,y,n1,e⟩
   ·exact .inl y
   ·exact .inr {c,y,n1,old n1 (s.lvn q c (y ▸ hx)) e}
  ·have hq:q=p:=by
    have:=(Ov.mp hx).1;simp[s.len] at this;omega
   subst hq;rw[O5 (by rw[s.len];exact OC _),s.len,Nat.sub_self] at hx
   cases hx;unfold lsN;rw[if_pos rfl];refine .inr {_,rfl,PM hf,?_};rw[OE (Pm hlv)];exact yT
 ·obtain⟨e1,e2,e3⟩:=s.led i d e;exact{old e2 e3 e1,e2,e3}
 ·rcases Qy q p with z|z
  ·rw[OG (by rw[s.len];exact z)] at hc
   exact s.lvn q c hc
  ·have hq:q=p:=by
    have:=(Ov.mp hc).1;simp[s.len] at this;omega
   subst hq;rw[O5 (by rw[s.len];exact OC _),s.len,Nat.sub_self] at hc
   cases hc;exact PM hlv
 ·have ok:=yw hm ((hLs' q hq b).mp hb).1;refine{?_,by rw[ok.1];exact lJ hm,ok.2}
  unfold lsN at hb;split at hb
  ·next z=>
   obtain⟨e,he,rfl⟩:=OK.mp hb;exact{e,Pd _ he,rfl,by rw[z];exact(nw.fr e he).2.2}
  ·next z=>
   obtain⟨e,he,e1,e2⟩:=(s.mem q `a b hb).1
   exact{e,Pt _ he,e1,e2}
 ·rcases Pk.mp he with z|z
  ·exact s.row e z
  ·have:=(nw.fr e z).2.2;omega
end
def xr {c:GT}{b:GS}{kf:Fl->Mem->Prop}(I:Nat->Env->Mem->Prop)
 (hs:∀k Z M,I k Z M->ag (c Z M) λv M1=>(v=false->kf (.next Z) M1)/\(v=true->∃k',k=k'+1/\ag (b Z M1) λfl M2=>(∃ρ',fl=.next ρ'/\I k' ρ' M2)\/((∀ρ',fl≠.next ρ')/\kf fl M2))) :
 ∀(n k:Nat) (Z:Env) (M:Mem),k<n->I k Z M->ag (jm c b n Z M) kf:=by
 intro n;induction n with
 |zero=>intro k Z M h;exact absurd h (Qq _)
 | succ n ih =>
   intro k Z M h hI;unfold jm;refine ba.mpr (aP (hs k Z M hI) λv M1 ⟨h1,h2⟩=>?_);cases v with
   |false=>exact h1 rfl
   | true =>
     obtain⟨k',rfl,h3⟩:=h2 rfl;rw[if_pos rfl];refine ba.mpr (aP h3 λfl M2 h4=>?_);rcases h4 with⟨ρ',rfl,h5⟩|⟨h5,h6⟩
     ·exact ih k' ρ' M2 `a h5
     ·cases fl with
      |next ρ'=>exact absurd rfl (h5 ρ')
      |ret d=>exact h6
      |exc x ρ'=>exact h6
def nz {c:GT}{b:GS}{Z:Env}{M:Mem}{kf:Fl->Mem->Prop}(I:Nat->Env->Mem->Prop)
 (hs:∀k Z M,I k Z M->ag (c Z M) λv M1=>(v=false->kf (.next Z) M1)/\(v=true->∃k',k=k'+1/\ag (b Z M1) λfl M2=>(∃ρ',fl=.next ρ'/\I k' ρ' M2)\/((∀ρ',fl≠.next ρ')/\kf fl M2))) {k:Nat} (hk:k<100000) (h:I k Z M):ag (gP c b Z M) kf:=xr I hs 100000 k Z M hk h
section
variable{M:Mem}{m:aN}{L0 lv fk p:Nat}{E0:cY}{lvs:List D}{Ls:Nat->List a8}{Z:Env}
def Jb {x:D}{A:List a8}(h:ux M fk x A):nr M x=some (!A.isEmpty):=by
 rcases h with rfl|⟨c,rfl,_,e⟩
 ·show some (!(A.map bD).isEmpty)=_;rw[List.isEmpty_map]
 ·show(M[c]?).map (λxs=>!xs.isEmpty)=_;rw[e];show some (!(A.map bD).isEmpty)=_;rw[List.isEmpty_map]
def uD {M:Mem}{g:Nat->Bool}:∀{l:List D}{k:Nat},(∀i x,l[i]?=some x->nr M x=some (g (k+i)))->jJ M l=some ((List.range l.length).map λi=>g (k+i))
 |[],_,_=>rfl
 | a :: l, k, h => by
   show(nr M a).bind (λb=>(jJ M l).map (b::·))=_;have h0:=h 0 a rfl;have h1:=uD (l:=l) (k:=k+1) (M:=M) (g:=g) λi x hx=>by
    have:=h (i+1) x hx;rw[this,QM,Nat.add_comm 1 i]
   rw[h0,h1,Ql,List.range_succ_eq_map,Pr,Pw];show some (g (k+0)::_)=_
   congr 2
   refine Qs λi _=>?_;show g (k+1+i)=g (k+(i+1));rw[QM,Nat.add_comm 1 i]
def Cs (s:jF M m L0 lv fk E0 lvs p Ls){i:Nat}(hi:Z[i]?.getD none=some (.cell lv)):∃b:Bool,ay (tK (dC false true false (aa i) (cE (gI 3)) gN)) Z M=.ok b M/\(b=false->∀q,q<p->p<=q+3->Ls q=[]):=by
 have es:dC false true false (aa i) (cE (gI 3)) gN Z M=.ok (.lst (lvs.drop (p-3))) M:=by
  refine av (rA.mpr (aZ.mpr {_,hi,mS.mpr (cb.mpr {3,rfl,cb.mpr {rfl,rfl,?_}})}));show ag (match M[lv]? with|some xs=>(match aT xs.length 0 (.int (-3)),aT xs.length xs.length .non with|some l,some h=>br false (cut xs l h) M|_,_=>.bad)|none=>.bad) _
  rw[s.l];show ag (br false (cut lvs (-3+(lvs.length:Int)).toNat lvs.length) M) _;have p80:=s.p80;have hl:=s.len;have e1:(-3+(lvs.length:Int)).toNat=p-3:=`a
  have e2:cut lvs (p-3) lvs.length=lvs.drop (p-3):=by
   unfold cut;exact PJ `s
  rw[e1,e2];exact cq.mpr {aF `o,rfl,rfl}
 refine{((List.range (lvs.drop (p-3)).length).map λj=>!(Ls (p-3+j)).isEmpty).any id,?_,λh q hq hq2=>?_}
 ·refine fq ?_;unfold tK;rw[es];show(match jJ M (lvs.drop (p-3)) with|some bs=>Res.ok (D.bl (bs.any id)) M|none=>.bad)=_
  rw[uD (k:=p-3) (g:=λq=>!(Ls q).isEmpty) λj x hx=>?_];rw[List.getElem?_drop] at hx;exact Jb (s.lvl _ x hx)
 ·have z:=List.any_eq_false.mp h;have h1:=z (!(Ls q).isEmpty) (OK.mpr {q-(p-3),?_,?_})
  ·cases e:(Ls q) with
   |nil=>rfl
   |cons a l=>rw[e] at h1;exact absurd rfl h1
  ·rw[QE,List.length_drop,s.len];omega
  ·rw[show p-3+(q-(p-3))=q by omega]
end
section
variable{Z:Env}{M M':Mem}{kf:Fl->Mem->Prop}
def GG {i:Nat}{a:GE}{x:D}(e:a Z M=.ok x M'):fK (.one i) a Z M=.ok (.next (Z.set i (some x))) M':=by
 unfold fK;rw[e];rfl
def iK {i:Nat}{a:GE}{x:D}(e:a Z M=.ok x M'):aC (.one i) a Z M=.ok (.next (Z.set i (some x))) M':=by
 unfold aC;rw[e];rfl
def GI {a d:GE}{j:Nat}(ha:a Z M=.ok (.cell j) M)(h:fA (d Z M) (λz M1=>∃ds,M1[j]?=some ds/\ds.length<sz/\kf (.next Z) (M1.set j (ds++[z]))) (λx M1=>kf (.exc x Z) M1)):ag (oo a d Z M) kf:=by
 unfold oo;rw[ha];show ag (rL (λz M=>match M[j]? with|some ds=>if ds.length<sz then Res.ok (Fl.next Z) (M.set j (ds++[z])) else .bad|none=>.bad) Z (d Z M)) kf
 cases e:d Z M with
 |bad=>rw[e] at h;exact h.elim
 |err x M1=>rw[e] at h;exact h
 | ok z M1 =>
   rw[e] at h;obtain⟨ds,e1,hl,h⟩:=h;show ag (match M1[j]? with|some ds=>if ds.length<sz then Res.ok (Fl.next Z) (M1.set j (ds++[z])) else .bad|none=>.bad) kf
   rw[e1];show ag (if ds.length<sz then Res.ok (Fl.next Z) (M1.set j (ds++[z])) else .bad) kf
   rw[if_pos hl];exact h
def L8 {c:Int}{gk gv:GE}{x y:D}(hc:c=77\/c=78)(h1:gk Z (M++[[D.int c]])=.ok x (M++[[D.int c]]))(h2:gv Z (M++[[D.int c]])=.ok y (M++[[D.int c]]))(hk:isKey c x=true):zA c gk gv Z M=.ok (.fn (aE M.length)) (M++[[D.int c,D.tup [x,y]]]):=by
 unfold zA;rw[h1];show(gv Z (M++[[D.int c]])).bind _=_;rw[h2];have e:bK (M++[[D.int c]]) (aE M.length)=some (c,[]):=dO `s hc
 show(match bK (M++[[D.int c]]) (aE M.length) with|some q=>if isKey q.1 x=true/\q.2.length<1000000 then Res.ok (D.fn (aE M.length)) ((M++[[D.int c]]).set (aE M.length-5000) (.int q.1::putD q.2 x y)) else .bad|none=>.bad)=_
 rw[e];show(if isKey c x=true/\0<1000000 then Res.ok (D.fn (aE M.length)) ((M++[[D.int c]]).set (aE M.length-5000) (.int c::putD [] x y)) else .bad)=_;rw[if_pos {hk,`d},show aE M.length-5000=M.length from Qo _ _,kQ rfl]
 rfl
end
section
variable{P:Nat->Option Df}{M:Mem}{m:aN}{bound:Nat}
def vP (hb:HasB0 P)(hr:j4 P)(h15:P 15=some {1,6,dQ})(h151:P 151=some {1,2,da})(h152:P 152=some {2,2,fm})(h153:P 153=some {3,11,dP})(h154:P 154=some {2,6,gF})(n:Nat)(hm:aO m)(hbd:bound<=70) :
 fA (aj P (n+11) 154 [m.d,nD bound] M) (λd M'=>∃fk E,d=.fn (aE fk)/\M'[fk]?=some (fC E)/\bA m (bound+1) (E.map pr)/\E.length<=255/\Sub M M') (λx M'=>x=.exc 8 none/\g7 m (bound+1)/\Sub M M'):=by
 refine nX h154 rfl ?_;show ag (gF (aj P (n+10)) [some m.d,some (nD bound),none,none,none,none] M) _;unfold gF;refine fy (GG ((fg (ak rfl rfl)).trans (AZ hb hr h15 h151 n hm))) ?_;have et:aY .tuple (ae (au 15 (aj P (n+10)) (ae (aa 0) ah)) ah) [some m.d,some (nD bound),some (dM m M.length),none,none,none] (M++m.deeds.map (fX m))=.ok (bD (bq m)) (M++m.deeds.map (fX m)):=by
  refine av (dA.mpr ?_);rw[ak ((bz (ak rfl rfl)).trans (uM hb h15 (n+1) hm)) rfl,a7];exact⟨rfl,rfl⟩
 refine fy (iK et) ?_;generalize hM1:M++m.deeds.map (fX m)=M1;refine fy (iK (L8 (.inr rfl) rfl (lV (ak rfl (ak (oO rfl (OI rfl)) rfl)) (OI rfl)) (lu _))) ?_;generalize hM2:M1++[[.int 78,.tup [bD (bq m),.tup [.int 0,.lst []]]]]=M2;refine fy (ρ':=[some m.d,some (nD bound),some (dM m M.length),some (bD (bq m)),some (.fn (aE M1.length)),some (.cell M2.length)]) (M':=M2++[[.lst [bD (bq m)]]]) rfl ?_;have l1:M1.length=M.length+m.deeds.length:=by rw[<- hM1];simp
 have l2:M2.length=M1.length+1:=by rw[<- hM2];simp
 have s1:Sub M (M2++[[.lst [bD (bq m)]]]):=by rw[<- hM2,<- hM1,PK,PK];exact Sub.app
 have start:jF (M2++[[.lst [bD (bq m)]]]) m M.length M2.length M1.length [(bq m,0,[])] [.lst [bD (bq m)]] 1 (λ_=>[bq m]):=by
  refine{?_,`s,`a,rfl,λq x hx=>?_,λi d e=>?_,λq c hc=>?_,λq hq b hb=>?_,?_,`d,`s,OI rfl}
  ·rw[OG `a,<- hM2,O5 (OC _),Nat.sub_self];rfl
  ·cases q with
   |zero=>cases hx;exact .inl rfl
   |succ q=>simp at hx
  ·have hi:=(Ov.mp e).1;refine{?_,`a,`a}
   rw[OG `a,<- hM2,OG `a,<- hM1,O5 `a]
   simp[e]
  ·cases q with
   |zero=>cases hc
   |succ q=>simp at hc
  ·have hb:=OQ.mp hb;subst hb;exact{{_,OQ.mpr rfl,rfl,Qc _},lJ hm,qg}
  ·intro e he;rw[OQ.mp he];exact Qc _
 have hLs0:∀q,q<1->∀b,b∈(λ_:Nat=>[bq m]) q↔bt m q b:=λq hq b=>by
  have:q=0:=`a
  subst this;rw[gX hm];exact OQ
 have all0:bA m 1 ([(bq m,0,[])].map pr:List (a8×Nat)):=by
  refine{`s,λx hx=>?_,λq b hq hl=>?_}
  ·have hx:=OQ.mp hx;subst hx;exact{(gX hm).mpr rfl,Nat.zero_lt_one}
  ·have:q=0:=`a
   subst this;rw[(gX hm).mp hl];exact OQ.mpr rfl
 rw[az];refine nz (λk Z M'=>∃p E lvs Ls,k=bound+1-p/\1<=p/\p<=bound+1/\jF M' m M.length M2.length M1.length E lvs p Ls/\(∀q,q<p->∀b,b∈Ls q↔bt m q b)/\bA m p (E.map pr)/\Sub M M'/\Z=[some m.d,some (nD bound),some (dM m M.length),some (bD (bq m)),some (.fn (aE M1.length)),some (.cell M2.length)]) ?_ (k:=bound) `a {1,_,_,_,`a,`a,`a,start,hLs0,all0,s1,rfl}
 rintro k Z M' ⟨p,E,lvs,Ls,rfl,hp1,hp2,s,hLs,hall,hsub,rfl⟩;obtain⟨b,e1,hempty⟩:=Cs s (Z:=[some m.d,some (nD bound),some (dM m M.length),some (bD (bq m)),some (.fn (aE M1.length)),some (.cell M2.length)]) (i:=5) rfl;have el:aY .len (ae (aa 5) ah) [some m.d,some (nD bound),some (dM m M.length),some (bD (bq m)),some (.fn (aE M1.length)),some (.cell M2.length)] M'=.ok (nD p) M':=by
  refine av (dA.mpr ?_);rw[ak (xs:=[]) (x:=.cell M2.length) rfl rfl,a7];show ag (match M'[M2.length]? with|some xs=>Res.ok (D.int xs.length) M'|none=>.bad) _
  rw[s.l];exact{by show D.int (lvs.length:Int)=_;rw[s.len],rfl}
 have e3:ay (aL .le (aY .len (ae (aa 5) ah)) (aa 1)) [some m.d,some (nD bound),some (dM m M.length),some (bD (bq m)),some (.fn (aE M1.length)),some (.cell M2.length)] M'=.ok (decide ((p:Int)<=(bound:Int))) M':=by
  refine dw (fx.mpr (dZ.mpr ?_));rw[el,a7];exact aZ.mpr {_,rfl,_,rfl,_,rfl,rfl,rfl}
 rw[qk e1 (Dg (x:=false) rfl e3),a7];refine{λhv=>?_,λhv=>?_}
 ·have full:bA m (bound+1) (E.map pr):=by
   rcases Qy bound p with z|z
   ·have:p=bound+1:=`a
    rw[<- this];exact hall
   ·have hb:b=false:=by
     rw[show decide ((p:Int)<=(bound:Int))=true from decide_eq_true `a] at hv
     simpa using hv
    exact hall.mono hp2 λq c hq _=>wu hm hp1 (λq' h1 h2 c hl=>by
     have:=(hLs q' h1 c).mpr hl;rw[hempty hb q' h1 h2] at this;exact nomatch this) q hq c
  exact a9.mpr (dz (v:=.fn (aE M1.length)) rfl ⟨M1.length,E,rfl,s.f,full,s.few,hsub⟩)
 ·have hpb:p<=bound:=by
   have:=(QA.mp hv).2;have:=of_decide_eq_true (show decide ((p:Int)<=(bound:Int))=true by simpa using this)
   omega
  refine{bound+1-(p+1),`a,?_}
  rw[az];have sn:=EU h152 h153 (n+8) hm s;refine GI rfl ?_;rw[fg (ak rfl (ak rfl (ak rfl rfl)))];have fl:M.length<=M1.length:=`a
  have ll:M.length<=M2.length:=`a
  have sN:∀N,Sub M (b9 M' M1.length E N):=λN=>by
   unfold b9;exact(hsub.setq fl).trans Sub.app
  cases e:aj P (n+8+2) 153 [dM m M.length,.cell M2.length,.fn (aE M1.length)] M' with
  |bad=>rw[e] at sn;exact sn.elim
  | err x M3 =>
    rw[e] at sn;obtain⟨rfl,ov,N,rfl⟩:=sn;refine .inr {(λ_ z=>nomatch z),rfl,(Bo hm hp1 hLs hall ov).mono `a,sN N}
  | ok d M3 =>
    rw[e] at sn;obtain⟨rfl,N,nw,hl,rfl⟩:=sn;obtain⟨s',hLs',hall'⟩:=s.next hm hp1 `a hLs hall nw hl
    refine{lvs,l7 s.ne s.l,by rw[s.len];exact P9 (show p<=80 from s.p80) `d,?_}
    exact .inl {_,rfl,p+1,_,_,_,rfl,`a,`a,s',hLs',hall',(sN N).setq ll,rfl}
end
structure MQ where
 place:Nat
 num:Nat
 back:Bool
def MQ.d (s:MQ):D:=.tup [nD s.place,nD s.num,.bl s.back]
def zO {tg:cf}{w:Walk}{gc:GT}{ge:GE}{ds:List D}{ρ0:Env}{M:Mem}{kl:List D->Mem->Prop}(f:D->Bool)(g:D->D)(hz:ds.length<=sz)(hw:w M=some ds)
 (hs:∀d∈ds,∃ρ1,bU tg d ρ0=some ρ1/\gc ρ1 M=.ok (f d) M/\(f d=true->ge ρ1 M=.ok (g d) M)) (hk:kl ((ds.filter f).map g) M):ag (dg (cK tg (tD gc (bw ge)) ρ0) w [] M) kl:=by
 refine gn (λi acc M'=>M'=M/\acc=((ds.take i).filter f).map g) (λi acc M' h=>by rw[h.1];exact hw) ⟨rfl,rfl⟩ ?_ ?_
 ·rintro i d acc M' hd ⟨rfl,rfl⟩;obtain⟨ρ1,e1,e2,e3⟩:=hs d (Pj hd);have hi:i<ds.length:=(Ov.mp hd).1;simp only[cK,e1,Bs,Res.bind_ok,tD,e2];rw[P8,hd];cases q:f d with
  | false =>
    simp[q]
  | true =>
    rw[if_pos rfl];have len:(((ds.take i).filter f).map g).length<=i:=by
     rw[Oz];exact OZ (List.length_filter_le _ _) `o
    simp only[bw,e3 q,Res.bind_ok];rw[if_pos `a]
    simp[q]
 ·rintro acc M' ⟨rfl,rfl⟩;simpa using hk
def mz (m:aN)(l:List Nat):List Nat:=(m.deeds.filter λd=>decide (d.cost<=l.length)).map λd=>l.getD (l.length-d.cost) 0
def cx (m:aN):Nat->List Nat
 |0=>[1]
 |p+1=>cx m p++[(mz m (cx m p)).sum]
def gz (m:aN):∀p,(cx m p).length=p+1
 |0=>rfl
 |p+1=>by show(cx m p++[_]).length=_;rw[Pn,gz m p];rfl
def i7 (x:D):Nat:=match bS x (.int (-1)) [] with
 |some (.int c)=>c.toNat
 |_=>0
def qb (d:aH):i7 d.d=d.cost:=by
 unfold i7;rw[iG];exact Qp _
def Hh (a b c:Nat):GE:=bo false 1 (.one 0) (cz (aw (aa a) (gI 2))) (tD (ay (aL .le (aw (aa 0) (cE (gI 1))) (aa (b+1)))) (bw (aw (aa (c+1)) (aq false .sub (aa (b+1)) (aw (aa 0) (cE (gI 1)))))))
section
variable{Z:Env}{M:Mem}{m:aN}
def Bi {x:D}{d:aH}(hx:Z[0]?.getD none=some d.d):aw (aa 0) (cE (gI 1)) Z M=.ok (nD d.cost) M:=
 av (f7.mpr (aZ.mpr {_,hx,mS.mpr (cb.mpr {1,rfl,_,iG,rfl,rfl})}))
def sum_rows {a b c r:Nat}{l:List Nat}(hm:aO m)(ha:Z[a]?.getD none=some m.d)(hb:Z[b]?.getD none=some (nD l.length))(hc:Z[c]?.getD none=some (.cell r))(e:M[r]?=some (l.map nD)):Hh a b c Z M=.ok (.lst ((mz m l).map nD)) M:=by
 have d6:=hm.d6;refine av ?_;unfold Hh;simp only[eD,ig,f7,cb];refine aZ.mpr {_,ha,_,rfl,rfl,?_};refine zO (ds:=m.deeds.map aH.d) (λx=>decide (i7 x<=l.length)) (λx=>nD (l.getD (l.length-i7 x) 0)) (aF `o) rfl (λx hx=>?_) ?_
 ·obtain⟨d,hd,rfl⟩:=OK.mp hx;have c:=qa (hm.ok d hd);have pe:aw (aa 0) (cE (gI 1)) (some d.d::Z) M=.ok (nD d.cost) M:=Bi (x:=.non) rfl;rw[qb];refine{some d.d::Z,rfl,?_,λhle=>?_}
  ·refine dw (fx.mpr (dZ.mpr ?_));rw[pe,a7];refine aZ.mpr {nD l.length,hb,_,rfl,decide (d.cost<=l.length),?_,rfl,rfl};show some (decide ((d.cost:Int)<=(l.length:Int)))=_
   congr 1
   exact decide_eq_decide.mpr Int.ofNat_le
  ·have hle:=of_decide_eq_true hle;refine bX (x:=.cell r) (y:=nD (l.length-d.cost)) (aK hc) ?_ ?_
   ·refine av (fQ.mpr (aZ.mpr {nD l.length,hb,?_}));rw[pe,a7];refine xW.mpr {?_,rfl};show D.int _=D.int _
    congr 1;omega
   ·show(M[r]?).bind _=_;rw[e];have hi:l.length-d.cost<l.length:=by have:=c.1;omega
    show((bW (l.map nD).length ((l.length-d.cost:Nat):Int)).bind λj=>(l.map nD)[j]?)=_;rw[dN (by rw[Oz];exact hi)]
    show(l.map nD)[l.length-d.cost]?=_;rw[OL,OO hi,P4,OO hi];rfl
 ·have e2:((m.deeds.map aH.d).filter λx=>decide (i7 x<=l.length)).map (λx=>nD (l.getD (l.length-i7 x) 0))=(mz m l).map nD:=by
   unfold mz;rw[List.filter_map,Pw,Pw];have e3:((λx=>decide (i7 x<=l.length))∘aH.d)=λd:aH=>decide (d.cost<=l.length):=funext λd=>by show decide (i7 d.d<=_)=_;rw[qb]
   rw[e3];refine Qs λd _=>?_;show nD (l.getD (l.length-i7 d.d) 0)=_;rw[qb];rfl
  rw[e2];refine cq.mpr {aF ?_,rfl,rfl};unfold mz;rw[Oz,Oz];exact OZ (List.length_filter_le _ _) `a
end
section
variable{P:Nat->Option Df}{M:Mem}{m:aN}{bound:Nat}
def NN (l:List Nat):(l.map λ(n:Nat)=>(n:Int)).sum=((l.sum:Nat):Int):=by
 induction l with
 |nil=>rfl
 |cons a l ih=>rw[Pr,List.sum_cons,List.sum_cons,ih];exact(Int.natCast_add _ _).symm
def xV {Z:Env}{a:GE}{l:List Nat}(e:a Z M=.ok (.lst (l.map nD)) M):aY .sum (ae a ah) Z M=.ok (nD l.sum) M:=by
 refine av (dA.mpr ?_);rw[ak e rfl,a7];exact EM.mpr {_,jz l,by rw[NN],rfl}
def yr {Z:Env}{i:Nat}(h:Z[i]?.getD none=some (nD bound))(hb:bound<=70):mP (gI 1) (aq false .add (aa i) (gI 1)) Z M=.ok (λ_=>some ((List.range bound).map λk=>nD (1+k))) M:=by
 have e:aq false .add (aa i) (gI 1) Z M=.ok (.int (bound+1)) M:=av (fQ.mpr (aZ.mpr {_,h,cb.mpr (iM.mpr ⟨rfl,rfl⟩)}));have e0:gC (.int 1) Z M=.ok (.int 1) M:=rfl;simp only[mP,e0,e,Res.bind];rw[if_pos {`a,`a,`a,`a}]
 have e1:((bound:Int)+1-1).toNat=bound:=`a
 rw[e1];rfl
def ER (h156:P 156=some {2,4,eW})(n:Nat)(hm:aO m)(hb:bound<=70):aj P (n+1) 156 [m.d,nD bound] M=.ok (.cell M.length) (M++[(cx m bound).map nD]):=by
 refine av (aM h156 rfl ?_);simp only[Pr,QK,Ql,List.length_nil,List.replicate,QJ,Qi,Nat.reduceAdd,Nat.reduceSub];unfold eW;rw[az,iK (x:=.cell M.length) (M':=M++[[nD 1]]) rfl,a7,a9,az,fz];simp only[List.set];rw[yr rfl hb,a7];refine fw (ds:=(List.range bound).map λk=>nD (1+k)) (λi Z M'=>M'=M++[(cx m i).map nD]/\∃x,Z=[some m.d,some (nD bound),some (.cell M.length),x]) (λ_ _ _ _=>rfl) ⟨rfl,none,rfl⟩ ?_ ?_
 ·rintro i d Z M' hd ⟨rfl,x,rfl⟩;rw[OL] at hd;cases er:(List.range bound)[i]? with
  |none=>rw[er] at hd;cases hd
  | some i' =>
    rw[er] at hd;have hi:i<bound:=by simpa using(Ov.mp er).1
    have ei:i'=i:=by rw[P7 hi] at er;exact(OD er).symm
    subst ei;cases hd;refine{_,rfl,?_};have eM:(M++[(cx m i').map nD])[M.length]?=some ((cx m i').map nD):=`s
    have es:=sum_rows (a:=0) (b:=3) (c:=2) (Z:=[some m.d,some (nD bound),some (.cell M.length),some (nD (1+i'))]) (l:=cx m i') hm rfl (by rw[gz,Nat.add_comm];rfl) rfl eM
    refine fy (um rfl (xV es) eM (by rw[Oz,gz];exact P9 (show i'+1<=71 by omega) `d)) ?_
    rw[kQ rfl];refine{_,rfl,?_,_,rfl};show _=M++[(cx m i'++[(mz m (cx m i')).sum]).map nD];rw[OV];rfl
 ·rintro Z M' ⟨rfl,x,rfl⟩;rw[Oz,PV];exact a9.mpr (dz (v:=.cell M.length) rfl ⟨rfl,rfl⟩)
end
section
variable{P:Nat->Option Df}{M:Mem}{m:aN}{i:Nat}{b:a8}
def vQ (ha:HasB P)(h158:P 158=some {3,3,cg})(n:Nat)(hm:aO m)(hi:i<m.deeds.length)(hl:b.length<=16)(hb:∀s∈b,e9 m s):ag (aj P (n+2) 158 [m.d,bD b,nD i] M) λd M'=>d=bD (di m i b)/\Sub M M':=by
 refine aM h158 rfl ?_;show ag (cg (aj P (n+1)) [some m.d,some (bD b),some (nD i)] M) _;unfold cg;simp only[az,cp,dA,bg,eD,bQ,ig,aZ];refine{_,rfl,rfl,?_};refine comp_map (ds:=b.map ax) (λj acc M'=>acc=((b.take j).map (aU (cZ m i))).map ax/\Sub M M') (aF `o) (λ_ _ _ _=>rfl) {rfl,.refl} ?_ ?_
 ·rintro j x acc M' hd _ ⟨rfl,sub⟩;rw[OL] at hd;cases e:b[j]? with
  |none=>rw[e] at hd;cases hd
  | some s =>
    rw[e] at hd;have hd:ax s=x:=OD hd;subst hd;refine{_,rfl,?_};have hs:=hb s (Pj e);have ed:aw (aw (aa 1) (gI 2)) (aa 3) [some (ax s),some m.d,some (bD b),some (nD i)] M'=.ok (cZ m i).d M':=bX (bX rfl rfl rfl) rfl (B1 hi);show ag (au 41 (aj P (n+1)) (ae (aw (aw (aa 1) (gI 2)) (aa 3)) (ae (aa 0) ah)) [some (ax s),some m.d,some (bD b),some (nD i)] M') _;rw[bz (xs:=[(cZ m i).d,ax s]) (ak ed (ak rfl rfl)),A7 ha n hm (kL hm hi) hs,a7];refine{?_,sub.trans Sub.app};rw[P8,e];simp
 ·rintro acc M' _ ⟨rfl,sub⟩;rw[Oz,PJ (OC _)];exact cq.mpr {aF `o,rfl,sub}
end
section
variable{P:Nat->Option Df}{M:Mem}{m:aN}{bound:Nat}
def zB {Z:Env}{a:GE}{x:D}(e:a Z M=.ok x M):iS a Z M=.ok (.next Z) M:=by
 unfold iS;rw[e];rfl
def A6 (hb:HasB0 P)(h155:P 155=some {2,2,eX})(n:Nat)(hm:aO m)(h12:bound<=12):aj P (n+9) 155 [m.d,nD bound] M=.ok .non M:=by
 refine av (aM h155 rfl ?_);show ag (eX (aj P (n+8)) [some m.d,some (nD bound)] M) _;unfold eX;refine bG (zB ((fg (ak rfl rfl)).trans (r9 hb n hm))) ?_;have e:=vR hb (n+7) (M:=M) (bound:Int) 0 12;rw[show(decide ((0:Int)<=(bound:Int))&&decide ((bound:Int)<=12))=true by simp;omega] at e
 exact bH (oF (b:=true) (fq ((bz (xs:=[nD bound,.int 0,.int 12]) (ak rfl (ak rfl (ak rfl rfl)))).trans e))) ⟨rfl,rfl⟩
end
section
variable{P:Nat->Option Df}{M:Mem}{m:aN}{bound:Nat}
def Cf {Z:Env}{g:GE}{M1:Mem}{fk:Nat}{E:cY}(eg:g Z M=.ok (.fn (aE fk)) M1)(ef:M1[fk]?=some (fC E))(hl:E.length<=255):iH (cu eV g) (bo false 2 (.tup [0,1]) (cu eV g) (bw (aa 0))) Z M=.ok (.lst (E.map λe=>nD e.2.1)) M1:=by
 have ew:cu eV g Z M=.ok (dW (aE fk) E.length eV) M1:=by
  unfold cu;rw[eg];show(match bK M1 (aE fk) with|some q=>Res.ok (dW (aE fk) q.2.length eV) M1|none=>.bad)=_
  rw[dO ef (.inr rfl)];show Res.ok (dW (aE fk) (E.map kc).length eV) M1=_;rw[Oz]
 have ed:dW (aE fk) E.length eV M1=some (E.map λe=>.tup [nD e.2.1,.lst (e.2.2.map nD)]):=by
  unfold dW;rw[dO ef (.inr rfl)];show(if (E.map kc).length=E.length then some ((E.map kc).map eV) else none)=_;rw[if_pos (by rw[Oz]),Pw]
  rfl
 have ec:bo false 2 (.tup [0,1]) (cu eV g) (bw (aa 0)) Z M=.ok (.lst (E.map λe=>nD e.2.1)) M1:=by
  refine av (eD.mpr ?_);rw[ew,a7];refine fc (λx=>match x with|.tup (a::_)=>a|x=>x) (aF `o) ed (λx hx=>?_) ?_
  ·obtain⟨e,he,rfl⟩:=OK.mp hx;exact{_,rfl,rfl}
  ·rw[Pw];exact cq.mpr {aF `o,rfl,rfl}
 unfold iH;rw[ew];show(match bo false 2 (.tup [0,1]) (cu eV g) (bw (aa 0)) Z M with|.ok d M=>Res.ok d M|_=>.bad)=_
 rw[ec]
def zM {Z:Env}{g k:GE}{M1:Mem}{x:D}(eg:g Z M=.err x M1):iH (cu eV g) k Z M=.err x M1:=by
 have ew:cu eV g Z M=.err x M1:=by
  unfold cu;rw[eg];rfl
 unfold iH;rw[ew]
end
section
variable{P:Nat->Option Df}{M:Mem}{m:aN}{bound:Nat}
def zL (l:List Nat)(p:Nat):(l.map λ(n:Nat)=>(n:Int)).count (p:Int)=l.count p:=by
 induction l with
 |nil=>rfl
 | cons a l ih =>
   rw[Pr,List.count_cons,List.count_cons,ih]
   congr 1
   by_cases h:a=p
   ·subst h;simp
   ·simp[h];omega
def J7 {Z:Env}{a b:GE}{l:List Nat}{p:Nat}(ha:a Z M=.ok (.lst (l.map nD)) M)(hb:b Z M=.ok (nD p) M):oV a b Z M=.ok (nD (l.count p)) M:=by
 unfold oV;rw[ha];show(if (dE M (.lst (l.map nD))).isSome=true then(b Z M).bind _ else .bad)=_;rw[if_pos (show(dE M (.lst (l.map nD))).isSome=true from rfl),hb];show(match (dE M (.lst (l.map nD))).bind intsOf with|some is=>Res.ok (D.int (is.count (p:Int))) M|none=>.bad)=_
 rw[show(dE M (.lst (l.map nD))).bind intsOf=some (l.map λ(n:Nat)=>(n:Int)) from jz l];show Res.ok (D.int ((l.map λ(n:Nat)=>(n:Int)).count (p:Int):Nat)) M=_;rw[zL]
end
section
variable{P:Nat->Option Df}{M:Mem}{m:aN}{bound:Nat}
def yf (hb:HasB0 P)(hr:j4 P)(h15:P 15=some {1,6,dQ})(h151:P 151=some {1,2,da})(h152:P 152=some {2,2,fm})(h153:P 153=some {3,11,dP})(h154:P 154=some {2,6,gF})(h155:P 155=some {2,2,eX})(h156:P 156=some {2,4,eW})(h157:P 157=some {2,3,lN})(n:Nat)(hm:aO m)(h12:bound<=12) :
 fA (aj P (n+12) 157 [m.d,nD bound] M) (λd M'=>∃j A,d=.tup [.cell j,.cell (j+1)]/\M.length<=j/\M'[j]?=some ((cx m bound).map nD)/\M'[j+1]?=some ((List.range (bound+1)).map λp=>nD ((A.map (·.2)).count p))/\bA m (bound+1) A/\A.length<=255/\Sub M M') (λx M'=>x=.exc 8 none/\g7 m (bound+1)/\Sub M M'):=by
 refine nX h157 rfl ?_;simp only[Pr,QK,Ql,List.length_nil,List.replicate,QJ,Qi,Nat.reduceAdd,Nat.reduceSub];unfold lN;rw[az,zB ((fg (ak rfl (ak rfl rfl))).trans (A6 hb h155 (n+2) hm h12)),a7,a9,az,pE];have sr:=vP hb hr h15 h151 h152 h153 h154 n (M:=M) hm (show bound<=70 by omega)
 cases e:aj P (n+11) 154 [m.d,nD bound] M with
 |bad=>rw[e] at sr;exact sr.elim
 | err x M1 =>
   rw[e] at sr;rw[zM ((fg (ak rfl (ak rfl rfl))).trans e)];exact sr
 | ok d M1 =>
   rw[e] at sr;obtain⟨fk,E,rfl,ef,all,few,sub⟩:=sr;rw[Cf ((fg (ak rfl (ak rfl rfl))).trans e) ef few];refine a9.mpr ?_;simp only[List.set];rw[az,cp,f6,bg,bz (xs:=[m.d,nD bound]) (ak rfl (ak rfl rfl)),ER h156 (n+10) hm `a,a7,bg,eD,iw,fQ]
   refine aZ.mpr {nD bound,rfl,cb.mpr (iM.mpr {_,rfl,`a,?_})}
   have e1:((bound:Int)+1).toNat=bound+1:=`a
   rw[e1];refine fc (ds:=(List.range (bound+1)).map λ(k:Nat)=>D.int (k:Int)) (λx=>match x with|.int p=>nD (((E.map pr).map (·.2)).count p.toNat)|x=>x) (aF `o) rfl (λx hx=>?_) ?_
   ·obtain⟨p,hp,rfl⟩:=OK.mp hx;refine{_,rfl,?_};have:=J7 (M:=M1++[(cx m bound).map nD]) (Z:=[some (D.int (p:Int)),some m.d,some (nD bound),some (.lst (E.map λe=>nD e.2.1))]) (a:=aa 3) (b:=aa 0) (l:=E.map λe=>e.2.1) (p:=p) (by rw[Pw];rfl) rfl
    rw[Pw];exact this
   ·rw[Pw];refine nJ.mpr {aF `o,?_}
    rw[if_pos rfl,bQ];refine{aF (n:=2) (OI rfl),M1.length,E.map pr,?_,sub.len,?_,?_,all,by rw[Oz];exact few,(sub.trans Sub.app).trans Sub.app}
    ·rw[Pn];rfl
    ·rw[OG `s];simp
    ·rw[O5 `s];simp
end
section
variable{P:Nat->Option Df}{M:Mem}{m:aN}{bound:Nat}
def Told (m:aN)(bound:Nat)(M:Mem)(d:D)(M':Mem):Prop:=(d=.str "many"/\g7 m (bound+1)/\Sub M M')\/∃j A,d=.tup [.cell j,.cell (j+1)]/\M.length<=j/\M'[j]?=some ((cx m bound).map nD)/\M'[j+1]?=some ((List.range (bound+1)).map λp=>nD ((A.map (·.2)).count p))/\bA m (bound+1) A/\A.length<=255/\Sub M M'
def EN (h162:P 162=some {2,3,eY})(n:Nat)(hc:fA (aj P n 157 [m.d,nD bound] M) (λd M'=>∃j A,d=.tup [.cell j,.cell (j+1)]/\M.length<=j/\M'[j]?=some ((cx m bound).map nD)/\M'[j+1]?=some ((List.range (bound+1)).map λp=>nD ((A.map (·.2)).count p))/\bA m (bound+1) A/\A.length<=255/\Sub M M') (λx M'=>x=.exc 8 none/\g7 m (bound+1)/\Sub M M')):ag (aj P (n+1) 162 [m.d,nD bound] M) (Told m bound M):=by
 refine aM h162 rfl ?_;show ag (eY (aj P n) [some m.d,some (nD bound),none] M) _;unfold eY;refine bG (cv rfl) ?_;rw[az];cases e:aj P n 157 [m.d,nD bound] M with
 |bad=>rw[e] at hc;exact hc.elim
 | err x M1 =>
   rw[e] at hc;obtain⟨rfl,mn,sub⟩:=hc;simp only[sg,az,pE];rw[fg (xs:=[m.d,nD bound]) (ak rfl (ak rfl rfl)),e];exact{8,none,rfl,.inl rfl,.inl ⟨rfl,mn,sub⟩}
 | ok d M1 =>
   rw[e] at hc;simp only[sg,az,pE];rw[fg (xs:=[m.d,nD bound]) (ak rfl (ak rfl rfl)),e];exact .inr hc
end
def Bk (m:aN)(W:a8->Nat->Nat->Prop)(Q:Nat->List a8):Prop:=∀i b,b∈Q i↔(i=0/\b=bq m)\/∃b' q j,W b' q j/\q+cst m j=i/\b=di m j b'
def WE (m:aN)(E:cY)(b:a8)(q j:Nat):Prop:=(b,q)∈E.map pr/\j<m.deeds.length
def jM (Q:Nat->List a8)(i:Nat)(b:a8):Nat->List a8:=λk=>if k=i then Q i++[b] else Q k
section
variable{m:aN}{p:Nat}{E N:cY}{Q:Nat->List a8}{W W':a8->Nat->Nat->Prop}
def Bk.congr (h:Bk m W Q)(e:∀b q j,W b q j↔W' b q j):Bk m W' Q:=λi b=>(h i b).trans (or_congr_right {λ⟨b',q,j,w,r⟩=>{b',q,j,(e _ _ _).mp w,r},λ⟨b',q,j,w,r⟩=>{b',q,j,(e _ _ _).mpr w,r}})
def Bk.push (h:Bk m W Q)(b0:a8)(q0 j0:Nat):Bk m (λb q j=>W b q j\/(b=b0/\q=q0/\j=j0)) (jM Q (q0+cst m j0) (di m j0 b0)):=λi b=>by
 unfold jM;constructor
 ·intro hb;split at hb
  ·next z=>
   subst z;rcases Pk.mp hb with y|y
   ·exact((h _ b).mp y).imp id λ⟨b',q,j,w,r⟩=>{b',q,j,.inl w,r}
   ·exact .inr {b0,q0,j0,.inr ⟨rfl,rfl,rfl⟩,rfl,OQ.mp y}
  ·exact((h i b).mp hb).imp id λ⟨b',q,j,w,r⟩=>{b',q,j,.inl w,r}
 ·intro hb;have old:b∈Q i->b∈(if i=q0+cst m j0 then Q (q0+cst m j0)++[di m j0 b0] else Q i):=λy=>by
   split
   ·next z=>rw[<- z];exact Pt _ y
   ·exact y
  rcases hb with y|⟨b',q,j,w|⟨rfl,rfl,rfl⟩,e1,e2⟩
  ·exact old ((h i b).mpr (.inl y))
  ·exact old ((h i b).mpr (.inr ⟨b',q,j,w,e1,e2⟩))
  ·rw[if_pos e1.symm,e2];exact Pd _ (OQ.mpr rfl)
def gM (h:bA m p (E.map pr)){b:a8}{q:Nat}:(b,q)∈E.map pr↔bt m q b/\q<p:={λz=>h.sound _ z,λz=>h.all q b z.2 z.1}
def FN {b:a8}:b∈E.map (·.1)↔∃q,(b,q)∈E.map pr:=by
 constructor
 ·intro h;obtain⟨e,he,rfl⟩:=OK.mp h;exact{e.2.1,Pc he}
 ·rintro⟨q,h⟩;obtain⟨e,he,z⟩:=OK.mp h;have:e.1=b:=congrArg Prod.fst z;rw[<- this];exact Pc he
def nY (hm:aO m)(h:bA m p (E.map pr))(hb:Bk m (WE m E) Q)(b:a8):bt m p b↔b∈Q p/\b∉E.map (·.1):=by
 have key:b∉E.map (·.1)↔∀q<p,¬ bt m q b:=by
  rw[FN];exact{λz q hq l=>z {q,(gM h).mpr ⟨l,hq⟩},λz ⟨q,y⟩=>z q ((gM h).mp y).2 ((gM h).mp y).1}
 rw[key,hb p b];rcases Nat.eq_zero_or_pos p with rfl|hp
 ·rw[gX hm];refine{λz=>{.inl ⟨rfl,z⟩,λq hq=>absurd hq (Qq _)},λz=>?_};rcases z.1 with y|⟨b',q,j,w,_⟩
  ·exact y.2
  ·exact absurd ((gM h).mp w.1).2 (Qq _)
 ·rw[gY hm hp];refine and_congr_left λ_=>{λ⟨i,b',hi,hc,l,e⟩=>.inr {b',p-cst m i,i,{(gM h).mpr {l,?_},hi},Nat.sub_add_cancel hc,e},λz=>?_}
  ·have:=(iI hm hi).1;omega
  ·rcases z with y|⟨b',q,j,w,e1,e2⟩
   ·omega
   ·refine{j,b',w.2,`a,?_,e2}
    have:=((gM h).mp w.1).1;rw[<- e1,Nat.add_sub_cancel];exact this
def Kc (h:bA m p (E.map pr))(hb:Bk m (WE m E) Q){i:Nat}{b:a8}(z:b∈Q i):lS m i b:=by
 rcases(hb i b).mp z with⟨rfl,rfl⟩|⟨b',q,j,w,rfl,rfl⟩
 ·exact .start
 ·exact .step ((gM h).mp w.1).1.1 w.2
def GC (hm:aO m)(h:bA m p (E.map pr))(hb:Bk m (WE m E) Q)(nw:NW p E (·∈Q p) N):bA m (p+1) ((E++N).map pr):=by
 have fl:∀x∈N,bt m p x.1:=λx hx=>(nY hm h hb x.1).mpr {(nw.fr x hx).1,λz=>by
  have nd:=nw.nd;rw[OV,Qe] at nd;exact nd.2.2 _ z _ (Pc hx) rfl}
 refine{by rw[hV];exact nw.nd,λy hy=>?_,λq b hq hl=>?_}
 ·obtain⟨x,hx,rfl⟩:=OK.mp hy;rcases Pk.mp hx with z|z
  ·have s:=h.sound (pr x) (Pc z);exact{s.1,Qx s.2}
  ·have e:x.2.1=p:=(nw.fr x z).2.1;exact{by show bt m x.2.1 x.1;rw[e];exact fl x z,by show x.2.1<p+1;omega}
 ·rw[OV];rcases Qy q p with z|z
  ·exact Pt _ (h.all q b z hl)
  ·have:q=p:=`a
   subst this;obtain⟨h1,h2⟩:=(nY hm h hb b).mp hl;have h3:=nw.al b h1;rw[OV] at h3;rcases Pk.mp h3 with y|y
   ·exact absurd y h2
   ·obtain⟨x,hx,rfl⟩:=OK.mp y;refine Pd _ (OK.mpr {x,hx,?_});show(x.1,x.2.1)=_;rw[(nw.fr x hx).2.1]
def GD (hm:aO m)(h:bA m p (E.map pr))(hb:Bk m (WE m E) Q)(nd:((E++N).map (·.1)).Nodup)(fr:∀x∈N,x.1∈Q p/\x.2.1=p)(hl:255<(E++N).length):g7 m (p+1):=by
 refine{(E++N).map pr,by rw[hV];exact nd,λy hy=>?_,by rw[Oz];exact hl}
 obtain⟨x,hx,rfl⟩:=OK.mp hy;rcases Pk.mp hx with z|z
 ·have s:=h.sound (pr x) (Pc z);exact{s.1,Qx s.2}
 ·have e:x.2.1=p:=(fr x z).2;refine{?_,by show x.2.1<p+1;omega}
  show bt m x.2.1 x.1;rw[e];refine(nY hm h hb x.1).mpr {(fr x z).1,λy=>?_};rw[OV,Qe] at nd;exact nd.2.2 _ y _ (Pc z) rfl
def Gz (hm:aO m)(h:bA m p (E.map pr))(hb:Bk m (WE m E) Q)(he:∀i,p<=i->Q i=[]):∀q,p<=q->∀b,¬ bt m q b:=by
 intro q;induction q using Nat.strongRecOn with
 | ind q ih =>
   intro hq b hl;rcases Nat.eq_zero_or_pos q with rfl|hq0
   ·have:b∈Q 0:=(hb 0 b).mpr (.inl {rfl,(gX hm).mp hl});rw[he 0 hq] at this;exact nomatch this
   ·obtain⟨⟨i,b',hi,hc,h1,e⟩,_⟩:=(gY hm hq0).mp hl;have c:=iI hm hi;by_cases z:p<=q-cst m i
    ·exact ih _ `a z b' h1
    ·have:b∈Q q:=(hb q b).mpr (.inr {b',q-cst m i,i,{(gM h).mpr {h1,`a},hi},Nat.sub_add_cancel hc,e})
     rw[he q hq] at this;exact nomatch this
end
def ka (e:a8×Nat×List Nat):D:=.tup [bD e.1,nD e.2.1]
def kY (E:cY):List D:=.int 78::E.map ka
section
variable{M:Mem}{fk:Nat}{E:cY}{b:a8}
def nF (E:cY)(b:a8):cL (E.map ka) (bD b)=(E.find? λe=>decide (e.1=b)).map λe=>nD e.2.1:=by
 refine Eq.trans (lp (λe:a8×Nat×List Nat=>bD e.1) (λe=>nD e.2.1) E (bD b)) ?_
 congr 2
 funext x
 exact D5 x.1 b
def Ia (e:M[fk]?=some (kY E)):inD M (aE fk) (bD b)=some (E.any λe=>decide (e.1=b)):=by
 unfold inD;rw[dO e (.inr rfl)];show(if isKey 78 (bD b)=true then some (cL (E.map ka) (bD b)).isSome else none)=_;rw[if_pos (lu b),nF,Qw]
 congr 1
 rw[P6,List.find?_isSome,Qt]
def Fn {q:Nat}(hn:∀e∈E,e.1≠b):putD (E.map ka) (bD b) (nD q)=(E++[(b,q,[])]).map ka:=by
 rw[pI,OV];rfl;rw[nF,QX.mpr];rfl;exact λx hx e=>hn x hx (of_decide_eq_true e)
def vh:∀{E:cY},(E.map (·.1)).Nodup->∀{x:a8×Nat×List Nat},x∈E->(E.find? λe=>decide (e.1=x.1))=some x
 |[],_,_,h=>nomatch h
 | a :: E, nd, x, h => by
   rw[Pr,Pz] at nd;rw[List.find?_cons];by_cases e:a.1=x.1
   ·rw[decide_eq_true e];rcases O6.mp h with z|z
    ·rw[z]
    ·exact absurd (by rw[e];exact Pc z) nd.1
   ·rw[decide_eq_false e];rcases O6.mp h with z|z
    ·exact absurd (by rw[z]) e
    ·exact vh nd.2 z
def Fo (e:M[fk]?=some (kY E))(nd:(E.map (·.1)).Nodup){x:a8×Nat×List Nat}(hx:x∈E):getD M (aE fk) (bD x.1)=some (nD x.2.1):=by
 unfold getD;rw[dO e (.inr rfl)];show(if isKey 78 (bD x.1)=true then cL (E.map ka) (bD x.1) else none)=_;rw[if_pos (lu _),nF,vh nd hx];rfl
end
structure cj (M0 M:Mem) (fk dv:Nat) (E:cY) (cs:List Nat) (Q:Nat->List a8):Prop where
 f:M[fk]?=some (kY E)
 d:M[dv]?=some (cs.map D.cell)
 nd:(fk::dv::cs).Nodup
 lo:∀x∈fk::dv::cs,M0.length<=x
 q:∀(i c:Nat),cs[i]?=some c->M[c]?=some ((Q i).map bD)
 e:∀i,cs.length<=i->Q i=[]
 s:Sub M0 M
section
variable{M0 M M':Mem}{fk dv c i:Nat}{E E':cY}{cs:List Nat}{Q:Nat->List a8}{b:a8}
def gW {M:Mem}{k:Nat}{x:List D}(e:M[k]?=some x):k<M.length:=(Ov.mp e).1
def cj.sub (h:cj M0 M fk dv E cs Q)(s:Sub M M'):cj M0 M' fk dv E cs Q:={s.get h.f,s.get h.d,h.nd,h.lo,λi c e=>s.get (h.q i c e),h.e,h.s.trans s}
def cj.ne (h:cj M0 M fk dv E cs Q):fk≠dv/\∀(i c:Nat),cs[i]?=some c->c≠fk/\c≠dv:=by
 have nd:=h.nd;rw[Pz,Pz] at nd;refine{λe=>nd.1 (by rw[e];exact O4),λi c e=>{λz=>nd.1 (by rw[<- z];exact OP _ (Pj e)),λz=>nd.2.1 (by rw[<- z];exact Pj e)}}
def cj.put (h:cj M0 M fk dv E cs Q)(E':cY):cj M0 (M.set fk (kY E')) fk dv E' cs Q:=
 {O3 (gW h.f),by rw[OE h.ne.1];exact h.d,h.nd,h.lo,λi c e=>by rw[OE (PN (h.ne.2 i c e).1)];exact h.q i c e,h.e,h.s.setq (h.lo fk O4)}
def cj.more (h:cj M0 M fk dv E cs Q):cj M0 ((M++[[]]).set dv (cs.map D.cell++[D.cell M.length])) fk dv E (cs++[M.length]) Q:=by
 have hf:=gW h.f;have hd:=gW h.d;have all:∀x∈fk::dv::cs,x<M.length:=λx hx=>by
  rcases O6.mp hx with z|hx
  ·rw[z];exact hf
  ·rcases O6.mp hx with z|hx
   ·rw[z];exact hd
   ·obtain⟨i,e⟩:=Qz hx;exact gW (h.q i x e)
 refine{?_,?_,?_,λx hx=>?_,λi c e=>?_,λi hi=>?_,(h.s.trans Sub.app).setq (h.lo dv `s)}
 ·rw[OE (PN h.ne.1),OG hf];exact h.f
 ·rw[O3 `o,OV];rfl
 ·show((fk::dv::cs)++[M.length]).Nodup;rw[Qe];exact{h.nd,`s,λx hx y hy z=>by
   have:=all x hx;have hy:y=M.length:=by simpa using hy
   omega}
 ·rcases Pk.mp (show x∈(fk::dv::cs)++[M.length] from hx) with z|z
  ·exact h.lo x z
  ·rw[OQ.mp z];exact h.s.len
 ·rcases Qy i cs.length with z|z
  ·rw[OG z] at e;have:=h.q i c e;rw[OE (PN (h.ne.2 i c e).2),OG (gW this)];exact this
  ·have hi:i=cs.length:=by
    have:=(Ov.mp e).1;simp at this;omega
   subst hi;rw[O5 (OC _),Nat.sub_self] at e;cases e;rw[OE (Pm hd),h.e _ (OC _)];simp
 ·rw[Pn] at hi;exact h.e i (by simp at hi;omega)
def cj.push (h:cj M0 M fk dv E cs Q)(hi:cs[i]?=some c)(b:a8):cj M0 (M.set c ((Q i).map bD++[bD b])) fk dv E cs (jM Q i b):=by
 have n:=h.ne.2 i c hi;have nd:=(Pz.mp (Pz.mp h.nd).2).2;refine{by rw[OE n.1];exact h.f,by rw[OE n.2];exact h.d,h.nd,h.lo,λk c' e=>?_,λk hk=>?_,h.s.setq (h.lo c (by simp[Pj hi]))}
 ·unfold jM;by_cases z:k=i
  ·subst z;rw[hi] at e;cases e;rw[O3 (gW (h.q k c hi)),if_pos rfl,OV];rfl
  ·have ne:c≠c':=λy=>by
    subst y;rcases Qy k i with y|y
    ·exact oJ nd y e hi
    ·exact oJ nd (by omega:i<k) hi e
   rw[OE ne,if_neg z];exact h.q k c' e
 ·have:=(Ov.mp hi).1;unfold jM;rw[if_neg `a];exact h.e k hk
end
def sZ (c:Call):GS:=af (gP (ay (aL .le (aY .len (ae (aa 3) ah)) (aq false .add (aa 4) (aw (aa 7) (cE (gI 1)))))) (af (d5 (aa 3) (bu true ah)) ai)) (af (d5 (aw (aa 3) (aq false .add (aa 4) (aw (aa 7) (cE (gI 1))))) (au 158 c (ae (aa 0) (ae (aa 5) (ae (aa 6) ah))))) ai)
def Dq (c:Call):GS:=af (jL (aa 2) (aa 5) (aa 4)) (af (aV (ay (aL .gt (jU (aa 2)) (gI 255))) (af (aS gN) ai) ai) (af (cD (.tup [6,7]) (g6 (aw (aa 0) (gI 2))) (sZ c)) ai))
def s8 (c:Call):GS:=af (aV (ay (j9 true (aa 5) (aa 2))) (Dq c) ai) ai
def zd (c:Call):GS:=af (cD (.one 5) (cz (aw (aa 3) (aa 4))) (s8 c)) (af (aC (.one 4) (aq false .add (aa 4) (gI 1))) ai)
def Lj (c:Call):eZ c=af (aC (.one 2) (rq 78)) (af (aC (.one 3) (bu true (ae (bu true (ae (aY .tuple (ae (au 42 c (ae (aa 0) ah)) ah)) ah)) ah))) (af (aC (.one 4) (gI 0)) (af (gP (gq (ay (aL .lt (aa 4) (aY .len (ae (aa 3) ah)))) (ay (aL .le (aa 4) (aa 1)))) (zd c)) (af (aS (aa 2)) ai)))):=rfl
section
variable{Z:Env}{M M' M1:Mem}{a b d:GE}
def uj {j:Nat}{ds:List D}{z:D}(ha:a Z M=.ok (.cell j) M)(hd:d Z M=.ok z M1)(e:M1[j]?=some ds)(hl:ds.length<sz):d5 a d Z M=.ok (.next Z) (M1.set j (ds++[z])):=by
 unfold d5;rw[ha];show(d Z M).bind _=_;rw[hd];show(match M1[j]? with|some ds=>if ds.length<sz then Res.ok (Fl.next Z) (M1.set j (ds++[z])) else .bad|none=>.bad)=_
 rw[e];exact if_pos hl
def u7 {j k:Nat}{ds:List D}(h:Z[j]?.getD none=some (.cell k))(e:M[k]?=some ds):aY .len (ae (aa j) ah) Z M=.ok (nD ds.length) M:=by
 refine av (dA.mpr ?_);rw[ak (aK h) rfl,a7];show ag (match M[k]? with|some xs=>Res.ok (D.int xs.length) M|none=>.bad) _
 rw[e];exact⟨rfl,rfl⟩
def zb {i j:Nat}(h1:a Z M=.ok (nD i) M)(h2:b Z M=.ok (nD j) M):ay (aL .le a b) Z M=.ok (decide (i<=j)) M:=by
 refine dw (fx.mpr (dZ.mpr ?_));rw[h1,a7,h2,a7];refine{_,rfl,_,rfl,?_,rfl};exact decide_eq_decide.mpr Int.ofNat_le
def Jc {i j:Nat}(h1:a Z M=.ok (nD i) M)(h2:b Z M=.ok (nD j) M):ay (aL .lt a b) Z M=.ok (decide (i<j)) M:=by
 refine dw (fx.mpr (dZ.mpr ?_));rw[h1,a7,h2,a7];refine{_,rfl,_,rfl,?_,rfl};exact decide_eq_decide.mpr Int.ofNat_lt
def pW {j k i:Nat}{ds:List D}{x:D}(h:Z[j]?.getD none=some (.cell k))(hb:b Z M=.ok (nD i) M)(e:M[k]?=some ds)(hx:ds[i]?=some x):aw (aa j) b Z M=.ok x M:=by
 refine bX (aK h) hb ?_;show(M[k]?).bind _=_;rw[e];show((bW ds.length (i:Int)).bind λj=>ds[j]?)=_;rw[dN (Ov.mp hx).1];exact hx
def ur {i j:Nat}(ha:a Z M=.ok (nD i) M)(hb:b Z M=.ok (nD j) M):aq false .add a b Z M=.ok (nD (i+j)) M:=(fV ha hb).trans (by rw[<- Int.natCast_add])
end
section
variable{M0 M:Mem}{fk dv p c:Nat}{E:cY}{cs:List Nat}{Q:Nat->List a8}{Z:Env}{kf:Fl->Mem->Prop}
def B7 (h3:Z[3]?.getD none=some (.cell dv))(h4:Z[4]?.getD none=some (nD p))(h7:∀M,aw (aa 7) (cE (gI 1)) Z M=.ok (nD c) M)(hc:p+c<=30)(h:cj M0 M fk dv E cs Q)(hl:cs.length<=40)
 (k:∀M' t,cj M0 M' fk dv E (cs++t) Q->(cs++t).length<=40->p+c<(cs++t).length->kf (.next Z) M') :
 ag (gP (ay (aL .le (aY .len (ae (aa 3) ah)) (aq false .add (aa 4) (aw (aa 7) (cE (gI 1)))))) (af (d5 (aa 3) (bu true ah)) ai) Z M) kf:=by
 refine nz (λk ρ' M'=>ρ'=Z/\∃t,cj M0 M' fk dv E (cs++t) Q/\(cs++t).length<=40/\k=40-(cs++t).length) ?_ (k:=40-cs.length) `a {rfl,[],by rw[Po];exact h,by rw[Po];exact hl,by rw[Po]}
 rintro k' ρ' M' ⟨rfl,t,h',hl',rfl⟩;rw[zb (u7 h3 h'.d) (ur (aK h4) (h7 M')),a7,Oz];refine{λz=>k M' t h' hl' (by have:=of_decide_eq_false z;omega),λz=>?_}
 have z:=of_decide_eq_true z;refine{40-(cs++(t++[M'.length])).length,by simp at z hl' ⊢;omega,?_}
 have hd:=gW h'.d;refine fy (uj (j:=dv) (z:=.cell M'.length) (M1:=M'++[[]]) (aK h3) rfl (by rw[OG hd];exact h'.d) (by rw[Oz];exact P9 hl' `d)) ?_
 refine .inl {ρ',rfl,rfl,t++[M'.length],?_,by simp at z hl' ⊢;omega,rfl}
 rw[<- PK];exact h'.more
end
section
variable{P:Nat->Option Df}{M0 M:Mem}{m:aN}{fk dv p L:Nat}{E:cY}{cs:List Nat}{Q:Nat->List a8}{W:a8->Nat->Nat->Prop}{b:a8}{kf:Fl->Mem->Prop}{x1 y6 y7:Option D}
def B6 (ha:HasB P)(h158:P 158=some {3,3,cg})(n:Nat)(hm:aO m)(hp:p<=20)(hbl:b.length<=16)(hb:∀s∈b,e9 m s)(h:cj M0 M fk dv E cs Q)(hl:cs.length<=40)(bk:Bk m W Q)(hL:∀i,(Q i).length<=L)(hL2:L<=90000)
 (k:∀M' t Q' y6 y7,cj M0 M' fk dv E (cs++t) Q'->(cs++t).length<=40->Bk m (λb' q j=>W b' q j\/(b'=b/\q=p/\j<m.deeds.length)) Q'->(∀i,(Q' i).length<=L+6)->Q' p=Q p->kf (.next [some m.d,x1,some (.fn (aE fk)),some (.cell dv),some (nD p),some (bD b),y6,y7]) M') :
 ag (cD (.tup [6,7]) (g6 (aw (aa 0) (gI 2))) (sZ (aj P (n+2))) [some m.d,x1,some (.fn (aE fk)),some (.cell dv),some (nD p),some (bD b),y6,y7] M) kf:=by
 rw[fz,xx,bX (x:=m.d) (y:=.int 2) (d:=.tup (m.deeds.map aH.d)) rfl rfl rfl,a7];refine{rfl,?_};have d6:=hm.d6;refine fw (ds:=dY 0 (m.deeds.map aH.d)) (λi Z M'=>∃t Q' y6 y7,cj M0 M' fk dv E (cs++t) Q'/\(cs++t).length<=40/\Bk m (λb' q j=>W b' q j\/(b'=b/\q=p/\j<i)) Q'/\(∀k,(Q' k).length<=L+i)/\Q' p=Q p/\Z=[some m.d,x1,some (.fn (aE fk)),some (.cell dv),some (nD p),some (bD b),y6,y7])
  (λ_ _ _ _=>rfl) {[],Q,y6,y7,by rw[Po];exact h,by rw[Po];exact hl,bk.congr λb' q j=>{.inl,λz=>z.elim id λz=>absurd z.2.2 (Qq _)},hL,rfl,rfl} ?_ ?_
 ·rintro i x Z M' hx ⟨t,Q',y6,y7,h',hl',bk',hL',hQ,rfl⟩;obtain⟨x2,hx2,rfl⟩:=vj hx;rw[OL] at hx2;cases ed:m.deeds[i]? with
  |none=>rw[ed] at hx2;cases hx2
  | some d =>
    rw[ed] at hx2;have hx2:d.d=x2:=OD hx2;subst hx2;have hi:=(Ov.mp ed).1;have et:=p8 ed;have c:=iI hm hi;have ec:cst m i=d.cost:=by unfold cst;rw[et]
    rw[Nat.zero_add];refine{_,rfl,?_};unfold sZ;have h7:∀M,aw (aa 7) (cE (gI 1)) [some m.d,x1,some (.fn (aE fk)),some (.cell dv),some (nD p),some (bD b),some (nD i),some d.d] M=.ok (nD (cst m i)) M:=λM=>by
     rw[ec];exact av (f7.mpr (aZ.mpr {_,rfl,mS.mpr (cb.mpr {1,rfl,_,iG,rfl,rfl})}))
    rw[az];refine B7 rfl rfl h7 `a h' hl' λM2 t2 h2 hl2 hc2=>?_
    rw[PK] at h2 hl2 hc2;rw[a9];obtain⟨z,M3,e3,ez,sub⟩:=k9.mp (vQ ha h158 n (M:=M2) hm hi hbl hb);subst ez;have h3:=h2.sub sub;have hcc:=OO hc2;refine fy (uj (j:=(cs++(t++t2))[p+cst m i]) (pW (i:=p+cst m i) rfl (ur rfl (h7 M2)) h2.d (by rw[OL,hcc];rfl)) ((bz (xs:=[m.d,bD b,nD i]) (ak rfl (ak rfl (ak rfl rfl)))).trans e3) (h3.q _ _ hcc) (by rw[Oz];exact P9 (hL' _) (P9 (show L+i<=90006 by omega) `d))) ?_
    refine{_,rfl,t++t2,jM Q' (p+cst m i) (di m i b),_,_,h3.push hcc _,hl2,(bk'.push b p i).congr λb' q j=>?_,λk=>?_,?_,rfl}
    ·constructor
     ·rintro((w|⟨e1,e2,e4⟩)|⟨e1,e2,e4⟩)
      ·exact .inl w
      ·exact .inr {e1,e2,Qx e4}
      ·exact .inr {e1,e2,`a}
     ·rintro(w|⟨e1,e2,e4⟩)
      ·exact .inl (.inl w)
      ·rcases Qy j i with z|z
       ·exact .inl (.inr ⟨e1,e2,z⟩)
       ·exact .inr {e1,e2,`a}
    ·have:=hL' k;unfold jM;split
     ·next z=>subst z;rw[Pn];have:=hL' (p+cst m i);simp;omega
     ·omega
    ·unfold jM;rw[if_neg `a];exact hQ
 ·rintro Z M' ⟨t,Q',y6,y7,h',hl',bk',hL',hQ,rfl⟩;rw[nW,Oz] at bk' hL';exact k M' t Q' y6 y7 h' hl' bk' (λi=>OZ (hL' i) `a) hQ
end
section
variable{P:Nat->Option Df}{M0 M:Mem}{m:aN}{fk dv p bound:Nat}{E:cY}{cs:List Nat}{Q:Nat->List a8}{kf:Fl->Mem->Prop}{x1 y5 y6 y7:Option D}
def Eo {E:cY}{b:a8}:∀b' q j,(WE m E b' q j\/(b'=b/\q=p/\j<m.deeds.length))↔WE m (E++[(b,p,[])]) b' q j:=λb' q j=>by
 unfold WE;rw[OV,Pk];constructor
 ·rintro(⟨h1,h2⟩|⟨rfl,rfl,h2⟩)
  ·exact{.inl h1,h2}
  ·exact{.inr (OQ.mpr rfl),h2}
 ·rintro⟨h1|h1,h2⟩
  ·exact .inl ⟨h1,h2⟩
  ·cases OQ.mp h1;exact .inr ⟨rfl,rfl,h2⟩
def u6 {s:GA}{Z:Env}{M M1:Mem}{xs:List D}(e:s Z M=.ok xs M1)(hl:xs.length<=100):bu true s Z M=.ok (.cell M1.length) (M1++[xs]):=by
 unfold bu;rw[e];show(if xs.length<=sz then(if true=true then Res.ok (D.cell M1.length) (M1++[xs]) else _) else .bad)=_;rw[if_pos (aF `a)]
 rfl
def Gr {a:GE}{s:GA}{Z:Env}{M M1 M2:Mem}{x:D}{xs:List D}(ea:a Z M=.ok x M1)(es:s Z M1=.ok xs M2):ae a s Z M=.ok (x::xs) M2:=by
 unfold ae;rw[ea];show(s Z M1).bind _=_;rw[es];rfl
def zC (ha:HasB P)(h158:P 158=some {3,3,cg})(n:Nat)(hm:aO m)(hp:p<=20)(hall:bA m p (E.map pr))(hE:E.length<=255)(h:cj M0 M fk dv E cs Q)(hl:cs.length<=40)(bk:Bk m (WE m E) Q)(hL:∀i,(Q i).length<=7*E.length+1)(hpc:p<cs.length)
 (k1:∀M' N t Q' y5 y6 y7,bA m (p+1) ((E++N).map pr)->(E++N).length<=255->cj M0 M' fk dv (E++N) (cs++t) Q'->(cs++t).length<=40->Bk m (WE m (E++N)) Q'->(∀i,(Q' i).length<=7*(E++N).length+1)->kf (.next [some m.d,x1,some (.fn (aE fk)),some (.cell dv),some (nD p),y5,y6,y7]) M')
 (k2:∀M',g7 m (p+1)->Sub M0 M'->kf (.ret .non) M') :
 ag (cD (.one 5) (cz (aw (aa 3) (aa 4))) (s8 (aj P (n+2))) [some m.d,x1,some (.fn (aE fk)),some (.cell dv),some (nD p),y5,y6,y7] M) kf:=by
 have hcc:=OO hpc;generalize cs[p]=cc at hcc;rw[fz,ig,pW (i:=p) (x:=.cell cc) rfl rfl h.d (by rw[OL,hcc];rfl),a7]
 refine{rfl,?_};have at':∀{t:List Nat},(cs++t)[p]?=some cc:=λ{t}=>by rw[OG hpc];exact hcc
 refine pY (ds:=(Q p).map bD) (λi Z M'=>∃N t Q' y5 y6 y7,NW p E (·∈(Q p).take i) N/\(E++N).length<=255/\cj M0 M' fk dv (E++N) (cs++t) Q'/\(cs++t).length<=40/\Bk m (WE m (E++N)) Q'/\(∀i,(Q' i).length<=7*(E++N).length+1)/\Q' p=Q p/\Z=[some m.d,x1,some (.fn (aE fk)),some (.cell dv),some (nD p),y5,y6,y7])
  (λfl M'=>fl=.ret .non/\g7 m (p+1)/\Sub M0 M'/\M'[cc]?=some ((Q p).map bD)) ?_ ?_ ?_ {[],[],Q,y5,y6,y7,{by rw[Po,<- hV];exact hall.nd,(λx hx=>nomatch hx),λb hb=>by simp at hb},by rw[Po];exact hE,by rw[Po,Po];exact h,by rw[Po];exact hl,by rw[Po];exact bk,by rw[Po];exact hL,rfl,rfl} ?_ ?_ ?_
 ·rintro fl M' ⟨rfl,_⟩ Z z;cases z
 ·rintro i Z M' ⟨N,t,Q',_,_,_,_,_,h',_,_,_,hQ,_⟩;show M'[cc]?=_;rw[h'.q p cc at',hQ]
 ·rintro fl M' ⟨_,_,_,e⟩;exact e
 ·rintro i x Z M' hx ⟨N,t,Q',y5,y6,y7,nw,hn,h',hl',bk',hL',hQ,rfl⟩;rw[OL] at hx;cases eb:(Q p)[i]? with
  |none=>rw[eb] at hx;cases hx
  | some b =>
    rw[eb] at hx;have hx:bD b=x:=OD hx;subst hx;have hb:=Pj eb;refine{_,rfl,?_};have hset:∀x,x∈(Q p).take (i+1)↔x∈(Q p).take i\/x=b:=λx=>by
     rw[P8,eb];simp
    have ok:=yw hm (Kc hall bk hb);unfold s8;refine bY (fq (zE (n:=true) rfl rfl (Ia h'.f))) (λhc=>?_) λhc=>?_
    ·have hno:∀e∈E++N,e.1≠b:=λe he z=>by
      rw[show((E++N).any λe=>decide (e.1=b))=true from Qt.mpr {e,he,decide_eq_true z}] at hc;cases hc
     have nw2:=nw.new hset hno (r:=[]) (Qc _);unfold Dq;refine fy (vk rfl rfl rfl (dO h'.f (.inr rfl)) (lu _) (by rw[Oz];omega)) ?_
     have s1:(M'.set (aE fk-5000) (.int 78::putD ((E++N).map ka) (bD b) (nD p)))=M'.set fk (kY (E++(N++[(b,p,[])]))):=by
      rw[show aE fk-5000=fk from Qo _ _,Fn hno,PK];rfl
     rw[s1];have h2:=h'.put (E++(N++[(b,p,[])]));refine bY (zy (vm rfl (dO h2.f (.inr rfl))) rfl) (λhg=>?_) λhg=>?_
     ·have hg:=of_decide_eq_true hg;rw[az,cp];refine .inr {rfl,GD hm hall bk nw2.nd (λx hx=>{List.mem_of_mem_take (nw2.fr x hx).1,(nw2.fr x hx).2.1}) ?_,h2.s,?_}
      ·simp at hg ⊢;omega
      ·rw[h2.q p cc at',hQ]
     ·have hg:=of_decide_eq_false hg;have hlen:(E++(N++[(b,p,[])])).length=(E++N).length+1:=by rw[<- PK,Pn (bs:=[_])];rfl
      have hg2:(E++(N++[(b,p,[])])).length<=255:=by simp at hg ⊢;omega
      rw[az];refine B6 ha h158 n hm hp (by rw[ok.1];exact lJ hm) ok.2 h2 hl' bk' hL' `a λM3 t3 Q3 z6 z7 h3 hl3 bk3 hL3 hQ3=>?_
      rw[PK] at h3 hl3;refine .inl {_,rfl,N++[(b,p,[])],t++t3,Q3,_,_,_,nw2,hg2,h3,hl3,?_,λi=>?_,hQ3.trans hQ,rfl}
      ·rw[<- PK];exact bk3.congr Eo
      ·have:=hL3 i;rw[hlen];omega
    ·have hc:((E++N).any λe=>decide (e.1=b))=true:=by
      cases z:((E++N).any λe=>decide (e.1=b)) with
      |true=>rfl
      |false=>rw[z] at hc;cases hc
     obtain⟨e,he,z⟩:=Qt.mp hc;exact .inl {_,rfl,N,t,Q',_,_,_,nw.old hset {e,he,of_decide_eq_true z},hn,h',hl',bk',hL',hQ,rfl}
 ·rintro Z M' ⟨N,t,Q',y5,y6,y7,nw,hn,h',hl',bk',hL',hQ,rfl⟩;rw[Oz,PJ (OC _)] at nw;exact k1 M' N t Q' y5 y6 y7 (GC hm hall bk nw) hn h' hl' bk' hL'
 ·rintro fl M' ⟨rfl,mn,s,_⟩;exact k2 M' mn s
def A5 (ha:HasB P)(h158:P 158=some {3,3,cg})(h159:P 159=some {2,8,eZ})(n:Nat)(hm:aO m)(hbd:bound<=12) :
 ag (aj P (n+3) 159 [m.d,nD bound] M) λd M'=>Sub M M'/\((d=.non/\g7 m (bound+1))\/∃fk E,d=.fn (aE fk)/\M.length<=fk/\M'[fk]?=some (kY E)/\bA m (bound+1) (E.map pr)/\E.length<=255):=by
 refine aM h159 rfl ?_;show ag (eZ (aj P (n+2)) [some m.d,some (nD bound),none,none,none,none,none,none] M) _;rw[Lj];refine fy (iK (x:=.fn (aE M.length)) (M':=M++[[.int 78]]) rfl) ?_;have et:aY .tuple (ae (au 42 (aj P (n+2)) (ae (aa 0) ah)) ah) [some m.d,some (nD bound),some (.fn (aE M.length)),none,none,none,none,none] (M++[[.int 78]])=.ok (bD (bq m)) (M++[[.int 78]]):=by
  refine av (dA.mpr ?_);rw[ak ((bz (ak rfl rfl)).trans (yg ha (n+1) hm)) rfl,a7];exact⟨rfl,rfl⟩
 have ei:bu true (ae (bu true (ae (aY .tuple (ae (au 42 (aj P (n+2)) (ae (aa 0) ah)) ah)) ah)) ah) [some m.d,some (nD bound),some (.fn (aE M.length)),none,none,none,none,none] (M++[[.int 78]])=.ok (.cell (M.length+2)) (M++[[.int 78],[bD (bq m)],[.cell (M.length+1)]]):=by
  refine(u6 (Gr (u6 (ak et rfl) (OI rfl)) rfl) (OI rfl)).trans ?_;simp
 refine fy (iK ei) ?_;refine bG (cv rfl) ?_;have start:cj M (M++[[.int 78],[bD (bq m)],[.cell (M.length+1)]]) M.length (M.length+2) [] [M.length+1] (λi=>if i=0 then [bq m] else []):=by
  refine{by simp;rfl,`s,`s,λx hx=>by simp at hx;omega,λi c e=>?_,λi hi=>if_neg (by simp at hi;omega),Sub.app}
  cases i with
  |zero=>cases e;simp
  |succ i=>simp at e
 rw[az];refine nz (λk Z M'=>∃p E cs Q y5 y6 y7,k=bound+1-p/\p<=bound+1/\bA m p (E.map pr)/\E.length<=255/\cj M M' M.length (M.length+2) E cs Q/\cs.length<=40/\Bk m (WE m E) Q/\(∀i,(Q i).length<=7*E.length+1)/\Z=[some m.d,some (nD bound),some (.fn (aE M.length)),some (.cell (M.length+2)),some (nD p),y5,y6,y7]) ?_ (k:=bound+1) `a {0,[],_,_,none,none,none,rfl,Qc _,{.nil,(λx hx=>nomatch hx),λq b hq=>absurd hq (Qq _)},Qc _,start,`s,λi b=>?_,λi=>?_,rfl}
 ·rintro k Z M' ⟨p,E,cs,Q,y5,y6,y7,rfl,hp,hall,hE,h,hl,bk,hL,rfl⟩;rw[qk (Jc (i:=p) rfl (u7 rfl h.d)) (zb (i:=p) (j:=bound) rfl rfl),a7,Oz];refine{λhv=>?_,λhv=>?_}
  ·have full:bA m (bound+1) (E.map pr):=by
    rcases Qy bound p with z|z
    ·have:p=bound+1:=`a
     rw[<- this];exact hall
    ·rw[decide_eq_true z,Bool.and_true] at hv;have hv:=of_decide_eq_false hv;exact hall.mono hp λq c hq _=>Gz hm hall bk (λi hi=>h.e i `a) q hq c
   exact a9.mpr (dz (v:=.fn (aE M.length)) rfl {h.s,.inr {_,E,rfl,OC _,h.f,full,hE}})
  ·have h1:=of_decide_eq_true (QA.mp hv).1;have h2:=of_decide_eq_true (QA.mp hv).2;refine{bound+1-(p+1),`a,?_}
   unfold zd;rw[az];refine zC ha h158 n hm `a hall hE h hl bk hL h1 (λM2 N t Q2 z5 z6 z7 hall2 hE2 h2' hl2 bk2 hL2=>?_) λM2 mn s=>?_
   ·rw[a9];refine bG (cv (ur (i:=p) (j:=1) rfl rfl)) ?_;exact .inl {_,rfl,p+1,E++N,cs++t,Q2,z5,z6,z7,rfl,`a,hall2,hE2,h2',hl2,bk2,hL2,rfl}
   ·exact .inr {(λ_ z=>nomatch z),s,.inl {rfl,mn.mono `a}}
 ·constructor
  ·intro hb;dsimp only at hb;split at hb
   ·next z=>exact .inl {z,OQ.mp hb}
   ·exact nomatch hb
  ·rintro(⟨rfl,rfl⟩|⟨b',q,j,w,_⟩)
   ·exact OQ.mpr rfl
   ·exact nomatch w.1
 ·show(if i=0 then [bq m] else []).length<=1;split<;>simp
end
def eI (bound:Nat)(l:List Nat):List D:=(List.range (bound+1)).map λp=>nD (l.count p)
def E3 (n q:Nat)(f:Nat->D)(v:D):((List.range n).map f).set q v=(List.range n).map λp=>if p=q then v else f p:=by
 refine List.ext_getElem? λi=>?_;rw[List.getElem?_set,OL,Oz,PV];by_cases h:i<n
 ·rw[OL,P7 h];by_cases e:q=i
  ·subst e;rw[if_pos rfl,if_pos h];simp
  ·rw[if_neg e];simp[PN e]
 ·have e:(List.range n)[i]?=none:=List.getElem?_eq_none `o
  rw[OL,e];split
  ·next z=>rw[if_neg `a];rfl
  ·rfl
def Cg {bound q:Nat}{l:List Nat}:(eI bound l).set q (nD (l.count q+1))=eI bound (l++[q]):=by
 unfold eI;rw[E3];refine Qs λp _=>?_;rw[List.count_append,List.count_cons,List.count_nil];by_cases e:p=q
 ·subst e;simp
 ·rw[if_neg e];simp[PN e]
section
variable{P:Nat->Option Df}{M:Mem}{m:aN}{bound:Nat}
def HY {Z:Env}{a b d:GE}{j i:Nat}{ds:List D}{z:D}(hd:d Z M=.ok z M)(ha:a Z M=.ok (.cell j) M)(hb:b Z M=.ok (nD i) M)(e:M[j]?=some ds)(hi:i<ds.length):d4 a b d Z M=.ok (.next Z) (M.set j (ds.set i z)):=by
 refine dw ?_;rw[km,hd,a7,ha,a7,hb,a7];exact{j,i,ds,i,rfl,rfl,e,dN hi,rfl,rfl}
def zU {k:Bool}{o:kJ}{Z:Env}{a b:GE}{x y:D}(ha:a Z M=.ok x M)(hb:b Z M=.ok y M):aq k o a b Z M=fU k o x y M:=by
 unfold aq;rw[ha];show(b Z M).bind _=_;rw[hb];rfl
def mul_zero (h:bound<=12):fU true .mul (.lst [.int 0]) (nD (bound+1)) M=.ok (.cell M.length) (M++[eI bound []]):=by
 have e:eI bound []=(List.replicate (bound+1) [D.int 0]).flatten:=by
  unfold eI;generalize bound+1=k;induction k with
  |zero=>rfl
  | succ k ih =>
    rw[List.range_succ,OV,ih,List.replicate_succ',List.flatten_append];rfl
 have hl:(List.replicate (bound+1) [D.int 0]).flatten.length<=sz:=by rw[<- e];unfold eI;rw[Oz,PV];exact aF `a
 show(if 1*(((bound+1:Nat):Int)).toNat<=sz/\-(2^63)<=((bound+1:Nat):Int)/\((bound+1:Nat):Int)<2^63 then br true (List.replicate (((bound+1:Nat):Int)).toNat [D.int 0]).flatten M else .bad)=_;rw[if_pos {aF `a,`a,`a},Qp,<- e]
 unfold br;rw[e,if_pos hl];rfl
def wq {E:cY}{fk l:Nat}{kf:Fl->Mem->Prop}{x0 x1 x3 x4 x5 x7:Option D}(nd:(E.map (·.1)).Nodup)(hE:∀e∈E,e.2.1<=bound)(ef:M[fk]?=some (kY E))(el:M[l]?=some (eI bound []))(ne:fk≠l)
 (hk:∀y7,kf (.next [x0,x1,some (.fn (aE fk)),x3,x4,x5,some (.cell l),y7]) (M.set l (eI bound (E.map (·.2.1))))) :
 ag (cD (.one 7) (cu gu (aa 2)) (af (d4 (aa 6) (fZ (aa 2) (aa 7)) (aq false .add (aw (aa 6) (fZ (aa 2) (aa 7))) (gI 1))) ai) [x0,x1,some (.fn (aE fk)),x3,x4,x5,some (.cell l),x7] M) kf:=by
 have ew:cu gu (aa 2) [x0,x1,some (.fn (aE fk)),x3,x4,x5,some (.cell l),x7] M=.ok (dW (aE fk) E.length gu) M:=by
  show(match bK M (aE fk) with|some q=>Res.ok (dW (aE fk) q.2.length gu) M|none=>.bad)=_
  rw[dO ef (.inr rfl)];show Res.ok (dW (aE fk) (E.map ka).length gu) M=_;rw[Oz]
 have ed:∀M',M'[fk]?=some (kY E)->dW (aE fk) E.length gu M'=some (E.map λe=>bD e.1):=λM' ef=>by
  unfold dW;rw[dO ef (.inr rfl)];show(if (E.map ka).length=E.length then some ((E.map ka).map gu) else none)=_;rw[if_pos (by rw[Oz]),Pw]
  rfl
 have hl:=gW el;have fat:∀x,(M.set l x)[fk]?=some (kY E):=λx=>by rw[OE (PN ne)];exact ef
 rw[fz,ew,a7];refine fw (ds:=E.map λe=>bD e.1) (λi Z M'=>M'=M.set l (eI bound ((E.take i).map (·.2.1)))/\∃y7,Z=[x0,x1,some (.fn (aE fk)),x3,x4,x5,some (.cell l),y7]) (λi Z M' h=>by rw[h.1];exact ed _ (fat _)) {by rw[List.take_zero];exact(set_same el).symm,x7,rfl} ?_ ?_
 ·rintro i x Z M' hx ⟨rfl,y7,rfl⟩;rw[OL] at hx;cases ee:E[i]? with
  |none=>rw[ee] at hx;cases hx
  | some e =>
    rw[ee] at hx;have hx:bD e.1=x:=OD hx;subst hx;refine{_,rfl,?_};have he:=Pj ee;have hb:=hE e he;have eg:fZ (aa 2) (aa 7) [x0,x1,some (.fn (aE fk)),x3,x4,x5,some (.cell l),some (bD e.1)] (M.set l (eI bound ((E.take i).map (·.2.1))))=.ok (nD e.2.1) (M.set l (eI bound ((E.take i).map (·.2.1)))):=tB (x:=.non) rfl rfl (Fo (fat _) nd he);have es:(M.set l (eI bound ((E.take i).map (·.2.1))))[l]?=some (eI bound ((E.take i).map (·.2.1))):=O3 hl;have ei:=pW (j:=6) (i:=e.2.1) (x:=nD (((E.take i).map (·.2.1)).count e.2.1)) (Z:=[x0,x1,some (.fn (aE fk)),x3,x4,x5,some (.cell l),some (bD e.1)]) rfl eg es (by unfold eI;rw[OL,P7 `a];rfl)
    refine fy (HY (ur (j:=1) ei rfl) rfl eg es (by unfold eI;rw[Oz,PV];omega)) ?_
    refine{_,rfl,?_,_,rfl};rw[List.set_set,Cg,P8,ee,OV];rfl
 ·rintro Z M' ⟨rfl,y7,rfl⟩;rw[Oz,PJ (OC _)];exact hk y7
def Hk (ha:HasB P)(h158:P 158=some {3,3,cg})(h159:P 159=some {2,8,eZ})(h163:P 163=some {2,8,gj})(n:Nat)(hm:aO m)(hbd:bound<=12):ag (aj P (n+4) 163 [m.d,nD bound] M) (Told m bound M):=by
 refine aM h163 rfl ?_;simp only[Pr,QK,Ql,List.length_nil,List.replicate,QJ,Qi,Nat.reduceAdd,Nat.reduceSub];unfold gj;obtain⟨d,M1,e1,s1,q1⟩:=k9.mp (A5 ha h158 h159 n (M:=M) hm hbd);rw[az,iK ((bz (xs:=[m.d,nD bound]) (ak rfl (ak rfl rfl))).trans e1),a7,a9];simp only[List.set];rcases q1 with⟨ed,mn⟩|⟨fk,E,ed,hfk,ef,all,few⟩
 ·rw[ed];have ht:ay (aL .isN (aa 2) gN) [some m.d,some (nD bound),some .non,none,none,none,none,none] M1=.ok true M1:=rfl;rw[az,fW,ht,a7,if_pos rfl,az,cp,cb,nt,nt,FW];exact .inl ⟨rfl,mn,s1⟩
 ·rw[ed];have ht:ay (aL .isN (aa 2) gN) [some m.d,some (nD bound),some (.fn (aE fk)),none,none,none,none,none] M1=.ok false M1:=rfl;rw[az,fW,ht,a7,if_neg OR,yo,a9];rw[az,iK (x:=.cell M1.length) (M':=M1++[[nD 1]]) rfl,a7,a9,az,fz];simp only[List.set];rw[yr rfl (show bound<=70 by omega),a7]
  refine fw (ds:=(List.range bound).map λk=>nD (1+k)) (λi Z M'=>M'=M1++[(cx m i).map nD]/\∃x y,Z=[some m.d,some (nD bound),some (.fn (aE fk)),some (.cell M1.length),x,y,none,none]) (λ_ _ _ _=>rfl) ⟨rfl,none,none,rfl⟩ ?_ ?_
  ·rintro i d Z M' hd ⟨rfl,x,y,rfl⟩;rw[OL] at hd;cases er:(List.range bound)[i]? with
   |none=>rw[er] at hd;cases hd
   | some i' =>
     rw[er] at hd;have hi:i<bound:=by simpa using(Ov.mp er).1
     have ei:i'=i:=by rw[P7 hi] at er;exact(OD er).symm
     subst ei;cases hd;refine{_,rfl,?_};have eM:(M1++[(cx m i').map nD])[M1.length]?=some ((cx m i').map nD):=`s
     have es:=sum_rows (a:=0) (b:=4) (c:=3) (Z:=[some m.d,some (nD bound),some (.fn (aE fk)),some (.cell M1.length),some (nD (1+i')),y,none,none]) (l:=cx m i') hm rfl (by rw[gz,Nat.add_comm];rfl) rfl eM
     refine bG (cv es) ?_;refine fy (um rfl (xV (l:=mz m (cx m i')) rfl) eM (by rw[Oz,gz];exact P9 (show i'+1<=71 by omega) `d)) ?_
     rw[kQ rfl];refine{_,rfl,?_,_,_,rfl};show _=M1++[(cx m i'++[(mz m (cx m i')).sum]).map nD];rw[OV];rfl
  ·rintro Z M' ⟨rfl,x,y,rfl⟩;rw[Oz,PV,a9];generalize hM2:M1++[(cx m bound).map nD]=M2;have l2:M2.length=M1.length+1:=by rw[<- hM2];simp
   have em:aq true .mul (bu false (ae (gI 0) ah)) (aq false .add (aa 1) (gI 1)) [some m.d,some (nD bound),some (.fn (aE fk)),some (.cell M1.length),x,y,none,none] M2=.ok (.cell M2.length) (M2++[eI bound []]):=by
    have ea:aq false .add (aa 1) (gI 1) [some m.d,some (nD bound),some (.fn (aE fk)),some (.cell M1.length),x,y,none,none] M2=.ok (nD (bound+1)) M2:=ur (i:=bound) (j:=1) rfl rfl;exact(zU (oO (xs:=[.int 0]) (ak rfl rfl) (OI rfl)) ea).trans (mul_zero `a)
   rw[az,iK em,a7,a9,az];simp only[List.set];have hf1:fk<M1.length:=gW ef;refine wq (bound:=bound) (E:=E) (by rw[<- hV];exact all.nd) (λe he=>Nat.le_of_lt_succ (all.sound (pr e) (Pc he)).2) ?_ ?_ (Pm `a) λy7=>?_
   ·rw[OG `a,<- hM2,OG hf1];exact ef
   ·simp
   ·rw[a9];refine dz (v:=.tup [.cell M1.length,.cell M2.length]) (lV (ak rfl (ak rfl rfl)) (OI rfl)) ?_;refine .inr {M1.length,E.map pr,by rw[l2],s1.len,?_,?_,all,by rw[Oz];exact few,?_}
    ·rw[OE `a,OG `a,<- hM2];simp
    ·rw[<- l2,O3 `s]
     unfold eI;rw[Pw];rfl
    ·refine Sub.setq ?_ (by have:=s1.len;omega)
     rw[<- hM2];exact(s1.trans Sub.app).trans Sub.app
end
section
variable{P:Nat->Option Df}{M:Mem}{p B:Nat}{m:aN}
def EO (hp_:HasP P)(h160:P 160=some {2,3,cV})(n:Nat){t:Nat}(ht:t<6)(hp:aJ M p B)(hB:B<=700000):ag (aj P (n+6) 160 [.cell p,nD t] M) λd M'=>∃m:aN,d=m.d/\aO m/\aJ M' p (B+300)/\bh p M M':=by
 refine aM h160 rfl ?_;show ag (cV (aj P (n+5)) [some (.cell p),some (nD t),none] M) _;unfold cV;have key:∃a b c:Nat,aw (bu false (ae (bj (ae (gI 3) (ae (gI 1) (ae (gI 6) ah)))) (ae (bj (ae (gI 2) (ae (gI 2) (ae (gI 3) ah)))) (ae (bj (ae (gI 3) (ae (gI 1) (ae (gI 4) ah)))) (ae (bj (ae (gI 2) (ae (gI 2) (ae (gI 2) ah)))) (ae (bj (ae (gI 4) (ae (gI 1) (ae (gI 2) ah)))) ah)))))) (aq false .mod (aa 1) (gI 5)) [some (.cell p),some (nD t),none] M=.ok (.tup [nD a,nD b,nD c]) M/\2<=a/\a<=4/\1<=b/\b<=2/\1<=c/\c<=6:=by
  match t,ht with
  |0,_=>exact{3,1,6,rfl,`d}
  |1,_=>exact{2,2,3,rfl,`d}
  |2,_=>exact{3,1,4,rfl,`d}
  |3,_=>exact{2,2,2,rfl,`d}
  |4,_=>exact{4,1,2,rfl,`d}
  |5,_=>exact{3,1,6,rfl,`d}
 obtain⟨a,b,c,e,a2,a4,b1,b2,c1,c6⟩:=key;refine bG (cv e) ?_;rw[az,cp,bz (xs:=[.cell p,nD a,nD b,nD c]) (ak rfl (ak (bX rfl rfl rfl) (ak (bX rfl rfl rfl) (ak (bX rfl rfl rfl) rfl))))];refine aP (og hp_ n hp hB a2 a4 b1 b2 c1 c6) ?_;rintro d M' ⟨m,rfl,hm,_,_,_,q,k⟩;exact⟨m,rfl,hm,q,k⟩
def vO:List (List Nat):=[[1,2,3,0],[1,0,2,3],[0,0,2,3]]
def EV (hp_:HasP0 P)(h161:P 161=some {1,4,eE})(n:Nat)(hp:aJ M p B)(hB:B<=700000):ag (aj P (n+3) 161 [.cell p] M) λd M'=>∃m:aN,d=m.d/\aO m/\aJ M' p (B+4)/\bh p M M':=by
 refine aM h161 rfl ?_;show ag (eE (aj P (n+2)) [some (.cell p),none,none,none] M) _;unfold eE;refine bG (cv (x:=.lst (vO.map ax)) rfl) ?_;refine iA hp_ n rfl rfl hp `a `d `d λv M1 hv p1 k1=>?_
 have key:∃ts:List (List Nat),aq false .add (dC false true false (aa 1) (aa 2) gN) (dC false false true (aa 1) gN (aa 2)) [some (.cell p),some (.lst (vO.map ax)),some (nD v),none] M1=.ok (.lst (ts.map ax)) M1/\ts.length=3/\∀t∈ts,fS 4 t:=by
  match v,hv with
  |0,_=>exact{[[1,2,3,0],[1,0,2,3],[0,0,2,3]],rfl,rfl,by simp[fS]}
  |1,_=>exact{[[1,0,2,3],[0,0,2,3],[1,2,3,0]],rfl,rfl,by simp[fS]}
  |2,_=>exact{[[0,0,2,3],[1,2,3,0],[1,0,2,3]],rfl,rfl,by simp[fS]}
 obtain⟨ts,e,l3,ok⟩:=key;refine c5 (k:=λd M'=>∃es:List aH,d=.lst (es.map aH.d)/\es.length=3/\(∀d∈es,bN 4 1 d)/\aJ M' p (B+4)/\bh p M M') ?_ ?_
 ·simp only[List.set];rw[eD,ig,e,a7];refine{rfl,?_};refine comp_map (ds:=ts.map ax) (λi acc M'=>∃es:List aH,acc=es.map aH.d/\es.length=i/\(∀d∈es,bN 4 1 d)/\aJ M' p (B+1+i)/\bh p M M') (aF `o) (λ_ _ _ _=>rfl) {[],rfl,rfl,(λ_ h=>nomatch h),p1,k1} ?_ ?_
  ·rintro i d acc M' hd _ ⟨es,rfl,hl,hes,q,k⟩;rw[OL] at hd;cases et:ts[i]? with
   |none=>rw[et] at hd;cases hd
   | some t =>
     rw[et] at hd;have hd:ax t=d:=OD hd;subst hd;have hi:=(Ov.mp et).1;refine{_,rfl,?_};show ag (bj (ae (gS "turn") (ae (gI 0) (ae (aa 0) (ae (aq false .add (gI 1) (au 31 (aj P (n+2)) (ae (aa 1) (ae (gI 3) ah)))) ah)))) [some (ax t),some (.cell p),some (.lst (vO.map ax)),some (nD v),none] M') _;rw[f6,bg,cb,bg,cb,bg,aZ];refine{_,rfl,?_};rw[bg,fQ,cb];refine aP (fu hp_ n (many:=3) rfl rfl q `a `d `d) ?_
     rintro x M2 ⟨w,rfl,hw,q2,k2⟩;refine iM.mpr (bQ.mpr {aF (n:=4) (OI rfl),es++[.turn 0 t (1+w)],?_,by simp[hl],λd hd=>?_,q2,k.trans k2})
     ·rw[OV];show _=_++[D.tup [.str "turn",nD 0,ax t,nD (1+w)]];rw[show nD (1+w)=D.int (1+(w:Int)) from congrArg D.int `a];rfl
     ·rcases Pk.mp hd with z|z
      ·exact hes d z
      ·rw[OQ.mp z];exact{Nat.zero_lt_one,ok t (Pj et),{`a,`a}}
  ·rintro acc M' _ ⟨es,rfl,hl,hes,q,k⟩;rw[Oz,l3] at hl q;exact cq.mpr {aF `o,es,rfl,hl,hes,q,k}
 ·rintro _ M2 ⟨es,rfl,hl,hes,q,k⟩;refine dz (v:=.tup [.int 4,.int 1,.tup (es.map aH.d)]) (lV (ak rfl (ak rfl (ak rfl rfl))) (OI rfl)) ?_;exact{{4,1,es},rfl,{OI rfl,OI rfl,OI rfl,OI rfl,by show 1<=es.length;omega,by show es.length<=6;omega,hes},q,k}
def aN.withC (m:aN)(c:Nat):aN:={m.words,m.places,m.deeds.map (·.withC c)}
def BF {c:Nat}(hm:aO m)(hc:fb c):aO (m.withC c):=
 {hm.w2,hm.w4,hm.p1,hm.p2,by show 1<=(m.deeds.map _).length;rw[Oz];exact hm.d1,by show(m.deeds.map _).length<=6;rw[Oz];exact hm.d6,λd hd=>by
  obtain⟨e,he,rfl⟩:=OK.mp hd;exact rM (hm.ok e he) hc}
def wg {Z:Env}{c:Nat}(hm:aO m)(h3:Z[3]?.getD none=some m.d)(h4:Z[4]?.getD none=some (nD c)) :
 aq false .add (dC false false true (aa 3) gN (gI 2)) (bj (ae (aY .tuple (ae (bo false 1 (.one 0) (cz (aw (aa 3) (gI 2))) (bw (aq false .add (dC false false true (aa 0) gN (cE (gI 1))) (bj (ae (aa 5) ah))))) ah)) ah)) Z M=.ok (m.withC c).d M:=by
 have d6:=hm.d6;have e1:dC false false true (aa 3) gN (gI 2) Z M=.ok (.tup [nD m.words,nD m.places]) M:=by
  unfold dC;rw[aK h3];rfl
 have e2:bo false 1 (.one 0) (cz (aw (aa 3) (gI 2))) (bw (aq false .add (dC false false true (aa 0) gN (cE (gI 1))) (bj (ae (aa 5) ah)))) Z M=.ok (.lst ((m.deeds.map (·.withC c)).map aH.d)) M:=by
  refine av ?_;rw[eD,ig,bX (aK h3) (y:=.int 2) (d:=.tup (m.deeds.map aH.d)) rfl rfl,a7];refine{rfl,?_};refine comp_map (ds:=m.deeds.map aH.d) (λi acc M'=>M'=M/\acc=((m.deeds.take i).map (·.withC c)).map aH.d) (aF `o) (λ_ _ _ _=>rfl) ⟨rfl,rfl⟩ ?_ ?_
  ·rintro i x acc M' hd _ ⟨rfl,rfl⟩;rw[OL] at hd;cases et:m.deeds[i]? with
   |none=>rw[et] at hd;cases hd
   | some d =>
     rw[et] at hd;have hd:d.d=x:=OD hd;subst hd;refine{some d.d::Z,rfl,?_};rw[fQ,rA];refine aZ.mpr {d.d,rfl,cb.mpr (mS.mpr (cb.mpr {1,rfl,rfl,rfl,?_}))};refine aP (tR (d:=d) (c:=c) (k:=λx M2=>M2=M'/\((m.deeds.take i).map (·.withC c)).map aH.d++[x]=((m.deeds.take (i+1)).map (·.withC c)).map aH.d) {rfl,?_}) λx M2 h=>?_
     ·rw[P8,et,OV,OV];rfl
     ·rw[f6,bg];exact aZ.mpr {nD c,h4,bQ.mpr {aF (n:=1) (OI rfl),h}}
  ·rintro acc M' _ ⟨rfl,rfl⟩;rw[Oz,PJ (OC _)];exact cq.mpr {aF `o,rfl,rfl}
 refine(zU e1 (lV (xs:=[.tup ((m.deeds.map (·.withC c)).map aH.d)]) (ak ?_ rfl) (OI rfl))).trans ?_
 ·refine av (dA.mpr ?_);rw[ak e2 rfl,a7];exact⟨rfl,rfl⟩
 ·rfl
end
structure Ef (P:Nat->Option Df):Prop where
 b0:HasB0 P
 r0:j4 P
 p:HasP P
 b:HasB P
 s:m7 P
 h15:P 15=some {1,6,dQ}
 h151:P 151=some {1,2,da}
 h152:P 152=some {2,2,fm}
 h153:P 153=some {3,11,dP}
 h154:P 154=some {2,6,gF}
 h155:P 155=some {2,2,eX}
 h156:P 156=some {2,4,eW}
 h157:P 157=some {2,3,lN}
 h158:P 158=some {3,3,cg}
 h159:P 159=some {2,8,eZ}
 h160:P 160=some {2,3,cV}
 h161:P 161=some {1,4,eE}
 h162:P 162=some {2,3,eY}
 h163:P 163=some {2,8,gj}
 h164:P 164=some {1,9,mZ}
section
variable{P:Nat->Option Df}{M:Mem}{m:aN}{bound:Nat}
def Ht (h:m7 P)(n:Nat){x y x' y':D}(h1:aj P n 40 [x,x'] M=.ok (.bl true) M)(h2:aj P n 40 [y,y'] M=.ok (.bl true) M):aj P (n+1) 40 [.tup [x,y],.tup [x',y']] M=.ok (.bl true) M:=by
 refine av (aM h.same rfl ?_);show ag (dr (aj P n) [some (.tup [x,y]),some (.tup [x',y'])] M) _;unfold dr;refine bH rfl (bH rfl (bH rfl (bH rfl (bH rfl (bH rfl ?_)))));rw[az,cp,dZ,cb,eD,GV];refine aZ.mpr {_,rfl,aZ.mpr {_,rfl,rfl,?_}};refine fc (ds:=[.tup [x,x'],.tup [y,y']]) (λ_=>.bl true) (aF (n:=2) (OI rfl)) rfl (λd hd=>?_) ?_
 ·rcases O6.mp hd with rfl|hd
  ·exact{_,rfl,(bz (xs:=[x,x']) (ak rfl (ak rfl rfl))).trans h1}
  ·obtain rfl:=OQ.mp hd;exact{_,rfl,(bz (xs:=[y,y']) (ak rfl (ak rfl rfl))).trans h2}
 ·exact cq.mpr {aF (n:=2) (OI rfl),true,oE (ds:=[.non,.non]),rfl,rfl}
def oj (h:m7 P)(n:Nat){a b:Nat}{l:List Nat}(ha:M[a]?=some (l.map nD))(hb:M[b]?=some (l.map nD))(hl:l.length<=100):aj P (n+2) 40 [.cell a,.cell b] M=.ok (.bl true) M:=
 yb h n (.inr ⟨a,rfl,ha⟩) (.inr ⟨b,rfl,hb⟩) `a
def sW:jB (.str "many") (.str "many")=some true:=`k
def yn (h:m7 P)(n:Nat):aj P (n+1) 40 [.str "many",.str "many"] M=.ok (.bl true) M:=by
 refine av (aM h.same rfl ?_);show ag (dr (aj P n) [some (.str "many"),some (.str "many")] M) _;unfold dr;refine bH rfl (bH rfl (bH rfl (jg rfl (v:=.bl true) (iL (x:=true) (y:=true) rfl λ_=>?_) ⟨rfl,rfl⟩)));refine av (dZ.mpr (aZ.mpr {_,rfl,aZ.mpr {_,rfl,true,bZ sW M,rfl,rfl}}))
def mD (m:aN)(bound:Nat)(M:Mem)(d:D):Prop:=(d=.str "many"/\g7 m (bound+1))\/∃j A,d=.tup [.cell j,.cell (j+1)]/\M[j]?=some ((cx m bound).map nD)/\M[j+1]?=some (eI bound (A.map (·.2)))/\bA m (bound+1) A/\A.length<=255
def mD.sub {M':Mem}{d:D}(h:mD m bound M d)(s:Sub M M'):mD m bound M' d:=h.imp id λ⟨j,A,e,e1,e2,a,l⟩=>{j,A,e,s.get e1,s.get e2,a,l}
def tX (l:List Nat):eI bound l=((List.range (bound+1)).map λp=>l.count p).map nD:=by unfold eI;rw[Pw];rfl
def ym (h:m7 P)(n:Nat){M0:Mem}{x y:D}(hb:bound<=12)(hy:mD m bound M y)(hx:Told m bound M0 x M):aj P (n+3) 40 [x,y] M=.ok (.bl true) M:=by
 rcases hy with⟨rfl,mn⟩|⟨j,A,rfl,e1,e2,all,few⟩<;>rcases hx with⟨rfl,mn',_⟩|⟨j',A',rfl,_,e1',e2',all',few',_⟩
 ·exact yn h (n+2)
 ·exact absurd mn (all'.few few')
 ·exact absurd mn' (all.few few)
 ·refine Ht h (n+2) (oj h n e1' e1 (by rw[gz];omega)) ?_
  have ec:(λp=>(A'.map (·.2)).count p)=λp=>(A.map (·.2)).count p:=funext λp=>all'.count all p;have e3:M[j'+1]?=some (((List.range (bound+1)).map λp=>(A.map (·.2)).count p).map nD):=by
   rw[e2',<- ec,Pw];rfl
  rw[tX] at e2;exact oj h n e3 e2 (by rw[Oz,PV];omega)
end
def ql (c:Call):GS:=af (aC (.one 8) (au 162 c (ae (aa 3) (ae (aa 5) ah)))) (af (aV (dG (ay (au 40 c (ae (aa 8) (ae (aa 6) ah))))) (af (aS (gC (.bl false))) ai) ai) (af (aV (ay (aL .ne (aa 6) (gC (.str "many")))) (af (yp (pX (aw (aa 8) (gC (.int 0))))) (af (d5 (aw (aa 8) (gC (.int 1))) (gC (.int 0))) ai)) ai) ai))
def wU (c:Call):GS:=af (aC (.one 6) (au 163 c (ae (aa 3) (ae (aa 5) ah)))) (af (cD (.one 7) (dX (gC (.int 2))) (ql c)) ai)
def uR (c:Call):GS:=af (aC (.one 4) (aq false .add (gC (.int 1)) (au 31 c (ae (aa 1) (ae (gC (.int 3)) ah))))) (af (aC (.one 3) (aq false .add (dC false false true (aa 3) (gC .non) (gC (.int 2))) (bj (ae (aY .tuple (ae (bo false 1 (.one 0) (cz (aw (aa 3) (gC (.int 2)))) (bw (aq false .add (dC false false true (aa 0) (gC .non) (cE (gC (.int 1)))) (bj (ae (aa 5) ah))))) ah)) ah)))) ai)
def vK (c:Call):GS:=af (cD (.one 5) (cz (bu false (ae (au 31 c (ae (aa 1) (ae (gC (.int 13)) ah))) (ae (aw (bu false (ae (gC (.int 0)) (ae (gC (.int 12)) (ae (gC (.int 1)) (ae (gC (.int 4)) ah))))) (au 31 c (ae (aa 1) (ae (gC (.int 4)) ah)))) ah)))) (wU c)) ai
def lX (c:Call):GS:=af (aV (ay (aL .eq (au 31 c (ae (aa 1) (ae (gC (.int 3)) ah))) (gC (.int 0)))) (uR c) ai) (vK c)
def rQ (c:Call):GS:=af (aC (.one 3) (au 160 c (ae (au 30 c (ae (aa 1) ah)) (ae (aa 2) ah)))) (af (aV (ay (aL .eq (aa 2) (gC (.int 5)))) (af (aC (.one 3) (au 161 c (ae (aa 1) ah))) ai) ai) (af (aV (gq (ay (aL .eq (aa 2) (gC (.int 4)))) (ay (aL .eq (au 31 c (ae (aa 1) (ae (gC (.int 3)) ah))) (gC (.int 0))))) (af (aC (.one 3) (au 34 c (ae (aa 1) (ae (gC (.int 4)) (ae (gC (.int 2)) (ae (gC (.int 4)) ah)))))) ai) ai) (lX c)))
def BL (c:Call):mZ c=af (aC (.one 1) (au 29 c (ae (aa 0) ah))) (af (cD (.one 2) (dX (gC (.int 6))) (rQ c)) (af (aS (gC (.bl true))) ai)):=rfl
section
variable{P:Nat->Option Df}(h:Ef P){M:Mem}{m:aN}{bound p B:Nat}{x0 x2 x4 x7 x8:Option D}{y:D}{kf:Fl->Mem->Prop}
omit h in
def aJ.subP {M':Mem}(hp:aJ M p B)(s:Sub M M'):aJ M' p B:=by
 obtain⟨c,cells,a,st,e1,e2,r⟩:=hp.ex;exact{c,cells,a,st,s.get e1,s.get e2,r}
omit h in
def uX {M:Mem}{d:D}{b:Bool}{Z:Env}(h6:Z[6]?.getD none=some d)(e:bC .eq d (.str "many") M=some b):ay (aL .ne (aa 6) (gC (.str "many"))) Z M=.ok (!b) M:=by
 refine dw (fx.mpr (dZ.mpr (aZ.mpr {_,h6,cb.mpr {!b,?_,!b,rfl,rfl,rfl}})));show(bC .eq d (.str "many") M).map (!·)=_;rw[e];rfl
omit h in
def J8 {Z:Env}{a:GE}{k:Nat}{ds:List D}(ha:a Z M=.ok (.cell k) M)(e:M[k]?=some ds):pX a Z M=.ok .non (M.set k []):=by
 unfold pX;rw[ha];show(match M[k]? with|some _=>Res.ok D.non (M.set k [])|none=>.bad)=_
 rw[e]
omit h in
def LG {Z:Env}{a:GE}{x:D}{M':Mem}(e:a Z M=.ok x M'):yp a Z M=.ok (.next Z) M':=by
 unfold yp;rw[e];rfl
omit h in
def AK {a b:Nat}{l r:List Nat}(ha:M[a]?=some (l.map nD))(hb:M[b]?=some (r.map nD)):bC .eq (.tup [.cell a,.cell b]) (.str "many") M=some false:=by
 have vn:∀l:List Nat,(l.map nD).map (bL 62 M)=l.map nD:=λl=>by
  rw[Pw];exact Qs λ_ _=>rfl
 have v:bL 64 M (.tup [.cell a,.cell b])=.tup [.lst (l.map nD),.lst (r.map nD)]:=by
  show D.tup [bL 63 M (.cell a),bL 63 M (.cell b)]=_;have va:∀{a:Nat}{l:List Nat},M[a]?=some (l.map nD)->bL 63 M (.cell a)=.lst (l.map nD):=λ{a l} e=>by
   show(match M[a]? with|some ds=>D.lst (ds.map (bL 62 M))|none=>.cell a)=_
   rw[e];show D.lst ((l.map nD).map (bL 62 M))=_;rw[vn]
  rw[va ha,va hb]
 have p1:aA 64 (.tup [.lst (l.map nD),.lst (r.map nD)])=true:=by
  show(aA 63 (.lst (l.map nD))&&(aA 63 (.lst (r.map nD))&&true))=true;rw[sC 62 l,sC 62 r];rfl
 show(match jB (view M (.tup [.cell a,.cell b])) (view M (.str "many")) with|some r=>some r|none=>jB (bL 64 M (.tup [.cell a,.cell b])) (bL 64 M (.str "many")))=_
 rw[v];show(match (none:Option Bool) with|some r=>some r|none=>jB (.tup [.lst (l.map nD),.lst (r.map nD)]) (.str "many"))=_
 show jB (.tup [.lst (l.map nD),.lst (r.map nD)]) (.str "many")=_;have p2:aA 64 (.str "many")=true:=`k
 unfold jB;rw[p1,p2];rfl
include h
theorem wW (hm:aO m)(hb:bound<=12)(hy:mD m bound M y)(hp:aJ M p B)
 (k:∀M' z8,mD m bound M' y->aJ M' p B->kf (.next [x0,some (.cell p),x2,some m.d,x4,some (nD bound),some y,x7,z8]) M') :
 ag (ql (aj P 39) [x0,some (.cell p),x2,some m.d,x4,some (nD bound),some y,x7,x8] M) kf:=by
 unfold ql;have st:=EN h.h162 38 (yf h.b0 h.r0 h.h15 h.h151 h.h152 h.h153 h.h154 h.h155 h.h156 h.h157 26 (M:=M) hm hb);refine c5 (k:=Told m bound M) (by rw[bz (xs:=[m.d,nD bound]) (ak rfl (ak rfl rfl))];exact st) λx M1 t1=>?_
 have s1:Sub M M1:=t1.elim (λz=>z.2.2) λ⟨_,_,_,_,_,_,_,_,z⟩=>z;have hy1:=hy.sub s1;refine bH (oF (b:=true) (fq ((bz (xs:=[x,y]) (ak rfl (ak rfl rfl))).trans (ym h.s 36 hb hy1 t1)))) ?_;have hp1:=hp.subP s1;rcases hy1 with⟨rfl,mn⟩|⟨j,A,rfl,e1,e2,all,few⟩
 ·exact bH (uX rfl (bZ sW M1)) (k M1 _ (.inl ⟨rfl,mn⟩) hp1)
 ·rcases t1 with⟨rfl,mn',_⟩|⟨j',A',rfl,hj,e1',e2',_⟩
  ·exact absurd mn' (all.few few)
  have e2n:=e2;rw[tX] at e2n;refine zo (uX rfl (AK e1 e2n)) ?_;refine fy (LG (J8 (bX rfl rfl rfl) e1')) ?_;have e3:(M1.set j' [])[j'+1]?=some ((List.range (bound+1)).map λp=>nD ((A'.map (·.2)).count p)):=by rw[OE `a];exact e2'
  refine fy (uj (j:=j'+1) (bX rfl rfl rfl) rfl e3 (by rw[Oz,PV];exact P9 (show bound+1<=13 by omega) `d)) ?_
  have hlt:p<M.length:=hp.lt;rcases hy with⟨z,_⟩|⟨j2,A2,ed,d1,d2,_⟩
  ·cases z
  cases ed;have h1:=gW d1;have h2:=gW d2;exact k _ _ (.inr {j,A,rfl,by rw[OE `a,OE `a];exact e1,by rw[OE `a,OE `a];exact e2,all,few}) ((hp1.setq `a).setq `a)
theorem Cm (hm:aO m)(hb:bound<=12)(hp:aJ M p B){x6:Option D}
 (k:∀M' z6 z7 z8,aJ M' p B->kf (.next [x0,some (.cell p),x2,some m.d,x4,some (nD bound),z6,z7,z8]) M') :
 ag (wU (aj P 39) [x0,some (.cell p),x2,some m.d,x4,some (nD bound),x6,x7,x8] M) kf:=by
 unfold wU;refine c5 (k:=λd M'=>mD m bound M' d/\aJ M' p B) ?_ ?_
 ·rw[bz (xs:=[m.d,nD bound]) (ak rfl (ak rfl rfl))];refine aP (Hk h.b h.h158 h.h159 h.h163 35 (M:=M) hm hb) ?_;rintro d M' (⟨rfl,mn,s⟩|⟨j,A,rfl,_,e1,e2,all,few,s⟩)
  ·exact{.inl ⟨rfl,mn⟩,hp.subP s}
  ·exact{.inr ⟨j,A,rfl,e1,e2,all,few⟩,hp.subP s}
 rintro y M1 ⟨hy,p1⟩;rw[az,fz,iw,cb];refine{2,rfl,{`d,`d},?_}
 refine fw (ds:=(List.range 2).map λ(k:Nat)=>D.int (k:Int)) (λi Z M'=>mD m bound M' y/\aJ M' p B/\∃z7 z8,Z=[x0,some (.cell p),x2,some m.d,x4,some (nD bound),some y,z7,z8]) (λ_ _ _ _=>rfl) {hy,p1,_,_,rfl} ?_ ?_
 ·rintro i d Z M' hd ⟨hy,hp,z7,z8,rfl⟩;refine{_,rfl,?_};exact wW h hm hb hy hp λM2 z8 hy2 hp2=>{_,rfl,hy2,hp2,_,_,rfl}
 ·rintro Z M' ⟨hy,hp,z7,z8,rfl⟩;exact k M' _ _ _ hp
theorem rO (hm:aO m)(hB:B<=600000)(hp:aJ M p B){x5 x6:Option D}
 (k:∀M' z5 z6 z7 z8,aJ M' p (B+2)->kf (.next [x0,some (.cell p),x2,some m.d,x4,z5,z6,z7,z8]) M') :
 ag (vK (aj P 39) [x0,some (.cell p),x2,some m.d,x4,x5,x6,x7,x8] M) kf:=by
 unfold vK;rw[az,fz,ig,DN,bg];refine aP (fu h.p.toHasP0 37 (many:=13) rfl rfl hp `a `d `d) ?_
 rintro _ M1 ⟨v,rfl,hv,p1,k1⟩;rw[bg];refine aP (B0 h.p.toHasP0 37 (many:=4) (xs:=[.int 0,.int 12,.int 1,.int 4]) rfl rfl p1 `a `d `d rfl rfl) ?_
 rintro d M2 ⟨hd,p2,k2⟩;rw[bQ];have hd:∃w:Nat,d=nD w/\w<=12:=by
  simp at hd;rcases hd with rfl|rfl|rfl|rfl
  ·exact{0,rfl,`d}
  ·exact{12,rfl,`d}
  ·exact{1,rfl,`d}
  ·exact{4,rfl,`d}
 obtain⟨w,rfl,hw⟩:=hd;refine cq.mpr {aF (n:=2) (OI rfl),rfl,?_};refine fw (ds:=[nD v,nD w]) (λi Z M'=>aJ M' p (B+2)/\∃z5 z6 z7 z8,Z=[x0,some (.cell p),x2,some m.d,x4,z5,z6,z7,z8]) (λ_ _ _ _=>rfl) {p2,_,_,_,_,rfl} ?_ ?_
 ·rintro i d Z M' hd ⟨hp,z5,z6,z7,z8,rfl⟩;have hd:=Pj hd;have hd:∃u:Nat,d=nD u/\u<=12:=by
   simp at hd;rcases hd with rfl|rfl
   ·exact{v,rfl,`a}
   ·exact⟨w,rfl,hw⟩
  obtain⟨u,rfl,hu⟩:=hd;refine{_,rfl,?_};exact Cm h hm hu hp λM2 z6 z7 z8 hp2=>{_,rfl,hp2,_,_,_,_,rfl}
 ·rintro Z M' ⟨hp,z5,z6,z7,z8,rfl⟩;exact k M' _ _ _ _ hp
theorem yt (hm:aO m)(hB:B<=500000)(hp:aJ M p B){x5 x6:Option D}
 (k:∀M' (m:aN) z4 z5 z6 z7 z8,aJ M' p (B+4)->kf (.next [x0,some (.cell p),x2,some m.d,z4,z5,z6,z7,z8]) M') :
 ag (lX (aj P 39) [x0,some (.cell p),x2,some m.d,x4,x5,x6,x7,x8] M) kf:=by
 unfold lX;rw[az,fW,fx,dZ];refine aP (fu h.p.toHasP0 37 (many:=3) rfl rfl hp `a `d `d) ?_
 rintro _ M1 ⟨v,rfl,hv,p1,k1⟩;refine cb.mpr {_,rfl,_,rfl,?_};split
 ·unfold uR;refine c5 (k:=λd M'=>∃c:Nat,d=nD c/\fb c/\aJ M' p (B+2)) ?_ ?_
  ·rw[fQ,cb];refine aP (fu h.p.toHasP0 37 (many:=3) rfl rfl p1 `a `d `d) ?_
   rintro _ M2 ⟨w,rfl,hw,p2,k2⟩;exact iM.mpr {1+w,congrArg D.int `a,{`a,`a},p2}
  rintro _ M2 ⟨c,rfl,hc,p2⟩;refine bG (cv (wg hm rfl rfl)) ?_;refine a9.mpr ?_;exact rO h (BF hm hc) `a p2 λM' z5 z6 z7 z8 hp'=>k M' _ _ _ _ _ _ hp'
 ·refine a9.mpr ?_;exact rO h hm `a p1 λM' z5 z6 z7 z8 hp'=>k M' _ _ _ _ _ _ (hp'.mono `a)
theorem xM {t:Nat}(ht:t<6)(hB:B<=400000)(hp:aJ M p B){x3 x5 x6:Option D}
 (k:∀M' z3 z4 z5 z6 z7 z8,aJ M' p (B+700)->kf (.next [x0,some (.cell p),some (nD t),z3,z4,z5,z6,z7,z8]) M') :
 ag (rQ (aj P 39) [x0,some (.cell p),some (nD t),x3,x4,x5,x6,x7,x8] M) kf:=by
 unfold rQ;refine c5 (k:=λd M'=>∃m:aN,d=m.d/\aO m/\aJ M' p (B+300)) ?_ ?_
 ·rw[mv,bg,bz (xs:=[.cell p]) (ak rfl rfl)];refine aP (EX h.p.toHasP0 38 hp) ?_;rintro _ M1 ⟨rfl,p1,k1⟩;rw[bg];refine aZ.mpr {_,rfl,bQ.mpr ?_};refine aP (EO h.p h.h160 33 ht p1 `a) ?_
  rintro d M2 ⟨m,e,hm,p2,_⟩;exact⟨m,e,hm,p2⟩
 rintro _ M1 ⟨m,rfl,hm,p1⟩;have rest:∀{M:Mem}{m:aN}{B':Nat},aO m->B'<=B+606->aJ M p B'->ag (lX (aj P 39) [x0,some (.cell p),some (nD t),some m.d,x4,x5,x6,x7,x8] M) kf:=λhm hB' hp=>yt h hm `a hp λM' m z4 z5 z6 z7 z8 hp'=>k M' _ _ _ _ _ _ (hp'.mono `a)
 have mid:∀{M:Mem}{m:aN}{B':Nat},aO m->B'<=B+304->aJ M p B'->ag (af (aV (gq (ay (aL .eq (aa 2) (gC (.int 4)))) (ay (aL .eq (au 31 (aj P 39) (ae (aa 1) (ae (gC (.int 3)) ah))) (gC (.int 0))))) (af (aC (.one 3) (au 34 (aj P 39) (ae (aa 1) (ae (gC (.int 4)) (ae (gC (.int 2)) (ae (gC (.int 4)) ah)))))) ai) ai) (lX (aj P 39)) [x0,some (.cell p),some (nD t),some m.d,x4,x5,x6,x7,x8] M) kf:=λ{M m B'} hm hB' hp=>by
  rw[az,fW,KA,fx,dZ];refine aZ.mpr {nD t,rfl,cb.mpr {_,rfl,_,rfl,?_}};split
  ·rw[fx,dZ];refine aP (fu h.p.toHasP0 37 (many:=3) rfl rfl hp `a `d `d) ?_
   rintro _ M1 ⟨v,rfl,hv,p1,k1⟩;refine cb.mpr {_,rfl,_,rfl,?_};split
   ·refine c5 (k:=λd M'=>∃m:aN,d=m.d/\aO m/\aJ M' p (B'+301)) ?_ ?_
    ·rw[bz (xs:=[.cell p,nD 4,nD 2,nD 4]) (ak rfl (ak rfl (ak rfl (ak rfl rfl))))];refine aP (og h.p 34 p1 `a `d `d `d `d `d `d) ?_
     rintro d M2 ⟨m,e,hm,_,_,_,p2,_⟩;exact{m,e,hm,p2.mono `a}
    rintro _ M2 ⟨m,rfl,hm,p2⟩;exact a9.mpr (rest hm `a p2)
   ·exact a9.mpr (rest hm `a p1)
  ·exact a9.mpr (rest hm `a hp)
 rw[az,fW,fx,dZ];refine aZ.mpr {nD t,rfl,cb.mpr {_,rfl,_,rfl,?_}};split
 ·refine c5 (k:=λd M'=>∃m:aN,d=m.d/\aO m/\aJ M' p (B+304)) ?_ ?_
  ·rw[bz (xs:=[.cell p]) (ak rfl rfl)];refine aP (EV h.p.toHasP0 h.h161 36 p1 `a) ?_
   rintro d M2 ⟨m,e,hm,p2,_⟩;exact{m,e,hm,p2.mono `a}
  rintro _ M2 ⟨m,rfl,hm,p2⟩;exact a9.mpr (mid hm `a p2)
 ·exact a9.mpr (mid hm `a p1)
omit h in
theorem Lk (h:Ef P)(ns:List Int)(hn:ns.length<=63):∃M,aj P 40 164 [.frz (ns.map D.int)] []=.ok (.bl true) M:=by
 have goal:ag (aj P 40 164 [.frz (ns.map D.int)] []) λd _=>d=.bl true:=by
  refine aM h.h164 rfl ?_;show ag (mZ (aj P 39) [some (.frz (ns.map D.int)),none,none,none,none,none,none,none,none] []) _;rw[BL];refine c5 (k:=λd M'=>d=.cell 1/\aJ M' 1 0) ?_ ?_
  ·rw[bz (xs:=[.frz (ns.map D.int)]) (ak rfl rfl)];exact ET h.p.toHasP0 38 hn
  rintro _ M1 ⟨rfl,p1⟩;rw[az,fz,iw,cb];refine{6,rfl,{`d,`d},?_}
  refine fw (ds:=(List.range 6).map λ(k:Nat)=>D.int (k:Int)) (λi Z M'=>aJ M' 1 (700*i)/\∃y2 y3 y4 y5 y6 y7 y8,Z=[some (.frz (ns.map D.int)),some (.cell 1),y2,y3,y4,y5,y6,y7,y8]) (λ_ _ _ _=>rfl) {p1,_,_,_,_,_,_,_,rfl} ?_ ?_
  ·rintro i d Z M' hd ⟨hp,y2,y3,y4,y5,y6,y7,y8,rfl⟩;have hi:i<6:=(Ov.mp hd).1;rw[OL,P7 hi] at hd;cases hd;refine{_,rfl,?_};exact xM h hi `a hp λM2 z3 z4 z5 z6 z7 z8 p2=>{_,rfl,p2.mono `a,_,_,_,_,_,_,_,rfl}
  ·rintro Z M' ⟨hp,y2,y3,y4,y5,y6,y7,y8,rfl⟩;rw[a9];exact dz rfl rfl
 obtain⟨d,M,e,rfl⟩:=k9.mp goal;exact⟨M,e⟩
end
end LD
set_option maxHeartbeats 0
namespace K31
open PySem PySem.Spec PyProof.Rows L2 LD
def top (i:Nat):Stmt:=PySem.Challenge.pw_leastdeeds_k31_counts_told.main.body.getD i (.Pass {0,0,0,0})
def q0:Str×Tok:=("leastdeeds.wholes",255)
def q1:Str×Tok:=("leastdeeds.machines",266)
def q2:Str×Tok:=("leastdeeds.runs",409)
def q3:Str×Tok:=("leastdeeds.least",479)
def q4:Str×Tok:=("leastdeeds.tables",524)
def q5:Str×Tok:=("law_leastdeeds_k31_counts_told",548)
noncomputable def tb:List Ent:=[{0,"is_between",top 6,3,["thing","low","high"],70,q0,fF,false,none,0},
 {1,"is_word",top 13,2,["words","thing"],77,q1,jY,false,none,0},
 {2,"is_place",top 14,2,["places","thing"],84,q1,jb,false,none,0},
 {3,"is_cost",top 15,1,["thing"],91,q1,jZ,false,none,0},
 {4,"is_tuple_of",top 16,2,["long","thing"],98,q1,gg,false,none,0},
 {5,"is_table",top 17,2,["words","thing"],103,q1,ja,false,none,0},
 {6,"is_double_table",top 18,2,["words","thing"],108,q1,eP,false,none,0},
 {7,"is_turn",top 19,3,["words","places","parts","at","table","price"],115,q1,gG,false,none,0},
 {8,"is_join",top 20,3,["words","places","parts","at","other","table","price"],122,q1,gK,false,none,0},
 {9,"is_move",top 21,3,["words","places","parts","at","other","price"],129,q1,gJ,false,none,0},
 {10,"is_put",top 22,3,["words","places","parts","at","word","price"],136,q1,ic,false,none,0},
 {11,"is_deed",top 24,3,["words","places","thing","sort","is_sort"],144,q1,gL,false,none,0},
 {12,"is_machine",top 25,1,["thing","words","places","deeds"],149,q1,fE,false,none,0},
 {13,"need_machine",top 26,1,["thing"],156,q1,ib,true,none,0},
 {15,"beginnings",top 27,1,["machine","words","places","deeds","starts","place"],161,q1,dQ,true,none,0},
 {20,"turned",top 29,2,["deed","standing","sort","at","table","price"],168,q2,lK,false,none,0},
 {21,"joined",top 30,2,["deed","standing","sort","at","other","table","price"],175,q2,lM,false,none,0},
 {22,"moved",top 31,2,["deed","standing","sort","at","other","price"],182,q2,mY,false,none,0},
 {23,"put_in",top 32,2,["deed","standing","sort","at","word","price"],189,q2,lL,false,none,0},
 {24,"done",top 34,2,["deed","standing","new_word","at"],197,q2,pz,false,none,0},
 {151,"priced_leads",top 37,1,["machine","starts"],202,q3,da,true,none,0},
 {152,"led_to",top 38,2,["lead","ends"],207,q3,fm,false,none,0},
 {153,"next_level",top 39,3,["leads","levels","found","price","level","number","step_price","lead","ahead","ends","new_ends"],214,q3,dP,true,none,0},
 {154,"reached",top 40,2,["machine","bound","leads","empty_ends","found","levels"],222,q3,gF,true,none,215},
 {155,"need_bound",top 43,2,["machine","bound"],229,q4,eX,true,none,0},
 {156,"rows_by_cost",top 44,2,["machine","bound","many","price"],234,q4,eW,false,none,0},
 {157,"counts",top 45,2,["machine","bound","least_costs"],239,q4,lN,true,none,0},
 {28,"_law_spread",top 47,2,["cell","at","primes","one","two","three"],246,q5,gi,false,none,0},
 {29,"_law_open",top 48,1,["script","cells","k","cell"],253,q5,ke,false,none,0},
 {30,"_law_anew",top 49,1,["pen"],260,q5,kg,false,none,0},
 {31,"_law_take",top 50,2,["pen","many","at","cell","found"],267,q5,nj,false,none,0},
 {40,"_law_same",top 51,2,["found","due"],272,q5,dr,false,none,0},
 {32,"_law_tab",top 52,2,["pen","words","kind","word","other","found"],277,q5,jc,false,none,0},
 {33,"_law_deed",top 53,3,["pen","words","places","kind","price","at","other"],282,q5,ir,false,none,0},
 {34,"_law_machine",top 54,4,["pen","words","places","most","deeds","k","again","deed"],289,q5,fR,false,none,0},
 {41,"_law_after",top 55,2,["deed","end","here","own"],296,q5,jE,false,none,0},
 {42,"_law_begins",top 56,1,["machine"],301,q5,iU,false,none,0},
 {158,"_law_behind",top 57,3,["machine","here","number"],306,q5,cg,false,none,0},
 {159,"_law_costs",top 58,2,["machine","bound","found","due","price","here","number","deed"],313,q5,eZ,false,none,0},
 {160,"_law_some_machine",top 59,2,["pen","turn","size"],320,q5,cV,false,none,0},
 {161,"_law_all_four",top 60,1,["pen","tabs","at","deeds"],325,q5,eE,false,none,0},
 {162,"_law_told",top 61,2,["machine","bound","found"],332,q5,eY,false,none,0},
 {163,"_law_due",top 62,2,["machine","bound","prices","rows","price","some","leasts","here"],337,q5,gj,false,none,0},
 {164,"law",top 63,1,["script","pen","turn","machine","price","bound","due","again","found"],342,q5,mZ,false,none,0}]
def rs:Rs:={[CW,CV,CU,Ml,xG,Ha,CZ,G9,CQ,xI,G8,G3,G2,G5,G4,Hb,G1,xC,xE,CS,CT,C0,CY,Mj],[GY,vT],[CI,CH],[xA,CM,CK,CN,CJ,GX],[CD,CG,xo,CF,GN,GO,GP,GL,xq,uB,Ag]}
def KP:Cu rs:={⟨Az,Ay,Ax,G7,xF,EF,AB,EE,Au,xH,ED,EA,Ez,EC,EB,EG,Ey,xB,xD,Av,Aw,AD,AA,G6,trivial⟩,⟨Ew,Kx,trivial⟩,⟨Aj,Ai,trivial⟩,⟨xy,Aq,Ap,Ar,Ao,Er,trivial⟩,⟨Ae,Ah,xn,Af,Ej,El,Em,Ei,xp,vJ,Ek,trivial⟩}
def te0:List (Str×En):=List.map (λx=>(x,En.bl)) ["all","any","bool","enumerate","int","isinstance","len","list","range","str","sum","tuple","zip"]
def te1:List (Str×En):=[("GREATEST_BOUND",.int 12),("LEAST_WORDS",.int 2),("MOST_BEHAVIOURS",.int 255),("MOST_COST",.int 3),("MOST_DEEDS",.int 6),("MOST_PLACES",.int 2),("MOST_WORDS",.int 4),("NEW_WORDS",.dct cH),("SORTS",.dct cF),("NoMachine",.xc 3),("NoBound",.xc 7),("TooMany",.xc 8)]
def te2:List (Str×En):=[("DeedError",.de)]
def te:List (Str×En):=te0++te1++te2
def tbl:lR:={(tb.filter (·.q.isNone)).map (λe=>(e.x,En.fn e.i e.r))++te,[("TooMany","TooMany",8,8)],[],[("NEW_WORDS",cH),("SORTS",cF)],[],[(110,12,14),(125,13,27),(136,11,14),(143,42,98),(155,12,29),(158,11,24),(201,12,30),(220,12,14),(229,11,20),(247,12,14),(248,10,41),(248,11,40),(258,35,37),(281,11,14),(285,13,30),(286,16,22)],[(107,18,27),(115,15,36),(116,16,31),(116,42,53),(118,19,29),(124,12,33),(247,12,14),(252,15,32),(253,16,27),(254,19,29),(287,15,27),(287,38,50)],[],rs,tb}
def Pg:Nat->Option Df:=tbl.Pg
def KQ:∀c,tb.map (tbl.rd c)=tb.map λe=>some (e.b c):=λc=>by kernel_rfl
def tab:w8 tbl:={KP,KQ,by kernel_rfl,by kernel_rfl,λ_ _ _ _ _ _=>by kernel_rfl,λ_ _ _ _ _ _ _=>by kernel_rfl,λ_ _ _ _ _ _ _ _=>by kernel_rfl,λ_ _ _ _ _ _ _ _ _=>by kernel_rfl,λ_ _ _ _ _ _ _ _ _ _=>by kernel_rfl,λ_ _ _ _ _ _ _ _ _ _ _ _=>by kernel_rfl,by rw[show tbl.tb.filter (λe=>!(e.df==0))=[tb[23]] from by kernel_rfl];exact{{rfl,λ_ _ _ _ _ _ _ _=>{_,rfl,rfl}},trivial}}
def fa:Fa:=LD.tM (tb.map (λe=>(e.i,e.f))++[]) [(3,37),(7,49),(8,61)] 24
def BJ:∀ns:List Int,ns.length<=63->∃M,aj Pg 40 164 [.frz (ns.map D.int)] []=.ok (.bl true) M:=Lk (by repeat' (first|rfl|constructor))
end K31
open PySem PySem.W PyProof.Rows K31
set_option maxRecDepth 100000 in
set_option maxHeartbeats 0 in
theorem PySem.Challenge.cw_leastdeeds_k31_counts_told_holds : PySem.Challenge.rw_leastdeeds_k31_counts_told.Holds := by
 w_on;o_law
 refine PySem.W.holds_open (r:=K31.wy) (q:=K31.kq) (loose:=K31.oP) (Xt:=fun s=>PySem.W.xlAt K31.kq [] s&&PySem.W.recOk (PySem.W.RowW.records K31.wy.toRowW) s) (XP:=PySem.W.XL K31.kq []) (Yf:=K31.kH.obs) (Ya:=K31.kH.val) (YP:=K31.kH.says) (N:=4988) K31.Ll K31.kH.of K31.kH.keeps (fun s e=>PySem.W.xl_of s (QA.mp e).1) PySem.W.XL.keeps `r `r `r (fun s e=>PySem.W.recFacts_of (QA.mp e).2) `r (by first|assumption|decide +kernel) `k ⟨rfl,rfl,rfl,rfl,rfl,`k⟩ ?hw ?hc
 case hw=>w_witness2
 refine L2.Ep (l:=PySem.Challenge.rw_leastdeeds_k31_counts_told) (n:=63) (k:=84) (x:="script") (CX:=fun w=>LD.iY PySem.Challenge.rw_leastdeeds_k31_counts_told.prog w) (K:=K31.kh) (sp:=fun w=>LD.C6 (K31.kh w.params)) rfl `d rfl ⟨rfl,`d,`d,rfl⟩ (fun w h Y=>PySem.W.kIn_of Y) ?F (fun w H a ns hl hO hS=>⟨a,ns,rfl,hS,hO,hl,fun _=>rfl⟩) (fun _ _ _ _ _ z=>let⟨_,_,_,_,_,_,_,_,_,_,q⟩:=z;q)
 case F=>
  intro w mg fa h KX G hmg;have tk:LD.D8 (K31.kh w.params) K31.tb:=⟨by kernel_rfl,by kernel_rfl,by kernel_rfl,by kernel_rfl⟩
  obtain⟨m,fd,F⟩:=LD.EK tk KX G (e:=K31.tb[43]) (QR _) rfl rfl;have d_NEW_WORDS:=LD.u5 (x:="NEW_WORDS") (P:=w.params) (fa:=K31.fa) (fs:=LD.cH) (ad:=190) (es:=#[{hash:=PySem.PyData.keyHash w.params (PySem.Str.ofString "turn"),key:=PySem.Value.str (PySem.Str.ofString "turn") 460,val:=PySem.Value.ref 168},{hash:=PySem.PyData.keyHash w.params (PySem.Str.ofString "join"),key:=PySem.Value.str (PySem.Str.ofString "join") 461,val:=PySem.Value.ref 175},{hash:=PySem.PyData.keyHash w.params (PySem.Str.ofString "move"),key:=PySem.Value.str (PySem.Str.ofString "move") 462,val:=PySem.Value.ref 182},{hash:=PySem.PyData.keyHash w.params (PySem.Str.ofString "put"),key:=PySem.Value.str (PySem.Str.ofString "put") 463,val:=PySem.Value.ref 189}]) (n:=4) KX G (by kernel_rfl) (by kernel_rfl) (by exact LD.gA (LD.gA (LD.gA (LD.gA (LD.zj))))) `k `d (by exact .cons ⟨rfl,rfl⟩ (.cons ⟨rfl,rfl⟩ (.cons ⟨rfl,rfl⟩ (.cons ⟨rfl,rfl⟩ (.nil)))))
  have d_SORTS:=LD.u5 (x:="SORTS") (P:=w.params) (fa:=K31.fa) (fs:=LD.cF) (ad:=137) (es:=#[{hash:=PySem.PyData.keyHash w.params (PySem.Str.ofString "turn"),key:=PySem.Value.str (PySem.Str.ofString "turn") 370,val:=PySem.Value.ref 115},{hash:=PySem.PyData.keyHash w.params (PySem.Str.ofString "join"),key:=PySem.Value.str (PySem.Str.ofString "join") 371,val:=PySem.Value.ref 122},{hash:=PySem.PyData.keyHash w.params (PySem.Str.ofString "move"),key:=PySem.Value.str (PySem.Str.ofString "move") 372,val:=PySem.Value.ref 129},{hash:=PySem.PyData.keyHash w.params (PySem.Str.ofString "put"),key:=PySem.Value.str (PySem.Str.ofString "put") 373,val:=PySem.Value.ref 136}]) (n:=4) KX G (by kernel_rfl) (by kernel_rfl) (by exact LD.gA (LD.gA (LD.gA (LD.gA (LD.zj))))) `k `d (by exact .cons ⟨rfl,rfl⟩ (.cons ⟨rfl,rfl⟩ (.cons ⟨rfl,rfl⟩ (.cons ⟨rfl,rfl⟩ (.nil)))))
  have TO:=fun base=>LD.EJ (base:=base) (P:=PySem.Challenge.rw_leastdeeds_k31_counts_told.prog) (w:=w) (t:=K31.tbl) (fa:=K31.fa) KX G (by kernel_rfl) (LD.GR (by kernel_rfl)) (LD.IE (by kernel_rfl)) (LD.B3 (by kernel_rfl)) ⟨rfl,rfl⟩ ⟨d_NEW_WORDS,d_SORTS,trivial⟩ trivial
  have tw:LD.AllP (fun q=>LD.vF K31.fa (K31.kh w.params) mg q.1 q.2.1 q.2.2.1 q.2.2.2) K31.tbl.tw:=⟨LD.Hd (LD.yS (x:="TooMany") (f:=61) KX G (by kernel_rfl)) (LD.yS (x:="TooMany") (f:=61) KX G (by kernel_rfl)) (by kernel_rfl),trivial⟩
  have xf:LD.AllP (fun f=>LD.D7 K31.fa (K31.kh w.params) f) K31.tbl.xf:=trivial
  have ms:∀q∈K31.tbl.ms,LD.pB K31.fa (K31.kh w.params) q.1 q.2.1 q.2.2:=LD.I8 (by kernel_rfl)
  have e:=hmg.symm.trans m;cases e;exact⟨fd,fun s v=>by
   obtain⟨oc,od,kV,doc,pm,an,cdv,ct,osl,rfl,lk,hcd⟩:=F.ex;exact .of_eq rfl,fun base _ _=>LD.Je (n:=39) (f:=164) (LD.AN K31.tab tk KX G (TO base) tw.mem xf.mem ms (by kernel_rfl)) K31.BJ rfl F (LD.oX (e:=K31.tb[43]) (O0.mp K31.tab.sc K31.tb[43] (QR _))).1 rfl fun c n a b d s H E C hr=>LD.rW (e:=K31.tb[43]) K31.tab (TO base) tw.mem xf.mem ms (QR _) c n a b d s H E C hr⟩
