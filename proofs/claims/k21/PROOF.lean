import PyProof.Rows.All
import Wide.All
import OpenK.AllK
import Wide.FinOn
import Lean
import PyProof.EqAt
import PyProof.EqKinds
import PyProof.TupleCall
import PyProof.StrOps
import PyProof.MeetsStr
import PyProof.StrLawsJoin
import PySem.Challenge.RW_leastdeeds_k21_least_rows
set_option Elab.async false
set_option linter.all false
set_option maxRecDepth 100000
set_option autoImplicit true
set_option relaxedAutoImplicit true
set_option genSizeOfSpec false
set_option genSizeOf false
set_option maxHeartbeats 0
set_option bootstrap.genMatcherCode false
set_option genSizeOf false
noncomputable section
local macro_rules(kind:=«term{_}»)|`({$a:term,*})=>`(⟨$a,*⟩)
local macro_rules(kind:=Lean.Parser.Term.quotedName)|x=>match x[0].isNameLit?.getD .anonymous|>.toString with|"a"=>`(by omega)|"d"=>`(by decide)|"s"=>`(by simp)|"o"=>`(by simp;omega)|"k"=>`(by decide +kernel)|"r"=>`(by rfl)|_=>Lean.Macro.throwUnsupported
local macro_rules|`(tactic|omega)=>`(tactic|first|(simp +arith;done)|lia|omega(config:={}))
abbrev tqa:=@PySem.wpAny_bind
abbrev tqb:=@PySem.wpAny_pure
abbrev tqf:=@PySem.wpAny_field
abbrev tqo:=@PySem.wpAny_holding
abbrev tqp:=@PySem.wpAny_truthy_bool
abbrev Qo:=@List.getElem?_eq_some_iff
abbrev Qp:=@PySem.W.Frag
abbrev Qq:=@List.length_map
abbrev Qr:=@PySem.Value
abbrev Qt:=@PySem.Heap.get?_push_of_some
abbrev Qu:=@PySem.Shared
abbrev Qv:=@List.getElem?_append_left
abbrev Qw:=@Nat.le_refl
abbrev Qx:=@List.getElem?_set_ne
abbrev Qy:=@Bool.and_eq_true
abbrev Qz:=@Option.some.inj
abbrev QA:=@Option.map_eq_some_iff
abbrev QE:=@List.mem_map
abbrev QF:=@List.mem_singleton
abbrev QG:=@List.getElem?_eq_getElem
abbrev QH:=@Nat.le_trans
abbrev QI:=@List.size_toArray
abbrev QJ:=@List.mem_cons_of_mem
abbrev QK:=@PySem.Heap.lt_size
abbrev QL:=@List.getElem?_map
abbrev QM:=@PySem.Heap.get?_push_size
abbrev QN:=@List.mem_cons_self
abbrev QR:=@Bool.false_ne_true
abbrev QS:=@Nat.lt_of_lt_of_le
abbrev QT:=@List.mem_of_getElem?
abbrev QX:=@List.all_eq_true
abbrev QY:=@Nat.ne_of_lt
abbrev QZ:=@Nat.le_of_ble_eq_true
abbrev Q0:=@List.map_append
abbrev Q1:=@PySem.AutoSeq1.wpAny_loadPart'
abbrev Q4:=@List.mem_append_right
abbrev Q5:=@List.getElem?_set_self
abbrev Rb:=@List.length_append
abbrev Rf:=@List.mem_cons
abbrev Rn:=@PySem.Heap.get?_update_other
abbrev Ro:=@List.getElem?_append_right
abbrev Rp:=@PySem.Program
abbrev Rq:=@List.mem_append
abbrev Rr:=@PySem.World
abbrev Rt:=@List.mem_map_of_mem
abbrev Ru:=@Option.bind_eq_some_iff
abbrev Rv:=@List.append_nil
abbrev Rw:=@List.getD_eq_getElem?_getD
abbrev Rx:=@List.map_map
abbrev Ry:=@PySem.Heap.get?_update_self
abbrev Rz:=@Nat.ne_of_gt
abbrev RA:=@List.lookup_cons
abbrev RB:=@Nat.zero_le
abbrev RC:=@Ne.symm
abbrev RD:=@List.take_of_length_le
abbrev RE:=@List.mem_append_left
abbrev RF:=@List.nodup_cons
abbrev RG:=@List.mem_filter
abbrev RH:=@List.append_assoc
abbrev RI:=@PySem.OsState
abbrev RJ:=@PySem.W.kia_one
abbrev RK:=@PySem.W.SharedT
abbrev RL:=@Nat.lt_irrefl
abbrev RM:=@List.take_succ
abbrev RN:=@List.all_cons
abbrev RO:=@PySem.DictEntry
abbrev RP:=@Nat.lt_succ_of_lt
abbrev RQ:=@PySem.Heap.SameBut.update
abbrev RR:=@Nat.add_sub_cancel_left
abbrev RS:=@PyProof.Rows.slot_tuple_getitem
abbrev RT:=@Iff.rfl
abbrev RU:=@List.map_cons
abbrev RV:=@Bool.eq_iff_iff
abbrev RW:=@PySem.Around
abbrev RX:=@List.length_take
abbrev RY:=@List.length_cons
abbrev RZ:=@beq_eq_false_iff_ne
abbrev R0:=@List.length_range
abbrev R1:=@Int.toNat_natCast
abbrev R3:=@List.length_filter_le
abbrev R4:=@Nat.not_lt_zero
abbrev R5:=@Nat.lt_or_ge
abbrev R6:=@PySem.Env
abbrev R7:=@List.any_eq_true
abbrev R8:=@PyProof.Rows.callWith_type1
abbrev R9:=@PySem.Obj.data_mapFields
abbrev Sa:=@PySem.W.mg_of
abbrev Sb:=@List.exists_of_findSome?_eq_some
abbrev Sd:=@Array.getElem?_eq_some_iff
abbrev Se:=@Array.getElem?_eq_getElem
abbrev Sf:=@PySem.Paired
abbrev Sg:=@PySem.Heap.size_push
abbrev Sh:=@PySem.Heap.SameBut
abbrev Si:=@List.mem_of_mem_take
abbrev Sj:=@Bool.and_eq_true_iff
abbrev Sk:=@List.nodup_append
abbrev Sl:=@List.length_eq_zero_iff
abbrev Sm:=@Bool.or_eq_true
abbrev Sn:=@PySem.Params
abbrev So:=@PySem.Around.under_plainId
abbrev Sq:=@List.replicate_succ
abbrev Sr:=@Nat.le_add_right
abbrev Ss:=@Nat.lt_of_le_of_lt
abbrev Su:=@List.mem_range
abbrev Sv:=@Int.emod_lt_of_pos
abbrev Sw:=@Int.emod_nonneg
abbrev Sx:=@Option.isSome_map
abbrev Sy:=@Nat.le_of_lt
abbrev Sz:=@Array.length_toList
abbrev SA:=@List.getElem_mem
abbrev SD:=@List.getElem?_replicate
abbrev SF:=@PySem.Comprehension
abbrev SG:=@PySem.F.plain_min_loop
abbrev SH:=@PyProof.Rows.IntsAre
abbrev SI:=@Nat.add_assoc
abbrev SJ:=@List.flatten_cons
abbrev SK:=@Function.comp_def
abbrev SM:=@PySem.F.slot_dict_keyiterator_next
abbrev SN:=@PySem.Obj.isFreed_of_fields
abbrev SO:=@Option.isNone_iff_eq_none
abbrev SQ:=@PySem.mem_of_lookup
abbrev SR:=@List.map_congr_left
abbrev SU:=@List.getElem?_range
namespace HD
open PySem PySem.W
noncomputable def ib (tb:String->Option Builtin)(p:Rp)(w:Rr)(n0:Nat)(ann:Option Qr):Nat->RK->Thread->Option RK
 |0,_,_=>none
 | n + 1, s, t => match through t with
   |true=>some s
   | false => match stepOk n0 ann t with
     |false=>none
     | true => match stepT (denote tb) p w s t with
       |some (s',t')=>ib tb p w n0 ann n s' t'
       |none=>none
def rN {tb:String->Option Builtin}{p:Rp}{w:Rr}{n0:Nat}{ann:Option Qr}:∀{n:Nat}{s s':RK}{t:Thread},ib tb p w n0 ann n s t=some s'->topRun tb p w n0 ann n s.abs t=some s'.abs
 |0,_,_,_,h=>by cases h
 | n + 1, s, s', t, h => by
   unfold ib at h;unfold topRun;cases he:through t with
   |true=>rw[he] at h;cases h;rfl
   | false =>
     rw[he] at h;cases hk:stepOk n0 ann t with
     |false=>rw[hk] at h;cases h
     | true =>
       rw[hk] at h;cases hs:stepT (denote tb) p w s t with
       |none=>rw[hs] at h;cases h
       |some r=>obtain⟨s2,t2⟩:=r;rw[hs] at h;rw[stepT_spec hs];exact rN h
noncomputable def treeOf:List Obj->Nat->BT->BT
 |[],_,t=>t
 |o::r,n,t=>treeOf r (n+1) (t.ins n o)
noncomputable def yr (P:Sn)(os:RI):RK:={treeOf (boot_heap P).objs.toList 0 .nil,(boot_heap P).objs.toList.length,(boot_heap P).life,#[],boot_drawn,boot_toks,os}
def boot_abs (P:Sn)(os:RI):(yr P os).abs={boot_heap P,#[],boot_drawn,boot_toks,os}:=by kernel_rfl
noncomputable def lI (p q:Rp)(loose:List Str)(Xt:Qu->Bool)(g0:Bool)(h0:Heap){α:Type}(Yf:Qu->α)(s:Qu):=
 ((staticsOk (importedModules p.main.body) h0 s.heap&&namesBound p s.heap&&gensDone s&&laidKept h0 s.heap),openSeen q loose (importedModules p.main.body) Xt g0 s,Yf s)
noncomputable def wC (tb:String->Option Builtin)(p:Rp)(w:Rr)(n0:Nat)(ann:Option Qr):Nat->RK->Thread->Option (RK×Thread)
 |0,s,t=>some (s,t)
 | n + 1, s, t => match through t with
   |true=>none
   | false => match stepOk n0 ann t with
     |false=>none
     | true => match stepT (denote tb) p w s t with
       |some (s',t')=>wC tb p w n0 ann n s' t'
       |none=>none
noncomputable def lD (tb:String->Option Builtin)(p:Rp)(w:Rr)(n0:Nat)(ann:Option Qr):Nat->RK->Thread->Option (Flow×RK×Code×Pos)
 |0,_,_=>none
 | n + 1, s, t => match endAt 1 t with
   |some f=>some (f,s,t.code,t.pos)
   | none => match stepOk n0 ann t with
     |false=>none
     | true => match stepT (denote tb) p w s t with
       |some (s',t')=>lD tb p w n0 ann n s' t'
       |none=>none
section
variable{tb:String->Option Builtin}{p:Rp}{w:Rr}{n0:Nat}{ann:Option Qr}
def A1:∀{n:Nat}{s s':RK}{t t':Thread},wC tb p w n0 ann n s t=some (s',t')->topGo tb p w n0 ann n s.abs t=some (s'.abs,t')
 |0,s,s',t,t',h=>by cases h;rfl
 | n + 1, s, s', t, t', h => by
   unfold wC at h;unfold topGo;cases he:through t with
   |true=>rw[he] at h;cases h
   | false =>
     rw[he] at h;cases hk:stepOk n0 ann t with
     |false=>rw[hk] at h;cases h
     | true =>
       rw[hk] at h;cases hs:stepT (denote tb) p w s t with
       |none=>rw[hs] at h;cases h
       |some q=>obtain⟨s2,t2⟩:=q;rw[hs] at h;rw[stepT_spec hs];exact A1 h
def qx:∀{n:Nat}{s s':RK}{t:Thread}{f:Flow}{c:Code}{q:Pos},lD tb p w n0 ann n s t=some (f,s',c,q)->segRun tb p w n0 ann 1 n s.abs t=some (f,s'.abs,c,q)
 |0,_,_,_,_,_,_,h=>by cases h
 | n + 1, s, s', t, f, c, q, h => by
   unfold lD at h;unfold segRun;cases he:endAt 1 t with
   |some g=>rw[he] at h;cases h;rfl
   | none =>
     rw[he] at h;cases hk:stepOk n0 ann t with
     |false=>rw[hk] at h;cases h
     | true =>
       rw[hk] at h;cases hs:stepT (denote tb) p w s t with
       |none=>rw[hs] at h;cases h
       |some x=>obtain⟨s2,t2⟩:=x;rw[hs] at h;rw[stepT_spec hs];exact qx h
def uZ {n3 N:Nat}{s s2:RK}{env:Env}{c:Code}{p' p2 q:Pos}{b:List Stmt}{J:Nat}{α:Type}{f:Qu->α}{a:α}
 (h3:lD tb p w n0 ann n3 s (piecesOf (b.take J) env c p' [topFrame q])=some (.next,s2,c,p2))
 (h4:(topRun tb p w n0 ann N s2.abs (restOf (b.drop J) env c p2 [topFrame q])).map f=some a):(topRun tb p w n0 ann (n3+N) s.abs (restOf b env c p' [topFrame q])).map f=some a:=by
 obtain⟨r,e3,e4⟩:=QA.mp h4;have k4:=piece_app (qx h3) e3;rw[List.take_append_drop] at k4;rw[k4];exact congrArg some e4
def A9 {N:Nat}{s2:RK}{t:Thread}{p' q:Rp}{loose:List Str}{Xt:Qu->Bool}{g0:Bool}{h0:Heap}{α:Type}{Yf:Qu->α}{a b c}
 (h1:(ib tb p w n0 ann N s2 t).map (λs=>(lI p' q loose Xt g0 h0 Yf s.abs).1)=some a) (h2:(ib tb p w n0 ann N s2 t).map (λs=>(lI p' q loose Xt g0 h0 Yf s.abs).2.1)=some b)
 (h3:(ib tb p w n0 ann N s2 t).map (λs=>(lI p' q loose Xt g0 h0 Yf s.abs).2.2)=some c):(topRun tb p w n0 ann N s2.abs t).map (lI p' q loose Xt g0 h0 Yf)=some (a,b,c):=by
 obtain⟨r,e3,rfl⟩:=QA.mp h1;rw[e3] at h2 h3;cases h2;cases h3;rw[rN e3];rfl
def Ba {n1 n2 N:Nat}{s s':RK}{env:Env}{c:Code}{pos p' q:Pos}{t:Thread}{b:List Stmt}{J:Nat}{α:Type}{f:Qu->α}{a:α}
 (h1:(wC tb p w n0 ann n1 s t).map (·.2)=some {denote tb (.body b env),c,pos,[topFrame q]}) (h0:endAt 1 (blockOf b env c pos [topFrame q])=some .next)
 (h2:((wC tb p w n0 ann n1 s t).bind λx=>lD tb p w n0 ann n2 x.1 (piecesOf (b.take J) env c pos [topFrame q]))=some (.next,s',c,p'))
 (h3:(topRun tb p w n0 ann N s'.abs (restOf (b.drop J) env c p' [topFrame q])).map f=some a):(topRun tb p w n0 ann (n1+(1+(n2+N))) s.abs t).map f=some a:=by
 obtain⟨⟨s1,t1⟩,e1,e2⟩:=QA.mp h1;have e2:t1={denote tb (.body b env),c,pos,[topFrame q]}:=e2;subst e2;rw[e1] at h2;have h2:lD tb p w n0 ann n2 s1 (piecesOf (b.take J) env c pos [topFrame q])=some (.next,s',c,p'):=h2
 obtain⟨r,e3,e4⟩:=QA.mp h3;have k3:=piece_app (qx h2) e3;rw[List.take_append_drop] at k3;have hb:segRun tb p w n0 ann 1 1 s1.abs (blockOf b env c pos [topFrame q])=some (.next,s1.abs,c,pos):=by
  show(match endAt 1 (blockOf b env c pos [topFrame q]) with|some f=>some (f,s1.abs,c,pos)|none=>_)=_
  rw[h0]
 have k2:=piece_block hb k3;rw[go_top (A1 e1) k2];exact congrArg some e4
end
def vG {p q:Rp}{loose:List Str}{Xt:Qu->Bool}{α:Type}{Yf:Qu->α}{Ya:Rr->α}{N:Nat}{g0:Bool}{m0:Nat}{ann:Option Qr}
 (open_:∀w:Rr,(fencedOpening treeTable p w N).map (λs=>(s.heap,s.gens,s.drawn,s.toks))=some (boot_heap w.params,Array.mk [],boot_drawn,boot_toks))
 (size:∀w:Rr,((boot_heap w.params).isNs mainGlobals&&(Array.mk ([]:List GenState)).size==0,(boot_heap w.params).objs.size,(boot_heap w.params).nsMap mainGlobals "__annotations__")=(true,m0,ann))
 (run:∀(w:Rr) (os:RI),(topRun treeTable p w m0 ann N (yr w.params os).abs (topStub p)).map (lI p q loose Xt g0 (boot_heap w.params) Yf)=some (true,openGood q loose,Ya w)):LeftO p q loose Xt Yf Ya N g0:=λw=>by
 obtain⟨⟨h,gs,d,k,os⟩,e,e'⟩:=QA.mp (open_ w);obtain⟨rfl,rfl,rfl,rfl⟩:h=boot_heap w.params/\gs=Array.mk []/\d=boot_drawn/\k=boot_toks:=by simpa using e'
 obtain⟨z1,z2,z3⟩:_/\_/\_:=by simpa only[Prod.mk.injEq] using size w
 obtain⟨s1,r,l⟩:=QA.mp (run w os);obtain⟨l1,l2,l3⟩:_/\_/\_:=by simpa only[lI,Prod.mk.injEq] using l
 rw[boot_abs] at r;have t:topFrom treeTable p w N {boot_heap w.params,Array.mk [],boot_drawn,boot_toks,os}=some s1:=by
  unfold topFrom;dsimp only;rw[z1,z2,z3,r];show(match staticsOk (importedModules p.main.body) (boot_heap w.params) s1.heap&&namesBound p s1.heap&&gensDone s1&&laidKept (boot_heap w.params) s1.heap with|true=>_|false=>_)=_
  rw[l1]
 unfold openEnds;rw[e];show(topFrom treeTable p w N _).map _=_;rw[t];exact congrArg some (Prod.ext l2 l3)
end HD
namespace K21
open PySem
abbrev eN (P:Sn)(x:Str)(n:Nat)(v:Qr):RO:={PyData.keyHash P x,.str x n,v}
noncomputable def kInC (j:Nat)(s:Stmt):Stmt:=match s with
 |.ClassDef _ _ _ b _ _ _ _ _ _ _=>b.getD j s
 |_=>s
noncomputable def km (i:Nat):Stmt:=PySem.Challenge.pw_leastdeeds_k21_least_rows.main.body.getD i (.Pass {0,0,0,0})
noncomputable def xX (s:Stmt):Arguments:=match s with
 |.FunctionDef _ a _ _ _ _ _ _ _ _=>a
 |_=>{[],[],none,[],[],none,[]}
noncomputable def xW (s:Stmt):List Stmt:=match s with
 |.FunctionDef _ _ b _ _ _ _ _ _ _=>b
 |_=>[]
noncomputable def uE (s:Stmt):Scope:=match s with
 |.FunctionDef _ _ _ _ _ _ sc _ _ _=>sc
 |_=>{kind:=.function,names:=[],isGenerator:=false,isCoroutine:=false}
noncomputable def o1:Obj:={cls:=.type "tuple" ,data:=.seq #[]}
noncomputable def o2 (a:String)(b:Nat)(c:Int)(d:Nat)(e:Int):Obj:={cls:=.type "code" ,data:=.fields #[.str (Str.ofString a) b ,.str (Str.ofString a) (b+1) ,.str ("/claim/cut.py") (b+2) ,.int c 0 ,.int 0 0 ,.int 0 0 ,.int 0 0 ,.int 0 0 ,.ref d ,.bool false ,.int 181 0 ,.ref (d+1) ,.none ,.none ,.none ,.none ,.int e 0 ,.int c 0 ,.str ("/claim/cut.py") (b+4)]}
noncomputable def o3 (a:Nat)(b:Nat)(c:String)(d:Nat):Obj:={cls:=.type "frame" ,slots:=#[some (.ref a) ,some (.ref 3) ,some (.ref b) ,none ,some (.str (Str.ofString c) d) ,none ,some (.ref 0)]}
noncomputable def o4:Obj:={cls:=.type "builtin_function_or_method" ,data:=.fields #[.builtin "type.__prepare__" ,.type "type"]}
noncomputable def o5 (P:Sn)(a:Nat)(b:String)(c:Int)(d:Nat):Obj:={cls:=.type "dict" ,data:=.dict #[{hash:=PyData.keyHash P ("__module__") ,key:=.str ("__module__") a ,val:=.str ("leastdeeds.errors") 187} ,{hash:=PyData.keyHash P ("__qualname__") ,key:=.str ("__qualname__") (a+2) ,val:=.str (Str.ofString b) (a+1)} ,{hash:=PyData.keyHash P ("__firstlineno__") ,key:=.str ("__firstlineno__") (a+4) ,val:=.int c (a+3)} ,{hash:=PyData.keyHash P ("__static_attributes__") ,key:=.str ("__static_attributes__") (a+5) ,val:=.ref d}] 4}
noncomputable def o6:Obj:={cls:=.none ,data:=.fields #[]}
noncomputable def o7 (P:Sn):Obj:={cls:=.type "dict" ,data:=.dict #[{hash:=PyData.keyHash P ("__module__") ,key:=.str ("__module__") 196 ,val:=.str ("leastdeeds.errors") 187} ,{hash:=PyData.keyHash P ("__firstlineno__") ,key:=.str ("__firstlineno__") 200 ,val:=.int 2 199} ,{hash:=PyData.keyHash P ("__static_attributes__") ,key:=.str ("__static_attributes__") 201 ,val:=.ref 22} ,{hash:=PyData.keyHash P ("__weakref__") ,key:=.str ("__weakref__") 203 ,val:=.ref 25} ,{hash:=PyData.keyHash P ("__doc__") ,key:=.str ("__doc__") 204 ,val:=.none}] 3}
noncomputable def o8:Obj:={cls:=.type "type" ,data:=.cls {name:="DeedError" ,bases:=[.type "ValueError"] ,mro:=[.ref 24 ,.type "ValueError" ,.type "Exception" ,.type "BaseException" ,.type "object"] ,ns:=23 ,qualname:="DeedError" ,subclasses:=[.ref 37 ,.ref 49 ,.ref 61]} ,slots:=#[some (.ref 15) ,none ,some (.str ("DeedError") 189) ,some (.str ("DeedError") 197) ,some (.builtin "ValueError.__new__") ,some (.bool true)]}
noncomputable def o9 (a:Nat):Obj:={cls:=.type "super" ,data:=.fields #[.ref a ,.ref a ,.ref a]}
noncomputable def EF (a:Nat):Obj:={cls:=.type "builtin_function_or_method" ,data:=.fields #[.builtin "object.__init_subclass__" ,.ref a]}
noncomputable def Ke:Obj:={cls:=.type "tuple" ,data:=.seq #[.ref 24]}
noncomputable def Kd (P:Sn)(a:Nat)(b:Int)(c:Nat):Obj:={cls:=.type "dict" ,data:=.dict #[{hash:=PyData.keyHash P ("__module__") ,key:=.str ("__module__") a ,val:=.str ("leastdeeds.errors") 187} ,{hash:=PyData.keyHash P ("__firstlineno__") ,key:=.str ("__firstlineno__") (a+4) ,val:=.int b (a+3)} ,{hash:=PyData.keyHash P ("__static_attributes__") ,key:=.str ("__static_attributes__") (a+5) ,val:=.ref c} ,{hash:=PyData.keyHash P ("__doc__") ,key:=.str ("__doc__") (a+6) ,val:=.none}] 2}
noncomputable def Kc (a:String)(b:Nat)(c:Nat)(d:Nat)(e:Nat):Obj:={cls:=.type "type" ,data:=.cls {name:=Str.ofString a ,bases:=[.ref 24] ,mro:=[.ref b ,.ref 24 ,.type "ValueError" ,.type "Exception" ,.type "BaseException" ,.type "object"] ,ns:=c ,qualname:=Str.ofString a} ,slots:=#[some (.ref d) ,none ,some (.str (Str.ofString a) e) ,some (.str (Str.ofString a) (e+8)) ,some (.builtin "ValueError.__new__") ,some (.bool true)]}
noncomputable def Od (P:Sn)(a:Nat)(b:Nat):Obj:={cls:=.type "dict" ,data:=.dict #[{hash:=PyData.keyHash P ("turn") ,key:=.str ("turn") a ,val:=.ref b} ,{hash:=PyData.keyHash P ("join") ,key:=.str ("join") (a+1) ,val:=.ref (b+7)} ,{hash:=PyData.keyHash P ("move") ,key:=.str ("move") (a+2) ,val:=.ref (b+14)} ,{hash:=PyData.keyHash P ("put") ,key:=.str ("put") (a+3) ,val:=.ref (b+21)}] 4}
noncomputable def o15:Obj:={cls:=.type "tuple" ,data:=.seq #[.none]}
noncomputable def o16:Obj:={cls:=.type "code" ,data:=.fields #[.str ("reached") 534 ,.str ("reached") 535 ,.str ("/claim/cut.py") 536 ,.int 132 0 ,.int 2 0 ,.int 0 0 ,.int 0 0 ,.int 3 0 ,.ref 233 ,.bool true ,.int 181 0 ,.ref 234 ,.none ,.ref 235 ,.ref 236 ,.ref 237 ,.int 543 0 ,.int 132 0 ,.str ("/claim/cut.py") 544]}
noncomputable def o17:Obj:={cls:=.type "function" ,data:=.func {name:="reached" ,qualname:="reached" ,params:=xX (km 44) ,body:=PySem.FuncBody.stmts (xW (km 44)) ,scope:=uE (km 44) ,globals:=3 ,closure:=[] ,defaults:=.ref 232 ,kwdefaults:=.none ,pyModule:=.str ("leastdeeds.least") 501 ,code:=.ref 238}}
noncomputable def kS (i:Nat):Str×Nat×Nat×List Str×Bool:=match km i with
 |.FunctionDef x a _ _ _ _ sc _ _ p=>(x,p.line,a.args.length,sc.names.filterMap (λq=>match q.2 with|.local=>some q.1|_=>none),sc.names.any (λq=>match q.2 with|.cell=>true|_=>false)||i==38||i==52||i==67)
 |_=>("",0,0,[],false)
noncomputable def kN (i:Nat):Nat:=bif (kS i).2.2.2.2 then 0 else(kS i).2.2.2.1.length
noncomputable def AU (i:Nat):Nat:=bif (kS i).2.2.2.2 then 5 else 7
noncomputable def mO:Nat->Nat->Nat->Nat->List (Nat×Nat×Nat)
 |0,_,_,_=>[]
 |n+1,i,e,t=>(i,e,t)::mO n (i+1) (e+AU i) (t+kN i+6)
noncomputable def oy:Nat×Nat×Nat->List Qr:=λ(i,e,_)=>[.int (kS i).2.1 0,.int 0 0,.ref (e+AU i-2)]
noncomputable def oz (P:Sn):Nat×Nat×Nat->RO:=λ(i,e,t)=>{PyData.keyHash P (kS i).1,.str (kS i).1 (t+kN i+5),.ref (e+AU i-1)}
noncomputable def Fd (c:Qr)(i g:Nat)(m d:Qr):Obj:={cls:=c,data:=.func {name:=(kS i).1,qualname:=(kS i).1,params:=xX (km i),body:=.stmts (xW (km i)),scope:=uE (km i),globals:=g,closure:=[],defaults:=.none,kwdefaults:=.none,pyModule:=m,code:=d}}
noncomputable def kO (m:Str)(k:Nat):Nat×Nat×Nat->List Obj:=λ(i,e,t)=>
 let x:=(kS i).1
 let l:Qr:=.int (kS i).2.1 0
 let q:=t+kN i
 let c:=λ(a:Qr) (b:Qr) (d:Nat)=>({cls:=.type "code",data:=.fields #[.str x t,.str x (t+1),.str "/claim/cut.py" (t+2),l,.int (kS i).2.2.1 0,.int 0 0,.int 0 0,.int 3 0,.ref e,.bool true,.int 181 0,.ref (e+1),.none,a,b,.ref (e+d),.int (q+3:Nat) 0,l,.str "/claim/cut.py" (q+4)]}:Obj)
 [o1,{cls:=.none,data:=.fields #[]}]++bif (kS i).2.2.2.2 then [Fd .none i 0 .none .none,c .none .none 2,Fd (.type "function") i 3 (.str m k) (.ref (e+3))] else [{cls:=.type "tuple",data:=.seq (((kS i).2.2.2.1.zipIdx (t+3)).map λp=>.str p.1 p.2).toArray},o1,Fd .none i 0 .none .none,c (.ref (e+2)) (.ref (e+3)) 4,Fd (.type "function") i 3 (.str m k) (.ref (e+5))]
noncomputable def oA:Nat×Nat×Nat->List Addr:=λ(i,e,_)=>[e+AU i-2,e+AU i-1]
noncomputable def EV:=mO 1 6 64 257
noncomputable def EU:=mO 10 13 71 278
noncomputable def ET:=mO 4 24 138 379
noncomputable def ES:=mO 4 29 162 411
noncomputable def ER:=mO 1 34 191 469
noncomputable def EO:=mO 3 36 198 481
noncomputable def EN:=mO 1 41 215 505
noncomputable def EM:=mO 2 42 220 511
noncomputable def EL:=mO 1 45 240 546
noncomputable def EK:=mO 29 47 245 554
noncomputable def Oj:List Qr:=[.int 2 0,.int 0 0,.ref 20,.int 4 0,.int 0 0,.ref 33,.int 6 0,.int 0 0,.ref 45,.int 8 0,.int 0 0,.ref 57]++EV.flatMap oy
noncomputable def Oi:List Qr:=Oj++EU.flatMap oy++ET.flatMap oy++ES.flatMap oy++ER.flatMap oy++EO.flatMap oy++EN.flatMap oy
noncomputable def kt2:List Qr:=Oi++EM.flatMap oy++[.int 132 0,.int 0 0,.ref 238]++EL.flatMap oy++EK.flatMap oy
noncomputable def Oo (P:Sn):List RO:=[eN P "__doc__" 166 (.none),eN P "__package__" 167 (.none),eN P "__loader__" 168 (.builtin "__main__.__loader__#opaque"),eN P "__spec__" 169 (.none),eN P "__annotations__" 170 (.ref 6),eN P "__builtins__" 171 (.ref 4),eN P "__file__" 173 (.str "/claim/cut.py" 172),eN P "__cached__" 174 (.none),eN P "DeedError" 206 (.ref 24),eN P "NoMachine" 222 (.ref 37),eN P "NoWork" 238 (.ref 49),eN P "TooMany" 254 (.ref 61)]++EV.map (oz P)++[eN P "LEAST_WORDS" 269 (.int 2 268)]
noncomputable def Om (P:Sn):List RO:=Oo P++[eN P "MOST_WORDS" 271 (.int 4 270),eN P "MOST_PLACES" 273 (.int 2 272),eN P "MOST_DEEDS" 275 (.int 6 274),eN P "MOST_COST" 277 (.int 3 276)]++EU.map (oz P)++[eN P "SORTS" 378 (.ref 137)]++ET.map (oz P)++ES.map (oz P)++[eN P "NEW_WORDS" 468 (.ref 190)]++ER.map (oz P)++EO.map (oz P)++[eN P "MOST_BEHAVIOURS" 504 (.int 255 503)]++EN.map (oz P)
noncomputable def Ol (P:Sn):List RO:=Om P++EM.map (oz P)++[eN P "reached" 545 (.ref 239)]++EL.map (oz P)++EK.map (oz P)
noncomputable def Ov (P:Sn):List Obj:=[o1,{cls:=.none,data:=.fields Oj.toArray},o2 "<module>" 182 1 11 185,o3 13 3 "__main__" 164,{cls:=.type "tuple",data:=.seq #[.type "ValueError"]},o4,o5 P 196 "DeedError" 2 22,o1,o6,o2 "DeedError" 191 2 18 194,o3 20 17 "leastdeeds.errors" 187,o1,o7 P,o8,{cls:=.type "getset_descriptor",data:=.fields #[.str "__weakref__" 202,.ref 24,.builtin "ExceptionGroup.__weakref__",.none]},o9 24,EF 24,Ke,o4,o5 P 214 "NoMachine" 4 35,o1,o6,o2 "NoMachine" 209 4 31 212,o3 33 30 "leastdeeds.errors" 187,o1,Kd P 214 4 35,Kc "NoMachine" 37 36 28 207,o9 37,EF 37,Ke,o4,o5 P 230 "NoWork" 6 47,o1,o6,o2 "NoWork" 225 6 43 228,o3 45 42 "leastdeeds.errors" 187,o1,Kd P 230 6 47,Kc "NoWork" 49 48 40 223,o9 49,EF 49,Ke,o4,o5 P 246 "TooMany" 8 59,o1,o6,o2 "TooMany" 241 8 55 244,o3 57 54 "leastdeeds.errors" 187,o1,Kd P 246 8 59,Kc "TooMany" 61 60 52 239,o9 61,EF 61]++EV.flatMap (kO "leastdeeds.wholes" 255)
noncomputable def Ou (P:Sn):List Obj:=((Ov P).set 1 ({cls:=.none,data:=.fields Oi.toArray}))++EU.flatMap (kO "leastdeeds.machines" 266)++[Od P 370 115]++ET.flatMap (kO "leastdeeds.machines" 266)++ES.flatMap (kO "leastdeeds.runs" 409)++[Od P 460 168]++ER.flatMap (kO "leastdeeds.runs" 409)++EO.flatMap (kO "leastdeeds.works" 479)++EN.flatMap (kO "leastdeeds.least" 501)
noncomputable def Ot (P:Sn):List Obj:=((Ou P).set 1 ({cls:=.none,data:=.fields kt2.toArray}))++EM.flatMap (kO "leastdeeds.least" 501)++[o15,o1,o6,{cls:=.type "tuple",data:=.seq #[.str "machine" 537,.str "bound" 538,.str "leads" 539,.str "empty_ends" 540,.str "found" 541,.str "levels" 542]},o1,{cls:=.none,data:=.func {name:="reached",qualname:="reached",params:=xX (km 44),body:=PySem.FuncBody.stmts (xW (km 44)),scope:=uE (km 44),globals:=0,closure:=[],defaults:=.none,kwdefaults:=.none,pyModule:=.none,code:=.none}},o16,o17]++EL.flatMap (kO "leastdeeds.least" 501)++EK.flatMap (kO "law_leastdeeds_k21_least_rows" 552)
noncomputable def Oq:List Addr:=[23,24,36,37,48,49,60,61,137,190,232,238,239]++EV.flatMap oA++EU.flatMap oA++ET.flatMap oA++ES.flatMap oA++ER.flatMap oA++EO.flatMap oA++EN.flatMap oA++EM.flatMap oA++EL.flatMap oA++EK.flatMap oA
noncomputable def kh:Sn->Qp:=λP=>[(3,{cls:=.type "dict",data:=.dict (eN P "__name__" 165 (.str "law_leastdeeds_k21_least_rows" 552)::Ol P).toArray 78})]++List.map (λa=>(a,(Ot P).getD (a-11) o1)) Oq
noncomputable def KJ:List Addr:=[3]++Oq
def Pf:∀P,KJ=(kh P).map (·.1):=λ_=>by kernel_rfl
noncomputable def kq:Rp:=PySem.W.view PySem.Challenge.pw_leastdeeds_k21_least_rows [1,2,3,4,6,8,9,10,11,12,13,14,15,16,17,18,19,20,21,22,23,24,25,26,27,29,30,31,32,33,34,36,37,38,40,41,42,43,45,47,48,49,50,51,52,53,54,55,56,57,58,59,60,61,62,63,64,65,66,67,68,69,70,71,72,73,74,75]
abbrev kH:PySem.W.Hook:=PySem.W.kHook kh KJ Pf
noncomputable def pX:List Str:=["SORTS","NEW_WORDS","reached"]
abbrev xV:=PySem.Challenge.rw_leastdeeds_k21_least_rows.row
abbrev kX:Qu->Bool:=λs=>PySem.W.xlAt kq [] s&&PySem.W.recOk (PySem.W.RowW.records xV.toRowW) s
noncomputable def E8 (P:Sn)(os:RI):RK:={HD.treeOf ((((PySem.W.boot_heap P).objs.toList.set 3 ({cls:=.type "dict",data:=.dict (eN P "__name__" 165 (.str "leastdeeds.machines" 266)::Oo P).toArray 15})))++Ov P) 0 .nil,71,{},#[],{},270,os}
noncomputable def E7 (P:Sn)(os:RI):RK:={HD.treeOf ((((PySem.W.boot_heap P).objs.toList.set 3 ({cls:=.type "dict",data:=.dict (eN P "__name__" 165 (.str "leastdeeds.least" 501)::Om P).toArray 45})))++Ou P) 0 .nil,220,{},#[],{},511,os}
noncomputable def E6 (P:Sn)(os:RI):RK:={HD.treeOf ((((PySem.W.boot_heap P).objs.toList.set 3 ({cls:=.type "dict",data:=.dict (eN P "__name__" 165 (.str "law_leastdeeds_k21_least_rows" 552)::Ol P).toArray 78})))++Ot P) 0 .nil,422,{},#[],{},814,os}
noncomputable def kE:Env:={scope:=PySem.Challenge.pw_leastdeeds_k21_least_rows.main.scope,locals:=mainNs,globals:=mainNs,cells:=[],code:=.ref 13,frame:=some 14}
noncomputable def kP (w:Rr)(os:RI):=HD.wC treeTable PySem.Challenge.pw_leastdeeds_k21_least_rows w 11 (some (.ref 6)) 12 (HD.yr w.params os) (PySem.W.topStub PySem.Challenge.pw_leastdeeds_k21_least_rows)
noncomputable def E2 (w:Rr)(os:RI):=(kP w os).bind λx=>HD.lD treeTable PySem.Challenge.pw_leastdeeds_k21_least_rows w 11 (some (.ref 6)) 893 x.1 (PySem.W.piecesOf ((PySem.W.behindTheImports PySem.Challenge.pw_leastdeeds_k21_least_rows).take 9) kE (.body (PySem.W.behindTheImports PySem.Challenge.pw_leastdeeds_k21_least_rows) kE) {0,0,0,0} [PySem.W.topFrame {0,0,0,0}])
noncomputable def EY (w:Rr)(os:RI):Option (Flow×RK×Code×Pos):=some (.next,E8 w.params os,(.body (PySem.W.behindTheImports PySem.Challenge.pw_leastdeeds_k21_least_rows) kE),{16,0,16,11})
noncomputable def E1 (w:Rr)(os:RI):=HD.lD treeTable PySem.Challenge.pw_leastdeeds_k21_least_rows w 11 (some (.ref 6)) 920 (E8 w.params os) (PySem.W.piecesOf (((PySem.W.behindTheImports PySem.Challenge.pw_leastdeeds_k21_least_rows).drop 9).take 33) kE (.body (PySem.W.behindTheImports PySem.Challenge.pw_leastdeeds_k21_least_rows) kE) {16,0,16,11} [PySem.W.topFrame {0,0,0,0}])
noncomputable def EX (w:Rr)(os:RI):Option (Flow×RK×Code×Pos):=some (.next,E7 w.params os,(.body (PySem.W.behindTheImports PySem.Challenge.pw_leastdeeds_k21_least_rows) kE),{114,0,116,94})
noncomputable def EZ (w:Rr)(os:RI):=HD.lD treeTable PySem.Challenge.pw_leastdeeds_k21_least_rows w 11 (some (.ref 6)) 1008 (E7 w.params os) (PySem.W.piecesOf ((((PySem.W.behindTheImports PySem.Challenge.pw_leastdeeds_k21_least_rows).drop 9).drop 33).take 34) kE (.body (PySem.W.behindTheImports PySem.Challenge.pw_leastdeeds_k21_least_rows) kE) {114,0,116,94} [PySem.W.topFrame {0,0,0,0}])
noncomputable def EW (w:Rr)(os:RI):Option (Flow×RK×Code×Pos):=some (.next,E6 w.params os,(.body (PySem.W.behindTheImports PySem.Challenge.pw_leastdeeds_k21_least_rows) kE),{377,0,392,15})
noncomputable def kR (w:Rr)(os:RI):=HD.ib treeTable PySem.Challenge.pw_leastdeeds_k21_least_rows w 11 (some (.ref 6)) 2928 (E6 w.params os) (PySem.W.restOf ((((PySem.W.behindTheImports PySem.Challenge.pw_leastdeeds_k21_least_rows).drop 9).drop 33).drop 34) kE (.body (PySem.W.behindTheImports PySem.Challenge.pw_leastdeeds_k21_least_rows) kE) {377,0,392,15} [PySem.W.topFrame {0,0,0,0}])
abbrev Kz (P:Sn)(s:RK):=HD.lI PySem.Challenge.pw_leastdeeds_k21_least_rows kq pX kX true (PySem.W.boot_heap P) (λs=>KJ.map s.heap.get?) s.abs
noncomputable def E5 (w:Rr)(os:RI):=(kR w os).map λs=>(Kz w.params s).1
noncomputable def E4 (w:Rr)(os:RI):=(kR w os).map λs=>(Kz w.params s).2.1
noncomputable def E3 (w:Rr)(os:RI):=(kR w os).map λs=>(Kz w.params s).2.2
noncomputable def Fc (w:Rr):=some true
noncomputable def Fb (w:Rr):=some (PySem.W.openGood kq pX)
noncomputable def E9 (w:Rr):=some ((kh w.params).map λp=>some p.2)
noncomputable def _root_.PySem.W.Fast.tw4385342615360144086:Rp:=PySem.Challenge.pw_leastdeeds_k21_least_rows
def _root_.PySem.W.Fast.te4385342615360144086:PySem.Challenge.pw_leastdeeds_k21_least_rows=PySem.W.Fast.tw4385342615360144086:=rfl
noncomputable def _root_.PySem.W.Fast.tw7451028281517430110:Sn->Qp:=K21.kh
def _root_.PySem.W.Fast.te7451028281517430110:K21.kh=PySem.W.Fast.tw7451028281517430110:=rfl
noncomputable def _root_.PySem.W.Fast.tw13576993966466201185:Sn->RI->RK:=K21.E8
def _root_.PySem.W.Fast.te13576993966466201185:K21.E8=PySem.W.Fast.tw13576993966466201185:=rfl
noncomputable def _root_.PySem.W.Fast.tw15047832648378800413:Sn->RI->RK:=K21.E7
def _root_.PySem.W.Fast.te15047832648378800413:K21.E7=PySem.W.Fast.tw15047832648378800413:=rfl
noncomputable def _root_.PySem.W.Fast.tw156335773532599264:Sn->RI->RK:=K21.E6
def _root_.PySem.W.Fast.te156335773532599264:K21.E6=PySem.W.Fast.tw156335773532599264:=rfl
def Pr:E5=E5:=rfl
name_quick kq1_21 for E5 by Pr
def Pq:E4=E4:=rfl
name_quick kq2_21 for E4 by Pq
def Pu:Fb=Fb:=rfl
name_quick kg2_21 for Fb by Pu
def Pp:E3=E3:=rfl
name_quick kq3_21 for E3 by Pp
def Pt:E9=E9:=rfl
name_quick kg3_21 for E9 by Pt
def Po:E2=E2:=rfl
name_quick kua21 for E2 by Po
def Pk:EY=EY:=rfl
name_quick kva21 for EY by Pk
def Pn:E1=E1:=rfl
name_quick kub21 for E1 by Pn
def Pj:EX=EX:=rfl
name_quick kvb21 for EX by Pj
def Pm:EZ=EZ:=rfl
name_quick kuc21 for EZ by Pm
def Ph:EW=EW:=rfl
name_quick kvc21 for EW by Ph
def AS:∀(w:Rr) (os:RI),PySem.W.Fast.kua21 (w.withFollow "special-get-raises" false) os=PySem.W.Fast.kva21 (w.withFollow "special-get-raises" false) os:=λw os=>by kernel_rfl
def Dg:∀(w:Rr) (os:RI),PySem.W.Fast.kua21 (w.withFollow "special-get-raises" true) os=PySem.W.Fast.kva21 (w.withFollow "special-get-raises" true) os:=λw os=>by kernel_rfl
def ka0:∀(w:Rr) (os:RI),E2 w os=EY w os:=λw os=>by
 rw[PySem.W.Fast.kua21_eq,PySem.W.Fast.kva21_eq];exact PySem.W.byRow2 "special-get-raises" (P:=λw=>PySem.W.Fast.kua21 w os=PySem.W.Fast.kva21 w os) (λw=>AS w os) (λw=>Dg w os) w
def AR:∀(w:Rr) (os:RI),PySem.W.Fast.kub21 (w.withFollow "special-get-raises" false) os=PySem.W.Fast.kvb21 (w.withFollow "special-get-raises" false) os:=λw os=>by kernel_rfl
def De:∀(w:Rr) (os:RI),PySem.W.Fast.kub21 (w.withFollow "special-get-raises" true) os=PySem.W.Fast.kvb21 (w.withFollow "special-get-raises" true) os:=λw os=>by kernel_rfl
def ka1:∀(w:Rr) (os:RI),E1 w os=EX w os:=λw os=>by
 rw[PySem.W.Fast.kub21_eq,PySem.W.Fast.kvb21_eq];exact PySem.W.byRow2 "special-get-raises" (P:=λw=>PySem.W.Fast.kub21 w os=PySem.W.Fast.kvb21 w os) (λw=>AR w os) (λw=>De w os) w
def AQ:∀(w:Rr) (os:RI),PySem.W.Fast.kuc21 (w.withFollow "special-get-raises" false) os=PySem.W.Fast.kvc21 (w.withFollow "special-get-raises" false) os:=λw os=>by kernel_rfl
def Dd:∀(w:Rr) (os:RI),PySem.W.Fast.kuc21 (w.withFollow "special-get-raises" true) os=PySem.W.Fast.kvc21 (w.withFollow "special-get-raises" true) os:=λw os=>by kernel_rfl
def ka2:∀(w:Rr) (os:RI),EZ w os=EW w os:=λw os=>by
 rw[PySem.W.Fast.kuc21_eq,PySem.W.Fast.kvc21_eq];exact PySem.W.byRow2 "special-get-raises" (P:=λw=>PySem.W.Fast.kuc21 w os=PySem.W.Fast.kvc21 w os) (λw=>AQ w os) (λw=>Dd w os) w
def AL:∀(w:Rr) (os:RI),PySem.W.Fast.kq1_21 (w.withFollow "special-get-raises" false) os=Fc (w.withFollow "special-get-raises" false):=λw os=>by kernel_rfl
def C8:∀(w:Rr) (os:RI),PySem.W.Fast.kq1_21 (w.withFollow "special-get-raises" true) os=Fc (w.withFollow "special-get-raises" true):=λw os=>by kernel_rfl
def kl1:∀(w:Rr) (os:RI),E5 w os=Fc w:=λw os=>by
 rw[PySem.W.Fast.kq1_21_eq];exact PySem.W.byRow2 "special-get-raises" (P:=λw=>PySem.W.Fast.kq1_21 w os=Fc w) (λw=>AL w os) (λw=>C8 w os) w
def AK:∀(w:Rr) (os:RI),PySem.W.Fast.kq2_21 (w.withFollow "special-get-raises" false) os=PySem.W.Fast.kg2_21 (w.withFollow "special-get-raises" false):=λw os=>by kernel_rfl
def C7:∀(w:Rr) (os:RI),PySem.W.Fast.kq2_21 (w.withFollow "special-get-raises" true) os=PySem.W.Fast.kg2_21 (w.withFollow "special-get-raises" true):=λw os=>by kernel_rfl
def kl2:∀(w:Rr) (os:RI),E4 w os=Fb w:=λw os=>by
 rw[PySem.W.Fast.kq2_21_eq,PySem.W.Fast.kg2_21_eq];exact PySem.W.byRow2 "special-get-raises" (P:=λw=>PySem.W.Fast.kq2_21 w os=PySem.W.Fast.kg2_21 w) (λw=>AK w os) (λw=>C7 w os) w
def AJ:∀(w:Rr) (os:RI),PySem.W.Fast.kq3_21 (w.withFollow "special-get-raises" false) os=PySem.W.Fast.kg3_21 (w.withFollow "special-get-raises" false):=λw os=>by kernel_rfl
def C6:∀(w:Rr) (os:RI),PySem.W.Fast.kq3_21 (w.withFollow "special-get-raises" true) os=PySem.W.Fast.kg3_21 (w.withFollow "special-get-raises" true):=λw os=>by kernel_rfl
def kl3:∀(w:Rr) (os:RI),E3 w os=E9 w:=λw os=>by
 rw[PySem.W.Fast.kq3_21_eq,PySem.W.Fast.kg3_21_eq];exact PySem.W.byRow2 "special-get-raises" (P:=λw=>PySem.W.Fast.kq3_21 w os=PySem.W.Fast.kg3_21 w) (λw=>AJ w os) (λw=>C6 w os) w
def kp:∀(w:Rr) (os:RI),(kP w os).map (·.2)=some {denote treeTable (.body (PySem.W.behindTheImports PySem.Challenge.pw_leastdeeds_k21_least_rows) kE),(.body (PySem.W.behindTheImports PySem.Challenge.pw_leastdeeds_k21_least_rows) kE),{0,0,0,0},[PySem.W.topFrame {0,0,0,0}]}:=λw os=>by kernel_rfl
def MX:PySem.W.LeftO xV.prog kq pX kX kH.obs kH.val 5762:=HD.vG (m0:=11) (ann:=some (.ref 6)) (PySem.W.boot_open `r `d (λ_=>rfl)) (λw=>by kernel_rfl) λw os=>HD.Ba (J:=9) (kp w os) (by kernel_rfl) (ka0 w os) (HD.uZ (J:=33) (ka1 w os) (HD.uZ (J:=34) (ka2 w os) (HD.A9 (kl1 w os) (kl2 w os) (kl3 w os))))
end K21
namespace L2
open PySem PySem.Spec PyProof.Rows
abbrev Key:=Sum Int Str
noncomputable def sR:Key->Qr->Bool
 |.inl k,v=>Value.isInt k v
 |.inr x,v=>Value.isStrOf x v
noncomputable def Pe (w:Rr):Key->Int
 |.inl k=>hashInt k
 |.inr x=>hashStr w x
def du:∀{k:Key}{v:Qr},sR k v=true->(∃i t,k=Sum.inl i/\v=Value.int i t)\/(∃x t,k=Sum.inr x/\v=Value.str x t)
 | .inl i, v, h => by
   obtain⟨t,e⟩:=Value.isInt_shape (k:=i) (v:=v) h;exact .inl ⟨i,t,rfl,e⟩
 | .inr x, v, h => by
   obtain⟨t,e⟩:=Value.isStrOf_shape (x:=x) (v:=v) h;exact .inr ⟨x,t,rfl,e⟩
def jT (x:Str)(t:Tok):sR (.inr x) (.str x t)=true:=by simp[sR,Value.isStrOf]
def KI (a b:Int):decide ((Sum.inl a:Key)=Sum.inl b)=(a==b):=by
 by_cases e:a=b
 ·subst e;simp
 ·have h:¬ (Sum.inl a:Key)=Sum.inl b:=λq=>e (Sum.inl.inj q);rw[decide_eq_false h];exact(RZ.mpr e).symm
def KC (a b:Str):decide ((Sum.inr a:Key)=Sum.inr b)=decide (a=b):=by
 by_cases e:a=b
 ·subst e;simp
 ·have h:¬ (Sum.inr a:Key)=Sum.inr b:=λq=>e (Sum.inr.inj q);rw[decide_eq_false h,decide_eq_false e]
def KH (a:Int)(b:Str):decide ((Sum.inl a:Key)=Sum.inr b)=false:=decide_eq_false (λq=>nomatch q)
def KG (a:Str)(b:Int):decide ((Sum.inr a:Key)=Sum.inl b)=false:=decide_eq_false (λq=>nomatch q)
noncomputable def kQ (prog:Rp)(w:Rr):PySem.KeyKind prog w Key where
 is:=sR
 hash:=Pe w
 inj:=λv a b ha hb=>by
  rcases du ha with⟨i,t,rfl,rfl⟩|⟨x,t,rfl,rfl⟩
  ·rcases du hb with⟨j,u,rfl,e⟩|⟨y,u,rfl,e⟩
   ·injection e with e1 _;rw[e1]
   ·exact nomatch e
  ·rcases du hb with⟨j,u,rfl,e⟩|⟨y,u,rfl,e⟩
   ·exact nomatch e
   ·injection e with e1 _;rw[e1]
 byValue:=λk v h=>by
  rcases du h with⟨i,t,rfl,rfl⟩|⟨x,t,rfl,rfl⟩<;>rfl
 pyHash:=λhv h=>by
  rcases du hv with⟨i,t,rfl,rfl⟩|⟨x,t,rfl,rfl⟩
  ·exact wpAny_pyHash_int h
  ·exact wpAny_pyHash_str h
 eqBool:=λhu hv h=>by
  rcases du hu with⟨i,t,rfl,rfl⟩|⟨x,t,rfl,rfl⟩
  ·rcases du hv with⟨j,u,rfl,rfl⟩|⟨y,u,rfl,rfl⟩
   ·rw[KI] at h;exact wpAny_eqBool_int h
   ·rw[KH] at h;exact SeqAt.EqAt.int_str i t y u _ _ _ _ h
  ·rcases du hv with⟨j,u,rfl,rfl⟩|⟨y,u,rfl,rfl⟩
   ·rw[KG] at h;exact SeqAt.EqAt.str_int x t j u _ _ _ _ h
   ·rw[KC] at h;exact wpAny_eqBool_str h
 «strs»:=λk x t v h=>by
  rcases du h with⟨i,u,rfl,e⟩|⟨y,u,rfl,e⟩
  ·exact nomatch e
  ·injection e with e1 _
   subst e1;cases v<;>rfl
inductive V where
 |non|bl (b:Bool)|int (i:Int)|str (x:Str)|byt (b:Array UInt8)|flt (b:UInt64)|ref (a:Addr)|ty (n:String)
 deriving DecidableEq
noncomputable def RelV:V->Qr->Prop
 |.non,u=>u=Value.none
 |.bl b,u=>u=Value.bool b
 |.int i,u=>∃t,u=Value.int i t
 |.str x,u=>∃t,u=Value.str x t
 |.byt b,u=>∃t,u=Value.bytes b t
 |.flt b,u=>∃t,u=Value.float b t
 |.ref a,u=>u=Value.ref a
 |.ty n,u=>u=Value.type n
abbrev Vals:List V->List Qr->Prop:=Sf RelV
def Vals.length {xs:List V}{us:List Qr}(r:Vals xs us):xs.length=us.length:=Paired.length r
def Vals.get:∀{xs:List V}{us:List Qr}{i:Nat}{x:V},Vals xs us->xs[i]?=some x->∃u,us[i]?=some u/\RelV x u
 |_,_,_,_,.nil,e=>by simp at e
 |_,_,0,_,.cons r _,e=>by simp at e;subst e;exact{_,rfl,r}
 | _, _, i + 1, x, .cons _ t, e => by
   obtain⟨u,h1,h2⟩:=Vals.get (i:=i) (x:=x) t (by simpa using e)
   exact{u,by simpa using h1,h2}
def Vals.set {x:V}{u:Qr}(r:RelV x u):∀{xs:List V}{us:List Qr} (i:Nat),Vals xs us->Vals (xs.set i x) (us.set i u)
 |_,_,_,.nil=>.nil
 |_,_,0,.cons _ t=>.cons r t
 |_,_,i+1,.cons q t=>.cons q (Vals.set r i t)
def Vals.append:∀{xs ys:List V}{us ws:List Qr},Vals xs us->Vals ys ws->Vals (xs++ys) (us++ws)
 |_,_,_,_,.nil,s=>s
 |_,_,_,_,.cons r t,s=>.cons r (Vals.append t s)
def Vals.take:∀{xs:List V}{us:List Qr} (n:Nat),Vals xs us->Vals (xs.take n) (us.take n)
 |_,_,0,_=>.nil
 |_,_,_+1,.nil=>.nil
 |_,_,n+1,.cons r t=>.cons r (Vals.take n t)
def Vals.drop:∀{xs:List V}{us:List Qr} (n:Nat),Vals xs us->Vals (xs.drop n) (us.drop n)
 |_,_,0,r=>r
 |_,_,_+1,.nil=>.nil
 |_,_,n+1,.cons _ t=>Vals.drop n t
noncomputable def DN:Option V->Option Qr->Prop
 |some v,some u=>RelV v u
 |none,none=>True
 |_,_=>False
noncomputable def KV {κ:Type}:List (κ×V)->List (κ×Qr)->Prop:=Sf λ(p:κ×V) (q:κ×Qr)=>p.1=q.1/\RelV p.2 q.2
noncomputable def kV:Key->V
 |.inl i=>.int i
 |.inr x=>.str x
inductive HO where
 |lst (xs:List V)
 |tup (xs:List V)
 |dK (kvs:List (Key×V))|dT (kvs:List (List Key×V))
 |set (S:Int->Bool) (n:Nat)
 |ins (C dx:Addr) (fs:List (Str×V))
 |own (x:Addr)
 |xd (fs:List (Str×V))
 |met (f x:Addr)
 |rng (lo hi:Int)
 |frz (o:Obj) (u:HO)
 |tbl (ps:Array Qr)
 |ext (φ:Heap->Prop)
 |dn (es:List RO)
abbrev Hp:=Addr->Option HO
noncomputable def upd (H:Hp)(a:Addr)(o:HO):Hp:=λb=>if b=a then some o else H b
def cD {H:Hp}{a:Addr}{o:HO}:upd H a o a=some o:=by unfold upd;rw[if_pos rfl]
def aG {H:Hp}{a b:Addr}{o:HO}(h:b≠a):upd H a o b=H b:=by unfold upd;rw[if_neg h]
def aX {H:Hp}{a b:Addr}{o:HO}(h:H a=some o)(h':H b=none):a≠b:=by
 intro e;subst e;rw[h] at h';cases h'
section
variable(P:Rp)(w:Rr)
noncomputable def cX (H:Hp)(h:Heap)(a:Addr):HO->Prop
 |.lst xs=>xs.length<=sizeLine/\∃(its:List Qr) (n:Nat),Vals xs its/\h.get? a=some {cls:=.type "list",data:=.seq its.toArray n}
 |.tup xs=>xs.length<=sizeLine/\∃its:List Qr,Vals xs its/\IsTup h a its.toArray
 |.dK kvs=>kvs.length<=sizeLine/\(a==sysModules)=false/\∃vs,KV kvs vs/\h.DictOf (kQ P w) a vs
 |.dT kvs=>kvs.length<=sizeLine/\(a==sysModules)=false/\∃xs:List (List Key×Addr×Qr),
  Sf (λ(p:List Key×V) (q:List Key×Addr×Qr)=>p.1=q.1/\H q.2.1=some (.tup (p.1.map kV))/\RelV p.2 q.2.2) kvs xs/\
  ∃o es ep,h.get? a=some o/\o.ExactDict/\o.data=.dict es ep/\es.toList=xs.map (entryOfKey (tupleKind (kQ P w)))/\(xs.map (·.1)).Nodup
 |.set S n=>h.SetOf (intKind P w) a S n
 |.ins C dx fs=>H dx=some (.own a)/\fs.length<=1000/\dx≠a/\h.get? a=some (PySem.W.instObj C dx)/\
  ∃mA,h.Ns1 dx mA/\(∀f,DN (fs.lookup f) (mA f))/\PySem.Within mA (fs.map (·.1))
 |.own _=>∃o,h.get? a=some o
 |.xd fs=>∃mA,h.Ns1 a mA/\∀f,DN (fs.lookup f) (mA f)
 |.rng lo hi=>∃t u v,h.get? a=some {cls:=.type "range",data:=.fields #[.int lo t,.int hi u,.int 1 v]}
 |.frz o u=>h.get? a=some o/\cX H h a u
 |.tbl ps=>h.get? a=some {cls:=.none,data:=.fields ps}
 |.met f x=>h.get? a=some (PySem.W.methodObj (.ref f) (.ref x))
 |.ext φ=>φ h/\(∃o,h.get? a=some o)/\∀h1 h2:Heap,φ h1->(∀o,h1.get? a=some o->h2.get? a=some o)->φ h2
 |.dn es=>es.length<=sizeLine/\(a==sysModules)=false/\∃o,h.get? a=some o/\o.ExactDict/\o.data=.dict es.toArray es.length
noncomputable def eJ (H:Hp)(h:Heap):Prop:=∀a o,H a=some o->cX P w H h a o
end
section
variable{P:Rp}{w:Rr}{H H':Hp}{h h':Heap}{a:Addr}{o:HO}
def cX.lt (x:cX P w H h a o):a<h.objs.size:=by
 cases o with
 |lst xs=>obtain⟨_,_,_,_,e⟩:=x;exact QK e
 |tup xs=>obtain⟨_,_,_,p⟩:=x;exact p.lt
 |dK kvs=>obtain⟨_,_,_,_,o,_,_,e,_⟩:=x;exact QK e
 |dT kvs=>obtain⟨_,_,_,_,o,_,_,e,_⟩:=x;exact QK e
 |set S n=>obtain⟨o,_,_,_,e,_⟩:=x;exact QK e
 |ins C dx fs=>obtain⟨_,_,_,e,_⟩:=x;exact QK e
 |own y=>obtain⟨_,e⟩:=x;exact QK e
 |xd fs=>obtain⟨_,⟨_,_,_,e,_⟩,_⟩:=x;exact QK e
 |rng lo hi=>obtain⟨_,_,_,e⟩:=x;exact QK e
 |frz ob u=>obtain⟨e,_⟩:=x;exact QK e
 |tbl ps=>exact QK (show h.get? a=some _ from x)
 |met f y=>exact QK (show h.get? a=some _ from x)
 |ext φ=>obtain⟨_,⟨_,e⟩,_⟩:=x;exact QK e
 |dn es=>obtain⟨_,_,_,e,_⟩:=x;exact QK e
def Sf.mapP {α β:Type}{F G:α->β->Prop}:∀{l₁:List α}{l₂:List β},Sf F l₁ l₂->(∀a b,F a b->G a b)->Sf G l₁ l₂
 |_,_,.nil,_=>.nil
 |_,_,.cons r t,f=>.cons (f _ _ r) (Sf.mapP t f)
def cX.stay (x:cX P w H h a o)(k:∀b u,(b=a\/H b=some (.own a))->h.get? b=some u->h'.get? b=some u)
 (ho:∀b,H b=some (.own a)->H' b=some (.own a)) (ht:∀b xs,H b=some (.tup xs)->H' b=some (.tup xs)):cX P w H' h' a o:=by
 induction o with
 |lst xs=>obtain⟨z,its,n,r,e⟩:=x;exact{z,its,n,r,k _ _ (.inl rfl) e}
 |tup xs=>obtain⟨z,its,r,ob,e,c⟩:=x;exact{z,its,r,ob,k _ _ (.inl rfl) e,c}
 |dK kvs=>obtain⟨z,y,vs,r,ob,es,ep,e,c⟩:=x;exact{z,y,vs,r,ob,es,ep,k _ _ (.inl rfl) e,c}
 | dT kvs =>
   obtain⟨z,y,xs,r,ob,es,ep,e,c⟩:=x;exact{z,y,xs,Sf.mapP r λp q z=>{z.1,ht _ _ z.2.1,z.2.2},ob,es,ep,k _ _ (.inl rfl) e,c}
 |set S n=>obtain⟨ob,es,ep,t,e,c⟩:=x;exact{ob,es,ep,t,k _ _ (.inl rfl) e,c}
 | ins C dx fs =>
   obtain⟨d,z,ne,e,mA,⟨od,es,ep,e2,c⟩,r⟩:=x;exact{ho _ d,z,ne,k _ _ (.inl rfl) e,mA,{od,es,ep,k _ _ (.inr d) e2,c},r}
 |own y=>obtain⟨ob,e⟩:=x;exact{ob,k _ _ (.inl rfl) e}
 |xd fs=>obtain⟨mA,⟨od,es,ep,e,c⟩,r⟩:=x;exact{mA,{od,es,ep,k _ _ (.inl rfl) e,c},r}
 |rng lo hi=>obtain⟨t,u,v,e⟩:=x;exact{t,u,v,k _ _ (.inl rfl) e}
 |frz ob u ih=>obtain⟨e,q⟩:=x;exact{k _ _ (.inl rfl) e,ih q}
 | tbl ps =>
   have e:h.get? a=some {cls:=.none,data:=.fields ps}:=x;show h'.get? a=some {cls:=.none,data:=.fields ps};exact k a _ (.inl rfl) e
 | met f y =>
   have e:h.get? a=some (PySem.W.methodObj (.ref f) (.ref y)):=x;show h'.get? a=some (PySem.W.methodObj (.ref f) (.ref y));exact k a _ (.inl rfl) e
 |ext φ=>obtain⟨p,⟨o,e⟩,st⟩:=x;exact{st _ _ p λo q=>k _ _ (.inl rfl) q,{o,k _ _ (.inl rfl) e},st}
 |dn es=>obtain⟨z,y,o,e,c⟩:=x;exact{z,y,o,k _ _ (.inl rfl) e,c}
def eJ.lt (x:eJ P w H h)(e:H a=some o):a<h.objs.size:=(x a o e).lt
def eJ.fresh (x:eJ P w H h)(e:h.objs.size<=a):H a=none:=by
 cases q:H a with
 |none=>rfl
 |some u=>exact absurd (QS (x.lt q) e) (RL _)
def eJ.kept (x:eJ P w H h)(k:∀b u,h.get? b=some u->h'.get? b=some u):eJ P w H h':=λa o e=>
 (x a o e).stay (λb u _ q=>k b u q) (λ_ q=>q) λ_ _ q=>q
def eJ.laid (x:eJ P w H h)(k:∀b u,h.get? b=some u->h'.get? b=some u)(hp:h.objs.size<=a)(new:cX P w (upd H a o) h' a o):eJ P w (upd H a o) h':=λb u e=>by
 have hn:=x.fresh hp;by_cases hb:b=a
 ·subst hb;rw[cD] at e;cases e;exact new
 ·rw[aG hb] at e;exact(x b u e).stay (λc v _ q=>k c v q) (λc q=>by rw[aG (aX q hn)];exact q) λc xs q=>by rw[aG (aX q hn)];exact q
end
noncomputable def Rd (H:Hp)(a:Addr)(u:HO):Prop:=H a=some u\/∃o,H a=some (.frz o u)
def Rd.ok {P:Rp}{w:Rr}{H:Hp}{h:Heap}{a:Addr}{u:HO}(r:Rd H a u)(x:eJ P w H h):cX P w H h a u:=by
 rcases r with r|⟨o,r⟩
 ·exact x a u r
 ·obtain⟨_,q⟩:=x a _ r;exact q
noncomputable def Fw:Option HO->Prop
 |some (.lst _)=>True
 |some (.dK _)=>True
 |some (.dT _)=>True
 |some (.set _ _)=>True
 |some (.ins _ _ _)=>True
 |some (.ext _)=>True
 |some (.dn _)=>True
 |_=>False
section
variable{P:Rp}{w:Rr}{H:Hp}{h h':Heap}{x e:Addr}{o':HO}
def eJ.write (ok:eJ P w H h)(mu:Fw (H x))(he:e=x\/H e=some (.own x))(k:∀b u,b≠e->h.get? b=some u->h'.get? b=some u)(heo:∃u,h'.get? e=some u)
 (new:cX P w (upd H x o') h' x o'):eJ P w (upd H x o') h':=λb u q=>by
 have nown:∀c y,H c=some (.own y)->c≠x:=λc y r z=>by subst z;rw[r] at mu;exact mu
 have ntup:∀c xs,H c=some (.tup xs)->c≠x:=λc xs r z=>by subst z;rw[r] at mu;exact mu
 by_cases hb:b=x
 ·subst hb;rw[cD] at q;cases q;exact new
 ·rw[aG hb] at q;by_cases hbe:b=e
  ·have q':H b=some (.own x):=by
    rcases he with z|z
    ·exact absurd (hbe.trans z) hb
    ·rw[hbe];exact z
   rw[q] at q';cases q';obtain⟨v,hv⟩:=heo;exact{v,by rw[hbe];exact hv}
  ·refine(ok b u q).stay (λc v hc r=>k c v ?_ r) (λc r=>by rw[aG (nown c b r)];exact r) λc xs r=>by rw[aG (ntup c xs r)];exact r
   rcases hc with rfl|hc
   ·exact hbe
   ·rintro rfl;rcases he with z|z
    ·exact nown c b hc z
    ·rw[hc] at z;cases z;exact hb rfl
end
structure Un (fs ex:List Addr) (H H':Hp) (h h':Heap):Prop where
 keep:∀b o,h.get? b=some o->H b=none->b∉fs->b∉ex->h'.get? b=some o
 slot:∀b o,h.get? b=some o->H b=none->b∈fs->b∉ex->∃sl,h'.get? b=some {o with slots:=sl}
 free:∀b o,h.get? b=some o->H b=none->b∉ex->H' b=none
 there:∀b o,h.get? b=some o->b∉ex->∃o',h'.get? b=some o'
 tups:∀b xs,H b=some (.tup xs)->H' b=some (.tup xs)
 frzs:∀b o u,H b=some (.frz o u)->H' b=some (.frz o u)
 tbls:∀b ps,H b=some (.tbl ps)->∃more,H' b=some (.tbl (ps++more))
section
variable{fs fs' ex ex':List Addr}{H H1 H2:Hp}{h h1 h2 h':Heap}{a x e:Addr}{o:HO}
def Un.any (u:Un fs ex H H1 h h1){b:Addr}{ob:Obj}(q:h.get? b=some ob)(n:H b=none)(hx:b∉ex):∃sl,h1.get? b=some {ob with slots:=sl}:=by
 by_cases hb:b∈fs
 ·exact u.slot b ob q n hb hx
 ·exact{ob.slots,u.keep b ob q n hb hx}
def Un.kept (k:∀b u,h.get? b=some u->h'.get? b=some u):Un fs ex H H h h':=
 {λb ob q _ _ _=>k b ob q,λb ob q _ _ _=>{ob.slots,k b ob q},λ_ _ _ n _=>n,λb ob q _=>{ob,k b ob q},λ_ _ q=>q,λ_ _ _ q=>q,λ_ ps q=>{#[],by rw[q];simp}}
def Un.refl:Un fs ex H H h h:=Un.kept λ_ _ q=>q
def Un.laid (k:∀b u,h.get? b=some u->h'.get? b=some u)(hp:h.objs.size<=a)(hn:H a=none):Un fs ex H (upd H a o) h h' where
 keep:=λb u q _ _ _=>k b u q
 slot:=λb u q _ _ _=>{u.slots,k b u q}
 free:=λb u q n _=>by rw[aG (QY (QS (QK q) hp))];exact n
 there:=λb u q _=>{u,k b u q}
 tups:=λb xs q=>by rw[aG (aX q hn)];exact q
 frzs:=λb u xs q=>by rw[aG (aX q hn)];exact q
 tbls:=λb ps q=>{#[],by rw[aG (aX q hn),q];simp}
def Un.write (mu:Fw (H x))(he:e=x\/H e=some (.own x))(k:∀b u,b≠e->h.get? b=some u->h'.get? b=some u)(heo:∃u,h'.get? e=some u):Un fs ex H (upd H x o) h h':=by
 have hx:∀b,H b=none->b≠x:=λb n z=>by subst z;rw[n] at mu;exact mu
 have hb:∀b,H b=none->b≠e:=λb n z=>by
  subst z;rcases he with r|r
  ·exact hx b n r
  ·rw[n] at r;cases r
 have hm:∀b u,H b=some u->¬ Fw (some u)->b≠x:=λb u q nm z=>by subst z;rw[q] at mu;exact nm mu
 refine{λb u q n _ _=>k b u (hb b n) q,λb u q n _ _=>{u.slots,k b u (hb b n) q},λb u q n _=>by rw[aG (hx b n)];exact n,λb u q _=>?_,
  λb xs q=>by rw[aG (hm b _ q λz=>z)];exact q,λb u xs q=>by rw[aG (hm b _ q λz=>z)];exact q,λb ps q=>{#[],by rw[aG (hm b _ q λz=>z),q];simp}}
 by_cases hbe:b=e
 ·subst hbe;exact heo
 ·exact{u,k b u hbe q}
end
noncomputable def Er (h:Heap)(H:Hp):List Addr:=(List.range h.objs.size).filter λa=>(H a).isSome
noncomputable def lO (h:Heap)(H:Hp):Heap:=PySem.W.hideAll h (Er h H)
def A0 (h:Heap)(H:Hp):(lO h H).objs.size=h.objs.size:=PySem.W.hideAll_size _ _
def Dm {h:Heap}{H:Hp}{b:Addr}{o:Obj}(e:h.get? b=some o)(n:H b=none):(lO h H).get? b=some o:=
 PySem.W.hideAll_get _ e λhm=>by
  have q:(H b).isSome=true:=(RG.mp hm).2;rw[n] at q;simp at q
def G2 {h:Heap}{H:Hp}{b:Addr}{o:Obj}(e:(lO h H).get? b=some o):h.get? b=some o/\H b=none:=by
 have e':h.get? b=some o:=PySem.W.of_hideAll (Er h H) e;refine{e',?_};cases q:H b with
 |none=>rfl
 | some x =>
   have hm:b∈Er h H:=RG.mpr {Su.mpr (QK e'),by simp[q]}
   have z:(lO h H).get? b=none:=PySem.W.hideAll_none (Er h H) hm;rw[z] at e;cases e
structure Mod (K:Qp) (mg:Str->Option Qr) (base:Heap):Prop where
 kin:K.In base
 glob:base.Ns mainGlobals mg
 blt:∃mb,base.Ns builtinsNs mb/\∀x:Str,x≠"__name__"->mb x=bootBuiltins x
 nolimit:base.NoLimit
structure Cx where
 prog:Rp
 w:Rr
 K:Qp
 mg:Str->Option Qr
 base:Heap
 A:RW
 N:List Str
 s₀:Qu
 H₀:Hp
 env:Env
 outer:List Env
 stack:List Env
 ex:List Addr
 fn:Str->Bool
 calm:Bool
 pn:List (Addr×Obj)
 xe:Qr->Qu->Prop
noncomputable def gg (l:List Env):List Addr:=l.filterMap (·.frame)
abbrev Cx.fs (X:Cx):List Addr:=gg X.outer
noncomputable def Bx (sc:Scope)(x:Str):Prop:=sc.names.lookup x=some .local\/sc.names.lookup x=some .cell\/sc.names.lookup x=some .free
noncomputable def Loc (sc:Scope)(x:Str):Prop:=sc.names.lookup x=some .local\/sc.names.lookup x=some .cell
noncomputable def Look (env:Env)(h:Heap)(m:Str->Option Qr)(x:Str)(u:Qr):Prop:=
 (env.kindOf x=some .local/\m x=some u)\/((env.kindOf x=some .cell\/env.kindOf x=some .free)/\∃c,env.cells.lookup x=some c/\h.IsCell c (some u))
structure Cx.Ok (X:Cx):Prop where
 mod:Mod X.K X.mg X.base
 kind:X.env.scope.kind=.function
 glob:X.env.globals=mainGlobals
 blt:X.env.builtins=builtinsNs
 above:X.s₀.heap.objs.size<=X.env.locals
 inj:∀x y c,X.env.cells.lookup x=some c->X.env.cells.lookup y=some c->x=y
 has:∀x,(X.env.kindOf x=some .cell\/X.env.kindOf x=some .free)->∃c,X.env.cells.lookup x=some c
 cab:∀x c,X.fn x=true->X.env.cells.lookup x=some c->X.s₀.heap.objs.size<=c
 hd:X.calm=true->X.A.handled=none
 frames:X.A.frames=some X.stack
 stk:X.stack=X.outer\/(X.stack=X.env::X.outer/\X.env.frame=some X.env.locals)
 exf:∀b∈X.ex,b≠X.env.locals/\∀x c,X.env.cells.lookup x=some c->c≠b
 bs:∀b o,X.base.get? b=some o->X.s₀.heap.get? b=some o/\X.H₀ b=none
 bsz:X.base.objs.size<=X.s₀.heap.objs.size
 noex:∀b o,X.base.get? b=some o->b∉X.ex
 exfs:∀b∈X.ex,b∉X.fs
 funs:X.s₀.heap.FunFrames X.base X.outer
 frf:∀b∈X.fs,X.H₀ b=none
structure Inv (X:Cx) (pins:List (Addr×Obj)) (σ:List (Option V)) (H:Hp) (s:Qu):Prop where
 ok:X.Ok
 os:s.os=X.s₀.os
 bare:AllBare s.gens
 base:Un X.fs X.ex X.H₀ H X.s₀.heap s.heap
 loc:∃m,s.heap.Ns X.env.locals m/\∀(i:Nat) (x:Str) (v:V),X.N[i]?=some x->σ[i]?=some (some v)->Bx X.env.scope x->∃u,RelV v u/\Look X.env s.heap m x u
 cell:∀x c,X.env.cells.lookup x=some c->∃v,s.heap.IsCell c v
 free:H X.env.locals=none
 freeC:∀x c,X.env.cells.lookup x=some c->H c=none
 pin:∀p∈X.pn++pins,s.heap.get? p.1=some p.2/\H p.1=none/\p.1≠X.env.locals/\p.1∉X.fs/\∀v,p.2.data≠.cell v
 hok:eJ X.prog X.w H s.heap
 len:σ.length=X.N.length
section
variable{X:Cx}{pins:List (Addr×Obj)}{σ:List (Option V)}{H H':Hp}{s:Qu}{h':Heap}
def Cx.Ok.nofr (ok:X.Ok){b:Addr}{o:Obj}(e:X.base.get? b=some o):b∉X.fs:=λhb=>by
 have:=(ok.funs.mem hb).1;rw[e] at this;cases this
def Inv.bs (I:Inv X pins σ H s):∀b o,X.base.get? b=some o->s.heap.get? b=some o/\H b=none:=λb o e=>
 {I.base.keep b o (I.ok.bs b o e).1 (I.ok.bs b o e).2 (I.ok.nofr e) (I.ok.noex b o e),I.base.free b o (I.ok.bs b o e).1 (I.ok.bs b o e).2 (I.ok.noex b o e)}
def Inv.bk (I:Inv X pins σ H s):∀b o,X.base.get? b=some o->s.heap.get? b=some o:=λb o e=>(I.bs b o e).1
def Inv.mod (I:Inv X pins σ H s):Mod X.K X.mg X.base:=I.ok.mod
def Inv.kIn (I:Inv X pins σ H s):X.K.In s.heap:=I.ok.mod.kin.keeps I.bk
def Inv.lt (I:Inv X pins σ H s):X.env.locals<s.heap.objs.size:=let{_,hn,_}:=I.loc;hn.lt
def Inv.sz (I:Inv X pins σ H s):X.s₀.heap.objs.size<=s.heap.objs.size:=QH I.ok.above (Sy I.lt)
def Inv.nofs (I:Inv X pins σ H s){a:Addr}(h:s.heap.objs.size<=a):a∉X.fs:=λhb=>by
 obtain⟨_,o,ho,_⟩:=I.ok.funs.mem hb;exact absurd (QS (QK ho) (QH I.sz h)) (RL _)
def Inv.cne (I:Inv X pins σ H s):∀x c,X.env.cells.lookup x=some c->c≠X.env.locals:=λx c e z=>by
 obtain⟨v,o,ho,hd⟩:=I.cell x c e;obtain⟨m,⟨o',es,ep,ho',hd',_⟩,_⟩:=I.loc;rw[z,ho'] at ho;cases ho;rw[hd'] at hd;cases hd
def Inv.funs (I:Inv X pins σ H s):s.heap.FunFrames X.base X.outer:=by
 have all:∀(l:List Env),(∀b∈gg l,b∈X.fs)->X.s₀.heap.FunFrames X.base l->s.heap.FunFrames X.base l:=by
  intro l;induction l with
  |nil=>intro _ _;trivial
  | cons env r ih =>
    intro hs hl;obtain⟨hk,⟨L,o,hf,hn,ho,hd⟩,hr⟩:=hl;have hL:L∈X.fs:=hs L (by unfold gg;rw[List.filterMap_cons,hf];exact QN)
    obtain⟨sl,e⟩:=I.base.slot L o ho (I.ok.frf L hL) hL λz=>I.ok.exfs L z hL;exact{hk,{L,_,hf,hn,e,hd},ih (λb hb=>hs b (by unfold gg;rw[List.filterMap_cons,hf];exact QJ _ hb)) hr}
 exact all X.outer (λ_ hb=>hb) I.ok.funs
def Inv.stack (I:Inv X pins σ H s):s.heap.FunFrames X.base X.stack:=by
 rcases I.ok.stk with e|⟨e,hf⟩
 ·rw[e];exact I.funs
 ·rw[e];obtain⟨m,hn,_⟩:=I.loc;refine .cons (by rw[I.ok.kind];decide) hf hn ?_ I.funs
  exact Heap.get?_none_of_le (QH I.ok.bsz I.ok.above)
def Inv.stkSub (I:Inv X pins σ H s):∀b∈gg X.stack,b∈X.env.locals::X.fs:=λb hb=>by
 rcases I.ok.stk with e|⟨e,hf⟩
 ·rw[e] at hb;exact QJ _ hb
 ·rw[e] at hb;unfold gg at hb;rw[List.filterMap_cons,hf] at hb;exact hb
def Inv.stkFree (I:Inv X pins σ H s):∀b∈gg X.stack,H b=none:=λb hb=>by
 rcases Rf.mp (I.stkSub b hb) with e|hb
 ·rw[e];exact I.free
 ·obtain⟨_,o,ho,_⟩:=I.ok.funs.mem hb;exact I.base.free b o ho (I.ok.frf b hb) λz=>I.ok.exfs b z hb
def Inv.step {g':Array GenState}{t':Nat}{d':Drawn}{ch:List Addr}(I:Inv X pins σ H s)
 (hch:∀b∈ch,(b∈X.ex\/X.s₀.heap.objs.size<=b)/\b≠X.env.locals/\(∀x c,X.env.cells.lookup x=some c->c≠b)/\∀p∈X.pn++pins,p.1≠b)
 (keep:∀b o,b≠X.env.locals->b∉X.fs->b∉ch->s.heap.get? b=some o->H b=none->h'.get? b=some o)
 (slot:∀b o,b≠X.env.locals->b∈X.fs->b∉ch->s.heap.get? b=some o->H b=none->∃sl,h'.get? b=some {o with slots:=sl}) (free:∀b o,b∉ch->s.heap.get? b=some o->H b=none->H' b=none)
 (there:∀b o,b∉ch->s.heap.get? b=some o->∃o',h'.get? b=some o')
 (tups:∀b xs,H b=some (.tup xs)->H' b=some (.tup xs)) (frzs:∀b o u,H b=some (.frz o u)->H' b=some (.frz o u)) (tbls:∀b ps,H b=some (.tbl ps)->∃more,H' b=some (.tbl (ps++more)))
 (ns:∀m,s.heap.Ns X.env.locals m->h'.Ns X.env.locals m) (hok:eJ X.prog X.w H' h') (hg:AllBare g') :
 Inv X pins σ H' {s with heap:=h',gens:=g',drawn:=d',toks:=t'}:=by
 have neL:∀b o,X.s₀.heap.get? b=some o->b≠X.env.locals:=λb o e=>QY (QS (QK e) I.ok.above);have neC:∀b o,X.s₀.heap.get? b=some o->b∉X.ex->b∉ch:=λb o e hx hb=>by
  rcases(hch b hb).1 with z|z
  ·exact hx z
  ·exact absurd (QS (QK e) z) (RL _)
 have cellK:∀x c,X.env.cells.lookup x=some c->∀v,s.heap.IsCell c v->h'.IsCell c v:=λx c e v ⟨o,ho,hd⟩=>by
  have nch:c∉ch:=λz=>(hch c z).2.2.1 x c e rfl;by_cases hc:c∈X.fs
  ·obtain⟨sl,q⟩:=slot c o (I.cne x c e) hc nch ho (I.freeC x c e);exact{_,q,hd}
  ·exact{o,keep c o (I.cne x c e) hc nch ho (I.freeC x c e),hd}
 refine{I.ok,I.os,hg,{λb o e n hb hx=>?_,λb o e n hb hx=>?_,λb o e n hx=>?_,λb o e hx=>?_,λb xs e=>tups b xs (I.base.tups b xs e),λb o xs e=>frzs b o xs (I.base.frzs b o xs e),λb ps e=>?_},?_,λx c e=>?_,?_,λx c e=>?_,λp hp=>?_,hok,I.len}
 ·exact keep b o (neL b o e) hb (neC b o e hx) (I.base.keep b o e n hb hx) (I.base.free b o e n hx)
 ·obtain⟨sl,e1⟩:=I.base.slot b o e n hb hx;obtain⟨sl',e2⟩:=slot b _ (neL b o e) hb (neC b o e hx) e1 (I.base.free b o e n hx);exact⟨sl',e2⟩
 ·obtain⟨o',e1⟩:=I.base.there b o e hx;exact free b o' (neC b o e hx) e1 (I.base.free b o e n hx)
 ·obtain⟨o',e1⟩:=I.base.there b o e hx;exact there b o' (neC b o e hx) e1
 ·obtain⟨m1,e1⟩:=I.base.tbls b ps e;obtain⟨m2,e2⟩:=tbls b _ e1;exact{m1++m2,by rw[e2,Array.append_assoc]}
 ·obtain⟨m,hn,hl⟩:=I.loc;refine{m,ns m hn,λi x v e1 e2 e3=>?_};obtain⟨u,r,l⟩:=hl i x v e1 e2 e3;refine{u,r,?_};rcases l with l|⟨k,c,e,z⟩
  ·exact .inl l
  ·exact .inr {k,c,e,cellK x c e _ z}
 ·obtain⟨v,z⟩:=I.cell x c e;exact{v,cellK x c e v z}
 ·obtain⟨m,⟨o,_,_,ho,_⟩,_⟩:=I.loc;exact free _ o (λz=>(hch _ z).2.1 rfl) ho I.free
 ·obtain⟨v,o,ho,hd⟩:=I.cell x c e;exact free c o (λz=>(hch c z).2.2.1 x c e rfl) ho (I.freeC x c e)
 ·obtain⟨e,n,ne,nf,d⟩:=I.pin p hp;have nch:p.1∉ch:=λz=>(hch p.1 z).2.2.2 p hp rfl;exact{keep p.1 p.2 ne nf nch e n,free p.1 p.2 nch e n,ne,nf,d}
def Inv.un {t':Nat}(I:Inv X pins σ H s)(u:Un X.fs [] H H' s.heap h')(hok:eJ X.prog X.w H' h'):Inv X pins σ H' {s with heap:=h',toks:=t'}:=by
 obtain⟨m,⟨o,es,ep,ho,r⟩,_⟩:=id I.loc;obtain⟨sl,hL⟩:=u.any ho I.free `s
 exact I.step (g':=s.gens) (d':=s.drawn) (ch:=[]) (λ_ z=>nomatch z) (λb o _ hb _ e n=>u.keep b o e n hb `s) (λb o _ hb _ e n=>u.slot b o e n hb `s) (λb o _ e n=>u.free b o e n `s) (λb o _ e=>u.there b o e `s) u.tups u.frzs u.tbls (λm' hm=>by
  obtain⟨o',es',ep',ho',r'⟩:=hm;rw[ho] at ho';cases ho';exact{_,es',ep',hL,r'}) hok I.bare
def Inv.call {g':Array GenState}{t':Nat}{d':Drawn}{ch:List Addr}(I:Inv X pins σ H s)(u:Un (gg X.stack) ch H H' s.heap h')(hok:eJ X.prog X.w H' h')(hg:AllBare g')
 (hch:∀b∈ch,(b∈X.ex\/X.s₀.heap.objs.size<=b)/\b≠X.env.locals/\(∀x c,X.env.cells.lookup x=some c->c≠b)/\∀p∈X.pn++pins,p.1≠b) :
 Inv X pins σ H' {s with heap:=h',gens:=g',drawn:=d',toks:=t'}:=by
 obtain⟨m,⟨o,es,ep,ho,r⟩,_⟩:=id I.loc;obtain⟨sl,hL⟩:=u.any ho I.free λz=>(hch _ z).2.1 rfl;exact I.step (ch:=ch) hch (λb o hL hb hc e n=>u.keep b o e n (λz=>(Rf.mp (I.stkSub b z)).elim hL hb) hc) (λb o _ _ hc e n=>u.any e n hc) (λb o hc e n=>u.free b o e n hc) (λb o hc e=>u.there b o e hc) u.tups u.frzs u.tbls (λm' hm=>by
  obtain⟨o',es',ep',ho',r'⟩:=hm;rw[ho] at ho';cases ho';exact{_,es',ep',hL,r'}) hok hg
def Inv.turned {t':Nat}{it:Addr}(I:Inv X pins σ H s)(k:∀b o,b≠it->s.heap.get? b=some o->h'.get? b=some o)(hn:H it=none)(hL:it≠X.env.locals)
 (h1:it∈X.ex\/X.s₀.heap.objs.size<=it) (h2:∀x c,X.env.cells.lookup x=some c->c≠it) (h3:∀p∈X.pn++pins,p.1≠it):Inv X pins σ H {s with heap:=h',toks:=t'}:=by
 have nit:∀b u,H b=some u->b≠it:=λb u e z=>by rw[z,hn] at e;cases e
 refine I.step (g':=s.gens) (d':=s.drawn) (ch:=[it]) (λb hb=>?_) (λb o _ _ hc e _=>k b o (λz=>hc (by simp[z])) e) (λb o _ _ hc e _=>{o.slots,k b o (λz=>hc (by simp[z])) e}) (λ_ _ _ _ n=>n)
  (λb o hc e=>{o,k b o (λz=>hc (by simp[z])) e}) (λ_ _ e=>e) (λ_ _ _ e=>e) (λb ps e=>{#[],by rw[e];simp}) (λm hm=>?_) (λb u e=>?_) I.bare
 ·have e:b=it:=by simpa using hb
  subst e;exact⟨h1,hL,h2,h3⟩
 ·obtain⟨o,es,ep,ho,r⟩:=hm;exact{o,es,ep,k _ o (RC hL) ho,r}
 ·refine(I.hok b u e).stay (λc v hc q=>k c v ?_ q) (λ_ q=>q) λ_ _ q=>q;rcases hc with z|z
  ·rw[z];exact nit b u e
  ·exact nit c _ z
def Inv.tok (I:Inv X pins σ H s)(t:Nat):Inv X pins σ H {s with toks:=t}:=I.un (h':=s.heap) (t':=t) Un.refl I.hok
def Inv.kept {t':Nat}(I:Inv X pins σ H s)(k:∀b u,s.heap.get? b=some u->h'.get? b=some u):Inv X pins σ H {s with heap:=h',toks:=t'}:=I.un (Un.kept k) (I.hok.kept k)
def Inv.laid {a:Addr}{o:HO}{t':Nat}(I:Inv X pins σ H s)(k:∀b u,s.heap.get? b=some u->h'.get? b=some u)(hp:s.heap.objs.size<=a)(new:cX X.prog X.w (upd H a o) h' a o) :
 Inv X pins σ (upd H a o) {s with heap:=h',toks:=t'}:=I.un (Un.laid k hp (I.hok.fresh hp)) (I.hok.laid k hp new)
def Inv.write {x e:Addr}{o:HO}{t':Nat}(I:Inv X pins σ H s)(mu:Fw (H x))(he:e=x\/H e=some (.own x))(k:∀b u,b≠e->s.heap.get? b=some u->h'.get? b=some u)(heo:∃u,h'.get? e=some u)
 (new:cX X.prog X.w (upd H x o) h' x o):Inv X pins σ (upd H x o) {s with heap:=h',toks:=t'}:=I.un (Un.write mu he k heo) (I.hok.write mu he k heo new)
def Inv.pins_of {pins':List (Addr×Obj)}(I:Inv X pins σ H s)(h:∀p∈pins',s.heap.get? p.1=some p.2/\H p.1=none/\p.1≠X.env.locals/\p.1∉X.fs/\∀v,p.2.data≠.cell v):Inv X pins' σ H s:=
 {I.ok,I.os,I.bare,I.base,I.loc,I.cell,I.free,I.freeC,λp hp=>(Rq.mp hp).elim (λz=>I.pin p (RE _ z)) (h p),I.hok,I.len}
def ui {N:List Str}(hN:N.Nodup){i j:Nat}{x:Str}(a:N[i]?=some x)(b:N[j]?=some x):i=j:=by
 obtain⟨h1,e1⟩:=Qo.mp a;obtain⟨h2,e2⟩:=Qo.mp b;exact(List.getElem_inj hN).mp (e1.trans e2.symm)
def rP {M:Model}{A:RW}{E:Qr->Qu->Prop}{i:Nat}{x:Str}{v:V}{u:Qr}{Q:Unit->Qu->Prop}(I:Inv X pins σ H s)(hN:X.N.Nodup)(hi:X.N[i]?=some x)(hx:Loc X.env.scope x)(r:RelV v u)
 (h:∀s',Inv X pins (σ.set i (some v)) H s'->(∃a,Sh a s.heap s'.heap/\(a=X.env.locals\/X.env.cells.lookup x=some a))->Q () s') (hf:X.fn x=true\/X.env.scope.names.lookup x=some .local:=by first|exact .inl rfl|exact .inr rfl|assumption):wpAny M A (storeName X.env x u) Q E s:=by
 obtain⟨m,hn,hl⟩:=id I.loc;have hcls:(X.env.scope.kind==.class||(X.env.scope.kind==.module&&X.env.locals != X.env.globals))=false:=by rw[I.ok.kind];rfl
 have hiσ:i<σ.length:=by rw[I.len];exact(Qo.mp hi).1
 have cne:=I.cne;have tracked:∀{a:Addr}{h':Heap},(∃o,s.heap.get? a=some o/\H a=none)->Sh a s.heap h'->eJ X.prog X.w H h':=λ{a h'} ha hs b ob e=>by
  obtain⟨_,_,hfree⟩:=ha;refine(I.hok b ob e).stay (λc w' hc q=>(hs.2 c ?_).trans q) (λ_ q=>q) λ_ _ q=>q;rintro rfl;rcases hc with rfl|hc
  ·rw[hfree] at e;cases e
  ·rw[hfree] at hc;cases hc
 rcases hx with hk|hk
 ·refine wpAny_storeName_local hk hn (λh' hn' hs=>?_) hcls;obtain⟨oL,_,_,hoL,_⟩:=id hn;refine h _ {I.ok,I.os,I.bare,{λb o e n hb hx=>?_,λb o e n hb hx=>?_,I.base.free,λb o e hx=>?_,I.base.tups,I.base.frzs,I.base.tbls},{_,hn',λj y v' e1 e2 e3=>?_},λy c e=>?_,I.free,I.freeC,λp hp=>?_,tracked ⟨oL,hoL,I.free⟩ hs,by simpa using I.len} {_,hs,.inl rfl}
  ·exact(hs.2 b (QY (QS (QK e) I.ok.above))).trans (I.base.keep b o e n hb hx)
  ·obtain⟨sl,e1⟩:=I.base.slot b o e n hb hx;exact{sl,(hs.2 b (QY (QS (QK e) I.ok.above))).trans e1}
  ·obtain⟨o',e1⟩:=I.base.there b o e hx;exact{o',(hs.2 b (QY (QS (QK e) I.ok.above))).trans e1}
  ·by_cases hj:j=i
   ·subst hj;rw[hi] at e1;cases e1;rw[Q5 hiσ] at e2;cases e2;exact{u,r,.inl {hk,`s}}
   ·rw[Qx (RC hj)] at e2;obtain⟨u',r',q⟩:=hl j y v' e1 e2 e3;refine{u',r',?_};rcases q with⟨k,e⟩|⟨k,c,e,z⟩
    ·refine .inl {k,?_};have:y≠x:=λe=>hj (ui hN e1 (e ▸ hi));simp[this,e]
    ·exact .inr {k,c,e,z.sameBut hs (cne y c e)}
  ·obtain⟨w',z⟩:=I.cell y c e;exact{w',z.sameBut hs (cne y c e)}
  ·obtain⟨e,n,ne,nf,d⟩:=I.pin p hp;exact{(hs.2 p.1 ne).trans e,n,ne,nf,d}
 ·have hfn:X.fn x=true:=by
   rcases hf with z|z
   ·exact z
   ·rw[z] at hk;cases hk
  obtain⟨c,hc⟩:=I.ok.has x (.inl hk);obtain⟨w',z⟩:=I.cell x c hc;refine wpAny_storeName_cell I.ok.kind hk hc z (λh' hc' hs=>?_);obtain⟨oc,hoc,hocd⟩:=id z;refine h {s with heap:=h'} {I.ok,I.os,I.bare,{λb o e n hb hx=>?_,λb o e n hb hx=>?_,I.base.free,λb o e hx=>?_,I.base.tups,I.base.frzs,I.base.tbls},{m,hn.sameBut hs (RC (cne x c hc)),λj y v' e1 e2 e3=>?_},λy c' e=>?_,I.free,I.freeC,λp hp=>?_,tracked {oc,hoc,I.freeC x c hc} hs,by simpa using I.len} {c,hs,.inr hc}
  ·exact(hs.2 b (QY (QS (QK e) (I.ok.cab x c hfn hc)))).trans (I.base.keep b o e n hb hx)
  ·obtain⟨sl,e1⟩:=I.base.slot b o e n hb hx;exact{sl,(hs.2 b (QY (QS (QK e) (I.ok.cab x c hfn hc)))).trans e1}
  ·obtain⟨o',e1⟩:=I.base.there b o e hx;exact{o',(hs.2 b (QY (QS (QK e) (I.ok.cab x c hfn hc)))).trans e1}
  ·by_cases hj:j=i
   ·subst hj;rw[hi] at e1;cases e1;rw[Q5 hiσ] at e2;cases e2;exact{u,r,.inr {.inl hk,c,hc,hc'}}
   ·rw[Qx (RC hj)] at e2;obtain⟨u',r',q⟩:=hl j y v' e1 e2 e3;refine{u',r',?_};rcases q with q|⟨k,c',e,z'⟩
    ·exact .inl q
    ·refine .inr {k,c',e,z'.sameBut hs ?_};rintro rfl;exact hj (ui hN e1 (I.ok.inj _ _ _ e hc ▸ hi))
  ·by_cases hcc:c'=c
   ·subst hcc;exact{_,hc'}
   ·obtain⟨w2,z2⟩:=I.cell y c' e;exact{w2,z2.sameBut hs hcc}
  ·obtain⟨e,n,ne,nf,d⟩:=I.pin p hp;refine{(hs.2 p.1 ?_).trans e,n,ne,nf,d};intro q;rw[q,hoc] at e;have q':oc=p.2:=Qz e;exact d w' (by rw[<- q'];exact hocd)
def Ce {M:Model}{A:RW}{E:Qr->Qu->Prop}{i:Nat}{x:Str}{v:V}{u:Qr}{Q:Unit->Qu->Prop}(I:Inv X pins σ H s)(hN:X.N.Nodup)(hi:X.N[i]?=some x)(hx:Loc X.env.scope x)(r:RelV v u)
 (h:∀s',Inv X pins (σ.set i (some v)) H s'->Q () s') (hf:X.fn x=true\/X.env.scope.names.lookup x=some .local:=by first|exact .inl rfl|exact .inr rfl|assumption):wpAny M A (storeName X.env x u) Q E s:=
 rP I hN hi hx r (λs' I' _=>h s' I') hf
def Inv.call' {s':Qu}{ch:List Addr}(I:Inv X pins σ H s)(ho:s'.os=s.os)(u:Un (gg X.stack) ch H H' s.heap s'.heap)(hok:eJ X.prog X.w H' s'.heap)(hg:AllBare s'.gens)
 (hch:∀b∈ch,(b∈X.ex\/X.s₀.heap.objs.size<=b)/\b≠X.env.locals/\(∀x c,X.env.cells.lookup x=some c->c≠b)/\∀p∈X.pn++pins,p.1≠b):Inv X pins σ H' s':=by
 obtain⟨h',g',d',t',o'⟩:=s';have e:o'=s.os:=ho;subst e;exact I.call (g':=g') (t':=t') (d':=d') u hok hg hch
end
abbrev XK:=Qr->Option Addr->Hp->Prop
abbrev St:=List (Option V)
abbrev VK:=V->Hp->Prop
abbrev TE:=St->Hp->VK->Prop
abbrev TT:=St->Hp->(Bool->Hp->Prop)->Prop
abbrev TA:=St->Hp->(List V->Hp->Prop)->Prop
structure Ends where
 nx:St->Hp->Prop
 rt:VK
 bk:St->Hp->Prop:=λ_ _=>False
 ct:St->Hp->Prop:=λ_ _=>False
abbrev TS:=Ends->St->Hp->Prop
noncomputable def EP (X:Cx)(pins:List (Addr×Obj))(σ:St)(Q:VK)(u:Qr)(s':Qu):Prop:=∃v H',Inv X pins σ H' s'/\RelV v u/\Q v H'
noncomputable def TP (X:Cx)(pins:List (Addr×Obj))(σ:St)(Q:Bool->Hp->Prop)(b:Bool)(s':Qu):Prop:=∃H',Inv X pins σ H' s'/\Q b H'
noncomputable def AP (X:Cx)(pins:List (Addr×Obj))(σ:St)(Q:List V->Hp->Prop)(us:List Qr)(s':Qu):Prop:=∃vs H',Inv X pins σ H' s'/\Vals vs us/\Q vs H'
noncomputable def SP (X:Cx)(pins:List (Addr×Obj))(D:Ends)(f:Flow)(s':Qu):Prop:=
 match f with
 |.next=>∃σ' H',Inv X pins σ' H' s'/\D.nx σ' H'
 |.brk=>∃σ' H',Inv X pins σ' H' s'/\D.bk σ' H'
 |.cont=>∃σ' H',Inv X pins σ' H' s'/\D.ct σ' H'
 |.ret u=>∃v σ' H',Inv X pins σ' H' s'/\RelV v u/\D.rt v H'
noncomputable def PE (X:Cx)(e:Expr)(t:TE):Prop:=
 ∀(pins:List (Addr×Obj)) (s:Qu) (σ:St) (H:Hp) (Q:VK),Inv X pins σ H s->t σ H Q->wpAny (model X.prog X.w) X.A (eval e X.env) (EP X pins σ Q) X.xe s
noncomputable def PT (X:Cx)(e:Expr)(t:TT):Prop:=
 ∀(pins:List (Addr×Obj)) (s:Qu) (σ:St) (H:Hp) (Q:Bool->Hp->Prop),Inv X pins σ H s->t σ H Q->wpAny (model X.prog X.w) X.A (isTrue e X.env (eval e X.env)) (TP X pins σ Q) X.xe s
noncomputable def PW (X:Cx)(e:Expr)(t:TT):Prop:=
 ∀(whole:Sem Qr) (pins:List (Addr×Obj)) (s:Qu) (σ:St) (H:Hp) (Q:Bool->Hp->Prop),Inv X pins σ H s->t σ H Q->wpAny (model X.prog X.w) X.A (isTrue e X.env whole) (TP X pins σ Q) X.xe s
def PW.pt {X:Cx}{e:Expr}{t:TT}(h:PW X e t):PT X e t:=h _
noncomputable def PA (X:Cx)(es:List Expr)(t:TA):Prop:=
 ∀(pos:Pos) (pins:List (Addr×Obj)) (s:Qu) (σ:St) (H:Hp) (Q:List V->Hp->Prop),Inv X pins σ H s->t σ H Q->wpAny (model X.prog X.w) X.A (spliced (backTo pos (starEach es X.env))) (AP X pins σ Q) X.xe s
noncomputable def PS (X:Cx)(st:Stmt)(t:TS):Prop:=
 ∀(pins:List (Addr×Obj)) (s:Qu) (σ:St) (H:Hp) (D:Ends),Inv X pins σ H s->t D σ H->wpAny (model X.prog X.w) X.A (exec st X.env) (SP X pins D) X.xe s
noncomputable def k9 (X:Cx)(st:List Stmt)(t:TS):Prop:=
 ∀(pins:List (Addr×Obj)) (s:Qu) (σ:St) (H:Hp) (D:Ends),Inv X pins σ H s->t D σ H->wpAny (model X.prog X.w) X.A (execs st X.env) (SP X pins D) X.xe s
def aT {α:Type}{t:Sem α}{Q Q':α->Qu->Prop}{M:Model}{A:RW}{E:Qr->Qu->Prop}{s:Qu}(h:wpAny M A t Q E s)(hQ:∀a s,Q a s->Q' a s):wpAny M A t Q' E s:=wpAny_mono h hQ λ_ _ x=>x
section
variable{X:Cx}
noncomputable def OH (i:Nat):TE:=λσ H Q=>∃v,σ[i]?=some (some v)/\Q v H
noncomputable def tC (v:V):TE:=λ_ H Q=>Q v H
def An {i:Nat}{x:Str}{pos:Pos}(hN:X.N[i]?=some x)(hv:Bx X.env.scope x)(hd:(x==("__debug__":Str))=false:=by decide)(hcd:(x==("__classdict__":Str))=false:=by decide):PE X (.Name x pos) (OH i):=by
 intro pins s σ H Q I h;obtain⟨v,e,h⟩:=h;obtain⟨m,hn,hl⟩:=I.loc;obtain⟨u,r,l⟩:=hl i x v hN e hv;have fin:EP X pins σ Q u s:=⟨v,H,I,r,h⟩;rcases l with⟨hk,hm⟩|⟨hk,c,hc,hcell⟩
 ·exact wpAny_Name (wpAny_loadName_local I.ok.kind hk hn hm fin) hd
 ·rcases hk with hk|hk
  ·exact wpAny_Name (wpAny_loadName_cell I.ok.kind hk hc hcell fin) hd
  ·exact wpAny_Name (wpAny_loadName_free I.ok.kind hk hc hcell fin hcd) hd
def JW {i j pos}:PE X (.Constant (.int i) j pos) (tC (.int i)):=λ_ _ _ H _ I h=>wpAny_Constant_int {.int i,H,I.tok _,{_,rfl},h}
def MK {b j pos}:PE X (.Constant (.bool b) j pos) (tC (.bl b)):=λ_ _ _ H _ I h=>Constant_bool {.bl b,H,I,rfl,h}
def JU {j pos}:PE X (.Constant .none j pos) (tC .non):=λ_ _ _ H _ I h=>Constant_none {.non,H,I,rfl,h}
def JR {x j pos}:PE X (.Constant (.str x) j pos) (tC (.str x)):=λ_ _ _ H _ I h=>Calls.Constant_str {.str x,H,I.tok _,{_,rfl},h}
noncomputable def Gl (X:Cx)(x:Str):Prop:=X.env.kindOf x=some .globalImplicit
def jf {E:Qr->Qu->Prop}{pins:List (Addr×Obj)}{s:Qu}{σ:St}{H:Hp}{x:Str}{u:Qr}{pos:Pos}{Q:Qr->Qu->Prop}(I:Inv X pins σ H s)(hg:Gl X x)(hm:X.mg x=some u)(h:Q u s)
 (hd:(x==("__debug__":Str))=false:=by decide):wpAny (model X.prog X.w) X.A (eval (.Name x pos) X.env) Q E s:=
 Calls.Name_function_global I.ok.kind hg (Calls.loadGlobal_global (by rw[I.ok.glob];exact I.mod.glob.keeps I.bk) hm h) hd
def gU {E:Qr->Qu->Prop}{pins:List (Addr×Obj)}{s:Qu}{σ:St}{H:Hp}{x:Str}{u:Qr}{pos:Pos}{Q:Qr->Qu->Prop}(I:Inv X pins σ H s)(hg:Gl X x)(hm:X.mg x=none)(hv:bootBuiltins x=some u)(h:Q u s)
 (hn:x≠"__name__":=by decide) (hd:(x==("__debug__":Str))=false:=by decide):wpAny (model X.prog X.w) X.A (eval (.Name x pos) X.env) Q E s:=by
 obtain⟨mb,h1,h2⟩:=I.mod.blt;exact Calls.Name_function_global I.ok.kind hg (Calls.loadGlobal_builtin (by rw[I.ok.glob];exact I.mod.glob.keeps I.bk) hm (by rw[I.ok.blt];exact h1.keeps I.bk) ((h2 x hn).trans hv) h) hd
def kG {x:Str}{v:V}{u:Qr}{pos:Pos}(hg:Gl X x)(hm:X.mg x=some u)(r:RelV v u)(hd:(x==("__debug__":Str))=false:=by decide):PE X (.Name x pos) (tC v):=
 λ_ _ _ H _ I h=>jf I hg hm ⟨v,H,I,r,h⟩ hd
def GV {x:Str}{v:V}{u:Qr}{pos:Pos}(hg:Gl X x)(hm:X.mg x=none)(hv:bootBuiltins x=some u)(r:RelV v u)(hn:x≠"__name__":=by decide)(hd:(x==("__debug__":Str))=false:=by decide):PE X (.Name x pos) (tC v):=
 λ_ _ _ H _ I h=>gU I hg hm hv ⟨v,H,I,r,h⟩ hn hd
variable{a b:Expr}{ta tb:TE}{pos:Pos}
variable{tA tB':TT}{rest:List Expr}
noncomputable def eV (t u:TT):TT:=λσ H Q=>t σ H λc H1=>if c=true then u σ H1 Q else Q false H1
noncomputable def dY (t u:TT):TT:=λσ H Q=>t σ H λc H1=>if c=true then Q true H1 else u σ H1 Q
noncomputable def bL (t:TT):TT:=λσ H Q=>t σ H λc H1=>Q (!c) H1
def GI (ha:PT X a tA):PW X (.BoolOp .And [a] pos) tA:=by
 intro wh pins s σ H Q I h;refine isTrue_and (aT (ha pins s σ H Q I h) λc s1 e=>?_);cases c with
 |true=>exact isTrue_and_nil e
 |false=>exact e
def JH (ha:PT X a tA):PW X (.BoolOp .Or [a] pos) tA:=by
 intro wh pins s σ H Q I h;refine isTrue_or (aT (ha pins s σ H Q I h) λc s1 e=>?_);cases c with
 |false=>exact isTrue_or_nil e
 |true=>exact e
def JI (ha:PT X a tA)(hb:PW X (.BoolOp .And (b::rest) pos) tB'):PW X (.BoolOp .And (a::b::rest) pos) (eV tA tB'):=by
 intro wh pins s σ H Q I h;refine isTrue_and (aT (ha pins s σ H _ I h) λc s1 ⟨H1,I1,q1⟩=>?_);cases c with
 |true=>exact hb wh pins s1 σ H1 Q I1 q1
 |false=>exact⟨H1,I1,q1⟩
def ME (ha:PT X a tA)(hb:PW X (.BoolOp .Or (b::rest) pos) tB'):PW X (.BoolOp .Or (a::b::rest) pos) (dY tA tB'):=by
 intro wh pins s σ H Q I h;refine isTrue_or (aT (ha pins s σ H _ I h) λc s1 ⟨H1,I1,q1⟩=>?_);cases c with
 |true=>exact⟨H1,I1,q1⟩
 |false=>exact hb wh pins s1 σ H1 Q I1 q1
def JL (ha:PT X a tA):PT X (.UnaryOp .Not a pos) (bL tA):=by
 intro pins s σ H Q I h;exact isTrue_not (ha pins s σ H (λc H1=>Q (!c) H1) I h)
noncomputable def Mx (ta tb:TE):TE:=λσ H Q=>ta σ H λx H1=>∃c,x=.bl c/\if c=true then tb σ H1 Q else Q (.bl false) H1
noncomputable def OL (ta tb:TE):TE:=λσ H Q=>ta σ H λx H1=>∃c,x=.bl c/\if c=true then Q (.bl true) H1 else tb σ H1 Q
noncomputable def Ms (ta:TE):TE:=λσ H Q=>ta σ H λx H1=>∃c,x=.bl c/\Q (.bl (!c)) H1
def JS {op}{t:TE}(h:PE X a t):PE X (.BoolOp op [a] pos) t:=λpins s σ H Q I hw=>BoolOp_one (h pins s σ H Q I hw)
def JY (ha:PE X a ta)(hb:PE X (.BoolOp .And (b::rest) pos) tb):PE X (.BoolOp .And (a::b::rest) pos) (Mx ta tb):=by
 intro pins s σ H Q I h;refine BoolOp_and (aT (ha pins s σ H _ I h) λv s1 ⟨x,H1,I1,r1,q1⟩=>?_);obtain⟨c,rfl,q1⟩:=q1;cases r1;refine tqp ?_;cases c with
 |true=>exact hb pins s1 σ H1 Q I1 q1
 |false=>exact{.bl false,H1,I1,rfl,q1}
def MH (ha:PE X a ta)(hb:PE X (.BoolOp .Or (b::rest) pos) tb):PE X (.BoolOp .Or (a::b::rest) pos) (OL ta tb):=by
 intro pins s σ H Q I h;refine BoolOp_or (aT (ha pins s σ H _ I h) λv s1 ⟨x,H1,I1,r1,q1⟩=>?_);obtain⟨c,rfl,q1⟩:=q1;cases r1;refine tqp ?_;cases c with
 |false=>exact hb pins s1 σ H1 Q I1 q1
 |true=>exact{.bl true,H1,I1,rfl,q1}
def JT (ha:PE X a ta):PE X (.UnaryOp .Not a pos) (Ms ta):=by
 intro pins s σ H Q I h;refine UnaryOp_ (aT (ha pins s σ H _ I h) λv s1 ⟨x,H1,I1,r1,q1⟩=>?_);obtain⟨c,rfl,q1⟩:=q1;cases r1;exact not_of (tqp {.bl (!c),H1,I1,rfl,q1})
noncomputable def tIf (t:TT)(ta tb:TE):TE:=λσ H Q=>t σ H λc H1=>if c=true then ta σ H1 Q else tb σ H1 Q
def uc {c:Expr}(hc:PT X c tA)(ha:PE X a ta)(hb:PE X b tb):PE X (.IfExp c a b pos) (tIf tA ta tb):=by
 intro pins s σ H Q I h;refine wpAny_IfExp (aT (hc pins s σ H _ I h) λd s1 ⟨H1,I1,q1⟩=>?_);cases d with
 |true=>exact ha pins s1 σ H1 Q I1 q1
 |false=>exact hb pins s1 σ H1 Q I1 q1
end
noncomputable def c7 (K:Qp)(H:Hp)(a:Addr)(xs:List V):Prop:=
 Rd H a (.lst xs)\/
  ∃(o:Obj) (its:Array Qr) (n:Nat),K.lookup a=some o/\o.cls=.type "list"/\o.dict=none/\o.data=.seq its n/\its.size<=sizeLine/\Vals xs its.toList
noncomputable def dQ (K:Qp)(H:Hp)(a:Addr)(xs:List V):Prop:=
 Rd H a (.tup xs)\/
  ∃(o:Obj) (its:Array Qr) (n:Nat),K.lookup a=some o/\o.cls=.type "tuple"/\o.data=.seq its n/\its.size<=sizeLine/\Vals xs its.toList
noncomputable def PX:Qr->Option V
 |.none=>some .non
 |.bool b=>some (.bl b)
 |.int i _=>some (.int i)
 |.str x _=>some (.str x)
 |.bytes b _=>some (.byt b)
 |.float b _=>some (.flt b)
 |.ref a=>some (.ref a)
 |.type n=>some (.ty n)
 |_=>none
def RelV.abs {x:V}{u:Qr}(r:RelV x u):PX u=some x:=by
 cases x with
 |non=>cases r;rfl
 |bl _=>cases r;rfl
 |int _=>obtain⟨t,rfl⟩:=r;rfl
 |str _=>obtain⟨t,rfl⟩:=r;rfl
 |byt _=>obtain⟨t,rfl⟩:=r;rfl
 |flt _=>obtain⟨t,rfl⟩:=r;rfl
 |ref _=>cases r;rfl
 |ty _=>cases r;rfl
def RelV.inj {x y:V}{u:Qr}(r:RelV x u)(q:RelV y u):x=y:=Qz (r.abs.symm.trans q.abs)
def Vals.inj:∀{xs ys:List V}{us:List Qr},Vals xs us->Vals ys us->xs=ys
 |_,_,_,.nil,.nil=>rfl
 |_,_,_,.cons r t,.cons r' t'=>by rw[r.inj r',Vals.inj t t']
section
variable{X:Cx}{pins:List (Addr×Obj)}{σ:St}{H:Hp}{s:Qu}{a:Addr}{xs ys:List V}
def c7.of {K:Qp}(h:H a=some (.lst xs)):c7 K H a xs:=.inl (.inl h)
def dQ.of {K:Qp}(h:H a=some (.tup xs)):dQ K H a xs:=.inl (.inl h)
def Inv.list (I:Inv X pins σ H s)(h:c7 X.K H a xs):∃its:List Qr,Vals xs its/\PlainL s.heap a its.toArray/\xs.length<=sizeLine:=by
 rcases h with h|⟨o,its,n,hk,hc,hd,hs,hz,r⟩
 ·obtain⟨z,its,n,r,e⟩:=h.ok I.hok;exact{its,r,{_,n,e,rfl,rfl,rfl},z}
 ·refine{its.toList,r,{o,n,I.kIn a o hk,hc,hd,by simpa using hs},?_}
  have e:=r.length;simp only[Sz] at e;omega
def Inv.tuple (I:Inv X pins σ H s)(h:dQ X.K H a xs):∃its:List Qr,Vals xs its/\IsTup s.heap a its.toArray/\xs.length<=sizeLine:=by
 rcases h with h|⟨o,its,n,hk,hc,hs,hz,r⟩
 ·obtain⟨z,its,r,p⟩:=h.ok I.hok;exact⟨its,r,p,z⟩
 ·refine{its.toList,r,{o,I.kIn a o hk,hc,n,by simpa using hs},?_}
  have e:=r.length;simp only[Sz] at e;omega
def Inv.list_inj (I:Inv X pins σ H s)(h:c7 X.K H a xs)(h':c7 X.K H a ys):xs=ys:=by
 obtain⟨its,r,⟨o,n,e,_,_,d⟩,_⟩:=I.list h;obtain⟨its',r',⟨o',n',e',_,_,d'⟩,_⟩:=I.list h';rw[e] at e';cases e';rw[d] at d';injection d' with d1 _
 have:its=its':=by simpa using congrArg Array.toList d1
 subst this;exact r.inj r'
def Inv.tuple_inj (I:Inv X pins σ H s)(h:dQ X.K H a xs)(h':dQ X.K H a ys):xs=ys:=by
 obtain⟨its,r,⟨o,e,_,n,d⟩,_⟩:=I.tuple h;obtain⟨its',r',⟨o',e',_,n',d'⟩,_⟩:=I.tuple h';rw[e] at e';cases e';rw[d] at d';injection d' with d1 _
 have:its=its':=by simpa using congrArg Array.toList d1
 subst this;exact r.inj r'
end
section
variable{X:Cx}{st:Stmt}{rest:List Stmt}{t u:TS}{e:Expr}{te:TE}{pos:Pos}
noncomputable def Et:TS:=λD σ H=>D.nx σ H
noncomputable def OJ (t u:TS):TS:=λD σ H=>t {D with nx:=u D} σ H
def GK:k9 X [] Et:=λ_ _ σ H _ I h=>wpAny_execs_nil ⟨σ,H,I,h⟩
def CH (h1:PS X st t)(h2:k9 X rest u):k9 X (st::rest) (OJ t u):=by
 intro pins s σ H D I h;refine wpAny_execs_cons (aT (h1 pins s σ H {D with nx:=u D} I h) λf s1 q=>?_)
 cases f with
 | next =>
   obtain⟨σ',H',I',q⟩:=q;exact h2 pins s1 σ' H' D I' q
 |ret v=>exact q
 |brk=>exact q
 |cont=>exact q
def GN:PS X (.Pass pos) Et:=λ_ _ σ H _ I h=>wpAny_Pass ⟨σ,H,I,h⟩
def Inv.quiet {pins:List (Addr×Obj)}{σ:St}{H:Hp}{s:Qu}(I:Inv X pins σ H s):interactive X.env=false:=by simp[interactive,I.ok.kind]
noncomputable def Mv (te:TE):TS:=λD σ H=>te σ H λ_ H1=>D.nx σ H1
def nI (he:PE X e te)(hs:swapsWith e none pos.line X.env=pure false:=by rfl):PS X (.Expr e pos) (Mv te):=by
 intro pins s σ H D I h;exact wpAny_Expr_any (aT (he pins s σ H _ I h) λv s1 ⟨x,H1,I1,r1,q1⟩=>⟨σ,H1,I1,q1⟩) I.quiet hs
noncomputable def OK (te:TE):TS:=λD σ H=>te σ H D.rt
def Ag (he:PE X e te):PS X (.Return (some e) pos) (OK te):=by
 intro pins s σ H D I h;exact wpAny_Return_some (aT (he pins s σ H _ I h) λv s1 ⟨x,H1,I1,r1,q1⟩=>⟨x,σ,H1,I1,r1,q1⟩)
noncomputable def Mq:TS:=λD _ H=>D.rt .non H
def GL:PS X (.Return none pos) Mq:=λ_ _ σ H _ I h=>wpAny_Return_none {.non,σ,H,I,rfl,h}
noncomputable def OO (c:TT)(t u:TS):TS:=λD σ H=>c σ H λb H1=>if b=true then t D σ H1 else u D σ H1
def MF {c:Expr}{a b:List Stmt}{tc:TT}(hc:PT X c tc)(ha:k9 X a t)(hb:k9 X b u):PS X (.If c a b pos) (OO tc t u):=by
 intro pins s σ H D I h;refine wpAny_If (aT (hc pins s σ H _ I h) λd s1 ⟨H1,I1,q1⟩=>?_);cases d with
 |true=>exact ha pins s1 σ H1 D I1 q1
 |false=>exact hb pins s1 σ H1 D I1 q1
end
abbrev TG:=V->St->Hp->(St->Hp->Prop)->Prop
abbrev sH:=List V->St->Hp->(St->Hp->Prop)->Prop
noncomputable def PG (X:Cx)(target:Expr)(t:TG):Prop:=
 ∀(pins:List (Addr×Obj)) (s:Qu) (σ:St) (H:Hp) (v:V) (u:Qr) (Q:St->Hp->Prop),Inv X pins σ H s->RelV v u->t v σ H Q->
  wpAny (model X.prog X.w) X.A (assign target X.env u) (λ_ s'=>∃σ' H',Inv X pins σ' H' s'/\Q σ' H') X.xe s
noncomputable def vD (X:Cx)(ts:List Expr)(t:sH):Prop:=
 ∀(pins:List (Addr×Obj)) (s:Qu) (σ:St) (H:Hp) (vs:List V) (us:List Qr) (Q:St->Hp->Prop),Inv X pins σ H s->Vals vs us->t vs σ H Q->
  wpAny (model X.prog X.w) X.A (assignInOrder ((assignEach ts X.env).map (·.2)) us) (λ_ s'=>∃σ' H',Inv X pins σ' H' s'/\Q σ' H') X.xe s
abbrev yz:=V->V->V->Hp->(Hp->Prop)->Prop
noncomputable def DQ (X:Cx)(t:yz):Prop:=
 ∀(pins:List (Addr×Obj)) (s:Qu) (σ:St) (H:Hp) (o i v:V) (ov iv u:Qr) (Q:Hp->Prop),Inv X pins σ H s->RelV o ov->RelV i iv->RelV v u->t o i v H Q->
  wpAny (model X.prog X.w) X.A (setItem ov iv u) (λ_ s'=>∃H',Inv X pins σ H' s'/\Q H') X.xe s
section
variable{X:Cx}{pos:Pos}
noncomputable def Nc (i:Nat):TG:=λv σ H Q=>Q (σ.set i (some v)) H
def qF {i:Nat}{x:Str}(hN:X.N.Nodup)(hi:X.N[i]?=some x)(hx:Loc X.env.scope x)(hf:X.fn x=true\/X.env.scope.names.lookup x=some .local:=by first|exact .inl rfl|exact .inr rfl|assumption):PG X (.Name x pos) (Nc i):=by
 intro pins s σ H v u Q I r h;exact wpAny_assign_Name (Ce I hN hi hx r (λs' I'=>{_,H,I',h}) hf)
noncomputable def bY:sH:=λvs σ H Q=>vs=[]/\Q σ H
noncomputable def dP (t:TG)(u:sH):sH:=λvs σ H Q=>∃v r,vs=v::r/\t v σ H λσ' H'=>u r σ' H' Q
def vX:vD X [] bY:=by
 intro pins s σ H vs us Q I r h;obtain⟨e,h⟩:=h;subst e;cases r;exact assignInOrder_nil ⟨σ,H,I,h⟩
def oR {e:Expr}{es:List Expr}{t:TG}{u:sH}(h1:PG X e t)(h2:vD X es u)
 (hs:(assignEach (e::es) X.env).map (·.2)=assign e X.env::(assignEach es X.env).map (·.2):=by rfl):vD X (e::es) (dP t u):=by
 intro pins s σ H vs us Q I r h;obtain⟨v,vr,e1,h⟩:=h;subst e1;cases r with
 | cons r rr =>
   rw[hs];refine assignInOrder_cons (aT (h1 pins s σ H _ _ _ I r h) λ_ s1 ⟨σ1,H1,I1,q1⟩=>?_);exact h2 pins s1 σ1 H1 _ _ Q I1 rr q1
noncomputable def bH (K:Qp)(n:Nat)(t:sH):TG:=λv σ H Q=>∃a xs,v=.ref a/\dQ K H a xs/\xs.length=n/\t xs σ H Q
def ua {es:List Expr}{k:Nat}{t:sH}{n:Nat}(hc:X.calm=true)(h:vD X es t)
 (hn:(assignEach es X.env).length=n:=by rfl) (hst:(assignEach es X.env).findIdx? (·.1)=none:=by rfl):PG X (.Tuple es k pos) (bH X.K n t):=by
 intro pins s σ H v u Q I r hw;obtain⟨a,xs,e1,hq,hl,hw⟩:=hw;subst e1;cases r;obtain⟨its,rv,ht,hz⟩:=I.tuple hq;refine assign_Tuple_tuple (I.ok.hd hc) ht (by simp[hn,<- hl,rv.length]) hst λh' hx=>?_
 have I1:Inv X pins σ H {s with heap:=h'}:=I.kept (t':=s.toks) λb o e=>hx b o (QY (QK e)) e
 exact h pins _ σ H xs _ Q I1 (by simpa using rv) hw
noncomputable def Pz (to ti:TE)(t:yz):TG:=λv σ H Q=>to σ H λo H1=>ti σ H1 λi H2=>t o i v H2 λH3=>Q σ H3
def Am {o i:Expr}{to ti:TE}{t:yz}(ho:PE X o to)(hi:PE X i ti)(hs:DQ X t)
 (ha:∀v,assign (.Subscript o i pos) X.env v=(do
  let ov <- holding [v] (eval o X.env)
  let iv <- holding [v,ov] (eval i X.env)
  standAt pos
  holding [v,ov,iv] (setItem ov iv v)
  release [v,ov,iv] []):=by intro _;rfl):PG X (.Subscript o i pos) (Pz to ti t):=by
 intro pins s σ H v u Q I r h;rw[ha];refine tqa (tqo (aT (ho pins s σ H _ I h) λov s1 ⟨x,H1,I1,r1,q1⟩=>?_));refine tqa (tqo (aT (hi pins s1 σ H1 _ I1 q1) λiv s2 ⟨y,H2,I2,r2,q2⟩=>?_));refine tqa (wpAny_standAt (tqa (tqo (aT (hs pins s2 σ H2 x y v ov iv u _ I2 r1 r2 r q2) λ_ s3 ⟨H3,I3,q3⟩=>?_))));exact wpAny_release ⟨σ,H3,I3,q3⟩
noncomputable def OR (te:TE)(g:TG):TS:=λD σ H=>te σ H λx H1=>g x σ H1 D.nx
def pO {tg e:Expr}{te:TE}{g:TG}(he:PE X e te)(hg:PG X tg g)(hs:swapsWithSole [tg] e pos.line X.env=pure false:=by rfl)(hw:swappedStores [tg] e X.env=pure none:=by rfl)
 (h1:(assignEach [tg] X.env).map (·.2)=[assign tg X.env]:=by rfl):PS X (.Assign [tg] e pos) (OR te g):=by
 intro pins s σ H D I h;refine wpAny_Assign_stores (aT (he pins s σ H _ I h) λv s1 ⟨x,H1,I1,r1,q1⟩=>?_) hs hw;rw[h1];exact aT (hg pins s1 σ H1 x v _ I1 r1 q1) λ_ s2 q=>q
end
section
variable{X:Cx}{pos:Pos}
noncomputable def IX (c:TT)(tb:TS):TS:=λD σ H=>∃W:Nat->St->Hp->Prop,(∃m,W m σ H)/\∀m σ H,W m σ H->
 c σ H λb H1=>if b=true then ∃N:St->Hp->Prop,(∀σ' H',N σ' H'->∃m',m'<m/\W m' σ' H')/\tb {D with nx:=N,ct:=N,bk:=D.nx} σ H1 else D.nx σ H1
def CI {c:Expr}{body:List Stmt}{tc:TT}{tb:TS}(hp:PassesOwn (model X.prog X.w) X.A X.env X.xe)(hc:PT X c tc)(hb:k9 X body tb):PS X (.While c body [] pos) (IX tc tb):=by
 intro pins s σ H D I h;obtain⟨W,⟨m0,w0⟩,turn⟩:=h;refine wpAny_While (codeAny_whileLoop (λn s'=>∃σ' H',Inv X pins σ' H' s'/\W n σ' H') ?_ m0 ⟨σ,H,I,w0⟩);rintro n s1 ⟨σ1,H1,I1,w1⟩;refine wpAny_passesOwn hp (aT (hc pins s1 σ1 H1 _ I1 (turn n σ1 H1 w1)) λb s2 ⟨H2,I2,q2⟩=>?_);cases b with
 | true =>
   obtain⟨N,hN,q2⟩:=q2;rw[if_pos rfl];refine wpAny_passesOwn hp (aT (hb pins s2 σ1 H2 _ I2 q2) λf s3 q3=>?_);cases f with
   | next =>
     obtain⟨σ3,H3,I3,n3⟩:=q3;obtain⟨m',hm,w3⟩:=hN σ3 H3 n3;exact⟨m',hm,σ3,H3,I3,w3⟩
   | cont =>
     obtain⟨σ3,H3,I3,n3⟩:=q3;obtain⟨m',hm,w3⟩:=hN σ3 H3 n3;exact⟨m',hm,σ3,H3,I3,w3⟩
   |brk=>exact q3
   |ret v=>exact q3
 | false =>
   rw[if_neg QR];exact wpAny_execs_nil ⟨σ1,H2,I2,q2⟩
end
structure It where
 go:Nat->Hp->Prop
 yld:Nat->Hp->V->Hp->Prop
 stop:Nat->Hp->Prop
noncomputable def fH (X:Cx)(pins:List (Addr×Obj))(H:Hp)(b:Addr):Prop:=
 H b=none/\b≠X.env.locals/\b∉X.fs/\(b∈X.ex\/X.s₀.heap.objs.size<=b)/\(∀x c,X.env.cells.lookup x=some c->c≠b)/\∀p∈X.pn++pins,p.1≠b
def Inv.fpOk {X:Cx}{pins:List (Addr×Obj)}{σ:St}{H H':Hp}{s:Qu}{b:Addr}(I:Inv X pins σ H s)(hb:s.heap.objs.size<=b)(hn:H' b=none):fH X pins H' b:=by
 refine{hn,Rz (QS I.lt hb),I.nofs hb,.inr (QH I.sz hb),λx c e z=>?_,λp hp z=>?_}
 ·obtain⟨v,q⟩:=I.cell x c e;exact absurd (QS q.lt (by rw[z];exact hb)) (RL _)
 ·exact absurd (QS (QK (I.pin p hp).1) (by rw[z];exact hb)) (RL _)
structure Turn (P:Rp) (w:Rr) (K:Qp) (tg:Expr) (J:It) (fp:List Addr) (it:Addr) (tn:Nat->Heap->Prop):Prop where
 mem:it∈fp
 obj:∀i h,tn i h->∀b∈fp,∃o,h.get? b=some o/\∀v,o.data≠.cell v
 keep:∀i h h',tn i h->(∀b∈fp,∀o,h.get? b=some o->h'.get? b=some o)->tn i h'
 item:∀(X:Cx),X.prog=P->X.w=w->X.K=K->X.calm=true->∀(i:Nat) (pins:List (Addr×Obj)) (s:Qu) (σ:St) (H:Hp) (E:Qr->Qu->Prop),Inv X pins σ H s->(∀b∈fp,fH X pins H b)->tn i s.heap->J.go i H->
  wpAny (model P w) X.A (pyNext (.ref it)) (λr s1=>∃u,r=some u/\
   wpAny (model P w) X.A (letOwnedTupleGo tg (.ref it) u) (λ_ s2=>∃x H',Inv X pins σ H' s2/\RelV x u/\J.yld i H x H'/\tn (i+1) s2.heap/\∀b∈fp,H' b=none) E s1) E s
 done:∀(X:Cx),X.prog=P->X.w=w->X.K=K->X.calm=true->∀(i:Nat) (pins:List (Addr×Obj)) (s:Qu) (σ:St) (H:Hp) (E:Qr->Qu->Prop),Inv X pins σ H s->(∀b∈fp,fH X pins H b)->tn i s.heap->J.stop i H->
  wpAny (model P w) X.A (pyNext (.ref it)) (λr s1=>r=none/\Inv X pins σ H s1) E s
 self:∀(A:RW) (i:Nat) (s:Qu) (Q:Qr->Qu->Prop) (E:Qr->Qu->Prop),tn i s.heap->Q (.ref it) s->wpAny (model P w) A (pyIter (.ref it)) Q E s
abbrev TI:=St->Hp->(It->Hp->Prop)->Prop
noncomputable def L8 (X:Cx)(pins:List (Addr×Obj))(σ:St)(tg:Expr)(R:It->Hp->Prop)(itv:Qr)(s2:Qu):Prop:=
 ∃(it:Addr) (fp:List Addr) (tn:Nat->Heap->Prop) (J:It) (H':Hp),itv=.ref it/\Inv X pins σ H' s2/\Turn X.prog X.w X.K tg J fp it tn/\tn 0 s2.heap/\(∀b∈fp,fH X pins H' b)/\R J H'
noncomputable def PI (X:Cx)(tg iter:Expr)(wi:TI):Prop:=
 ∀(pins:List (Addr×Obj)) (s:Qu) (σ:St) (H:Hp) (R:It->Hp->Prop),Inv X pins σ H s->wi σ H R->
  wpAny (model X.prog X.w) X.A (eval iter X.env) (λv s1=>wpAny (model X.prog X.w) X.A (pyIter v) (L8 X pins σ tg R) X.xe s1) X.xe s
def sU {M:Model}{A:RW}{E:Qr->Qu->Prop}{s:Qu}{tg:Expr}{it:Addr}{u:Qr}{o:Obj}{n:String}{vs:Array Qr}{Q:Unit->Qu->Prop}(ho:s.heap.get? it=some o)(hc:o.cls=.type n)(hd:o.data=.fields vs)
 (hn:["enumerate","zip","dict_itemiterator","dict_reverseitemiterator","odict_iterator","itertools.zip_longest","itertools.pairwise"].contains n=false) (hQ:Q () s):wpAny M A (letOwnedTupleGo tg (.ref it) u) Q E s:=by
 unfold letOwnedTupleGo;cases tg<;>first
  |exact tqb hQ
  |(cases u<;>first
   |exact tqb hQ
   | (refine tqa (wpAny_load ho ?_)
      rw[hc,hd];show wpAny M A (if (["enumerate","zip","dict_itemiterator","dict_reverseitemiterator","odict_iterator","itertools.zip_longest","itertools.pairwise"].contains n&&vs[0]?==some (rawInt _))=true then _ else _) Q E s;rw[if_neg (by intro h;rw[hn,Bool.false_and] at h;cases h)]
      exact tqb hQ))
noncomputable def Me (K:Qp)(a:Addr):It:=
 {λi H=>∃xs x,c7 K H a xs/\xs[i]?=some x,λi H x H'=>H'=H/\∀xs,c7 K H a xs->xs[i]?=some x,λi H=>∃xs,c7 K H a xs/\xs.length<=i}
noncomputable def Md (K:Qp)(a:Addr):It:=
 {λi H=>∃xs x,dQ K H a xs/\xs[i]?=some x,λi H x H'=>H'=H/\∀xs,dQ K H a xs->xs[i]?=some x,λi H=>∃xs,dQ K H a xs/\xs.length<=i}
noncomputable def Fx (lo:Int)(n:Nat):It:={λi _=>i<n,λi H x H'=>H'=H/\x=.int (lo+i),λi _=>n<=i}
def zq {P:Rp}{w:Rr}{K:Qp}{tg:Expr}(a it:Addr):Turn P w K tg (Me K a) [it] it (λi h=>h.IsListIter it a i) where
 mem:=`s
 obj:=λi h st b hb=>by
  have e:b=it:=by simpa using hb
  subst e;obtain⟨o,e,c,d⟩:=st;exact{o,e,λv z=>by rw[d] at z;cases z}
 keep:=λi h h' st k=>st.at λo e=>k it `s o e
 item:=by
  intro X hP hw hK hc i pins s σ H E I hf st hg;subst hP hw hK;obtain⟨xs,x,hq,hx⟩:=hg;obtain⟨its,rv,p,hz⟩:=I.list hq;obtain⟨u,hu,ru⟩:=rv.get hx;obtain⟨f0,f1,f2,f3,f4,f5⟩:=hf it `s
  refine wpAny_pyNext_list_item st p.isList (x:=u) (by simpa using hu) λh' st' sb=>?_
  have I1:Inv X pins σ H {s with heap:=h'}:=I.turned (t':=s.toks) (λb o hb e=>(sb.2 b hb).trans e) f0 f1 f3 f4 f5
  obtain⟨o,e,c,d⟩:=id st';exact{u,rfl,sU (s:={s with heap:=h'}) e c d `d {x,H,I1,ru,{rfl,λys hy=>by rw[I.list_inj hy hq];exact hx},st',λb hb=>(hf b hb).1}}
 done:=by
  intro X hP hw hK hc i pins s σ H E I hf st hg;subst hP hw hK;obtain⟨xs,hq,hx⟩:=hg;obtain⟨its,rv,p,hz⟩:=I.list hq;obtain⟨f0,f1,f2,f3,f4,f5⟩:=hf it `s
  have hl:=rv.length;exact wpAny_pyNext_list_end (I.ok.hd hc) st p.isList `o λh' eb=>{rfl,I.turned (t':=s.toks) (λb o hb e=>eb b o hb e) f0 f1 f3 f4 f5}
 self:=λ_ _ _ _ _ st h=>wpAny_pyIter_listiter st h
def xj {P:Rp}{w:Rr}{K:Qp}{tg:Expr}(a it:Addr):Turn P w K tg (Md K a) [it] it (λi h=>h.IsTupleIter it a i) where
 mem:=`s
 obj:=λi h st b hb=>by
  have e:b=it:=by simpa using hb
  subst e;obtain⟨o,e,c,d⟩:=st;exact{o,e,λv z=>by rw[d] at z;cases z}
 keep:=λi h h' st k=>st.at λo e=>k it `s o e
 item:=by
  intro X hP hw hK hc i pins s σ H E I hf st hg;subst hP hw hK;obtain⟨xs,x,hq,hx⟩:=hg;obtain⟨its,rv,p,hz⟩:=I.tuple hq;obtain⟨u,hu,ru⟩:=rv.get hx;obtain⟨f0,f1,f2,f3,f4,f5⟩:=hf it `s
  refine wpAny_pyNext_tuple_item st (show s.heap.IsTuple a its.toArray from p) (x:=u) (by simpa using hu) λh' st' sb=>?_
  have I1:Inv X pins σ H {s with heap:=h'}:=I.turned (t':=s.toks) (λb o hb e=>(sb.2 b hb).trans e) f0 f1 f3 f4 f5
  obtain⟨o,e,c,d⟩:=id st';exact{u,rfl,sU (s:={s with heap:=h'}) e c d `d {x,H,I1,ru,{rfl,λys hy=>by rw[I.tuple_inj hy hq];exact hx},st',λb hb=>(hf b hb).1}}
 done:=by
  intro X hP hw hK hc i pins s σ H E I hf st hg;subst hP hw hK;obtain⟨xs,hq,hx⟩:=hg;obtain⟨its,rv,p,hz⟩:=I.tuple hq;obtain⟨f0,f1,f2,f3,f4,f5⟩:=hf it `s
  have hl:=rv.length;exact wpAny_pyNext_tuple_end (I.ok.hd hc) st (show s.heap.IsTuple a its.toArray from p) `o λh' eb=>{rfl,I.turned (t':=s.toks) (λb o hb e=>eb b o hb e) f0 f1 f3 f4 f5}
 self:=λ_ _ _ _ _ st h=>wpAny_pyIter_tupleiter st h
def xl {P:Rp}{w:Rr}{K:Qp}{tg:Expr}(it:Addr)(lo:Int)(n:Nat):Turn P w K tg (Fx lo n) [it] it (λi h=>IsRangeIter h it (lo+(i:Nat)*1) ((n:Int)-(i:Nat)) 1) where
 mem:=`s
 obj:=λi h st b hb=>by
  have e:b=it:=by simpa using hb
  subst e;exact{_,st,λv z=>by
   have z':Data.fields _=Data.cell v:=z;cases z'}
 keep:=λi h h' st k=>k it `s _ st
 item:=by
  intro X hP hw hK hc i pins s σ H E I hf st hg;subst hP hw hK;obtain⟨f0,f1,f2,f3,f4,f5⟩:=hf it `s
  have W:=Walks.range (prog:=X.prog) (w:=X.w) (I.ok.hd hc) it lo 1 n;refine W.item i s _ _ hg st λv h' tk hv st' kk=>?_;obtain⟨t,rfl⟩:=hv;have I1:Inv X pins σ H {s with heap:=h',toks:=tk}:=I.turned (λb o hb e=>kk b o (by simpa using hb) e) f0 f1 f3 f4 f5
  refine{_,rfl,sU (s:={s with heap:=h',toks:=tk}) (n:="range_iterator") st' rfl rfl `d {.int (lo+i),H,I1,{t,?_},⟨rfl,rfl⟩,st',λb hb=>(hf b hb).1}}
  rw[Int.mul_one]
 done:=by
  intro X hP hw hK hc i pins s σ H E I hf st hg;subst hP hw hK;obtain⟨f0,f1,f2,f3,f4,f5⟩:=hf it `s
  exact wpAny_pyNext_range_end (I.ok.hd hc) st (by have:n<=i:=hg;omega) λh' eb=>{rfl,I.turned (t':=s.toks) (λb o hb e=>eb b o hb e) f0 f1 f3 f4 f5}
 self:=λ_ _ _ _ _ st h=>wpAny_pyIter_rangeiter st h
section
variable{X:Cx}{tg:Expr}
noncomputable def Na (K:Qp)(tl:TE):TI:=λσ H R=>tl σ H λx H1=>∃a,x=.ref a/\(∃xs,c7 K H1 a xs)/\R (Me K a) H1
noncomputable def Py (K:Qp)(tl:TE):TI:=λσ H R=>tl σ H λx H1=>∃a,x=.ref a/\(∃xs,dQ K H1 a xs)/\R (Md K a) H1
def GR {l:Expr}{tl:TE}(hl:PE X l tl):PI X tg l (Na X.K tl):=by
 intro pins s σ H R I h;refine aT (hl pins s σ H _ I h) λv s1 ⟨x,H1,I1,r1,q1⟩=>?_;obtain⟨a,e,⟨xs,hq⟩,q⟩:=q1;subst e;cases r1;obtain⟨its,rv,p,hz⟩:=I1.list hq;refine wpAny_pyIter_list p.isList ?_;refine{s1.heap.objs.size,[s1.heap.objs.size],_,_,H1,rfl,I1.kept (t':=s1.toks) λb o e=>Qt _ e,zq a _,{_,QM _ rfl,rfl,rfl},λb hb=>?_,q};have e:b=s1.heap.objs.size:=by simpa using hb
 subst e;exact I1.fpOk (Qw _) (I1.hok.fresh (Qw _))
def JP {l:Expr}{tl:TE}(hl:PE X l tl):PI X tg l (Py X.K tl):=by
 intro pins s σ H R I h;refine aT (hl pins s σ H _ I h) λv s1 ⟨x,H1,I1,r1,q1⟩=>?_;obtain⟨a,e,⟨xs,hq⟩,q⟩:=q1;subst e;cases r1;obtain⟨its,rv,p,hz⟩:=I1.tuple hq;refine wpAny_pyIter_tuple (show s1.heap.IsTuple a its.toArray from p) ?_;refine{s1.heap.objs.size,[s1.heap.objs.size],_,_,H1,rfl,I1.kept (t':=s1.toks) λb o e=>Qt _ e,xj a _,{_,QM _ rfl,rfl,rfl},λb hb=>?_,q};have e:b=s1.heap.objs.size:=by simpa using hb
 subst e;exact I1.fpOk (Qw _) (I1.hok.fresh (Qw _))
def CD {pins:List (Addr×Obj)}{σ:St}{H:Hp}{s:Qu}{R:It->Hp->Prop}{E:Qr->Qu->Prop}{lo hi:Int}{t u v:Tok}{tk:Nat}(I:Inv X pins σ H s)(h1:-(2^62)<=lo)(h2:lo<2^62)(h3:-(2^62)<=hi)(h4:hi<2^62)
 (q:R (Fx lo (hi-lo).toNat) H):wpAny (model X.prog X.w) X.A (pyIter (.ref s.heap.objs.size)) (L8 X pins σ tg R) E {s with heap:=s.heap.push {cls:=.type "range",data:=.fields #[.int lo t,.int hi u,.int 1 v]},toks:=tk}:=by
 refine wpAny_pyIter_range (IsRange.new ..) (small_one h1 h2 h3 h4) ?_;have I1:Inv X pins σ H {s with heap:=s.heap.push {cls:=.type "range",data:=.fields #[.int lo t,.int hi u,.int 1 v]},toks:=tk}:=I.kept λb o e=>Qt _ e
 refine{(s.heap.push {cls:=.type "range",data:=.fields #[.int lo t,.int hi u,.int 1 v]}).objs.size,[(s.heap.push {cls:=.type "range",data:=.fields #[.int lo t,.int hi u,.int 1 v]}).objs.size],_,_,H,rfl,
  I1.kept (t':=tk) λb o e=>Qt _ e,xl _ lo (hi-lo).toNat,?_,λb hb=>?_,q}
 ·have e1:lo+((0:Nat):Int)*1=lo:=`s
  have e2:(((hi-lo).toNat:Nat):Int)-((0:Nat):Int)=Builtin.Range.rangeSize lo hi 1:=by rw[rangeSize_one];split<;>omega
  show IsRangeIter _ _ (lo+((0:Nat):Int)*1) ((((hi-lo).toNat:Nat):Int)-((0:Nat):Int)) 1;rw[e1,e2];exact QM _ rfl
 ·have e:b=(s.heap.push {cls:=.type "range",data:=.fields #[.int lo t,.int hi u,.int 1 v]}).objs.size:=by simpa using hb
  subst e;exact I1.fpOk (Qw _) (I1.hok.fresh (Qw _))
noncomputable def M9 (ta:TA):TI:=λσ H R=>ta σ H λvs H1=>∃j:Int,vs=[.int j]/\-(2^62)<=j/\j<2^62/\R (Fx 0 j.toNat) H1
def Al {a:Expr}{ta:TA}{p pos:Pos}(hg:Gl X "range")(hm:X.mg "range"=none)(ha:PA X [a] ta)(hs:starEach [a] X.env=[(false,eval a X.env)]:=by rfl):PI X tg (.Call (.Name "range" p) [a] [] pos) (M9 ta):=by
 intro pins s σ H R I h;refine Call_ (gU I hg hm boot_range (R8 (aT (ha pos pins s σ H _ I h) λus s1 ⟨vs,H1,I1,r1,q1⟩=>?_) hs rfl));obtain⟨j,e,q1,q2,q⟩:=q1;subst e;cases r1 with
 | cons r rr =>
   cases rr;obtain⟨t,rfl⟩:=r;exact call_range_1 (CD I1 `a `a q1 q2 (by simpa using q))
noncomputable def OP (wi:TI)(g:TG)(tb:TS):TS:=λD σ H=>wi σ H λJ H1=>∃W:Nat->Nat->St->Hp->Prop,(∃m,W 0 m σ H1)/\∀i m σ H,W i m σ H->
 (J.stop i H/\D.nx σ H)\/(J.go i H/\∃N:St->Hp->Prop,(∀σ' H',N σ' H'->∃m',m'<m/\W (i+1) m' σ' H')/\∀x H',J.yld i H x H'->g x σ H' λσ2 H2=>tb {D with nx:=N,ct:=N,bk:=D.nx} σ2 H2)
noncomputable def pP (fp:List Addr)(h:Heap):List (Addr×Obj):=fp.filterMap λb=>(h.get? b).map λo=>(b,o)
def i4 {fp:List Addr}{h:Heap}{b:Addr}{o:Obj}(hb:b∈fp)(e:h.get? b=some o):(b,o)∈pP fp h:=List.mem_filterMap.mpr {b,hb,by rw[e];rfl}
def Aq {fp:List Addr}{h:Heap}{p:Addr×Obj}(hp:p∈pP fp h):p.1∈fp/\h.get? p.1=some p.2:=by
 obtain⟨b,hb,e⟩:=List.mem_filterMap.mp hp;cases q:h.get? b with
 |none=>rw[q] at e;cases e
 | some o =>
   rw[q] at e;have e':(b,o)=p:=Qz e;subst e';exact⟨hb,q⟩
def Inv.pinned {pins:List (Addr×Obj)}{σ:St}{H:Hp}{s:Qu}{fp:List Addr}(I:Inv X pins σ H s)(hf:∀b∈fp,fH X pins H b)(ho:∀b∈fp,∃o,s.heap.get? b=some o/\∀v,o.data≠.cell v):Inv X (pins++pP fp s.heap) σ H s:=
 I.pins_of λp hp=>(Rq.mp hp).elim (λz=>I.pin p (Q4 _ z)) λz=>by
  obtain⟨hb,e⟩:=Aq z;obtain⟨f0,f1,f2,_⟩:=hf p.1 hb;obtain⟨o,e',d⟩:=ho p.1 hb;rw[e] at e';cases e';exact⟨e,f0,f1,f2,d⟩
def Inv.unpinned {pins pl:List (Addr×Obj)}{σ:St}{H:Hp}{s:Qu}(I:Inv X (pins++pl) σ H s):Inv X pins σ H s:=I.pins_of λp hp=>I.pin p (Q4 _ (RE _ hp))
def JM {iter:Expr}{body:List Stmt}{wi:TI}{g:TG}{tb:TS}{pos:Pos}(hp:PassesOwn (model X.prog X.w) X.A X.env X.xe)(hc:X.calm=true)(hi:PI X tg iter wi)(hg:PG X tg g)(hb:k9 X body tb)
 (hs:∀x,foldedSetIterable iter X.env x=pure x:=by intro _;rfl):PS X (.For tg iter body [] pos) (OP wi g tb):=by
 intro pins s σ H D I h;refine wpAny_For (aT (hi pins s σ H _ I h) λv s1 h1=>aT h1 λitv s2 h2=>?_) hs;obtain⟨it,fp,tn,J,H2,e,I2,T,st2,f2,W,⟨m0,w0⟩,turn⟩:=h2;subst e;have stat:∀{H':Hp},(∀b∈fp,H' b=none)->∀b∈fp,fH X pins H' b:=λhn b hb=>{hn b hb,(f2 b hb).2};refine codeAny_forLoop_any (λn s'=>∃i σ' H',Inv X pins σ' H' s'/\tn i s'.heap/\(∀b∈fp,H' b=none)/\W i n σ' H') ?_ m0 {0,σ,H2,I2,st2,λb hb=>(f2 b hb).1,w0};rintro n s3 ⟨i,σ3,H3,I3,st3,fr3,w3⟩;rcases turn i n σ3 H3 w3 with⟨stop,qn⟩|⟨go,N,hN,step⟩
 ·refine wpAny_passesOwn hp (aT (T.done X rfl rfl rfl hc i pins s3 σ3 H3 X.xe I3 (stat fr3) st3 stop) λr s4 ⟨hr,I4⟩=>?_);subst hr;exact wpAny_execs_nil ⟨σ3,H3,I4,qn⟩
 ·refine wpAny_passesOwn hp (aT (T.item X rfl rfl rfl hc i pins s3 σ3 H3 X.xe I3 (stat fr3) st3 go) λr s4 ⟨u,hr,h4⟩=>?_);subst hr;refine wpAny_passesOwn hp (aT h4 λ_ s5 ⟨x,H5,I5,r5,y5,st5,fr5⟩=>?_);have I5':=I5.pinned (stat fr5) (T.obj _ _ st5);refine wpAny_passesOwn hp (aT (hg _ s5 σ3 H5 x u _ I5' r5 (step x H5 y5)) λ_ s6 ⟨σ6,H6,I6,q6⟩=>?_);refine wpAny_passesOwn hp (aT (hb _ s6 σ6 H6 _ I6 q6) λf s7 q7=>?_);have again:∀{σ7:St}{H7:Hp},Inv X (pins++pP fp s5.heap) σ7 H7 s7->N σ7 H7->∃m,m<n/\∃i σ' H',Inv X pins σ' H' s7/\tn i s7.heap/\(∀b∈fp,H' b=none)/\W i m σ' H':=λ{σ7 H7} I7 n7=>by
   obtain⟨m',hm,w7⟩:=hN σ7 H7 n7;refine{m',hm,i+1,σ7,H7,I7.unpinned,T.keep _ _ _ st5 λb hb o e=>(I7.pin (b,o) (Q4 _ (Q4 _ (i4 hb e)))).1,λb hb=>?_,w7};obtain⟨o,e,d⟩:=T.obj _ _ st5 b hb;exact(I7.pin (b,o) (Q4 _ (Q4 _ (i4 hb e)))).2.1
  cases f with
  |next=>obtain⟨σ7,H7,I7,n7⟩:=q7;exact again I7 n7
  |cont=>obtain⟨σ7,H7,I7,n7⟩:=q7;exact again I7 n7
  |brk=>obtain⟨σ7,H7,I7,q7⟩:=q7;exact⟨σ7,H7,I7.unpinned,q7⟩
  |ret v=>obtain⟨x7,σ7,H7,I7,r7,q7⟩:=q7;exact⟨x7,σ7,H7,I7.unpinned,r7,q7⟩
end
abbrev R2:=V->V->Hp->VK->Prop
noncomputable def bQ (X:Cx)(f:Qr->Qr->Sem Qr)(r:R2):Prop:=
 ∀(pins:List (Addr×Obj)) (s:Qu) (σ:St) (H:Hp) (x y:V) (v u:Qr) (Q:VK),Inv X pins σ H s->RelV x v->RelV y u->r x y H Q->
  wpAny (model X.prog X.w) X.A (f v u) (EP X pins σ Q) X.xe s
noncomputable def L6 (X:Cx)(f:Qr->Sem Qr)(r:V->Hp->VK->Prop):Prop:=
 ∀(pins:List (Addr×Obj)) (s:Qu) (σ:St) (H:Hp) (x:V) (v:Qr) (Q:VK),Inv X pins σ H s->RelV x v->r x H Q->
  wpAny (model X.prog X.w) X.A (f v) (EP X pins σ Q) X.xe s
noncomputable def b9 (X:Cx)(f:Qr)(r:List V->Hp->VK->Prop):Prop:=
 ∀(pins:List (Addr×Obj)) (s:Qu) (σ:St) (H:Hp) (xs:List V) (us:List Qr) (Q:VK),Inv X pins σ H s->Vals xs us->r xs H Q->
  wpAny (model X.prog X.w) X.A (call f us) (EP X pins σ Q) X.xe s
noncomputable def PZ (X:Cx)(r:V->Hp->(Bool->Hp->Prop)->Prop):Prop:=
 ∀(pins:List (Addr×Obj)) (s:Qu) (σ:St) (H:Hp) (x:V) (v:Qr) (Q:Bool->Hp->Prop),Inv X pins σ H s->RelV x v->r x H Q->
  wpAny (model X.prog X.w) X.A (truthy v) (TP X pins σ Q) X.xe s
noncomputable def zz (r:R2)(ta tb:TE):TE:=λσ H Q=>ta σ H λx H1=>tb σ H1 λy H2=>r x y H2 Q
noncomputable def tUn (r:V->Hp->VK->Prop)(ta:TE):TE:=λσ H Q=>ta σ H λx H1=>r x H1 Q
noncomputable def rI (C:Int->Int->Prop)(g:Int->Int->V):R2:=λx y H Q=>∃i j,x=.int i/\y=.int j/\C i j/\Q (g i j) H
noncomputable def rR (g:Int->Int->V):R2:=λx y H Q=>∃i j,x=.int i/\y=.int j/\Q (g i j) H
noncomputable def rU (g:Int->V):V->Hp->VK->Prop:=λx H Q=>∃i,x=.int i/\Q (g i) H
section
variable{X:Cx}{a b c:Expr}{ta tb tc:TE}{pos:Pos}
def DF (ha:PE X a ta)(hb:PE X b tb){pins:List (Addr×Obj)}{s:Qu}{σ:St}{H:Hp}{R:V->V->Hp->Prop}(I:Inv X pins σ H s)
 (h:ta σ H λx H1=>tb σ H1 λy H2=>R x y H2) {Q:Qr->Qu->Prop}{f:Qr->Qr->Sem Qr}
 (hf:∀v u s2 x y H2,Inv X pins σ H2 s2->RelV x v->RelV y u->R x y H2->wpAny (model X.prog X.w) X.A (f v u) Q X.xe s2) :
 wpAny (model X.prog X.w) X.A (eval a X.env) (λv s₁=>wpAny (model X.prog X.w) X.A (eval b X.env) (λu s₂=>wpAny (model X.prog X.w) X.A (f v u) Q X.xe s₂) X.xe s₁) X.xe s:=by
 refine aT (ha pins s σ H _ I h) λv s1 ⟨x,H1,I1,r1,q1⟩=>?_;refine aT (hb pins s1 σ H1 _ I1 q1) λu s2 ⟨y,H2,I2,r2,q2⟩=>?_;exact hf v u s2 x y H2 I2 r1 r2 q2
def MI {op:Operator}{r:R2}(ho:bQ X (binaryOp op) r)(ha:PE X a ta)(hb:PE X b tb):PE X (.BinOp a op b pos) (zz r ta tb):=by
 intro pins s σ H Q I h;exact wpAny_BinOp (DF ha hb I h λv u s2 x y H2 I2 rx ry q=>ho pins s2 σ H2 x y v u Q I2 rx ry q)
def MG {op:UnaryOp}{r:V->Hp->VK->Prop}(ho:L6 X (unaryOp op) r)(ha:PE X a ta):PE X (.UnaryOp op a pos) (tUn r ta):=by
 intro pins s σ H Q I h;exact UnaryOp_ (aT (ha pins s σ H _ I h) λv s1 ⟨x,H1,I1,r1,q1⟩=>ho pins s1 σ H1 x v Q I1 r1 q1)
def EE {f:Qr->Qr->Sem Qr}{C:Int->Int->Prop}{g:Int->Int->Int}
 (rule:∀(i j:Int) (t u:Tok) (s:Qu) (Q:Qr->Qu->Prop) (E:Qr->Qu->Prop),C i j->Q (.int (g i j) s.toks) {s with toks:=s.toks+1}->wpAny (model X.prog X.w) X.A (f (.int i t) (.int j u)) Q E s) :
 bQ X f (rI C λi j=>.int (g i j)):=by
 intro pins s σ H x y v u Q I rx ry h;obtain⟨i,j,rfl,rfl,hc,q⟩:=h;obtain⟨t,rfl⟩:=rx;obtain⟨t',rfl⟩:=ry;exact rule i j t t' s _ _ hc {.int (g i j),H,I.tok _,{_,rfl},q}
def J7 {f:Qr->Qr->Sem Qr}{g:Int->Int->Int}
 (rule:∀(i j:Int) (t u:Tok) (s:Qu) (Q:Qr->Qu->Prop) (E:Qr->Qu->Prop),Q (.int (g i j) s.toks) {s with toks:=s.toks+1}->wpAny (model X.prog X.w) X.A (f (.int i t) (.int j u)) Q E s) :
 bQ X f (rR λi j=>.int (g i j)):=by
 intro pins s σ H x y v u Q I rx ry h;obtain⟨i,j,rfl,rfl,q⟩:=h;obtain⟨t,rfl⟩:=rx;obtain⟨t',rfl⟩:=ry;exact rule i j t t' s _ _ {.int (g i j),H,I.tok _,{_,rfl},q}
def xF {f:Qr->Qr->Sem Qr}{g:Int->Int->Bool}
 (rule:∀(i j:Int) (t u:Tok) (s:Qu) (Q:Qr->Qu->Prop) (E:Qr->Qu->Prop),Q (.bool (g i j)) s->wpAny (model X.prog X.w) X.A (f (.int i t) (.int j u)) Q E s) :
 bQ X f (rR λi j=>.bl (g i j)):=by
 intro pins s σ H x y v u Q I rx ry h;obtain⟨i,j,rfl,rfl,q⟩:=h;obtain⟨t,rfl⟩:=rx;obtain⟨t',rfl⟩:=ry;exact rule i j t t' s _ _ {.bl (g i j),H,I,rfl,q}
noncomputable def Ml (i j:Int):Prop:=0<j/\j<1073741824
noncomputable def Mj (i j:Int):Prop:=0<=j/\j<=1000000/\i.natAbs<2^64
noncomputable def DY (i j:Int):Prop:=(-(2^64)<i/\i<2^64)\/(-(2^64)<j/\j<2^64)
def DY.ok {i j:Int}(h:DY i j):IntMulOk i j:=by
 rcases h with⟨h1,h2⟩|⟨h1,h2⟩
 ·exact .of_left (intBits_le_64 h1 h2)
 ·exact .of_right (intBits_le_64 h1 h2)
def J6:bQ X (binaryOp .Add) (rR λi j=>.int (i+j)):=J7 λ_ _ _ _ _ _ _ q=>add_int q
def JZ:bQ X (binaryOp .Sub) (rR λi j=>.int (i-j)):=J7 λ_ _ _ _ _ _ _ q=>sub_int q
def J2:bQ X (binaryOp .Mult) (rI DY λi j=>.int (i*j)):=EE λ_ _ _ _ _ _ _ hc q=>mul_int q hc.ok
def G0:bQ X (binaryOp .FloorDiv) (rI Ml λi j=>.int (i / j)):=EE λi j _ _ _ _ _ hc q=>by
 have h1:(0:Int)<j:=hc.1;have h2:j<1073741824:=hc.2;exact floordiv_int `a (by rw[Int.fdiv_eq_ediv_of_nonneg i `a];exact q) (.inl (PyProof.noPylong_small `a))
def J3:bQ X (binaryOp .Mod) (rI (λ_ j=>0<j) λi j=>.int (i % j)):=EE λi j _ _ _ _ _ hc q=>by
 have h1:(0:Int)<j:=hc;exact mod_int' `a (by rw[Int.fmod_eq_emod_of_nonneg i `a];exact q)
def J1:bQ X (binaryOp .Pow) (rI Mj λi j=>.int (i^j.toNat)):=EE λ_ _ _ _ _ _ _ hc q=>pow_int_small hc.1 hc.2.1 hc.2.2 q
def unI {f:Qr->Sem Qr}{g:Int->Int}
 (rule:∀(i:Int) (t:Tok) (s:Qu) (Q:Qr->Qu->Prop) (E:Qr->Qu->Prop),Q (.int (g i) s.toks) {s with toks:=s.toks+1}->wpAny (model X.prog X.w) X.A (f (.int i t)) Q E s) :
 L6 X f (rU λi=>.int (g i)):=by
 intro pins s σ H x v Q I rx h;obtain⟨i,rfl,q⟩:=h;obtain⟨t,rfl⟩:=rx;exact rule i t s _ _ {.int (g i),H,I.tok _,{_,rfl},q}
def IB:L6 X (unaryOp .USub) (rU λi=>.int (-i)):=unI λ_ _ _ _ _ q=>neg_int q
end
noncomputable def Je:V->V->Bool
 |.non,.non=>true|.non,.int _=>true|.int _,.non=>true|.non,.bl _=>true|.bl _,.non=>true|.non,.str _=>true|.str _,.non=>true
 |.int _,.int _=>true|.bl _,.bl _=>true|.str _,.str _=>true|.byt _,.byt _=>true
 |.int _,.str _=>true|.str _,.int _=>true|.bl _,.str _=>true|.str _,.bl _=>true
 |_,_=>false
noncomputable def rEq:R2:=λx y H Q=>Je x y=true/\Q (.bl (decide (x=y))) H
noncomputable def rNe:R2:=λx y H Q=>Je x y=true/\Q (.bl (!decide (x=y))) H
def wO {i j:Int}:decide (V.int i=V.int j)=(i==j):=by
 rw[RV];simp
def A7 {i j:Bool}:decide (V.bl i=V.bl j)=(i==j):=by
 rw[RV];simp
def n5 {i j:Str}:decide (V.str i=V.str j)=(i==j):=by
 rw[RV];simp
def wQ {i j:Array UInt8}:decide (V.byt i=V.byt j)=(i.toList==j.toList):=by
 rw[RV];cases i;cases j;simp
section
variable{X:Cx}{a b c:Expr}{ta tb tc:TE}{pos:Pos}
def bz {pins:List (Addr×Obj)}{σ:St}{H:Hp}{s:Qu}{Q:VK}{k k':Bool}(I:Inv X pins σ H s)(q:Q (.bl k) H)(e:k=k'):EP X pins σ Q (.bool k') s:=by
 subst e;exact{.bl k,H,I,rfl,q}
def MR:bQ X (compareOp .Eq) rEq:=by
 intro pins s σ H x y v u Q I rx ry h;obtain⟨hs,q⟩:=h;cases x with
 | non =>
   cases rx;cases y with
   |non=>cases ry;exact PySem.EqNone.eq_none_none (bz I q `s)
   |bl j=>cases ry;exact PySem.EqNone.eq_none_bool (bz I q `s)
   |int j=>obtain⟨t',rfl⟩:=ry;exact PySem.EqNone.eq_none_int (bz I q `s)
   |str j=>obtain⟨t',rfl⟩:=ry;exact PySem.EqNone.eq_none_str (bz I q `s)
   |_=>exact absurd (show false=true from hs) QR
 | bl i =>
   cases rx;cases y with
   |non=>cases ry;exact PySem.EqNone.eq_bool_none (bz I q `s)
   |bl j=>cases ry;exact eq_bool (bz I q A7)
   |str j=>obtain⟨t',rfl⟩:=ry;exact PySem.EqMixed.eq_bool_str (bz I q `s)
   |_=>exact absurd (show false=true from hs) QR
 | int i =>
   obtain⟨t,rfl⟩:=rx;cases y with
   |non=>cases ry;exact PySem.EqNone.eq_int_none (bz I q `s)
   |int j=>obtain⟨t',rfl⟩:=ry;exact eq_int (bz I q wO)
   |str j=>obtain⟨t',rfl⟩:=ry;exact PySem.EqMixed.eq_int_str (bz I q `s)
   |_=>exact absurd (show false=true from hs) QR
 | str i =>
   obtain⟨t,rfl⟩:=rx;cases y with
   |non=>cases ry;exact PySem.EqNone.eq_str_none (bz I q `s)
   |bl j=>cases ry;exact PySem.EqMixed.eq_str_bool (bz I q `s)
   |int j=>obtain⟨t',rfl⟩:=ry;exact PySem.EqMixed.eq_str_int (bz I q `s)
   |str j=>obtain⟨t',rfl⟩:=ry;exact eq_str (bz I q n5)
   |_=>exact absurd (show false=true from hs) QR
 | byt i =>
   obtain⟨t,rfl⟩:=rx;cases y with
   |byt j=>obtain⟨t',rfl⟩:=ry;exact PySem.W.eq_bytes (bz I q wQ)
   |_=>exact absurd (show false=true from hs) QR
 |_=>cases y<;>exact absurd (show false=true from hs) QR
def MM:bQ X (compareOp .NotEq) rNe:=by
 intro pins s σ H x y v u Q I rx ry h;obtain⟨hs,q⟩:=h;cases x with
 | non =>
   cases rx;cases y with
   |non=>cases ry;exact PySem.EqNone.ne_none_none (bz I q `s)
   |bl j=>cases ry;exact PySem.EqNone.ne_none_bool (bz I q `s)
   |int j=>obtain⟨t',rfl⟩:=ry;exact PySem.EqNone.ne_none_int (bz I q `s)
   |str j=>obtain⟨t',rfl⟩:=ry;exact PySem.EqNone.ne_none_str (bz I q `s)
   |_=>exact absurd (show false=true from hs) QR
 | bl i =>
   cases rx;cases y with
   |non=>cases ry;exact PySem.EqNone.ne_bool_none (bz I q `s)
   |bl j=>cases ry;exact ne_bool (bz I q (congrArg not A7))
   |str j=>obtain⟨t',rfl⟩:=ry;exact PySem.EqMixed.ne_bool_str (bz I q `s)
   |_=>exact absurd (show false=true from hs) QR
 | int i =>
   obtain⟨t,rfl⟩:=rx;cases y with
   |non=>cases ry;exact PySem.EqNone.ne_int_none (bz I q `s)
   |int j=>obtain⟨t',rfl⟩:=ry;exact ne_int (bz I q (congrArg not wO))
   |str j=>obtain⟨t',rfl⟩:=ry;exact PySem.EqMixed.ne_int_str (bz I q `s)
   |_=>exact absurd (show false=true from hs) QR
 | str i =>
   obtain⟨t,rfl⟩:=rx;cases y with
   |non=>cases ry;exact PySem.EqNone.ne_str_none (bz I q `s)
   |bl j=>cases ry;exact PySem.EqMixed.ne_str_bool (bz I q `s)
   |int j=>obtain⟨t',rfl⟩:=ry;exact PySem.EqMixed.ne_str_int (bz I q `s)
   |str j=>obtain⟨t',rfl⟩:=ry;exact ne_str (bz I q (congrArg not n5))
   |_=>exact absurd (show false=true from hs) QR
 | byt i =>
   obtain⟨t,rfl⟩:=rx;cases y with
   |byt j=>obtain⟨t',rfl⟩:=ry;exact PySem.W.ne_bytes (bz I q (congrArg not wQ))
   |_=>exact absurd (show false=true from hs) QR
 |_=>cases y<;>exact absurd (show false=true from hs) QR
def MN:bQ X (compareOp .Lt) (rR λi j=>.bl (decide (i<j))):=xF λ_ _ _ _ _ _ _ q=>lt_int q
def MO:bQ X (compareOp .LtE) (rR λi j=>.bl (decide (i<=j))):=xF λ_ _ _ _ _ _ _ q=>le_int q
def MP:bQ X (compareOp .Gt) (rR λi j=>.bl (decide (j<i))):=xF λ_ _ _ _ _ _ _ q=>gt_int q
def MQ:bQ X (compareOp .GtE) (rR λi j=>.bl (decide (j<=i))):=xF λ_ _ _ _ _ _ _ q=>ge_int q
def Ap:bQ X (compareOp .In) (λx y H Q=>∃i j,x=.str i/\y=.str j/\Q (.bl (!(Builtin.Str.occurrences j i 0 j.length 1).isEmpty)) H):=by
 intro pins s σ H x y v u Q I rx ry h;obtain⟨i,j,rfl,rfl,q⟩:=h;obtain⟨t,rfl⟩:=rx;obtain⟨t',rfl⟩:=ry;exact in_str (bz I q rfl)
def J4:bQ X (compareOp .Is) (λx y H Q=>y=.non/\Q (.bl (decide (x=.non))) H):=by
 intro pins s σ H x y v u Q I rx ry h;obtain⟨rfl,q⟩:=h;cases ry;refine is_none_gen (bz I q ?_);cases x<;>first
  |(cases rx;rfl)
  |(obtain⟨t,rfl⟩:=rx;rfl)
def GZ:bQ X (compareOp .IsNot) (λx y H Q=>y=.non/\Q (.bl (!decide (x=.non))) H):=by
 intro pins s σ H x y v u Q I rx ry h;obtain⟨rfl,q⟩:=h;cases ry;refine isnot_none_gen (bz I q ?_);cases x<;>first
  |(cases rx;rfl)
  |(obtain⟨t,rfl⟩:=rx;rfl)
def ud:bQ X (compareOp .NotIn) (λx y H Q=>∃i j,x=.str i/\y=.str j/\Q (.bl (!(!(Builtin.Str.occurrences j i 0 j.length 1).isEmpty))) H):=by
 intro pins s σ H x y v u Q I rx ry h;obtain⟨i,j,rfl,rfl,q⟩:=h;obtain⟨t,rfl⟩:=rx;obtain⟨t',rfl⟩:=ry;exact notIn_str (bz I q rfl)
def qG {op:CmpOp}{r:R2}(ho:bQ X (compareOp op) r)(ha:PE X a ta)(hb:PE X b tb)(hm:behindInMarks op b=false):PE X (.Compare a [op] [b] pos) (zz r ta tb):=by
 intro pins s σ H Q I h;exact wpAny_Compare1 (DF ha hb I h λv u s2 x y H2 I2 rx ry q=>ho pins s2 σ H2 x y v u Q I2 rx ry q) hm
noncomputable def Es (t:TE):TT:=λσ H Q=>t σ H λx H'=>∃k,x=.bl k/\Q k H'
def qD {op:CmpOp}{r:R2}(ho:bQ X (compareOp op) r)(ha:PE X a ta)(hb:PE X b tb)(hm:behindInMarks op b=false):PT X (.Compare a [op] [b] pos) (Es (zz r ta tb)):=by
 intro pins s σ H Q I h;refine wpAny_isTrue_Compare1 (aT (ha pins s σ H _ I h) λv s1 ⟨x,H1,I1,r1,q1⟩=>aT (hb pins s1 σ H1 _ I1 q1) λu s2 ⟨y,H2,I2,r2,q2⟩=>
  aT (ho pins s2 σ H2 x y v u _ I2 r1 r2 q2) λc s3 ⟨z,H3,I3,r3,k,e,q3⟩=>?_) hm
 subst e;cases r3;exact tqp ⟨H3,I3,q3⟩
noncomputable def tG (r r':R2)(ta tb tc:TE):TE:=λσ H Q=>ta σ H λx H1=>tb σ H1 λy H2=>r x y H2 λz H3=>∃k,z=.bl k/\
 (if k=true then tc σ H3 λw' H4=>r' y w' H4 Q else Q (.bl false) H3)
def CM {op op':CmpOp}{r r':R2}(ho:bQ X (compareOp op) r)(ho':bQ X (compareOp op') r')(ha:PE X a ta)(hb:PE X b tb)(hc:PE X c tc)
 (hm:lastMarks [op,op'] [b,c]=false:=by with_unfolding_all rfl):PE X (.Compare a [op,op'] [b,c] pos) (tG r r' ta tb tc):=by
 intro pins s σ H Q I h;refine Compare_chain (aT (ha pins s σ H _ I h) λv s1 ⟨x,H1,I1,r1,q1⟩=>chain_link (aT (hb pins s1 σ H1 _ I1 q1) λu s2 ⟨y,H2,I2,r2,q2⟩=>
  aT (ho pins s2 σ H2 x y v u _ I2 r1 r2 q2) λd s3 ⟨z,H3,I3,r3,k,e,q3⟩=>?_)) hm
 subst e;cases r3;refine tqp ?_;cases k with
 |false=>exact ite_ff {.bl false,H3,I3,rfl,q3}
 |true=>exact ite_tt (chain_last (aT (hc pins s3 σ H3 _ I3 q3) λw' s4 ⟨z',H4,I4,r4,q4⟩=>ho' pins s4 σ H4 y z' u w' Q I4 r2 r4 q4))
def CG {op op':CmpOp}{r r':R2}(ho:bQ X (compareOp op) r)(ho':bQ X (compareOp op') r')(ha:PE X a ta)(hb:PE X b tb)(hc:PE X c tc)
 (hm:lastMarks [op,op'] [b,c]=false:=by with_unfolding_all rfl):PT X (.Compare a [op,op'] [b,c] pos) (Es (tG r r' ta tb tc)):=by
 intro pins s σ H Q I h;refine isTrue_chain (aT (ha pins s σ H _ I h) λv s1 ⟨x,H1,I1,r1,q1⟩=>test_link (aT (hb pins s1 σ H1 _ I1 q1) λu s2 ⟨y,H2,I2,r2,q2⟩=>
  aT (ho pins s2 σ H2 x y v u _ I2 r1 r2 q2) λd s3 ⟨z,H3,I3,r3,k,e,q3⟩=>?_)) hm
 subst e;cases r3;refine tqp ?_;cases k with
 | false =>
   obtain⟨k',e',q'⟩:=q3;cases e';exact ite_ff ⟨H3,I3,q'⟩
 | true =>
   refine ite_tt (test_last (aT (hc pins s3 σ H3 _ I3 q3) λw' s4 ⟨z',H4,I4,r4,q4⟩=>aT (ho' pins s4 σ H4 y z' u w' _ I4 r2 r4 q4) λd' s5 ⟨z2,H5,I5,r5,k2,e2,q5⟩=>?_));subst e2;cases r5;exact tqp ⟨H5,I5,q5⟩
noncomputable def DL (K:Qp)(x:V)(H:Hp)(k:Bool):Prop:=
 match x with
 |.non=>k=false
 |.bl b=>k=b
 |.int i=>k=(i != 0)
 |.str y=>y.length<=sizeLine/\k=((y.length:Int) != 0)
 |.byt y=>y.size<=sizeLine/\k=((y.size:Int) != 0)
 |.ref p=>(∃xs,c7 K H p xs/\k=!xs.isEmpty)\/(∃xs,dQ K H p xs/\k=!xs.isEmpty)\/∃kvs,H p=some (.dK kvs)/\k=!kvs.isEmpty
 |_=>False
def ya {κ:Type}{kvs:List (κ×V)}{vs:List (κ×Qr)}(r:KV kvs vs):(!vs.isEmpty)=!kvs.isEmpty:=by
 cases r<;>rfl
def lN {xs:List V}{its:List Qr}(r:Vals xs its):(!its.toArray.isEmpty)=!xs.isEmpty:=by
 cases r<;>simp
def jy:(sizeLine:Nat)<2^63:=by rw[sizeLine_eq];decide
def IV:PZ X (λx H Q=>∃k,DL X.K x H k/\Q k H):=by
 intro pins s σ H x v Q I rx h;obtain⟨k,e,q⟩:=h;have hl:=jy;have hs:sizeLine=16777216:=sizeLine_eq;cases x with
 | non =>
   cases rx;have e':k=false:=e;subst e';exact truthy_none ⟨H,I,q⟩
 | bl b =>
   cases rx;have e':k=b:=e;subst e';exact tqp ⟨H,I,q⟩
 | int i =>
   obtain⟨t,rfl⟩:=rx;have e':k=(i != 0):=e;subst e';exact PySem.P.truthy_int ⟨H,I,q⟩
 | str y =>
   obtain⟨t,rfl⟩:=rx;obtain⟨hy,e'⟩:y.length<=sizeLine/\k=((y.length:Int) != 0):=e;subst e';exact PySem.P.truthy_str `a {H,I.tok _,q}
 | byt y =>
   obtain⟨t,rfl⟩:=rx;obtain⟨hy,e'⟩:y.size<=sizeLine/\k=((y.size:Int) != 0):=e;subst e';exact PySem.W.truthy_bytes `a {H,I.tok _,q}
 | ref p =>
   cases rx;have e':(∃xs,c7 X.K H p xs/\k=!xs.isEmpty)\/(∃xs,dQ X.K H p xs/\k=!xs.isEmpty)\/∃kvs,H p=some (.dK kvs)/\k=!kvs.isEmpty:=e;rcases e' with⟨xs,hx,e'⟩|⟨xs,hx,e'⟩|⟨kvs,hx,e'⟩
   ·subst e';obtain⟨its,r,pl,hz⟩:=I.list hx;have hlen:=r.length;exact wpAny_truthy_list pl.isList (by simp only[QI];omega) {H,I.tok _,by rw[lN r];exact q}
   ·subst e';obtain⟨its,r,pl,hz⟩:=I.tuple hx;have hlen:=r.length;exact truthy_tuple pl (by simp only[QI];omega) {H,I.tok _,by rw[lN r];exact q}
   ·subst e';obtain⟨hz,hS,vs,r,m⟩:kvs.length<=sizeLine/\(p==sysModules)=false/\∃vs,KV kvs vs/\s.heap.DictOf (kQ X.prog X.w) p vs:=I.hok p _ hx;have hlen:kvs.length=vs.length:=Paired.length r;exact wpAny_truthy_dict hS m `a {H,I.tok _,by rw[ya r];exact q}
 |_=>exact(show False from e).elim
def CF (ha:PE X a ta)(he:∀whole,isTrue a X.env whole=(do let v <- whole;standAt a.pos;holding [v] (truthy v))) :
 PT X a (λσ H Q=>ta σ H λx H'=>∃k,DL X.K x H' k/\Q k H'):=by
 intro pins s σ H Q I h;exact isTrue_plain (aT (ha pins s σ H _ I h) λv s1 ⟨x,H1,I1,r1,q1⟩=>IV pins s1 σ H1 x v Q I1 r1 q1) (he _)
def xE:bQ X (binaryOp .Add) (λx y H Q=>∃i j,x=.str i/\y=.str j/\i.length+j.length<=sizeLine/\Q (.str (i++j)) H):=by
 intro pins s σ H x y v u Q I rx ry h;obtain⟨i,j,rfl,rfl,hz,q⟩:=h;obtain⟨t,rfl⟩:=rx;obtain⟨t',rfl⟩:=ry;exact add_str (λt' tk=>{.str (i++j),H,I.tok _,{_,rfl},q}) hz
def vals1 {x:V}{us:List Qr}(r:Vals [x] us):∃u,us=[u]/\RelV x u:=by
 cases r with
 |cons r1 r2=>cases r2;exact{_,rfl,r1}
def vals2 {x y:V}{us:List Qr}(r:Vals [x,y] us):∃u w',us=[u,w']/\RelV x u/\RelV y w':=by
 cases r with
 | cons r1 r2 =>
   cases r2 with
   |cons r3 r4=>cases r4;exact{_,_,rfl,r1,r3}
def Bj:b9 X (.type "int") (λxs H Q=>(∃i,xs=[.int i]/\Q (.int i) H)\/∃k,xs=[.bl k]/\Q (.int (if k then 1 else 0)) H):=by
 intro pins s σ H xs us Q I r h;rcases h with⟨i,rfl,q⟩|⟨k,rfl,q⟩
 ·obtain⟨u,rfl,t,rfl⟩:=vals1 r;exact call_int_int {.int i,H,I,{_,rfl},q}
 ·obtain⟨u,rfl,r1⟩:=vals1 r;cases r1;exact call_int_bool {.int (if k then 1 else 0),H,I.tok _,{_,rfl},q}
end
structure DR (h:Heap) (x dx C:Addr) (mA:Str->Option Qr):Prop where
 obj:h.get? x=some (PySem.W.instObj C dx)
 ns:h.Ns1 dx mA
 ne:dx≠x
def AE {h:Heap}{dx:Addr}{mA:Str->Option Qr}(n:h.Ns1 dx mA):∃od,h.get? dx=some od/\∀name,PySem.W.lookIn name od=some (mA name):=by
 obtain⟨o,es,ep,ho,hd,hk,_,hm⟩:=n;refine{o,ho,λname=>?_};have e:=hm name;unfold nsFind findBy at e;rw[<- Array.find?_toList] at e;unfold PySem.W.lookIn;rw[hd];dsimp only;split
 ·rename_i y q;rw[q] at e;exact congrArg some e
 ·rename_i q;rw[q] at e;have a:es.toList.any (·.refKey)=false:=by
   rw[List.any_eq_false];intro y hy;obtain⟨z,t,hkey⟩:=hk y (Array.mem_toList_iff.mp hy);simp[DictEntry.refKey,hkey]
  have a':¬ es.toList.any (·.refKey)=true:=by rw[a];exact QR
  rw[if_neg a'];exact congrArg some e
def DR.look {h:Heap}{x dx C:Addr}{mA:Str->Option Qr}(I:DR h x dx C mA):∃od,PySem.W.InstAt h x (PySem.W.instObj C dx) C (some od)/\∀name,PySem.W.lookIn name od=some (mA name):=
 let⟨od,ho,hl⟩:=AE I.ns
 {od,⟨I.obj,rfl,rfl,ho⟩,hl}
section
variable{P:Rp}{w:Rr}{H H':Hp}{h h':Heap}{a C dx:Addr}{fs fs':List (Str×V)}
def Hk (hok:eJ P w H h)(e:H a=some (.ins C dx fs)):∃mA,DR h a dx C mA/\(∀f,DN (fs.lookup f) (mA f))/\PySem.Within mA (fs.map (·.1))/\fs.length<=1000/\H dx=some (.own a):=by
 obtain⟨d,z,ne,ob,mA,n,r,q⟩:=(show cX P w H h a (.ins C dx fs) from hok a _ e);exact{mA,⟨ob,n,ne⟩,r,q,z,d}
end
structure xb (K:Qp) (C:Addr):Prop where
 pg:PySem.W.plainGet K C Str.empty=true
 hd:PySem.W.hasDictIn K C=true
 po:PySem.W.plainOver K C=true
 sa:PySem.W.findIn K (.ref C) "__setattr__"=some (some (.builtin "object.__setattr__"))
def xb.get {K:Qp}{C:Addr}(c:xb K C)(f:Str):PySem.W.plainGet K C f=true:=c.pg
noncomputable def Ma (K:Qp)(C:Addr)(f:Str):Prop:=PySem.W.findIn K (.ref C) f=some none
structure Meth (K:Qp) (C:Addr) (m:Str) (f:Addr):Prop where
 at_:PySem.W.findIn K (.ref C) m=some (some (.ref f))
 fn:PySem.W.isFn K (.ref f)=true
 kp:PySem.W.keepIn K (.ref f)=true
section
variable{X:Cx}{pins:List (Addr×Obj)}{σ:St}{H:Hp}{s:Qu}{A:RW}{E:Qr->Qu->Prop}{Q:Qr->Qu->Prop}{c:Qr}{b:Bool}
inductive iV (K:Qp) (H:Hp):V->Qr->Prop where
 |non:iV K H .non (.type "NoneType")
 |bl (x:Bool):iV K H (.bl x) (.type "bool")
 |int (i:Int):iV K H (.int i) (.type "int")
 |str (x:Str):iV K H (.str x) (.type "str")
 |flt (x:UInt64):iV K H (.flt x) (.type "float")
 |lst {a:Addr}{xs:List V} (e:H a=some (.lst xs)):iV K H (.ref a) (.type "list")
 |frz {a:Addr}{o:Obj}{xs:List V} (e:H a=some (.frz o (.lst xs))):iV K H (.ref a) (.type "list")
 |tup {a:Addr}{xs:List V} (e:H a=some (.tup xs)):iV K H (.ref a) (.type "tuple")
 |dK {a:Addr}{kvs:List (Key×V)} (e:H a=some (.dK kvs)):iV K H (.ref a) (.type "dict")
 |dT {a:Addr}{kvs:List (List Key×V)} (e:H a=some (.dT kvs)):iV K H (.ref a) (.type "dict")
 |ins {a C dx:Addr}{fs:List (Str×V)} (e:H a=some (.ins C dx fs)) (cl:xb K C) (ha:PySem.W.findIn K (.ref C) "__class__"=some (some (.builtin "object.__class__")))
  (hn:PySem.W.specialIn K (.builtin "object.__class__") "__get__"=some (some (.builtin "getset_descriptor.__get__"))) (htk:PySem.W.takesIn K (.builtin "object.__class__")=some true)
  (hm:PySem.W.mroIn K C (.type "object")=some true):iV K H (.ref a) (.ref C)
def jU {x:V}{u t:Qr}(I:Inv X pins σ H s)(rx:RelV x u)(ty:iV X.K H x t)(e:PySem.W.kitOne X.K t c=some b)(h:∀tk,Q (.bool b) {s with toks:=tk}) :
 wpAny (model X.prog X.w) A (call (.builtin "isinstance") [u,c]) Q E s:=by
 cases ty with
 |non=>cases (show u=Value.none from rx);exact RJ PySem.W.kitx_none I.kIn True.intro e (λz=>nomatch z) h
 |bl y=>cases (show u=Value.bool y from rx);exact RJ PySem.W.kitx_bool I.kIn True.intro e (λz=>nomatch z) h
 |int i=>obtain⟨t,q⟩:=(show ∃t,u=Value.int i t from rx);cases q;exact RJ PySem.W.kitx_int I.kIn True.intro e (λz=>nomatch z) h
 |str y=>obtain⟨t,q⟩:=(show ∃t,u=Value.str y t from rx);cases q;exact RJ PySem.W.kitx_str I.kIn True.intro e (λz=>nomatch z) h
 |flt y=>obtain⟨t,q⟩:=(show ∃t,u=Value.float y t from rx);cases q;exact RJ PySem.W.kitx_float I.kIn True.intro e (λz=>nomatch z) h
 | @lst a xs ea =>
   cases (show u=Value.ref a from rx);obtain⟨_,_,n,_,h1⟩:=(show cX X.prog X.w H s.heap a (.lst xs) from I.hok a _ ea);exact RJ PySem.W.kitx_list I.kIn {_,h1,rfl} e (λz=>nomatch z) h
 | @frz a ob xs ea =>
   cases (show u=Value.ref a from rx);obtain⟨_,_,_,n,_,h1⟩:=(show cX X.prog X.w H s.heap a (.frz ob (.lst xs)) from I.hok a _ ea);exact RJ PySem.W.kitx_list I.kIn {_,h1,rfl} e (λz=>nomatch z) h
 | @tup a xs ea =>
   cases (show u=Value.ref a from rx);obtain⟨_,_,_,p⟩:=(show cX X.prog X.w H s.heap a (.tup xs) from I.hok a _ ea);obtain⟨o,h1,h2,_⟩:=p;exact RJ PySem.W.kitx_tuple I.kIn ⟨o,h1,h2⟩ e (λz=>nomatch z) h
 | @dK a kvs ea =>
   cases (show u=Value.ref a from rx);obtain⟨_,_,vs,_,p⟩:=(show cX X.prog X.w H s.heap a (.dK kvs) from I.hok a _ ea);obtain⟨o,es,ep,h1,h2,_⟩:=p;exact RJ PySem.W.kitx_dict I.kIn ⟨o,h1,h2.1⟩ e (λz=>nomatch z) h
 | @dT a kvs ea =>
   cases (show u=Value.ref a from rx);obtain⟨_,_,xs,_,o,es,ep,h1,h2,_⟩:=(show cX X.prog X.w H s.heap a (.dT kvs) from I.hok a _ ea);exact RJ PySem.W.kitx_dict I.kIn ⟨o,h1,h2.1⟩ e (λz=>nomatch z) h
 | @ins a C dx fs ea cl ha hn htk hm =>
   cases (show u=Value.ref a from rx);obtain⟨mA,O,_⟩:=Hk I.hok ea;obtain⟨od,J,_⟩:=O.look;exact RJ (PySem.W.kitx_own (cl.get _) cl.hd ha hn htk hm) I.kIn J e (λz=>nomatch z) h
end
structure dA (k:Nat) (A:RW):Prop where
 hd:A.handled=none
 dp:A.depth+3*k+5<recursionLimit
 un:A.units+16*k+200<cLine
 gd:A.guards=some []
def dA.mono {j k:Nat}{A:RW}(r:dA k A)(h:j<=k):dA j A:={r.hd,by have:=r.dp;omega,by have:=r.un;omega,r.gd}
def dA.deeper {k:Nat}{A:RW}(r:dA (k+1) A)(env:Env):dA k (A.deeper env):=
 {r.hd,by have:=r.dp;show A.depth+1+3*k+5<_;omega,by have:=r.un;show A.units+3+16*k+200<_;omega,r.gd}
def dA.depth {k:Nat}{A:RW}(r:dA k A):A.depth<recursionLimit:=by have:=r.dp;omega
def dA.units {k:Nat}{A:RW}(r:dA k A):A.units+64<cLine:=by have:=r.un;omega
noncomputable def OM:TA:=λ_ H Q=>Q [] H
noncomputable def Mw (ta:TE)(tr:TA):TA:=λσ H Q=>ta σ H λx H1=>tr σ H1 λxs H2=>Q (x::xs) H2
section
variable{X:Cx}{e:Expr}{es:List Expr}{te:TE}{t:TA}{pos:Pos}
def dI:PA X [] OM:=λ_ _ _ _ H Q I h=>Calls.spliced_nil {[],H,I,.nil,h}
def cf (ha:PE X e te)(hr:PA X es t)(hs:starEach (e::es) X.env=(false,eval e X.env)::starEach es X.env:=by rfl):PA X (e::es) (Mw te t):=by
 intro pos pins s σ H Q I h;rw[hs];show wpAny _ _ (spliced ((false,eval e X.env)::backTo pos (starEach es X.env))) _ _ s;refine Calls.spliced_cons (aT (ha pins s σ H _ I h) λu s1 ⟨x,H1,I1,r1,q1⟩=>?_);exact aT (hr pos pins s1 σ H1 _ I1 q1) λus s2 ⟨xs,H2,I2,r2,q2⟩=>{x::xs,H2,I2,.cons r1 r2,q2}
noncomputable def OI (t:TA):TE:=λσ H Q=>t σ H λxs H1=>xs.length<=sizeLine/\∀p,H1 p=none->Q (.ref p) (upd H1 p (.tup xs))
noncomputable def ON (t:TA):TE:=λσ H Q=>t σ H λxs H1=>xs.length<=sizeLine/\∀p,H1 p=none->Q (.ref p) (upd H1 p (.lst xs))
def JQ {x1}(h:PA X es t):PE X (.Tuple es x1 pos) (OI t):=by
 intro pins s σ H Q I hq;refine wpAny_Tuple_spliced (aT (h pos pins s σ H _ I hq) λus s1 ⟨xs,H1,I1,r,z,q⟩=>{by rw[<- r.length];exact z,?_})
 have hf:H1 s1.heap.objs.size=none:=I1.hok.fresh (Qw _);refine{.ref s1.heap.objs.size,upd H1 s1.heap.objs.size (.tup xs),I1.laid (t':=s1.toks) (λb u e=>Qt _ e) (Qw _) ?_,rfl,q _ hf};exact{z,us,r,{_,QM _ rfl,rfl,_,rfl}}
def JV (h:PA X es t):PE X (.List es pos) (ON t):=by
 intro pins s σ H Q I hq;refine wpAny_List_spliced (aT (h pos pins s σ H _ I hq) λus s1 ⟨xs,H1,I1,r,z,q⟩=>{by rw[<- r.length];exact z,?_})
 have hf:H1 s1.heap.objs.size=none:=I1.hok.fresh (Qw _);refine{.ref s1.heap.objs.size,upd H1 s1.heap.objs.size (.lst xs),I1.laid (t':=s1.toks) (λb u e=>Qt _ e) (Qw _) ?_,rfl,q _ hf};exact{z,us,0,r,QM _ rfl}
end
abbrev Sp:=List V->Hp->VK->XK->Prop
abbrev oE:=List Env->Hp->Qu->XK->Qr->Qu->Prop
structure yG (P:Rp) (w:Rr) (K:Qp) (mg:Str->Option Qr) (base:Heap) (A:RW) (outer:List Env) (s:Qu) (H:Hp):Prop where
 frames:A.frames=some outer
 mod:Mod K mg base
 bs:∀b o,base.get? b=some o->s.heap.get? b=some o/\H b=none
 bsz:base.objs.size<=s.heap.objs.size
 funs:s.heap.FunFrames base outer
 frf:∀b∈gg outer,H b=none
 hok:eJ P w H s.heap
 bare:AllBare s.gens
noncomputable def CE (outer:List Env)(P:Rp)(w:Rr)(H:Hp)(s:Qu)(Q:VK)(u:Qr)(s':Qu):Prop:=
 ∃v H',s'.os=s.os/\AllBare s'.gens/\Un (gg outer) [] H H' s.heap s'.heap/\eJ P w H' s'.heap/\RelV v u/\Q v H'
noncomputable def CR (CX:oE)(outer:List Env)(P:Rp)(w:Rr)(H:Hp)(s:Qu)(Q:VK)(E:XK)(r:Result)(s':Qu):Prop:=
 match r with
 |.ok (.ret u)=>CE outer P w H s Q u s'
 |.ok _=>False
 |.error e=>CX outer H s E e s'
structure md (P:Rp) (w:Rr) (K:Qp) (mg:Str->Option Qr) (base:Heap) (CX:oE) (k:Nat) (f:Addr) (fd:FuncData) (ps:List Str) (sp:Sp):Prop where
 len:∀vs H Q E,sp vs H Q E->vs.length=ps.length
 run:∀(A:RW) (outer:List Env) (s:Qu) (H:Hp) (args:Args) (us:List Qr) (vs:List V) (Q:VK) (E:XK),dA k A->yG P w K mg base A outer s H->BindsTo s fd args (ps.zip us)->Vals vs us->sp vs H Q E->
  codeAny (model P w) A (.call (.ref f) args) (CR CX outer P w H s Q E) s
section
variable{X:Cx}{pins:List (Addr×Obj)}{σ:St}{H:Hp}{s s':Qu}
def Inv.env0 (I:Inv X pins σ H s):yG X.prog X.w X.K X.mg X.base X.A X.stack s H:=
 {I.ok.frames,I.ok.mod,I.bs,QH I.ok.bsz I.sz,I.stack,I.stkFree,I.hok,I.bare}
def Inv.after {Q:VK}{u:Qr}(I:Inv X pins σ H s)(h:CE X.stack X.prog X.w H s Q u s'):EP X pins σ Q u s':=by
 obtain⟨v,H',os,bare,un,hok,r,q⟩:=h;obtain⟨hh,g,d,t,os'⟩:=s';obtain rfl:os'=s.os:=os;exact{v,H',I.call (h':=hh) (g':=g) (d':=d) (t':=t) (ch:=[]) un hok bare (λb z=>absurd z `s),r,q}
end
noncomputable def Eu (sp:Sp)(dvs:List V)(E:XK)(t:TA):TE:=λσ H Q=>t σ H λvs H1=>sp (vs++dvs) H1 Q E
noncomputable def Binds (K:Qp)(fd:FuncData)(ps:List Str)(ds:List Qr):Prop:=
 ∀(s:Qu) (us:List Qr),K.In s.heap->(us++ds).length=ps.length->BindsTo s fd {us,[]} (ps.zip (us++ds))
def Binds.all {K:Qp}{fd:FuncData}{ps:List Str}(h:∀us:List Qr,us.length=ps.length->bindArgs fd {us,[]}=pure (ps.zip us)):Binds K fd ps []:=λs us _ hl=>by
 rw[Rv] at hl ⊢;exact .of_eq (h us hl)
noncomputable def Passes (CX:oE)(X:Cx)(E:XK):Prop:=∀(pins:List (Addr×Obj)) (σ:St) (H:Hp) (s:Qu) (e:Qr) (s':Qu),Inv X pins σ H s->CX X.stack H s E e s'->X.xe e s'
section
variable{X:Cx}{CX:oE}{k:Nat}{f C:Addr}{fd:FuncData}{ps:List Str}{sp:Sp}{dvs:List V}{ds:List Qr}{E:XK}{x m:Str}{p pos apos:Pos}{e o:Expr}{es:List Expr}{ta:TE}{t:TA}
def zZ {pins:List (Addr×Obj)}{σ:St}{H:Hp}{s:Qu}{Q:VK}{us:List Qr}{vs:List V}(F:md X.prog X.w X.K X.mg X.base CX k f fd ps sp)(hr:dA k X.A)(hb:Binds X.K fd ps ds)(hd:Vals dvs ds)(hx:Passes CX X E)
 (I:Inv X pins σ H s) (r:Vals vs us) (h:sp (vs++dvs) H Q E):wpAny (model X.prog X.w) X.A (call (.ref f) us) (EP X pins σ Q) X.xe s:=by
 have r2:Vals (vs++dvs) (us++ds):=r.append hd;have hl:(us++ds).length=ps.length:=by rw[<- r2.length];exact F.len _ _ _ _ h
 refine wpAny_call (codeAny_mono (F.run X.A X.stack s H {us,[]} (us++ds) (vs++dvs) Q E hr I.env0 (hb s us I.kIn hl) r2 h) λr s' hq=>?_);cases r with
 |error e=>exact hx pins σ H s e s' I hq
 | ok fl =>
   cases fl with
   |ret u=>exact I.after hq
   |next=>exact False.elim hq
   |brk=>exact False.elim hq
   |cont=>exact False.elim hq
def GU (F:md X.prog X.w X.K X.mg X.base CX k f fd ps sp)(hr:dA k X.A)(hg:Gl X x)(hm:X.mg x=some (.ref f))(hk:PySem.W.keepIn X.K (.ref f)=true)(hb:Binds X.K fd ps ds)(hd:Vals dvs ds)(hx:Passes CX X E)
 (ha:PA X (e::es) t) (hdb:(x==("__debug__":Str))=false:=by decide) (he:starEach (e::es) X.env=(false,eval e X.env)::starEach es X.env:=by rfl) (hpl:(backTo pos (starEach es X.env)).any (·.1)=false:=by rfl) :
 PE X (.Call (.Name x p) (e::es) [] pos) (Eu sp dvs E t):=by
 intro pins s σ H Q I h;refine wpAny_Call_Name_kw (jf I hg hm ?_ hdb);refine PySem.W.callWith_K (h₀:=X.base) I.ok.mod.kin hk (aT (ha pos pins s σ H _ I h) λus s1 ⟨vs,H1,I1,r,q⟩=>{I1.kIn,?_}) he hpl;exact zZ F hr hb hd hx I1 r q
structure Mk (K:Qp) (C f:Addr):Prop where
 makes:PySem.W.makesIn K C=true
 init:PySem.W.findIn K (.ref C) "__init__"=some (some (.ref f))
 fn:PySem.W.isFn K (.ref f)=true
 kp:PySem.W.keepIn K (.ref C)=true
end
structure jl (N P:List Str) (sc:Scope):Prop where
 kind:sc.kind=.function
 co:sc.isCoroutine=false
 gen:sc.isGenerator=false
 nd:N.Nodup
 pre:N.take P.length=P
 par:∀x∈P,sc.names.lookup x=some .local\/sc.names.lookup x=some .cell
 nofree:∀y∈sc.names,y.2≠.free
def so {kindOf:Str->Option NameKind}{x:Str}:∀{binds:List (Str×Qr)}{m:Str->Option Qr},(∀v,(x,v)∉binds)->bindL kindOf binds m x=m x
 |[],_,_=>rfl
 | (n, v) :: r, m, h => by
   unfold bindL;rw[so λw hw=>h w (QJ _ hw)];split
   ·have:x≠n:=by rintro rfl;exact h v QN
    simp[this]
   ·rfl
def sC {kindOf:Str->Option NameKind}{x:Str}:∀{binds:List (Str×Qr)}{m:Str->Option Qr},(∀v,(x,v)∉binds)->bindC kindOf binds m x=m x
 |[],_,_=>rfl
 | (n, v) :: r, m, h => by
   unfold bindC;rw[sC λw hw=>h w (QJ _ hw)];split
   ·rfl
   ·have:x≠n:=by rintro rfl;exact h v QN
    simp[this]
def sv {kindOf:Str->Option NameKind}{x:Str}{v:Qr}:∀{P:List Str}{vs:List Qr}{i:Nat}{m:Str->Option Qr},P.Nodup->P[i]?=some x->vs[i]?=some v->kindOf x=some .local->
 bindL kindOf (P.zip vs) m x=some v
 |[],_,_,_,_,h,_,_=>by simp at h
 |_::_,[],_,_,_,_,h,_=>by simp at h
 | p :: P, w :: vs, 0, m, nd, h1, h2, hk => by
   simp at h1 h2;subst h1;subst h2;show bindL kindOf ((p,w)::P.zip vs) m p=_;unfold bindL;rw[so λv hv=>(RF.mp nd).1 (List.of_mem_zip hv).1,if_pos hk];simp
 | p :: P, w :: vs, i + 1, m, nd, h1, h2, hk => by
   show bindL kindOf ((p,w)::P.zip vs) m x=_;unfold bindL;exact sv (i:=i) (RF.mp nd).2 (by simpa using h1) (by simpa using h2) hk
def sD {kindOf:Str->Option NameKind}{x:Str}{v:Qr}:∀{P:List Str}{vs:List Qr}{i:Nat}{m:Str->Option Qr},P.Nodup->P[i]?=some x->vs[i]?=some v->kindOf x≠some .local->
 bindC kindOf (P.zip vs) m x=some v
 |[],_,_,_,_,h,_,_=>by simp at h
 |_::_,[],_,_,_,_,h,_=>by simp at h
 | p :: P, w :: vs, 0, m, nd, h1, h2, hk => by
   simp at h1 h2;subst h1;subst h2;show bindC kindOf ((p,w)::P.zip vs) m p=_;unfold bindC;rw[sC λv hv=>(RF.mp nd).1 (List.of_mem_zip hv).1,if_neg hk];simp
 | p :: P, w :: vs, i + 1, m, nd, h1, h2, hk => by
   show bindC kindOf ((p,w)::P.zip vs) m x=_;unfold bindC;exact sD (i:=i) (RF.mp nd).2 (by simpa using h1) (by simpa using h2) hk
noncomputable def start (N:List Str)(vs:List V):St:=vs.map some++List.replicate (N.length-vs.length) none
noncomputable def gD (CX:oE)(P:Rp)(w:Rr)(K:Qp)(mg:Str->Option Qr)(base:Heap)(N:List Str)(qual:Str)(scope:Scope)(f:Addr)(cd:Qr)(A:RW)(outer:List Env)(s:Qu)(H:Hp)(E:XK):Cx where
 prog:=P
 w:=w
 K:=K
 mg:=mg
 base:=base
 A:=A.deeper (envOfC qual scope s.heap.objs.size f cd)
 N:=N
 s₀:=s
 H₀:=H
 env:=envOfC qual scope s.heap.objs.size f cd
 outer:=outer
 stack:=envOfC qual scope s.heap.objs.size f cd::outer
 ex:=[]
 calm:=true
 fn:=λ_=>true
 pn:=[]
 xe:=λe s'=>wpAny (model P w) (A.deeper (envOfC qual scope s.heap.objs.size f cd)) (leaving (envOfC qual scope s.heap.objs.size f cd) e) (λ_ s''=>CX outer H s E e s'') (λe' s''=>CX outer H s E e' s'') s'
def u5 {sc:Scope}{n:Nat}{x:Str}(h:sc.names.lookup x=some .cell):∃c,(cellsFrom n sc.names []).lookup x=some c:=by
 have q:=PySem.W.cellsFrom_some sc.names n [] (.inl h);exact Option.isSome_iff_exists.mp q
def AW {CX:oE}{P:Rp}{w:Rr}{K:Qp}{mg:Str->Option Qr}{base:Heap}{N ps:List Str}{qual:Str}{scope:Scope}{f:Addr}{cd:Qr}{A:RW}{outer:List Env}{s s1:Qu}{H:Hp}{E:XK}{us:List Qr}{vs:List V}
 (S:jl N ps scope) (hd:A.handled=none) (e0:yG P w K mg base A outer s H) (hl:vs.length=ps.length) (r:Vals vs us)
 (x:InCallC s s.heap.objs.size (bindL (envOfC qual scope s.heap.objs.size f cd).kindOf (ps.zip us) λ_=>none) (cellsFrom (s.heap.objs.size+1) scope.names []) (bindC (envOfC qual scope s.heap.objs.size f cd).kindOf (ps.zip us) λ_=>none) s1) :
 Inv (gD CX P w K mg base N qual scope f cd A outer s H E) [] (start N vs) H s1:=by
 have hpl:ps.length<=N.length:=by have:=congrArg List.length S.pre;rw[RX] at this;omega
 obtain⟨h1,tk,rfl,hk⟩:=x.done;have noA:∀b:Addr,b∉(gD CX P w K mg base N qual scope f cd A outer s H E).ex:=λb z=>absurd (show b∈([]:List Addr) from z) `s
 refine{{e0.mod,S.kind,rfl,rfl,Qw _,λy z c h1 h2=>?_,λy hy=>?_,λy c _ h=>?_,λ_=>hd,Around.frames_deeper e0.frames,.inr ⟨rfl,rfl⟩,λb z=>absurd z (noA b),e0.bs,e0.bsz,λb _ _=>noA b,λb z=>absurd z (noA b),e0.funs,e0.frf},
  rfl,e0.bare,Un.kept hk,{_,x.toInCall.ns,λi y v h1 h2 h3=>?_},λy c h=>{_,x.cell y c h},e0.hok.fresh (Qw _),λy c h=>?_,λp hp=>absurd (show p∈([]:List (Addr×Obj)) from hp) `s,e0.hok.kept hk,?_}
 ·exact name_of_addr x.apart (SQ h1) (SQ h2)
 ·have hy:scope.names.lookup y=some .cell\/scope.names.lookup y=some .free:=hy;rcases hy with hy|hy
  ·exact u5 hy
  ·exact absurd rfl (S.nofree _ (SQ hy))
 ·exact Sy (x.above y c (SQ h))
 ·have hi:i<vs.length:=by
   unfold start at h2;by_cases hi:i<vs.length
   ·exact hi
   ·rw[Ro (by simpa using hi)] at h2
    rw[SD] at h2;split at h2<;>cases h2
  have ha:vs[i]?=some v:=by
   unfold start at h2;rw[Qv (by simpa using hi),QL] at h2
   cases e:vs[i]? with
   |none=>rw[e] at h2;cases h2
   |some a=>rw[e] at h2;cases h2;rfl
  obtain⟨u,hu,rv⟩:=r.get ha;have hp:ps[i]?=some y:=by
   rw[<- S.pre,List.getElem?_take_of_lt `a];exact h1
  have ndP:ps.Nodup:=by rw[<- S.pre];exact S.nd.sublist (List.take_sublist _ _)
  refine{u,rv,?_};rcases S.par y (QT hp) with k|k
  ·exact .inl {k,sv ndP hp hu k}
  ·obtain⟨c,e⟩:=u5 (n:=s.heap.objs.size+1) k;refine .inr {.inl k,c,e,?_};have q:=x.cell y c e;rw[sD ndP hp hu (by show scope.names.lookup y≠_;rw[k];decide)] at q
   exact q
 ·exact e0.hok.fresh (Sy (x.above y c (SQ h)))
 ·unfold start;show _=N.length;rw[Rb,Qq,List.length_replicate];omega
def Nd {CX:oE}{P:Rp}{w:Rr}{K:Qp}{mg:Str->Option Qr}{base:Heap}{k:Nat}{f:Addr}{name qual:Str}{params:Arguments}{body:List Stmt}{scope:Scope}{dV kV doc pm cdv ct oc:Qr}{an od:Option Addr}
 {osl:Array (Option Qr)}{N ps:List Str}{sp:Sp} (lk:K.lookup f=some {oc,od,.func (PySem.W.fnOf name qual params body scope dV kV doc pm an cdv ct),osl}) (hcd:PySem.W.codeIn K cdv qual=true) (S:jl N ps scope)
 (len:∀vs H Q E,sp vs H Q E->vs.length=ps.length)
 (hbody:∀(A:RW) (outer:List Env) (s:Qu) (H:Hp) (vs:List V) (Q:VK) (E:XK),dA k (A.deeper (envOfC qual scope s.heap.objs.size f cdv))->sp vs H Q E->
  ∃t,k9 (gD CX P w K mg base N qual scope f cdv A outer s H E) body t/\t {nx:=λ_ H'=>Q .non H',rt:=Q} (start N vs) H) :
 md P w K mg base CX (k+1) f (PySem.W.fnOf name qual params body scope dV kV doc pm an cdv ct) ps sp:=by
 refine{len,λA outer s H args us vs Q E hr e0 hb r hsp=>?_};have hl:=len _ _ _ _ hsp;have KX:K.In s.heap:=e0.mod.kin.keeps λb o e=>(e0.bs b o e).1;have lim:s.heap.NoLimit:=e0.mod.nolimit.keeps λb o e=>(e0.bs b o e).1;have hkind:∀y∈ps.zip us,scope.names.lookup y.1=some .local\/(scope.names.lookup y.1=some .cell/\((cellsFrom (s.heap.objs.size+1) scope.names []).lookup y.1).isSome=true):=λ⟨n,v⟩ hy=>by
  rcases S.par n (List.of_mem_zip hy).1 with q|q
  ·exact .inl q
  ·exact .inr {q,PySem.W.cellsFrom_some _ _ _ (.inl q)}
 refine codeAny_call_function hr.depth (KX _ _ lk) rfl S.co S.gen rfl (PySem.W.codeRec_of KX hcd) (hb _ _ _ _ ?_);refine wpAny_newFunctionEnv_cells S.kind hkind λenv he s1 x=>?_;subst he;refine{lim.keeps x.toInCall.keep,codeAny_func ?_};obtain⟨t,ht,hq⟩:=hbody A outer s H vs Q E (hr.deeper _) hsp;have I:Inv (gD CX P w K mg base N qual scope f cdv A outer s H E) [] (start N vs) H s1:=AW S hr.hd e0 hl r x;refine wpAny_mono (ht [] s1 (start N vs) H _ I hq) (λfl s' hs=>?_) λe s' hs=>hs;have fin:∀{σ':St}{H':Hp}{v:V}{u:Qr},Inv (gD CX P w K mg base N qual scope f cdv A outer s H E) [] σ' H' s'->RelV v u->Q v H'->CE outer P w H s Q u s':=
  λ{σ' H' v u} J rv q=>⟨v,H',J.os,J.bare,J.base,J.hok,rv,q⟩
 cases fl with
 | ret u =>
   obtain⟨v,σ',H',J,rv,q⟩:=hs;exact fin J rv q
 | next =>
   obtain⟨σ',H',J,q⟩:=hs;exact fin (v:=V.non) (u:=Value.none) J rfl q
 | brk =>
   obtain⟨_,_,_,q⟩:=hs;exact False.elim q
 | cont =>
   obtain⟨_,_,_,q⟩:=hs;exact False.elim q
section
variable{X:Cx}{x:Str}{p pos:Pos}{e:Expr}{es:List Expr}{t:TA}{id T:String}{r:List V->Hp->VK->Prop}
noncomputable def Oa (r:List V->Hp->VK->Prop)(t:TA):TE:=λσ H Q=>t σ H λvs H1=>r vs H1 Q
def ie (hc:b9 X (.builtin id) r)(hg:Gl X x)(hm:X.mg x=none)(hv:bootBuiltins x=some (.builtin id))(ha:PA X (e::es) t)(hn:x≠"__name__":=by decide)(hdb:(x==("__debug__":Str))=false:=by decide)
 (he:starEach (e::es) X.env=(false,eval e X.env)::starEach es X.env:=by rfl) (hpl:(backTo pos (starEach es X.env)).any (·.1)=false:=by rfl):PE X (.Call (.Name x p) (e::es) [] pos) (Oa r t):=by
 intro pins s σ H Q I h;refine wpAny_Call_Name_kw (gU I hg hm hv ?_ hn hdb);exact PyProof.Rows.callWith_builtin1 (aT (ha pos pins s σ H _ I h) λus s1 ⟨vs,H1,I1,r1,q1⟩=>hc pins s1 σ H1 vs us Q I1 r1 q1) he hpl
def mE (hc:b9 X (.type T) r)(hg:Gl X x)(hm:X.mg x=none)(hv:bootBuiltins x=some (.type T))(ha:PA X (e::es) t)(hn:x≠"__name__":=by decide)(hdb:(x==("__debug__":Str))=false:=by decide)
 (he:starEach (e::es) X.env=(false,eval e X.env)::starEach es X.env:=by rfl) (hpl:(backTo pos (starEach es X.env)).any (·.1)=false:=by rfl):PE X (.Call (.Name x p) (e::es) [] pos) (Oa r t):=by
 intro pins s σ H Q I h;refine wpAny_Call_Name_kw (gU I hg hm hv ?_ hn hdb);exact R8 (aT (ha pos pins s σ H _ I h) λus s1 ⟨vs,H1,I1,r1,q1⟩=>hc pins s1 σ H1 vs us Q I1 r1 q1) he hpl
end
end L2
namespace HT
open PySem PyProof.Rows
section
variable{prog:Rp}{w:Rr}{A:RW}{E:Qr->Qu->Prop}{s:Qu}
def HV {t b:Addr}{vs ws:List Qr}{Q:Qr->Qu->Prop}(ht:IsTup s.heap t vs.toArray)(hb:IsTup s.heap b ws.toArray)(hv:vs≠[])
 (h1:ws=[]->Q (.ref t) s) (h2:ws≠[]->Q (.ref s.heap.objs.size) {s with heap:=s.heap.push {cls:=.type "tuple",data:=.seq (vs++ws).toArray}})
 (hsz:vs.length+ws.length<=sizeLine):wpAny (model prog w) A (binaryOp .Add (.ref t) (.ref b)) Q E s:=by
 obtain⟨⟨cls,dd,data,sl⟩,ho,hc,n,hd⟩:=id ht;obtain⟨⟨cls2,dd2,data2,sl2⟩,ho2,hc2,n2,hd2⟩:=id hb;simp only at hc hd hc2 hd2;subst hc hd hc2 hd2;have e:vs.toArray++ws.toArray=(vs++ws).toArray:=`s
 by_cases hw:ws=[]
 ·exact concat_meets {_,ho,rfl} {_,ho2,rfl} noFill_tuple_add seq_tuple_add PySem.F.slot_tuple_add PySem.F.entry_tuple_add (PySem.F.args_tuple_add_2 _ _)
   (tuple_addW1 t b vs.toArray ws.toArray n n2 dd dd2 sl sl2 (by simpa using hv) (by simp[hw])) {ho,ho2,h1 hw}
 ·refine concat_meets {_,ho,rfl} {_,ho2,rfl} noFill_tuple_add seq_tuple_add PySem.F.slot_tuple_add PySem.F.entry_tuple_add (PySem.F.args_tuple_add_2 _ _)
   (tuple_addW2 t b vs.toArray ws.toArray n n2 dd dd2 sl sl2 (by simpa using hv) (by simpa using hw) (by rw[QI,QI];exact hsz)) {ho,ho2,?_}
  rw[e];exact h2 hw
noncomputable def aU (n d:Nat):Option Int->Nat
 |none=>d
 |some v=>if v<0 then(v+(n:Int)).toNat else min v.toNat n
def Jo (n d:Nat)(hd:d<=n)(o:Option Int):aU n d o<=n:=by
 cases o with
 |none=>exact hd
 | some v =>
   show(if v<0 then(v+(n:Int)).toNat else min v.toNat n)<=n;by_cases hv:v<0
   ·rw[if_pos hv];omega
   ·rw[if_neg hv];exact Nat.min_le_right _ _
def wV (v:Int)(n d:Nat):(if v<0 then max (v+(n:Int)) 0 else min v (n:Int))=((aU n d (some v):Nat):Int):=by
 show(if v<0 then max (v+(n:Int)) 0 else min v (n:Int))=(((if v<0 then(v+(n:Int)).toNat else min v.toNat n):Nat):Int);by_cases hv:v<0
 ·simp only[if_pos hv];omega
 ·simp only[if_neg hv];omega
def yu (lo hi:Option Int)(n:Nat):Builtin.Slice.sliceAdjust lo hi 1 (n:Int)=(((aU n 0 lo:Nat):Int),((aU n n hi:Nat):Int)):=by
 have h1:¬ ((1:Int)<0):=`a
 unfold Builtin.Slice.sliceAdjust;simp only[h1,if_false];refine Prod.ext ?_ ?_
 ·cases lo with
  |none=>rfl
  |some v=>exact wV v n 0
 ·cases hi with
  |none=>rfl
  |some v=>exact wV v n n
def xy (i j:Nat):Builtin.Slice.slicePlaces (i:Int) (j:Int) 1=j-i:=by
 unfold Builtin.Slice.slicePlaces;have h1:(1:Int) > 0:=`a
 simp only[h1,if_true,Int.ediv_one];split<;>omega
def pJ {v:Qr}{o:Option Int}{Q:Option Int->Qu->Prop}(p:IsPart v o)(h:Q o s):wpAny (model prog w) A (Builtin.Slice.slicePartIndex v) Q E s:=by
 cases p with
 |none=>exact slicePart_none h
 |int i t=>exact slicePart_int h
def jo {sl:Addr}{vl vu:Qr}{lo hi:Option Int}{n:Nat}{Q:Int×Int×Nat->Qu->Prop}(hs:s.heap.IsSliceOf sl vl vu .none)(pl:IsPart vl lo)(pu:IsPart vu hi)
 (h:Q (((aU n 0 lo:Nat):Int),1,aU n n hi-aU n 0 lo) s):wpAny (model prog w) A (Builtin.Slice.sliceApplied (.ref sl) (pure (n:Int))) Q E s:=by
 obtain⟨os,hos,hcs,hds⟩:=id hs;unfold Builtin.Slice.sliceApplied Builtin.Slice.sliceFields;refine tqa (tqa (tqf hos hds (x:=vl) rfl (tqa (tqf hos hds (x:=vu) rfl (tqa (tqf hos hds (x:=.none) rfl (tqb ?_)))))));refine tqa (slicePart_none ?_);show wpAny _ _ (if ((1:Int)==0)=true then _ else _) _ _ s;rw[if_neg `d]
 refine tqa (pJ pl (tqa (pJ pu (tqa (tqb ?_)))));show wpAny _ _ (match Builtin.Slice.sliceAdjust lo hi 1 (n:Int) with|(lo,hi)=>pure (lo,(1:Int),Builtin.Slice.slicePlaces lo hi 1)) _ _ s
 rw[yu lo hi n];show wpAny _ _ (pure (((aU n 0 lo:Nat):Int),(1:Int),Builtin.Slice.slicePlaces ((aU n 0 lo:Nat):Int) ((aU n n hi:Nat):Int) 1)) _ _ s;rw[xy];exact tqb h
def CJ (xs:Array Qr)(i k:Nat):((List.range k).filterMap λ(m:Nat)=>xs[((i:Int)+(m:Int)*1).toNat]?).toArray=((xs.toList.drop i).take k).toArray:=by
 have e:(λ(m:Nat)=>xs[((i:Int)+(m:Int)*1).toNat]?)=λm=>xs[i+m]?:=by
  funext m
  have:((i:Int)+(m:Int)*1).toNat=i+m:=`a
  rw[this]
 rw[e];have:=pick_run xs i k;rw[List.filterMap_map] at this;have e2:((λx=>xs[x]?)∘λx=>i+x)=λm=>xs[i+m]?:=rfl;rw[e2] at this;rw[this]
def oq {t sl:Addr}{items:Array Qr}{vl vu:Qr}{lo hi:Option Int}{Q:Qr->Qu->Prop}(ht:IsTup s.heap t items)(hs:s.heap.IsSliceOf sl vl vu .none)(pl:IsPart vl lo)(pu:IsPart vu hi)
 (hw:¬ (aU items.size 0 lo=0/\aU items.size items.size hi=items.size))
 (h:Q (.ref s.heap.objs.size) {s with heap:=s.heap.push {cls:=.type "tuple",data:=.seq ((items.toList.drop (aU items.size 0 lo)).take (aU items.size items.size hi-aU items.size 0 lo)).toArray}})
 (hsz:items.size<=sizeLine):wpAny (model prog w) A (getItem (.ref t) (.ref sl)) Q E s:=by
 have htake:sizeOk (.seq ((items.toList.drop (aU items.size 0 lo)).take (aU items.size items.size hi-aU items.size 0 lo)).toArray):=by
  show((items.toList.drop (aU items.size 0 lo)).take (aU items.size items.size hi-aU items.size 0 lo)).toArray.size<=sizeLine;rw[QI,RX,List.length_drop,Sz];omega
 have hj:aU items.size items.size hi<=items.size:=Jo _ _ (Qw _) hi;obtain⟨os,hos,hcs,hds⟩:=id hs;have hTs:s.TypeIs (.ref sl) "slice":=⟨os,hos,hcs⟩;unfold getItem;try with_reducible refine tqo ?_
 first|refine tqa (tqb ?_)|skip
 refine tqa (wpAny_sequenceKey ht.typeIs `d ?_)
 refine tqa (wpAny_callSpecial?_slot (name:=Str.ofString "__getitem__") ht.typeIs RS
  (wpAny_call_entry RS ht.typeIs entry_tuple_getitem ?_ (args_tuple_getitem _ _)))
 show wpAny _ _ (Builtin.Tuple.tupleItemsOf (.ref t) >>= _) _ _ s;refine tqa (tupleItemsOf_ ht ?_);refine tqa (wpAny_typeOf hTs ?_);rw[if_pos `d]
 refine tqa (jo hs pl pu ?_);have hno:¬ ((((aU items.size 0 lo:Nat):Int)==0&&(1:Int)==1&&(aU items.size items.size hi-aU items.size 0 lo)==items.size)=true):=by
  intro q;rw[Qy,Qy] at q;have q1:((aU items.size 0 lo:Nat):Int)=0:=eq_of_beq q.1.1;have q2:aU items.size items.size hi-aU items.size 0 lo=items.size:=eq_of_beq q.2;exact hw {`a,`a}
 show wpAny _ _ (if (((aU items.size 0 lo:Nat):Int)==0&&(1:Int)==1&&(aU items.size items.size hi-aU items.size 0 lo)==items.size)=true then _ else _) _ _ s;rw[if_neg hno,CJ];first
  |exact tqa (m:=Builtin.Tuple.tupleExact _) (wpAny_newObj_type (tqb {_,rfl,tqb h}) htake)
  |exact tqa (m:=Builtin.Tuple.tupleExact _) (wpAny_newObj_type (tqa (tqb (tqb {_,rfl,tqb h}))) htake)
  |exact tqa (tqa (m:=Builtin.Tuple.tupleExact _) (wpAny_newObj_type (tqb (tqb {_,rfl,tqb h})) htake))
  |exact tqa (tqa (m:=Builtin.Tuple.tupleExact _) (wpAny_newObj_type (tqb {_,rfl,tqb h}) htake))
end
end HT
namespace L2
open PySem PySem.Spec PyProof.Rows
abbrev TO:=St->Hp->(Option Int->Hp->Prop)->Prop
noncomputable def PO (X:Cx)(e:Option Expr)(t:TO):Prop:=
 ∀(pins:List (Addr×Obj)) (s:Qu) (σ:St) (H:Hp) (Q:Option Int->Hp->Prop),Inv X pins σ H s->t σ H Q->
  wpAny (model X.prog X.w) X.A (evalPart e X.env) (λu s'=>∃o H',Inv X pins σ H' s'/\IsPart u o/\Q o H') X.xe s
noncomputable def F6:TO:=λ_ H Q=>Q none H
noncomputable def Mr (t:TE):TO:=λσ H Q=>t σ H λx H1=>∃i,x=.int i/\Q (some i) H1
section
variable{X:Cx}{e:Expr}{te:TE}{lo hi:Option Expr}{tl th:TO}{pos p2:Pos}
def GQ:PO X none F6:=by
 intro pins s σ H Q I h;rw[evalPart_none];exact tqb {none,H,I,.none,h}
def GP (h:PE X e te):PO X (some e) (Mr te):=by
 intro pins s σ H Q I hw;rw[evalPart_some];refine aT (h pins s σ H _ I hw) λu s1 ⟨x,H1,I1,r1,q1⟩=>?_;obtain⟨i,rfl,q⟩:=q1;obtain⟨t,rfl⟩:=r1;exact{some i,H1,I1,.int i t,q}
noncomputable def nt (X:Cx)(r:V->Option Int->Option Int->Hp->VK->Prop):Prop:=
 ∀(pins:List (Addr×Obj)) (s:Qu) (σ:St) (H:Hp) (x:V) (v vl vu:Qr) (lo hi:Option Int) (sl:Addr) (Q:VK),Inv X pins σ H s->RelV x v->s.heap.IsSliceOf sl vl vu .none->IsPart vl lo->IsPart vu hi->r x lo hi H Q->
  ∃T id,typeLookup (.type T) "__getitem__"=pure (some (.builtin id))/\s.TypeIs v T/\wpAny (model X.prog X.w) X.A (getItem v (.ref sl)) (EP X pins σ Q) X.xe s
def nt.or {r r':V->Option Int->Option Int->Hp->VK->Prop}(h:nt X r)(h':nt X r'):nt X (λx lo hi H Q=>r x lo hi H Q\/r' x lo hi H Q):=by
 intro pins s σ H x v vl vu lo hi sl Q I rx hs pl pu q;rcases q with q|q
 ·exact h pins s σ H x v vl vu lo hi sl Q I rx hs pl pu q
 ·exact h' pins s σ H x v vl vu lo hi sl Q I rx hs pl pu q
noncomputable def tSl (r:V->Option Int->Option Int->Hp->VK->Prop)(te:TE)(tl th:TO):TE:=λσ H Q=>te σ H λx H1=>tl σ H1 λl H2=>th σ H2 λu H3=>r x l u H3 Q
def CK {r:V->Option Int->Option Int->Hp->VK->Prop}(hr:nt X r)(he:PE X e te)(hl:PO X lo tl)(hu:PO X hi th):PE X (.Subscript e (.Slice lo hi none p2) pos) (tSl r te tl th):=by
 intro pins s σ H Q I h;refine Subscript_ (aT (he pins s σ H _ I h) λv s1 ⟨x,H1,I1,r1,q1⟩=>?_);refine wpAny_Slice (aT (hl pins s1 σ H1 _ I1 q1) λvl s2 ⟨l,H2,I2,pl,q2⟩=>aT (hu pins s2 σ H2 _ I2 q2) λvu s3 ⟨u,H3,I3,pu,q3⟩=>?_);rw[evalPart_none];refine tqb ?_;have I4:Inv X pins σ H3 {s3 with heap:=s3.heap.push {cls:=.type "slice",data:=.fields #[vl,vu,.none]}}:=I3.kept (t':=s3.toks) λb ob q=>Qt _ q
 obtain⟨T,id,hT,ht,hg⟩:=hr pins {s3 with heap:=s3.heap.push {cls:=.type "slice",data:=.fields #[vl,vu,.none]}} σ H3 x v vl vu l u s3.heap.objs.size Q I4 r1 (Heap.IsSliceOf.new ..) pl pu q3
 show wpAny (model X.prog X.w) X.A (subscriptTail e (.Slice lo hi none p2) v (.ref s3.heap.objs.size)) (EP X pins σ Q) X.xe {s3 with heap:=s3.heap.push {cls:=.type "slice",data:=.fields #[vl,vu,.none]}}
 exact tail_any (ops:=[.ref s3.heap.objs.size,v]) ht hT hg (by with_unfolding_all rfl)
noncomputable def m7 (xs:List V)(lo hi:Option Int):List V:=(xs.drop (HT.aU xs.length 0 lo)).take (HT.aU xs.length xs.length hi-HT.aU xs.length 0 lo)
def oC (xs:List V)(lo hi:Option Int):(m7 xs lo hi).length<=xs.length:=by
 unfold m7;rw[RX,List.length_drop];omega
noncomputable def Jz (K:Qp):V->Option Int->Option Int->Hp->VK->Prop:=λx lo hi H Q=>∃a xs,x=.ref a/\dQ K H a xs/\
 ¬ (HT.aU xs.length 0 lo=0/\HT.aU xs.length xs.length hi=xs.length)/\∀p,H p=none->Q (.ref p) (upd H p (.tup (m7 xs lo hi)))
def Ja:nt X (Jz X.K):=by
 intro pins s σ H x v vl vu lo hi sl Q I rx hs pl pu h;obtain⟨a,xs,rfl,hx,hw,q⟩:=h;cases rx;obtain⟨its,r,ht,hz⟩:=I.tuple hx;have hlen:its.toArray.size=xs.length:=by rw[QI];exact r.length.symm
 refine{"tuple",_,RS.lookup,ht.typeIs,?_};refine HT.oq ht hs pl pu (by rw[hlen];exact hw) ?_ (by rw[hlen];exact hz)
 rw[hlen];refine{.ref s.heap.objs.size,_,I.laid (t':=s.toks) (o:=.tup (m7 xs lo hi)) (λb ob q=>Qt _ q) (Qw _) ?_,rfl,q _ (I.hok.fresh (Qw _))};exact{QH (oC xs lo hi) hz,_,(r.drop (HT.aU xs.length 0 lo)).take (HT.aU xs.length xs.length hi-HT.aU xs.length 0 lo),IsTup.new _ _}
noncomputable def MD (K:Qp):R2:=λx y H Q=>∃a b xs ys,x=.ref a/\y=.ref b/\dQ K H a xs/\dQ K H b ys/\xs≠[]/\xs.length+ys.length<=sizeLine/\
 (ys=[]->Q (.ref a) H)/\(ys≠[]->∀p,H p=none->Q (.ref p) (upd H p (.tup (xs++ys))))
def Vals.nil_iff {xs:List V}{us:List Qr}(r:Vals xs us):us=[]↔xs=[]:=by
 cases r with
 |nil=>simp
 |cons _ _=>simp
def G1:bQ X (binaryOp .Add) (MD X.K):=by
 intro pins s σ H x y v u Q I rx ry h;obtain⟨a,b,xs,ys,rfl,rfl,ha,hb,hx,hz,q1,q2⟩:=h;cases rx;cases ry;obtain⟨its,r1,p1,_⟩:=I.tuple ha;obtain⟨its2,r2,p2,_⟩:=I.tuple hb;refine HT.HV p1 p2 (λz=>hx (r1.nil_iff.mp z)) (λz=>{.ref a,H,I,rfl,q1 (r2.nil_iff.mp z)}) (λz=>?_) (by rw[<- r1.length,<- r2.length];exact hz)
 refine{.ref s.heap.objs.size,_,I.laid (t':=s.toks) (o:=.tup (xs++ys)) (λb ob q=>Qt _ q) (Qw _) ?_,rfl,q2 (λw=>z (r2.nil_iff.mpr w)) _ (I.hok.fresh (Qw _))};exact{by rw[Rb];exact hz,_,r1.append r2,IsTup.new _ _}
end
noncomputable def cv (n:Nat)(i:Int):Option Nat:=if 0<=i then(if i<n then some i.toNat else none) else if -(n:Int)<=i then some (i+n).toNat else none
noncomputable def sG {α:Type}(xs:List α)(i:Int):Option α:=(cv xs.length i).bind λj=>xs[j]?
def wy {n:Nat}{i:Int}{j:Nat}(h:cv n i=some j):seqIndex? i n=some j/\j<n/\-(n:Int)<=i/\i<n:=by
 unfold cv at h;by_cases h0:0<=i
 ·rw[if_pos h0] at h;by_cases h1:i<n
  ·rw[if_pos h1] at h;have e:i.toNat=j:=Qz h;exact{by rw[seqIndex_of h0 h1,e],`a,`a,h1}
  ·rw[if_neg h1] at h;cases h
 ·rw[if_neg h0] at h;by_cases h1:-(n:Int)<=i
  ·rw[if_pos h1] at h;have e:(i+n).toNat=j:=Qz h;exact{by rw[seqIndex_neg `a h1,e],`a,h1,`a}
  ·rw[if_neg h1] at h;cases h
def rB {α:Type}{xs:List α}{i:Int}{v:α}(h:sG xs i=some v):∃j,seqIndex? i xs.length=some j/\xs[j]?=some v/\j<xs.length/\-(xs.length:Int)<=i/\i<xs.length:=by
 unfold sG at h;cases e:cv xs.length i with
 |none=>rw[e] at h;cases h
 | some j =>
   rw[e] at h;obtain⟨h1,h2,h3,h4⟩:=wy e;exact⟨j,h1,h,h2,h3,h4⟩
noncomputable def iq (b:Expr):Prop:=∀o i,subscripted b false o i=operate [o,i] (getItem o i)
noncomputable def j8 (X:Cx)(r:R2):Prop:=
 ∀(value slice:Expr) (pins:List (Addr×Obj)) (s:Qu) (σ:St) (H:Hp) (x y:V) (v u:Qr) (Q:VK),Inv X pins σ H s->RelV x v->RelV y u->r x y H Q->
  subscripted slice false v u=operate [v,u] (getItem v u)->wpAny (model X.prog X.w) X.A (subscriptTail value slice v u) (EP X pins σ Q) X.xe s
noncomputable def Mb (X:Cx)(id:String)(r:V->List V->Hp->VK->Prop):Prop:=
 ∀(pins:List (Addr×Obj)) (s:Qu) (σ:St) (H:Hp) (x:V) (xs:List V) (v:Qr) (us:List Qr) (Q:VK),Inv X pins σ H s->RelV x v->Vals xs us->r x xs H Q->
  wpAny (model X.prog X.w) X.A (call (.builtin id) (v::us)) (EP X pins σ Q) X.xe s
section
variable{X:Cx}{a b:Expr}{ta tb:TE}{pos:Pos}
def j8.or {r r':R2}(h:j8 X r)(h':j8 X r'):j8 X (λx y H Q=>r x y H Q\/r' x y H Q):=by
 intro value slice pins s σ H x y v u Q I rx ry q hs;rcases q with q|q
 ·exact h value slice pins s σ H x y v u Q I rx ry q hs
 ·exact h' value slice pins s σ H x y v u Q I rx ry q hs
def xA {r:R2}(hr:j8 X r)(ha:PE X a ta)(hb:PE X b tb)(hs:iq b):PE X (.Subscript a b pos) (zz r ta tb):=by
 intro pins s σ H Q I h;exact Subscript_ (DF ha hb I h λv u s2 x y H2 I2 rx ry q=>hr a b pins s2 σ H2 x y v u Q I2 rx ry q (hs _ _))
noncomputable def JD (K:Qp):R2:=λx y H Q=>∃p xs i v,x=.ref p/\y=.int i/\c7 K H p xs/\sG xs i=some v/\Q v H
noncomputable def JB (K:Qp):R2:=λx y H Q=>∃p xs i v,x=.ref p/\y=.int i/\dQ K H p xs/\sG xs i=some v/\Q v H
noncomputable def JC:R2:=λx y H Q=>∃z i c,x=.str z/\y=.int i/\z.length<=sizeLine/\sG z.cps.toList i=some c/\Q (.str {#[c]}) H
def Hi:j8 X (JD X.K):=by
 intro value slice pins s σ H x y v u Q I rx ry h hs;obtain⟨p,xs,i,z,rfl,rfl,hq,he,q⟩:=h;cases rx;obtain⟨t,rfl⟩:=ry;obtain⟨its,r,pl,hz⟩:=I.list hq;obtain⟨j,h1,h2,h3,h4,h5⟩:=rB he;obtain⟨w,ew,rw'⟩:=r.get h2;have hl:=r.length;have hn:=jy;have fin:EP X pins σ Q w s:=⟨z,H,I,rw',q⟩;by_cases h0:0<=i
 ·have hj:i.toNat=j:=by
   rw[seqIndex_of h0 h5] at h1;exact Qz h1
  exact item_listR pl.isList h0 `a (by rw[hj];simpa using ew) fin hs
 ·have hj:(i+(its.toArray.size:Int)).toNat=j:=by
   rw[seqIndex_neg `a h4] at h1
   rw[QI,<- hl];exact Qz h1
  exact subscriptTail_builtinR (x:=w) pl.isList.typeIs slot_list_getitem.lookup
   (wpAny_getItem_list_neg (Q:=λr s'=>r=w/\EP X pins σ Q r s') pl.isList `a (by rw[QI]<;>omega) `a (by rw[hj];simpa using ew) ⟨rfl,fin⟩) hs
def KN:j8 X (JB X.K):=by
 intro value slice pins s σ H x y v u Q I rx ry h hs;obtain⟨p,xs,i,z,rfl,rfl,hq,he,q⟩:=h;cases rx;obtain⟨t,rfl⟩:=ry;obtain⟨its,r,pl,hz⟩:=I.tuple hq;obtain⟨j,h1,h2,h3,h4,h5⟩:=rB he;obtain⟨w,ew,rw'⟩:=r.get h2;have hl:=r.length;have hn:=jy;have fin:EP X pins σ Q w s:=⟨z,H,I,rw',q⟩;exact subscriptTail_builtinR (x:=w) pl.typeIs slot_tuple_getitem.lookup
  (getItem_tuple (j:=j) (Q:=λr s'=>r=w/\EP X pins σ Q r s') pl `a `a (by rw[QI,<- hl];exact h1) (by simpa using ew) ⟨rfl,fin⟩) hs
def KO:j8 X JC:=by
 intro value slice pins s σ H x y v u Q I rx ry h hs;obtain⟨z,i,c,rfl,rfl,hz,he,q⟩:=h;obtain⟨t,rfl⟩:=rx;obtain⟨t',rfl⟩:=ry;obtain⟨j,h1,h2,h3,h4,h5⟩:=rB he;have hl:z.cps.toList.length=z.length:=by simp[Str.length]
 rw[hl] at h1 h4 h5;have hn:=jy;exact tail_any (typeIs_str s z t) slot_str_getitem.lookup (getItem_str (c:=c) (by
  have e1:decide (i < -(2^63:Int))=false:=decide_eq_false `a
  have e2:decide (i≥2^63)=false:=decide_eq_false `a
  rw[e1,e2,Bool.or_false]) (by rw[h1];simpa using h2) {.str {#[c]},H,I.tok _,{_,rfl},q}) hs
noncomputable def JE (K:Qp):R2:=λx y H Q=>JD K x y H Q\/JB K x y H Q\/JC x y H Q
def KP:j8 X (JE X.K):=Hi.or (KN.or KO)
def xP (its:List Qr)(n j:Nat)(u:Qr):Obj.mapSeq (·.setIfInBounds j u) {cls:=.type "list",data:=.seq its.toArray n}={cls:=.type "list",data:=.seq (its.set j u).toArray n}:=by
 simp[Obj.mapSeq]
def Inv.lst {pins:List (Addr×Obj)}{σ:St}{H:Hp}{s:Qu}{p:Addr}{xs:List V}(I:Inv X pins σ H s)(h:H p=some (.lst xs)) :
 ∃(its:List Qr) (n:Nat),Vals xs its/\s.heap.get? p=some {cls:=.type "list",data:=.seq its.toArray n}/\xs.length<=sizeLine:=by
 obtain⟨z,its,n,r,e⟩:=I.hok p _ h;exact⟨its,n,r,e,z⟩
def Inv.lstUpd {pins:List (Addr×Obj)}{σ:St}{H:Hp}{s:Qu}{p:Addr}{xs ys:List V}{its its':List Qr}{n n':Nat}{f:Obj->Obj}(I:Inv X pins σ H s)(h:H p=some (.lst xs))
 (ho:s.heap.get? p=some {cls:=.type "list",data:=.seq its.toArray n}) (hf:f {cls:=.type "list",data:=.seq its.toArray n}={cls:=.type "list",data:=.seq its'.toArray n'}) (r:Vals ys its') (hz:ys.length<=sizeLine) (t:Nat) :
 Inv X pins σ (upd H p (.lst ys)) {s with heap:=s.heap.update p f,toks:=t}:=by
 have e:(s.heap.update p f).get? p=some {cls:=.type "list",data:=.seq its'.toArray n'}:=by
  rw[Ry f ho (by rw[hf]<;>rfl),hf]
 refine I.write (x:=p) (e:=p) (by rw[h];trivial) (.inl rfl) (λb u hb q=>(Rn _ _ (RC hb)).trans q) {_,e} ?_
 exact⟨hz,its',n',r,e⟩
noncomputable def EC:V->V->V->Hp->(Hp->Prop)->Prop:=λo i v H Q=>∃p xs k j,o=.ref p/\i=.int k/\H p=some (.lst xs)/\cv xs.length k=some j/\Q (upd H p (.lst (xs.set j v)))
def set_list:DQ X EC:=by
 intro pins s σ H o i v ov iv u Q I ro ri rv h;obtain⟨p,xs,k,j,rfl,rfl,hp,hj,q⟩:=h;cases ro;obtain⟨t,rfl⟩:=ri;obtain⟨its,n,r,ho,hz⟩:=I.lst hp;obtain⟨h1,h2,h3,h4⟩:=wy hj;have hl:=r.length;have hn:=jy;have I':Inv X pins σ (upd H p (.lst (xs.set j v))) {s with heap:=s.heap.update p (Obj.mapSeq (·.setIfInBounds j u))}:=
  I.lstUpd hp ho (xP its n j u) (r.set rv j) (by rw[List.length_set];exact hz) s.toks
 by_cases h0:0<=k
 ·have hk:k.toNat=j:=by
   rw[seqIndex_of h0 h4] at h1;exact Qz h1
  exact PySem.W.ki_setAt ho h0 `a (by rw[QI,<- hl];exact h4) (by rw[hk];exact{_,I',q})
 ·have hk:(k+(its.toArray.size:Int)).toNat=j:=by
   rw[seqIndex_neg `a h3] at h1
   rw[QI,<- hl];exact Qz h1
  exact PySem.W.ki_setBack ho `a (by rw[QI,<- hl];exact h3) `a (by rw[hk];exact{_,I',q})
def tQ (lo hi:Option Int)(n:Nat):(sliceBounds lo hi none n).1=((HT.aU n 0 lo:Nat):Int)/\(sliceBounds lo hi none n).2.1=((HT.aU n n hi:Nat):Int)/\(sliceBounds lo hi none n).2.2=1:=by
 refine{?_,?_,rfl}
 ·cases lo with
  |none=>simp[sliceBounds,HT.aU]
  | some i =>
    simp only[sliceBounds,HT.aU,Option.getD_none,show(1:Int) > 0 by decide,if_true]
    by_cases h:i<0
    ·simp only[h,if_true]<;>omega
    ·simp only[h,if_false]<;>omega
 ·cases hi with
  |none=>simp[sliceBounds,HT.aU]
  | some i =>
    simp only[sliceBounds,HT.aU,Option.getD_none,show(1:Int) > 0 by decide,if_true]
    by_cases h:i<0
    ·simp only[h,if_true]<;>omega
    ·simp only[h,if_false]<;>omega
def sJ (its:List Qr)(lo hi:Option Int):slicePick its.toArray lo hi none=((its.drop (HT.aU its.length 0 lo)).take (HT.aU its.length its.length hi-HT.aU its.length 0 lo)).toArray:=by
 obtain⟨h1,h2,h3⟩:=tQ lo hi its.toArray.size;unfold slicePick;rw[h1,h2,h3];simp only[sliceRange_one,pick_run,QI]<;>rfl
noncomputable def JA (K:Qp):V->Option Int->Option Int->Hp->VK->Prop:=λx lo hi H Q=>∃a xs,x=.ref a/\c7 K H a xs/\∀p,H p=none->Q (.ref p) (upd H p (.lst (m7 xs lo hi)))
def Gr:nt X (JA X.K):=by
 intro pins s σ H x v vl vu lo hi sl Q I rx hs pl pu h;obtain⟨a,xs,rfl,hx,q⟩:=h;cases rx;obtain⟨its,r,ht,hz⟩:=I.list hx;have hlen:=r.length;refine{"list",_,slot_list_getitem.lookup,ht.isList.typeIs,?_};refine wpAny_getItem_list_slice ht.isList hs pl pu .none `s ?_ (by rw[QI]<;>omega)
 rw[sJ,<- hlen];refine{.ref s.heap.objs.size,_,I.laid (t':=s.toks) (o:=.lst (m7 xs lo hi)) (λb ob q=>Qt _ q) (Qw _) ?_,rfl,q _ (I.hok.fresh (Qw _))};exact{QH (oC xs lo hi) hz,_,0,(r.drop (HT.aU xs.length 0 lo)).take (HT.aU xs.length xs.length hi-HT.aU xs.length 0 lo),QM _ rfl}
def va:b9 X (.builtin "len") (λxs H Q=>∃p ys,xs=[.ref p]/\(c7 X.K H p ys\/dQ X.K H p ys)/\Q (.int ys.length) H):=by
 intro pins s σ H xs us Q I r h;obtain⟨p,ys,rfl,hq,q⟩:=h;obtain⟨u,rfl,rx⟩:=vals1 r;cases rx;have hn:=jy;rcases hq with hq|hq
 ·obtain⟨its,r',pl,hz⟩:=I.list hq;have hlen:=r'.length;exact Calls.call_len_list pl.isList (by simp only[QI]<;>omega) {.int ys.length,H,I.tok _,{s.toks+1,by rw[QI,hlen]},q}
 ·obtain⟨its,r',pl,hz⟩:=I.tuple hq;have hlen:=r'.length;exact len_tuple pl (by simp only[QI]<;>omega) {.int ys.length,H,I.tok _,{s.toks+1,by rw[QI,hlen]},q}
def u9:b9 X (.builtin "len") (λxs H Q=>∃z,xs=[.str z]/\z.length<=sizeLine/\Q (.int z.length) H):=by
 intro pins s σ H xs us Q I r h;obtain⟨z,rfl,hz,q⟩:=h;obtain⟨u,rfl,t,rfl⟩:=vals1 r;have hn:=jy;exact len_str `a {.int z.length,H,I.tok _,{_,rfl},q}
def b9.or {f:Qr}{r r':List V->Hp->VK->Prop}(h:b9 X f r)(h':b9 X f r'):b9 X f (λxs H Q=>r xs H Q\/r' xs H Q):=by
 intro pins s σ H xs us Q I rs q;rcases q with q|q
 ·exact h pins s σ H xs us Q I rs q
 ·exact h' pins s σ H xs us Q I rs q
def u7:b9 X (.type "list") (λxs H Q=>∃p ys,xs=[.ref p]/\(c7 X.K H p ys\/dQ X.K H p ys)/\∀l,H l=none->Q (.ref l) (upd H l (.lst ys))):=by
 intro pins s σ H xs us Q I r h;obtain⟨p,ys,rfl,hq,q⟩:=h;obtain⟨u,rfl,rx⟩:=vals1 r;cases rx;have fin:∀(its:List Qr),Vals ys its->ys.length<=sizeLine->∀(h':Heap) (c':Nat),(∀b o',s.heap.get? b=some o'->h'.get? b=some o')->
  h'.get? s.heap.objs.size=some {cls:=.type "list",dict:=none,data:=.seq its.toArray c',slots:=#[]}->EP X pins σ Q (.ref s.heap.objs.size) {s with heap:=h'}:=λits r' hz h' c' kp e=>
  {.ref s.heap.objs.size,_,I.laid (t':=s.toks) kp (Qw _) (show cX X.prog X.w _ h' _ (.lst ys) from⟨hz,its,c',r',e⟩),rfl,q _ (I.hok.fresh (Qw _))}
 rcases hq with hq|hq
 ·obtain⟨its,r',pl,hz⟩:=I.list hq;have hlen:=r'.length;obtain⟨o,ho,hc,n,hd⟩:=pl.isList;exact call_list_seq p (.inl rfl) ho hc hd (λh' c' kp e=>fin its r' hz h' c' kp e) (by simp only[QI]<;>omega)
 ·obtain⟨its,r',pl,hz⟩:=I.tuple hq;have hlen:=r'.length;obtain⟨o,ho,hc,n,hd⟩:=pl;exact call_list_seq p (.inr rfl) ho hc hd (λh' c' kp e=>fin its r' hz h' c' kp e) (by simp only[QI]<;>omega)
def sM:b9 X (.type "tuple") (λxs H Q=>∃p ys,xs=[.ref p]/\((c7 X.K H p ys/\∀l,H l=none->Q (.ref l) (upd H l (.tup ys)))\/(dQ X.K H p ys/\Q (.ref p) H))):=by
 intro pins s σ H xs us Q I r h;obtain⟨p,ys,rfl,h⟩:=h;obtain⟨u,rfl,rx⟩:=vals1 r;cases rx;rcases h with⟨hq,q⟩|⟨hq,q⟩
 ·obtain⟨its,r',pl,hz⟩:=I.list hq;have hlen:=r'.length;refine call_tuple_list pl.isList (λh' kp=>?_) (by simp only[QI]<;>omega)
  have I1:Inv X pins σ H {s with heap:=h'}:=I.kept (t':=s.toks) kp
  have I2:Inv X pins σ (upd H h'.objs.size (.tup ys)) {s with heap:=h'.push {cls:=.type "tuple",data:=.seq its.toArray}}:=
   I1.laid (t':=s.toks) (λb o e=>Qt _ e) (Qw _) (show cX X.prog X.w _ _ _ (.tup ys) from{hz,its,r',IsTup.new _ _})
  exact{.ref h'.objs.size,_,I2,rfl,q _ (I1.hok.fresh (Qw _))}
 ·obtain⟨its,r',pl,hz⟩:=I.tuple hq;exact call_tuple_same pl {.ref p,H,I,rfl,q}
noncomputable def IT (K:Qp)(T:String)(x:V)(H:Hp):Prop:=match x with
 |.str _=>T="str"
 |.int _=>T="int"
 |.ref p=>(T="list"/\∃xs,c7 K H p xs)\/(T="tuple"/\∃o,K.lookup p=some o/\o.cls=.type "tuple"/\o.dict=none)\/
  (T="dict"/\((∃kvs,H p=some (.dK kvs))\/(∃kvs,H p=some (.dT kvs))\/∃es,H p=some (.dn es)))\/(T="set"/\∃S n,H p=some (.set S n))
 |_=>False
def zo {pins:List (Addr×Obj)}{σ:St}{H:Hp}{s:Qu}{T:String}{x:V}{v:Qr}(I:Inv X pins σ H s)(r:RelV x v)(ty:IT X.K T x H) :
 s.TypeIs v T/\∀a,v=.ref a->∃ob,s.heap.get? a=some ob/\ob.dict=none:=by
 cases x with
 | str z =>
   obtain⟨t,rfl⟩:=r;cases (show T="str" from ty);exact{typeIs_str s z t,λ_ e=>nomatch e}
 | int i =>
   obtain⟨t,rfl⟩:=r;cases (show T="int" from ty);exact{typeIs_int s i t,λ_ e=>nomatch e}
 | ref p =>
   cases r;rcases ty with⟨rfl,xs,hq⟩|⟨rfl,o,hk,hc,hd⟩|⟨rfl,hk⟩|⟨rfl,S,n,hk⟩
   ·obtain⟨its,_,pl,_⟩:=I.list hq;refine{pl.isList.typeIs,λa e=>?_};cases e;obtain⟨o,n,e,c,hd,_⟩:=pl;exact⟨o,e,hd⟩
   ·refine{{o,I.kIn p o hk,hc},λa e=>?_};cases e;exact{o,I.kIn _ o hk,hd}
   ·have z:∃o,s.heap.get? p=some o/\o.ExactDict:=by
     rcases hk with⟨kvs,hk⟩|⟨kvs,hk⟩|⟨es,hk⟩
     rotate_left 2
     ·obtain⟨_,_,o,e,ex,_⟩:=I.hok p _ hk;exact⟨o,e,ex⟩
     ·obtain⟨_,_,_,_,o,_,_,e,ex,_⟩:=I.hok p _ hk;exact⟨o,e,ex⟩
     ·obtain⟨_,_,_,_,o,_,_,e,ex,_⟩:=I.hok p _ hk;exact⟨o,e,ex⟩
    obtain⟨o,e,ex⟩:=z;refine{⟨o,e,ex.1⟩,λa e2=>?_};cases e2;exact⟨o,e,ex.2.1⟩
   ·obtain⟨o,_,_,_,e,ex,_⟩:=I.hok p _ hk;refine{⟨o,e,ex.1⟩,λa e2=>?_};cases e2;exact⟨o,e,ex.2.1⟩
 |_=>exact False.elim ty
noncomputable def OQ (K:Qp)(T:String)(r:V->List V->Hp->VK->Prop)(to:TE):TE:=λσ H Q=>to σ H λx H1=>IT K T x H1/\r x [] H1 Q
noncomputable def tBM (K:Qp)(T:String)(r:V->List V->Hp->VK->Prop)(to:TE)(t:TA):TE:=λσ H Q=>to σ H λx H1=>IT K T x H1/\t σ H1 λxs H2=>r x xs H2 Q
variable{o e:Expr}{es:List Expr}{to:TE}{t:TA}{name:Str}{apos cpos:Pos}{T id:String}{r:V->List V->Hp->VK->Prop}
def JX (pa:PlainAttrs T)(slot:Slot T name id)(hty:typeOf (.builtin id)=pure (.type "method_descriptor"))(hm:Mb X id r)(ho:PE X o to)
 (hbase:attributeBase o name X.env (eval o X.env)=eval o X.env:=by rfl) (hline:(apos.endLine==cpos.line)=true:=by rfl):PE X (.Call (.Attribute o name apos) [] [] cpos) (OQ X.K T r to):=by
 intro pins s σ H Q I h;refine wpAny_Call_method0_late hbase hline (aT (ho pins s σ H _ I h) λv s1 ⟨x,H1,I1,r1,ty,q1⟩=>?_);obtain⟨h1,h2⟩:=zo I1 r1 ty;exact{T,id,pa,slot,hty,h1,h2,Calls.callWith_builtin rfl (PySem.evalArgs_none (hm pins s1 σ H1 x [] v [] Q I1 r1 .nil q1))}
def xB (pa:PlainAttrs T)(slot:Slot T name id)(hty:typeOf (.builtin id)=pure (.type "method_descriptor"))(hm:Mb X id r)(ho:PE X o to)(ha:PA X (e::es) t)
 (hbase:attributeBase o name X.env (eval o X.env)=eval o X.env:=by rfl)
 (hfew:((backTo cpos (starEach (e::es) X.env)).all (λx=>!x.1)&&(backToKw cpos (keywordEach [] X.env)).all (λx=>x.1.isSome)
  && decide ((e::es).length+([]:List Keyword).length+(if ([]:List Keyword).isEmpty then 0 else 1)<30))=true:=by rfl)
 (hline:(apos.endLine==cpos.line)=true:=by rfl) (hs:starEach (e::es) X.env=(false,eval e X.env)::starEach es X.env:=by rfl) (hplain:(backTo cpos (starEach es X.env)).any (·.1)=false:=by rfl) :
 PE X (.Call (.Attribute o name apos) (e::es) [] cpos) (tBM X.K T r to t):=by
 intro pins s σ H Q I h;refine wpAny_Call_method_late hbase hfew hline rfl (aT (ho pins s σ H _ I h) λv s1 ⟨x,H1,I1,r1,ty,q1⟩=>?_);obtain⟨h1,h2⟩:=zo I1 r1 ty;refine{T,id,pa,slot,hty,h1,h2,?_};have hA:=ha cpos pins s1 σ H1 _ I1 q1;rw[hs] at hA ⊢;refine Calls.callWith_builtin (by show(false||(backTo cpos (starEach es X.env)).any (·.1))=false;rw[hplain]<;>rfl) (Calls.evalArgs_plain ?_)
 exact aT hA λus s2 ⟨vs,H2,I2,r2,q2⟩=>hm pins s2 σ H2 x vs v us Q I2 r1 r2 q2
end
noncomputable def Oy (X:Cx)(id:String)(r:V->List V->Hp->VK->Prop):Prop:=
 ∀(pins:List (Addr×Obj)) (s:Qu) (σ:St) (H:Hp) (x:V) (xs:List V) (v:Qr) (us:List Qr) (Q:VK),Inv X pins σ H s->RelV x v->Vals xs us->r x xs H Q->
  wpAny (model X.prog X.w) X.A (call (.builtin id) (v::us)) (EP X pins σ Q) X.xe s
def Vals.one:∀{x:V}{us:List Qr},Vals [x] us->∃u,us=[u]/\RelV x u
 |_,_,.cons r .nil=>{_,rfl,r}
def Vals.zero:∀{us:List Qr},Vals [] us->us=[]
 |_,.nil=>rfl
def Vals.rep {xs:List V}{us:List Qr}(h:Vals xs us):∀k:Nat,Vals (List.replicate k xs).flatten (List.replicate k us).flatten
 |0=>.nil
 | k + 1 => by
   rw[Sq,Sq,SJ,SJ];exact Vals.append h (Vals.rep h k)
def foldl_rep (its:List Qr):∀(k:Nat) (acc:List Qr),
 List.foldl (λx1 x2=>x1++x2) acc.toArray (List.replicate k its.toArray)=(acc++(List.replicate k its).flatten).toArray
 |0,acc=>`s
 | k + 1, acc => by
   have e:acc.toArray++its.toArray=(acc++its).toArray:=`s
   have e2:(acc++its)++(List.replicate k its).flatten=acc++(List.replicate (k+1) its).flatten:=by
    rw[Sq,SJ,RH]
   rw[<- e2,<- foldl_rep its k (acc++its),<- e,Sq,List.foldl_cons]
section
variable{X:Cx}{pins:List (Addr×Obj)}{σ:St}{H:Hp}{s:Qu}{l b:Addr}{xs ys zs:List V}
def Inv.lset {its its':List Qr}{n:Nat}{f:Array Qr->Array Qr}{t':Nat}(I:Inv X pins σ H s)(hH:H l=some (.lst xs))
 (e:s.heap.get? l=some {cls:=.type "list",data:=.seq its.toArray n}) (hf:f its.toArray=its'.toArray) (hv:Vals ys its') (hz:ys.length<=sizeLine) :
 Inv X pins σ (upd H l (.lst ys)) {s with heap:=s.heap.update l (Obj.mapSeq f),toks:=t'}:=by
 have q:=PySem.IsL.update e f;rw[hf] at q;refine I.write (x:=l) (e:=l) (by rw[hH];exact trivial) (.inl rfl) (λb' u hb hu=>(Rn s.heap (Obj.mapSeq f) (RC hb)).trans hu) {_,q} ?_
 exact{hz,its',_,hv,q}
def Inv.lnew {its:List Qr}{t':Nat}(I:Inv X pins σ H s)(hv:Vals ys its)(hz:ys.length<=sizeLine) :
 Inv X pins σ (upd H s.heap.objs.size (.lst ys)) {s with heap:=s.heap.push {cls:=.type "list",data:=.seq its.toArray},toks:=t'}:=
 I.laid (λ_ _ q=>Qt _ q) (Qw _) {hz,its,0,hv,QM _ rfl}
def Inv.fresh (I:Inv X pins σ H s):H s.heap.objs.size=none:=I.hok.fresh (Qw _)
def Inv.lstM (I:Inv X pins σ H s)(hH:H l=some (.lst xs)):xs.length<=sizeLine/\∃(its:List Qr) (n:Nat),Vals xs its/\xs.length=its.length/\s.heap.get? l=some {cls:=.type "list",data:=.seq its.toArray n}:=by
 obtain⟨z,its,n,r,e⟩:=I.hok l _ hH;exact⟨z,its,n,r,r.length,e⟩
def CS {n:Nat}(h:n<=sizeLine):Builtin.List.listTooLong n=false:=by
 unfold Builtin.List.listTooLong;exact decide_eq_false `a
end
section
variable{X:Cx}
noncomputable def GG:V->List V->Hp->VK->Prop:=λx vs H Q=>∃l xs y,x=.ref l/\vs=[y]/\H l=some (.lst xs)/\xs.length<sizeLine/\Q .non (upd H l (.lst (xs++[y])))
def mH:Oy X "list.append" GG:=by
 intro pins s σ H x vs v us Q I rx rv h;obtain⟨l,xs,y,rfl,rfl,hH,hz,q⟩:=h;cases rx;obtain⟨u,rfl,ru⟩:=rv.one;obtain⟨z,its,n,r,hl,e⟩:=I.lstM hH;refine call_meets F.slot_list_append {_,e,rfl} F.entry_list_append (F.args_list_append_2 _ _) (PySem.list_append l its.toArray n u (by rw[QI];omega)) {e,?_}
 refine{.non,_,I.lset (its':=its++[u]) hH e `s (r.append (.cons ru .nil)) ?_,rfl,q}
 rw[Rb,List.length_singleton];omega
noncomputable def JF:V->List V->Hp->VK->Prop:=λx vs H Q=>∃l xs,x=.ref l/\vs=[]/\H l=some (.lst xs)/\Q .non (upd H l (.lst []))
def CV:Oy X "list.clear" JF:=by
 intro pins s σ H x vs v us Q I rx rv h;obtain⟨l,xs,rfl,rfl,hH,q⟩:=h;cases rx;have hus:=rv.zero;subst hus;obtain⟨z,its,n,r,hl,e⟩:=I.lstM hH;refine call_meets F.slot_list_clear {_,e,rfl} F.entry_list_clear (F.args_list_clear_1 _) (AutoSeq1.list_clear_list_0 l its.toArray n (by rw[QI];omega)) {e,?_}
 exact{.non,_,I.lset (its':=[]) (ys:=[]) hH e rfl .nil (RB _),rfl,q}
noncomputable def OZ:R2:=λx y H Q=>∃l b xs zs,x=.ref l/\y=.ref b/\H l=some (.lst xs)/\H b=some (.lst zs)/\xs.length+zs.length<=sizeLine/\∀p,H p=none->Q (.ref p) (upd H p (.lst (xs++zs)))
def J5:bQ X (binaryOp .Add) OZ:=by
 intro pins s σ H x y v u Q I rx ry h;obtain⟨l,b,xs,zs,rfl,rfl,hH,hB,hz,q⟩:=h;cases rx;cases ry;obtain⟨z,its,n,r,hl,e⟩:=I.lstM hH;obtain⟨z2,its2,n2,r2,hl2,e2⟩:=I.lstM hB;refine PySem.P.add_list e e2 ?_ (by rw[QI,QI];omega)
 have ea:its.toArray++its2.toArray=(its++its2).toArray:=`s
 rw[ea];exact{.ref _,_,I.lnew (t':=s.toks) (r.append r2) (by rw[Rb];omega),rfl,q _ I.fresh}
noncomputable def OX:R2:=λx y H Q=>∃l k xs,x=.ref l/\y=.int k/\H l=some (.lst xs)/\-(2^63)<=k/\k<2^63/\xs.length*k.toNat<=sizeLine/\
 ∀p,H p=none->Q (.ref p) (upd H p (.lst (List.replicate k.toNat xs).flatten))
def len_rep {α:Type}(xs:List α)(k:Nat):(List.replicate k xs).flatten.length=k*xs.length:=by
 induction k with
 |zero=>simp
 |succ k ih=>rw[Sq,SJ,Rb,ih,Nat.succ_mul,Nat.add_comm]
def J0:bQ X (binaryOp .Mult) OX:=by
 intro pins s σ H x y v u Q I rx ry h;obtain⟨l,k,xs,rfl,rfl,hH,h1,h2,hz,q⟩:=h;cases rx;obtain⟨t,rfl⟩:=ry;obtain⟨z,its,n,r,hl,e⟩:=I.lstM hH;have hlen:its.toArray.size*k.toNat<=sizeLine:=by rw[QI,<- hl];exact hz
 have hcap:¬ its.toArray.size*k.toNat > (2^63-1) / 8:=by
  have:(sizeLine:Nat)<=(2^63-1) / 8:=`d
  omega
 have hfit:¬ (!Builtin.List.listFitsIndex k)=true:=by
  rw[fitsIndex_both h1 h2];exact QR
 have hlong:¬ Builtin.List.listTooLong (its.toArray.size*k.toNat)=true:=by
  rw[CS hlen];exact QR
 have hnew:List.foldl (λx1 x2=>x1++x2) #[] (List.replicate (if its.toArray.isEmpty=true then 0 else k.toNat) its.toArray)=(List.replicate k.toNat its).flatten.toArray:=by
  have f0:∀m:Nat,List.foldl (λx1 x2=>x1++x2) #[] (List.replicate m its.toArray)=(List.replicate m its).flatten.toArray:=λm=>by
   have:=foldl_rep its m [];rw[List.nil_append] at this;exact this
  rw[f0];cases its with
  |nil=>simp
  |cons a r'=>rw[if_neg `s]
 refine wpAny_binaryOp_repeat_ref (T:="list") (U:="int") `d {_,e,rfl} (λs'=>typeIs_int s' k t) noFill_list_mul F.fills_int_mul F.slot_int_rmul repeat_list F.slot_int_index.lookup
  (call_meets F.slot_int_rmul (typeIs_int s k t) F.entry_int_rmul (F.args_int_rmul_2 _ _) (int___rmul___int_list k t l its.toArray n)
   {e,rfl,{_,e,rfl},call_meets F.slot_list_mul {_,e,rfl} F.entry_list_mul (F.args_list_mul_2 _ _) (AutoListH.list___mul___list_int_3 l its.toArray n k t hfit hcap hlong) {e,?_}})
 rw[hnew];exact{.ref _,_,I.lnew (t':=s.toks) (r.rep k.toNat) (by rw[len_rep,Nat.mul_comm];exact hz),rfl,q _ I.fresh}
end
end L2
namespace Att
open PySem PySem.W PySem.Calls PyProof.Rows
def pY {P:Sn}{h:Heap}:∀(ns:List Int) (vs:List Qr),WellAll P h vs (ns.map WData.int)->SH vs ns:=by
 intro ns;induction ns with
 | nil =>
   intro vs w;rw[List.map_nil] at w;cases w;exact .nil
 | cons n ns ih =>
   intro vs w;rw[RU] at w;cases w with
   | cons a b =>
     cases a;exact .cons _ _ (ih _ b)
def zV {l:OpenLaw}{n:Nat}(hn:l.most=some n){P:Sn}{h:Heap}{args:List WData}{vals:List Qr}
 (hpre:l.row.toRowW.claim.pre args=true) (hwl:WellAll P h vals args) :
 ∃a vs ns,vals=[Value.ref a]/\args=[WData.list (ns.map WData.int)]/\h.get? a=some {cls:=.type "list",data:=.seq vs.toArray}/\SH vs ns/\ns.length<=n:=by
 have hsh:WShape.hasAll [] args [.list .int]=true:=(pre_splitW hpre).1;have hc:l.pre.holds [] {args:=args}=true:=(pre_splitW hpre).2;obtain⟨d,r,rfl,h1,h2⟩:=hasAllW_cons hsh;obtain rfl:=hasAllW_nil h2;obtain⟨xs,rfl,h3⟩:=hasW_list h1;obtain⟨ns,rfl⟩:=items_int h3;have hlen:ns.length<=n:=by
  unfold OpenLaw.pre at hc;have h4:(WTm.not (.lt (.lit (.int (n:Int))) (.len (.arg 0)))).holds [] {args:=[.list (ns.map .int)]}=true:=by
   have h4:=(holds_andW hc).1;rw[hn] at h4;exact h4
  have h5:=condW_of h4 (w_not (w_lt w_lit (w_len_list (w_arg rfl))));rw[Qq] at h5;refine Nat.le_of_not_lt λq=>?_;have q':(n:Int)<((ns.length:Nat):Int):=`a
  first
   |(rw[decide_eq_true q'] at h5;exact absurd h5 `d)
   |(simp at h5;omega)
 cases hwl with
 | cons w1 w2 =>
   cases w2;cases w1 with
   |list ho hall=>exact{_,_,ns,rfl,rfl,ho,pY ns _ hall,hlen}
def Ak (l:OpenLaw)(args:List WData):l.row.toRowW.claim.post args (.bool true) args=true:=
 postW_of (r:=l.row.toRowW) (X:=(true==true))
  (show WShape.has [] (.bool true) .bool=true by first|rfl|decide|simp[WShape.has,WShape.arms,WShape.armsAll])
  (show(WTm.eq .res (.lit (.bool true))).value [] {args:=args,res:=some (.bool true),after:=args}=some (.bool (true==true)) from w_eq_bool (w_res rfl) w_lit) rfl
def attach_call {l:OpenLaw}{n:Nat}{q:Rp}{loose:List Str}{XP:(Str->Option Qr)->Heap->Prop}{YP:Rr->Heap->Prop}{d:DefRec}
 (hn:l.most=some n) (hdf:d.params.defaults=[])
 (call:∀(w:Rr) (s₀ s₁:Qu) (mg mb:Str->Option Qr) (fa:Addr) (o:Obj) (pm cd doc:Qr) (a:Addr) (vs:List Qr) (ns:List Int),
  Ground q loose [] XP w s₀ mg mb s₁.heap->YP w s₁.heap->
  s₁.heap.get? fa=some o->o.data=.func (docDef d.name d.params d.body d.scope pm cd doc)->s₁.heap.CodeRec cd d.name->mg d.name=some (.ref fa)->
  s₁.heap.get? a=some {cls:=.type "list",data:=.seq vs.toArray}->SH vs ns->ns.length<=n->s₁.gens=#[]->
  codeAny (model l.prog w) callerA (.call (.ref fa) {[.ref a],[]}) (λr s'=>r=.ok (.ret (.bool true))/\OldK s₁.heap s'.heap/\s'.os=s₁.os/\AllBare s'.gens) s₁) :
 WalkO q loose XP YP l.row.toRowW d [] (λf vs=>PySem.call f vs):=by
 intro w s₀ s₁ mg mb G Y fa o pm cd doc dV kV ho hd hcd hD hmg hg args vals as hpre hlay hrd hwl hlo;obtain rfl:dV=.none:=Dflts.none hD hdf;obtain rfl:kV=.none:=Dflts.noKw hD;obtain⟨a,vs,ns,rfl,rfl,hobj,hints,hlen⟩:=zV hn hpre hwl;refine enter_call (codeAny_mono (call w s₀ s₁ mg mb fa o pm cd doc a vs ns G Y ho (fd_plain hd) hcd hmg hobj hints hlen hg) λr s' hq=>?_);obtain⟨rfl,h2,h3,h4⟩:=hq;exact{.inl {.bool true,.bool true,[],rfl,λ_=>rfl,.bool true,Ak l _,λ_=>{List.Pairwise.nil,λ_ hm=>(nomatch hm)}},h2,h3,h4}
end Att
namespace L2
open PySem PySem.Spec PyProof.Rows
def rL:∀{vs:List Qr}{ns:List Int},SH vs ns->Vals (ns.map V.int) vs
 |_,_,.nil=>.nil
 |_,_,.cons n t h=>.cons ⟨t,rfl⟩ (rL h)
noncomputable def yB (H:Hp):Prop:=∀b,H b=none\/∃o xs,H b=some (.frz o (.lst xs))
def C4 {P:Rp}{w:Rr}{K:Qp}{mg mb:Str->Option Qr}{CX:oE}{k:Nat}{fa a:Addr}{fd:FuncData}{x:Str}{sp:Sp}{s₁:Qu}{vs:List Qr}{ns:List Int}
 (KX:K.In s₁.heap) (hns:s₁.heap.Ns mainGlobals mg) (hb:s₁.heap.Ns builtinsNs mb) (hbb:∀x:Str,x≠"__name__"->mb x=bootBuiltins x) (hlim:s₁.heap.NoLimit) (hg:s₁.gens=#[])
 (ha:s₁.heap.get? a=some {cls:=.type "list",data:=.seq vs.toArray}) (hi:SH vs ns) (hl:ns.length<=sizeLine) (hr:dA k callerA)
 (F:∀base:Heap,K.In base->base.Ns mainGlobals mg->md P w K mg base CX k fa fd [x] sp) (hbind:∀(s:Qu) (u:Qr),BindsTo s fd {[u],[]} [(x,u)])
 (hsp:∀H:Hp,yB H->c7 K H a (ns.map V.int)->sp [.ref a] H (λv _=>v=.bl true) λ_ _ _=>False)
 (hCX:∀H e s',CX [] H s₁ (λ_ _ _=>False) e s'->False) :
 codeAny (model P w) callerA (.call (.ref fa) {[.ref a],[]}) (λr s'=>r=.ok (.ret (.bool true))/\OldK s₁.heap s'.heap/\s'.os=s₁.os/\AllBare s'.gens) s₁:=by
 have rv:=rL hi;have lenV:=hi.length;have core:∀H:Hp,yB H->c7 K H a (ns.map V.int)->eJ P w H s₁.heap->(∀b,H b≠none->b=a)->(H a≠none->K.lookup a=none)->
  codeAny (model P w) callerA (.call (.ref fa) {[.ref a],[]}) (λr s'=>r=.ok (.ret (.bool true))/\OldK s₁.heap s'.heap/\s'.os=s₁.os/\AllBare s'.gens) s₁:=by
  intro H hO hS hok hA hK;have ik:∀{b:Addr}{o:Obj},s₁.heap.get? b=some o->H b=none->(lO s₁.heap H).get? b=some o:=λe n=>Dm e n;have noA:∀{b:Addr}{o:Obj}{es:Array RO}{ep:Nat},s₁.heap.get? b=some o->o.data=.dict es ep->H b=none:=λ{b o es ep} e d=>by
   cases q:H b with
   |none=>rfl
   | some u =>
     have e':b=a:=hA b (by rw[q];simp)
     subst e';rw[ha] at e;cases e;have d':Data.seq vs.toArray _=Data.dict es ep:=d;cases d'
  have nsK:∀{b:Addr}{m:Str->Option Qr},s₁.heap.Ns b m->(lO s₁.heap H).Ns b m:=λ{b m} ⟨o,es,ep,e,d,r⟩=>{o,es,ep,ik e (noA e d),d,r};have hKb:K.In (lO s₁.heap H):=λb o e=>ik (KX b o e) (by
   cases q:H b with
   |none=>rfl
   | some u =>
     have e':b=a:=hA b (by rw[q];simp)
     subst e';rw[hK (by rw[q];simp)] at e;cases e)
  have hM:Mod K mg (lO s₁.heap H):={hKb,nsK hns,{mb,nsK hb,hbb},let⟨mc,h1,h2⟩:=hlim;{mc,nsK h1,h2}}
  have e0:yG P w K mg (lO s₁.heap H) callerA [] s₁ H:={rfl,hM,λb o e=>G2 e,Nat.le_of_eq (A0 _ _),trivial,λb hb=>absurd (show b∈([]:List Addr) from hb) `s,hok,.of_eq hg}
  refine codeAny_mono ((F _ hKb (nsK hns)).run callerA [] s₁ H {[.ref a],[]} [.ref a] [.ref a] _ _ hr e0 (hbind s₁ (.ref a)) (.cons rfl .nil) (hsp H hO hS)) λr s' h=>?_;cases r with
  |error e=>exact(hCX H e s' h).elim
  | ok fl =>
    cases fl with
    |next=>exact False.elim h
    |brk=>exact False.elim h
    |cont=>exact False.elim h
    | ret u =>
      obtain⟨v,H',os,bare,un,hok',r',q⟩:=h;have q':v=.bl true:=q;subst q';obtain rfl:u=Value.bool true:=r';refine{rfl,OldK.of_keep λb o e=>?_,os,bare};cases q:H b with
      |none=>exact un.keep b o e q (by intro z;exact absurd (show b∈([]:List Addr) from z) `s) `s
      | some u =>
        rcases hO b with z|⟨ob,xs,z⟩
        ·rw[q] at z;cases z
        ·have z2:=un.frzs b ob _ z;obtain⟨e1,_⟩:=hok b _ z;obtain⟨e2,_⟩:=hok' b _ z2;rw[e] at e1;cases e1;exact e2
 cases hk:K.lookup a with
 | some o =>
   have e:=KX a o hk;rw[ha] at e;cases e;refine core (λ_=>none) (λ_=>.inl rfl) (.inr {_,vs.toArray,_,hk,rfl,rfl,rfl,by rw[QI,lenV];exact hl,by simpa using rv}) (λb u z=>by have z':(none:Option HO)=some u:=z;cases z') (λb z=>absurd rfl z) λz=>absurd rfl z
 | none =>
   refine core (λb=>if b=a then some (.frz {cls:=.type "list",data:=.seq vs.toArray} (.lst (ns.map V.int))) else none) (λb=>?_) (.inl (.inr {{cls:=.type "list",data:=.seq vs.toArray},if_pos rfl})) (λb u z=>?_) (λb z=>?_) λ_=>hk
   ·by_cases hb:b=a
    ·exact .inr {_,_,if_pos hb}
    ·exact .inl (if_neg hb)
   ·by_cases hb:b=a
    ·have z':=(if_pos hb).symm.trans z;cases z';subst hb;exact{ha,by rw[Qq];exact hl,vs,_,rv,ha}
    ·have z':=(if_neg hb).symm.trans z;cases z'
   ·by_cases hb:b=a
    ·exact hb
    ·exact absurd (if_neg hb) z
def FI {l:PySem.W.OpenLaw}{n k:Nat}{q:Rp}{loose:List Str}{XP:(Str->Option Qr)->Heap->Prop}{YP:Rr->Heap->Prop}{d:DefRec}{K:Sn->Qp}{CX:Rr->oE}{sp:Rr->Sp}{x:Str}
 (hn:l.most=some n) (hn2:n<=sizeLine) (hdf:d.params.defaults=[]) (hr:dA k callerA)
 (hY:∀(w:Rr) (h:Heap),YP w h->(K w.params).In h)
 (F:∀(w:Rr) (mg:Str->Option Qr) (fa:Addr) (h:Heap),(K w.params).In h->h.Ns mainGlobals mg->mg d.name=some (.ref fa)->
  ∃fd:FuncData,(∀(s:Qu) (u:Qr),BindsTo s fd {[u],[]} [(x,u)])/\
   ∀base:Heap,(K w.params).In base->base.Ns mainGlobals mg->md l.prog w (K w.params) mg base (CX w) k fa fd [x] (sp w))
 (hsp:∀(w:Rr) (H:Hp) (a:Addr) (ns:List Int),ns.length<=n->yB H->c7 (K w.params) H a (ns.map V.int)->sp w [.ref a] H (λv _=>v=.bl true) λ_ _ _=>False)
 (hCX:∀(w:Rr) (H:Hp) (s:Qu) (e:Qr) (s':Qu),CX w [] H s (λ_ _ _=>False) e s'->False) :
 PySem.W.WalkO q loose XP YP l.row.toRowW d [] (λf vs=>PySem.call f vs):=by
 refine Att.attach_call hn hdf λw s₀ s₁ mg mb fa o pm cd doc a vs ns G Y ho hd hcd hmg hobj hints hlen hg=>?_;have KX:=hY w _ Y;obtain⟨fd,hb,hF⟩:=F w mg fa _ KX G.T.g hmg;exact C4 KX G.T.g G.T.b G.T.builtins G.T.nolimit hg hobj hints (QH hlen hn2) hr hF hb (λH hO hS=>hsp w H a ns hlen hO hS) λH e s'=>hCX w H s₁ e s'
noncomputable def fj (s:Stmt):Arguments:=match s with
 |.FunctionDef _ a _ _ _ _ _ _ _ _=>a
 |_=>{posonlyargs:=[],args:=[],vararg:=none,kwonlyargs:=[],kw_defaults:=[],kwarg:=none,defaults:=[]}
noncomputable def dg (s:Stmt):List Stmt:=match s with
 |.FunctionDef _ _ b _ _ _ _ _ _ _=>b
 |_=>[]
noncomputable def bc (s:Stmt):Scope:=match s with
 |.FunctionDef _ _ _ _ _ _ sc _ _ _=>sc
 |_=>{kind:=.function,names:=[],isGenerator:=false,isCoroutine:=false}
abbrev E0:XK:=λ_ _ _=>False
structure w9 (K:Qp) (x qual:Str) (st:Stmt) (f:Addr) (fd:FuncData):Prop where
 ex:∃(oc:Qr) (od:Option Addr) (kV doc pm:Qr) (an:Option Addr) (cdv ct:Qr) (osl:Array (Option Qr)),
  fd=PySem.W.fnOf x qual (fj st) (dg st) (bc st) .none kV doc pm an cdv ct/\K.lookup f=some {oc,od,.func fd,osl}/\PySem.W.codeIn K cdv qual=true
 kp:PySem.W.keepIn K (.ref f)=true
section
variable{P:Rp}{w:Rr}{K:Qp}{mg:Str->Option Qr}{base:Heap}
def K1 {x qual:Str}{st:Stmt}{f:Addr}{oc:Qr}{od an:Option Addr}{osl:Array (Option Qr)}{kV doc pm cdv ct:Qr}(l:K.lookup f=some {oc,od,.func (PySem.W.fnOf x qual (fj st) (dg st) (bc st) .none kV doc pm an cdv ct),osl})
 (c:PySem.W.codeIn K cdv qual=true) (k:PySem.W.keepIn K (.ref f)=true):w9 K x qual st f (PySem.W.fnOf x qual (fj st) (dg st) (bc st) .none kV doc pm an cdv ct):={⟨oc,od,kV,doc,pm,an,cdv,ct,osl,rfl,l,c⟩,k}
end
end L2
namespace LD
open PySem
inductive D where
 |non|bl (b:Bool)|int (i:Int)|str (x:Str)|tup (ds:List D)|lst (ds:List D)|frz (ds:List D)|cell (k:Nat)|fn (f:Nat)|exc (c:Nat) (p:Option Int)
 deriving Inhabited
abbrev Mem:=List (List D)
abbrev Env:=List (Option D)
inductive Res (α:Type) where
 |ok (a:α) (M:Mem)
 |err (x:D) (M:Mem)
 |bad
noncomputable def Res.bind {α β:Type}(r:Res α)(f:α->Mem->Res β):Res β:=match r with
 |.ok a M=>f a M
 |.err x M=>.err x M
 |.bad=>.bad
@[simp] theorem Res.bind_ok {α β:Type}(a:α)(M:Mem)(f:α->Mem->Res β):(Res.ok a M).bind f=f a M:=rfl
@[simp] theorem Res.bind_err {α β:Type}(x:D)(M:Mem)(f:α->Mem->Res β):(Res.err x M:Res α).bind f=.err x M:=rfl
@[simp] theorem Res.bind_bad {α β:Type}(f:α->Mem->Res β):(Res.bad:Res α).bind f=.bad:=rfl
inductive oF where
 |add|sub|mul|fdiv|mod|pow
 deriving DecidableEq
inductive kc where
 |eq|ne|lt|le|gt|ge|isN|notN|isin|notin
 deriving DecidableEq
inductive Ty where
 |int|bool|str|tuple|list|own (c:Str)
 deriving DecidableEq
inductive xg where
 |len|tuple|list (m:Bool)|listR (m:Bool)|all|sum|repr
 deriving DecidableEq
inductive fW where
 |one (i:Nat)
 |tup (l:List Nat)
 |two (i:Nat) (l:List Nat)
noncomputable def sz:Nat:=16777216
noncomputable def bh (m:Bool)(ds:List D)(M:Mem):Res D:=if ds.length<=sz then(if m then .ok (.cell M.length) (M++[ds]) else .ok (.lst ds) M) else .bad
noncomputable def lG (ds:List D)(M:Mem):Res D:=if ds.length<=sz then .ok (.tup ds) M else .bad
noncomputable def cj (M:Mem):D->Option (List D)
 |.lst ds=>some ds
 |.tup ds=>some ds
 |.frz ds=>some ds
 |.cell k=>M[k]?
 |_=>none
noncomputable def eB (M:Mem):D->Option (List D)
 |.lst ds=>some ds
 |.frz ds=>some ds
 |.cell k=>M[k]?
 |_=>none
noncomputable def jx (M:Mem):D->Option (List D)
 |.lst ds=>some ds
 |.cell k=>M[k]?
 |_=>none
noncomputable def az:Nat->D->Bool
 |_,.non=>true
 |_,.bl _=>true
 |_,.int _=>true
 |_,.str x=>x.cps.all (· < 0x110000)
 |n+1,.tup ds=>ds.all (az n)
 |n+1,.lst ds=>ds.all (az n)
 |0,.tup _=>false
 |0,.lst _=>false
 |_,.frz _=>false
 |_,.cell _=>false
 |_,.fn _=>false
 |_,.exc _ _=>false
mutual
def bO:D->D->Bool
 |.non,.non=>true
 |.bl a,.bl b=>a==b
 |.bl a,.int b=>(if a then 1 else 0)==b
 |.int a,.bl b=>a==(if b then 1 else 0)
 |.int a,.int b=>a==b
 |.str a,.str b=>a==b
 |.tup a,.tup b=>d4 a b
 |.lst a,.lst b=>d4 a b
 |_,_=>false
def d4:List D->List D->Bool
 |[],[]=>true
 |a::r,b::t=>bO a b&&d4 r t
 |[],_::_=>false
 |_::_,[]=>false
end
noncomputable def ia:D->Bool
 |.str _=>true
 |_=>false
noncomputable def p8 (a b:D):Option Bool:=if ia a&&ia b||az 64 a&&az 64 b then some (bO a b) else none
noncomputable def view (M:Mem):D->D
 | .cell k => match M[k]? with
   |some ds=>.lst ds
   |none=>.cell k
 |.frz ds=>.lst ds
 |d=>d
noncomputable def dB:Nat->Mem->D->D
 |0,_,d=>d
 | n + 1, M, .cell k => match M[k]? with
   |some ds=>.lst (ds.map (dB n M))
   |none=>.cell k
 |n+1,M,.frz ds=>.lst (ds.map (dB n M))
 |n+1,M,.lst ds=>.lst (ds.map (dB n M))
 |n+1,M,.tup ds=>.tup (ds.map (dB n M))
 |_+1,_,d=>d
noncomputable def mY (M:Mem)(a b:D):Option Bool:=match p8 (view M a) (view M b) with
 |some r=>some r
 |none=>p8 (dB 64 M a) (dB 64 M b)
noncomputable def kg (M:Mem):D->Option Bool
 |.non=>some false
 |.bl b=>some b
 |.int i=>some (i != 0)
 |.str x=>if x.cps.size<=sz then some (x.cps.size != 0) else none
 |.tup ds=>some (!ds.isEmpty)
 |.lst ds=>some (!ds.isEmpty)
 |.frz ds=>some (!ds.isEmpty)
 |.cell k=>(M[k]?).map λds=>!ds.isEmpty
 |.fn _=>none
 |.exc _ _=>none
noncomputable def cv (n:Nat)(i:Int):Option Nat:=if 0<=i then(if i<n then some i.toNat else none) else if -(n:Int)<=i then some (i+n).toNat else none
noncomputable def fY (m:Bool)(o:oF)(a b:D)(M:Mem):Res D:=match o,a,b with
 |.add,.int i,.int j=>.ok (.int (i+j)) M
 |.add,.str x,.str y=>if x.cps.size+y.cps.size<=sz then .ok (.str {x.cps++y.cps}) M else .bad
 |.add,.tup x,.tup y=>lG (x++y) M
 | .add, a, b => match jx M a, jx M b with
   |some x,some y=>bh m (x++y) M
   |_,_=>.bad
 |.sub,.int i,.int j=>.ok (.int (i-j)) M
 |.mul,.int i,.int j=>if (-(2^64)<i/\i<2^64)\/(-(2^64)<j/\j<2^64) then .ok (.int (i*j)) M else .bad
 |.mul,.tup x,.int j=>if x.length*j.toNat<=sz/\-(2^63)<=j/\j<2^63 then .ok (.tup (List.replicate j.toNat x).flatten) M else .bad
 | .mul, a, .int j => match jx M a with
   |some x=>if x.length*j.toNat<=sz/\-(2^63)<=j/\j<2^63 then bh m (List.replicate j.toNat x).flatten M else .bad
   |none=>.bad
 |.fdiv,.int i,.int j=>if 0<j/\j<1073741824 then .ok (.int (i / j)) M else .bad
 |.mod,.int i,.int j=>if 0<j then .ok (.int (i % j)) M else .bad
 |.pow,.int i,.int j=>if 0<=j/\j<=1000000/\i.natAbs<2^64 then .ok (.int (i^j.toNat)) M else .bad
 |_,_,_=>.bad
noncomputable def pZ (x:D)(ds:List D):Option Bool:=if az 64 x&&ds.all (az 63) then some (ds.any λy=>bO y x) else none
noncomputable def zA (x y:Str):Bool:=!(Builtin.Str.occurrences y x 0 y.length 1).isEmpty
noncomputable def intsOf:List D->Option (List Int)
 |[]=>some []
 |.int b::r=>(intsOf r).map (b::·)
 |_=>none
noncomputable def mM:D->Option (List Int)
 |.tup ds=>intsOf ds
 |_=>none
noncomputable def jS:List D->Option (List (List Int))
 |[]=>some []
 |d::r=>(mM d).bind λk=>(jS r).map (k::·)
noncomputable def qO:D->Option (List (List Int))
 |.tup ds=>jS ds
 |_=>none
noncomputable def isKey (c:Int)(d:D):Bool:=if c=77 then(mM d).isSome else if c=78 then(qO d).isSome else false
noncomputable def bC (M:Mem)(o:Nat):Option (Int×List D):=if 5000<=o then(match M[o-5000]? with
 |some (.int c::es)=>if c=77\/c=78 then some (c,es) else none
 |_=>none) else none
noncomputable def c8:D->D
 |.tup [k,_]=>k
 |d=>d
noncomputable def PF:D->D
 |.tup [_,v]=>v
 |d=>d
noncomputable def cK (es:List D)(k:D):Option D:=(es.find? λe=>bO (c8 e) k).map PF
noncomputable def putD (es:List D)(k v:D):List D:=if (cK es k).isSome then es.map (λe=>if bO (c8 e) k then .tup [c8 e,v] else e) else es++[.tup [k,v]]
noncomputable def inD (M:Mem)(o:Nat)(k:D):Option Bool:=(bC M o).bind λq=>if isKey q.1 k then some (cK q.2 k).isSome else none
noncomputable def getD (M:Mem)(o:Nat)(k:D):Option D:=(bC M o).bind λq=>if isKey q.1 k then cK q.2 k else none
noncomputable def eX:D->Bool
 |.non=>true
 |_=>false
noncomputable def bF (o:kc)(a b:D)(M:Mem):Option Bool:=match o,a,b with
 |.eq,a,b=>mY M a b
 |.ne,a,b=>(mY M a b).map (!·)
 |.lt,.int i,.int j=>some (decide (i<j))
 |.le,.int i,.int j=>some (decide (i<=j))
 |.gt,.int i,.int j=>some (decide (j<i))
 |.ge,.int i,.int j=>some (decide (j<=i))
 |.isN,a,.non=>some (eX a)
 |.notN,a,.non=>some (!eX a)
 |.isin,.str x,.str y=>some (zA x y)
 |.notin,.str x,.str y=>some (!zA x y)
 |.isin,a,b=>(cj M b).bind (pZ (view M a))
 |.notin,a,b=>((cj M b).bind (pZ (view M a))).map (!·)
 |_,_,_=>none
noncomputable def b6 (a i:D)(M:Mem):Option D:=match a,i with
 |.str x,.int i=>if x.cps.size<=sz then(cv x.cps.size i).bind λj=>(x.cps[j]?).map λc=>.str {#[c]} else none
 |a,.int i=>(cj M a).bind λds=>(cv ds.length i).bind λj=>ds[j]?
 |_,_=>none
noncomputable def aU (n d:Nat):D->Option Nat
 |.non=>some d
 |.int v=>some (if v<0 then(v+(n:Int)).toNat else min v.toNat n)
 |_=>none
noncomputable def eO:Bool->D->Bool
 |true,.int _=>true
 |false,.non=>true
 |_,_=>false
noncomputable def cut {α:Type}(xs:List α)(lo hi:Nat):List α:=(xs.drop lo).take (hi-lo)
noncomputable def gM (m:Bool)(a lo hi:D)(M:Mem):Res D:=match a with
 | .tup xs => match aU xs.length 0 lo, aU xs.length xs.length hi with
   |some l,some h=>.ok (.tup (cut xs l h)) M
   |_,_=>.bad
 | a => match eB M a with
   | some xs => match aU xs.length 0 lo, aU xs.length xs.length hi with
     |some l,some h=>bh m (cut xs l h) M
     |_,_=>.bad
   |none=>.bad
noncomputable def gV (t:Ty):D->Option Bool
 |.non=>some false
 |.bl _=>some (t==.bool||t==.int)
 |.int _=>some (t==.int)
 |.str _=>some (t==.str)
 |.tup _=>some (t==.tuple)
 |.lst _=>some (t==.list)
 |.frz _=>some (t==.list)
 |.cell _=>some (t==.list)
 |.fn _=>none
 |.exc _ _=>none
noncomputable def boolsOf:List D->Option (List Bool)
 |[]=>some []
 |.bl b::r=>(boolsOf r).map (b::·)
 |_=>none
noncomputable def ft (f:xg)(ds:List D)(M:Mem):Res D:=match f,ds with
 |.len,[.str x]=>if x.cps.size<=sz then .ok (.int x.cps.size) M else .bad
 | .len, [d] => match cj M d with
   |some xs=>.ok (.int xs.length) M
   |none=>.bad
 |.tuple,[.tup xs]=>.ok (.tup xs) M
 | .tuple, [d] => match eB M d with
   |some xs=>.ok (.tup xs) M
   |none=>.bad
 | .list m, [d] => match cj M d with
   |some xs=>bh m xs M
   |none=>.bad
 |.listR m,[.int n]=>if n<2^20 then bh m ((List.range n.toNat).map λ(k:Nat)=>D.int (k:Int)) M else .bad
 | .all, [d] => match eB M d with
   | some xs => match boolsOf xs with
     |some bs=>.ok (.bl (bs.all id)) M
     |none=>.bad
   |none=>.bad
 | .sum, [d] => match eB M d with
   | some xs => match intsOf xs with
     |some is=>.ok (.int is.sum) M
     |none=>.bad
   |none=>.bad
 |_,_=>.bad
noncomputable def c5:List Nat->List D->Env->Option Env
 |[],[],Z=>some Z
 |i::l,d::ds,Z=>c5 l ds (Z.set i (some d))
 |_,_,_=>none
noncomputable def bX (t:fW)(d:D)(Z:Env):Option Env:=match t,d with
 |.one i,d=>some (Z.set i (some d))
 |.tup l,.tup ds=>c5 l ds Z
 |.two i l,.tup [d,.tup ds]=>c5 l ds (Z.set i (some d))
 |.tup _,_=>none
 |.two _ _,_=>none
abbrev Walk:=Mem->Option (List D)
noncomputable def fy:Nat->List D->List D
 |_,[]=>[]
 |k,d::r=>.tup [.int k,d]::fy (k+1) r
noncomputable def eF:List D->List D->List D
 |a::r,b::t=>.tup [a,b]::eF r t
 |_,_=>[]
noncomputable def gp {α:Type}(f:α->D->Mem->Res α)(w:Walk):Nat->Nat->α->Mem->Res α
 |0,_,_,_=>.bad
 | n + 1, i, a, M => match w M with
   |none=>.bad
   | some ds => match ds[i]? with
     |none=>.ok a M
     |some d=>(f a d M).bind (gp f w n (i+1))
noncomputable def cL {α:Type}(f:α->D->Mem->Res α)(w:Walk)(a:α)(M:Mem):Res α:=gp f w (((w M).getD []).length+1) 0 a M
noncomputable def cm {α:Type}(M:Mem):Option α->Res α
 |some a=>.ok a M
 |none=>.bad
@[simp] theorem ug {α:Type}(M:Mem)(a:α):cm M (some a)=.ok a M:=rfl
@[simp] theorem O0 {α:Type}(M:Mem):(cm M none:Res α)=.bad:=rfl
inductive Fl where
 |next (Z:Env)
 |ret (d:D)
 |exc (x:D) (Z:Env)
def NS {a b:Int}:bO (.int a) (.int b)=(a==b):=rfl
end LD
namespace LD
open PySem PySem.Spec PyProof.Rows L2
structure Mu where
 pub:Nat->Option Addr
 priv:List Addr
 ob:Nat->Option Addr
noncomputable def Mu.Mt (μ:Mu)(a:Addr):Prop:=(∃k,μ.pub k=some a)\/a∈μ.priv
abbrev Fa:=Nat->Option Addr
noncomputable def KL (K:Qp)(a:Addr)(xs:List V):Prop:=
 ∃(o:Obj) (its:Array Qr) (n:Nat),K.lookup a=some o/\o.cls=.type "list"/\o.dict=none/\o.data=.seq its n/\its.size<=sizeLine/\Vals xs its.toList
noncomputable def XAt (C:Addr)(dx:Option Addr)(a:Addr)(h:Heap):Prop:=∃o vs,h.get? a=some o/\o.cls=.ref C/\o.dict=dx/\o.data=.fields vs/\1<vs.size
noncomputable def BE (c:Nat):Str:=if c=1 then "number" else "place"
noncomputable def vt (H:Hp)(c:Nat)(dx:Option Addr):Option Int->Prop
 |none=>dx=none
 |some i=>∃d,dx=some d/\H d=some (.xd [(BE c,.int i)])
noncomputable def gj (c:Nat):Nat:=1000+c
noncomputable def jO (c:Nat):Nat:=900+c
section
variable(fa:Fa)(K:Qp)(μ:Mu)(H:Hp)
mutual
def Rep:D->V->Prop
 |.non,v=>v=.non
 |.bl b,v=>v=.bl b
 |.int i,v=>v=.int i
 |.str x,v=>v=.str x
 |.tup ds,v=>∃a vs,v=.ref a/\dQ K H a vs/\aK ds vs
 |.lst ds,v=>∃a vs,v=.ref a/\(H a=some (.lst vs)/\¬ μ.Mt a)/\aK ds vs
 |.frz ds,v=>∃a vs,v=.ref a/\((∃ob,H a=some (.frz ob (.lst vs)))\/KL K a vs)/\aK ds vs
 |.cell k,v=>∃a,v=.ref a/\μ.pub k=some a
 |.fn f,v=>∃a,v=.ref a/\(fa f=some a\/(fa f=none/\μ.ob f=some a))
 |.exc c p,v=>∃a C dx,v=.ref a/\fa (gj c)=some C/\H a=some (.ext (XAt C dx a))/\vt H c dx p
def aK:List D->List V->Prop
 |[],vs=>vs=[]
 |d::ds,vs=>∃v r,vs=v::r/\Rep d v/\aK ds r
end
end
noncomputable def IsX (o:HO):Prop:=(∃φ,o=.ext φ)\/∃fs,o=.xd fs
structure ExtW (μ:Mu) (H:Hp) (μ':Mu) (H':Hp):Prop where
 mu:∀k a,μ.pub k=some a->μ'.pub k=some a
 tups:∀a vs,Rd H a (.tup vs)->Rd H' a (.tup vs)
 lsts:∀a vs,H a=some (.lst vs)->¬ μ.Mt a->H' a=some (.lst vs)/\¬ μ'.Mt a
 frzs:∀a ob u,H a=some (.frz ob u)->H' a=some (.frz ob u)
 exts:∀a o,IsX o->H a=some o->H' a=some o
 obs:∀k a,μ.ob k=some a->μ'.ob k=some a
structure Ext (μ:Mu) (H:Hp) (μ':Mu) (H':Hp):Prop extends ExtW μ H μ' H' where
 pr:μ'.priv=μ.priv
 pk:∀a∈μ.priv,H' a=H a
def ExtW.refl:ExtW μ H μ H:={λ_ _ h=>h,λ_ _ h=>h,λ_ _ h n=>⟨h,n⟩,λ_ _ _ h=>h,λ_ _ _ h=>h,λ_ _ h=>h}
def ExtW.trans (a:ExtW μ H μ1 H1)(b:ExtW μ1 H1 μ2 H2):ExtW μ H μ2 H2:=
 {λk x h=>b.mu k x (a.mu k x h),λx vs h=>b.tups x vs (a.tups x vs h),λx vs h n=>b.lsts x vs (a.lsts x vs h n).1 (a.lsts x vs h n).2,λx ob u h=>b.frzs x ob u (a.frzs x ob u h),λx o i h=>b.exts x o i (a.exts x o i h),λk x h=>b.obs k x (a.obs k x h)}
def Ext.refl:Ext μ H μ H:={.refl,rfl,λ_ _=>rfl}
def Ext.trans (a:Ext μ H μ1 H1)(b:Ext μ1 H1 μ2 H2):Ext μ H μ2 H2:=
 {a.toExtW.trans b.toExtW,b.pr.trans a.pr,λx hx=>(b.pk x (by rw[a.pr];exact hx)).trans (a.pk x hx)}
section
variable{fa:Fa}{K:Qp}{μ μ':Mu}{H H':Hp}
def ExtW.sqT (x:ExtW μ H μ' H')(h:dQ K H a vs):dQ K H' a vs:=h.elim (λz=>.inl (x.tups a vs z)) .inr
mutual
def Rep.extW (x:ExtW μ H μ' H'):∀{d:D}{v:V},Rep fa K μ H d v->Rep fa K μ' H' d v
 |.non,v,h=>h
 |.bl b,v,h=>h
 |.int i,v,h=>h
 |.str y,v,h=>h
 | .tup ds, v, h => by
   obtain⟨a,vs,e,s,r⟩:=h;exact{a,vs,e,x.sqT s,aK.extW x r}
 | .lst ds, v, h => by
   obtain⟨a,vs,e,s,r⟩:=h;exact{a,vs,e,x.lsts a vs s.1 s.2,aK.extW x r}
 | .frz ds, v, h => by
   obtain⟨a,vs,e,s,r⟩:=h;exact{a,vs,e,s.elim (λ⟨ob,z⟩=>.inl {ob,x.frzs a ob _ z}) .inr,aK.extW x r}
 | .cell k, v, h => by
   obtain⟨a,e,m⟩:=h;exact{a,e,x.mu k a m}
 | .fn f, v, h => by
   obtain⟨a,e,m⟩:=h;exact{a,e,m.imp id λz=>{z.1,x.obs _ _ z.2}}
 | .exc c p, v, h => by
   obtain⟨a,C,dx,e,f,g,n⟩:=h;refine{a,C,dx,e,f,x.exts _ _ (.inl {_,rfl}) g,?_};cases p with
   |none=>exact n
   |some i=>exact let⟨d,h1,h2⟩:=n;{d,h1,x.exts _ _ (.inr {_,rfl}) h2}
def aK.extW (x:ExtW μ H μ' H'):∀{ds:List D}{vs:List V},aK fa K μ H ds vs->aK fa K μ' H' ds vs
 |[],vs,h=>h
 | d :: ds, vs, h => by
   obtain⟨v,r,e,p,q⟩:=h;exact{v,r,e,Rep.extW x p,aK.extW x q}
end
def Rep.ext (x:Ext μ H μ' H')(h:Rep fa K μ H d v):Rep fa K μ' H' d v:=Rep.extW x.toExtW h
def aK.ext (x:Ext μ H μ' H')(h:aK fa K μ H d v):aK fa K μ' H' d v:=aK.extW x.toExtW h
def aK.length:∀{ds:List D}{vs:List V},aK fa K μ H ds vs->vs.length=ds.length
 | [], vs, h => by
   subst h;rfl
 | d :: ds, vs, h => by
   obtain⟨v,r,e,p,q⟩:=h;subst e;simp[aK.length q]
def aK.get:∀{ds:List D}{vs:List V}{i:Nat}{d:D},aK fa K μ H ds vs->ds[i]?=some d->∃v,vs[i]?=some v/\Rep fa K μ H d v
 |[],_,_,_,_,e=>by simp at e
 | d :: ds, vs, 0, d', h, e => by
   obtain⟨v,r,rfl,p,q⟩:=h;simp at e;subst e;exact⟨v,rfl,p⟩
 | d :: ds, vs, i + 1, d', h, e => by
   obtain⟨v,r,rfl,p,q⟩:=h;obtain⟨u,h1,h2⟩:=aK.get q (by simpa using e)
   exact{u,by simpa using h1,h2}
def aK.getV:∀{ds:List D}{vs:List V}{i:Nat}{v:V},aK fa K μ H ds vs->vs[i]?=some v->∃d,ds[i]?=some d/\Rep fa K μ H d v:=by
 intro ds vs i v h e;have hl:=h.length;have hi:i<vs.length:=(Qo.mp e).1;obtain⟨d,hd⟩:∃d,ds[i]?=some d:={ds[i]'(`a),`s}
 obtain⟨u,h1,h2⟩:=h.get hd;rw[e] at h1;cases h1;exact⟨d,hd,h2⟩
def aK.append:∀{ds es:List D}{vs ws:List V},aK fa K μ H ds vs->aK fa K μ H es ws->aK fa K μ H (ds++es) (vs++ws)
 | [], _, vs, _, h, g => by
   subst h;exact g
 | d :: ds, es, vs, ws, h, g => by
   obtain⟨v,r,rfl,p,q⟩:=h;exact{v,r++ws,rfl,p,aK.append q g}
def aK.one (h:Rep fa K μ H d v):aK fa K μ H [d] [v]:={v,[],rfl,h,rfl}
def aK.drop:∀(n:Nat) {ds:List D}{vs:List V},aK fa K μ H ds vs->aK fa K μ H (ds.drop n) (vs.drop n)
 |0,_,_,h=>h
 | n + 1, [], vs, h => by
   subst h;exact rfl
 | n + 1, d :: ds, vs, h => by
   obtain⟨v,r,rfl,p,q⟩:=h;exact aK.drop n q
def aK.take:∀(n:Nat) {ds:List D}{vs:List V},aK fa K μ H ds vs->aK fa K μ H (ds.take n) (vs.take n)
 |0,_,_,h=>rfl
 | n + 1, [], vs, h => by
   subst h;exact rfl
 | n + 1, d :: ds, vs, h => by
   obtain⟨v,r,rfl,p,q⟩:=h;exact{v,r.take n,rfl,p,aK.take n q}
def aK.set:∀(n:Nat) {ds:List D}{vs:List V}{d:D}{v:V},aK fa K μ H ds vs->Rep fa K μ H d v->aK fa K μ H (ds.set n d) (vs.set n v)
 | _, [], vs, _, _, h, _ => by
   subst h;exact rfl
 | 0, d :: ds, vs, _, v', h, g => by
   obtain⟨v,r,rfl,p,q⟩:=h;exact⟨v',r,rfl,g,q⟩
 | n + 1, d :: ds, vs, _, v', h, g => by
   obtain⟨v,r,rfl,p,q⟩:=h;exact{v,r.set n v',rfl,p,aK.set n q g}
def aK.rep:∀(n:Nat) {ds:List D}{vs:List V},aK fa K μ H ds vs->aK fa K μ H (List.replicate n ds).flatten (List.replicate n vs).flatten
 |0,_,_,_=>rfl
 | n + 1, ds, vs, h => by
   rw[Sq,Sq,SJ,SJ];exact h.append (aK.rep n h)
def aK.ints:∀(ns:List Int),aK fa K μ H (ns.map D.int) (ns.map V.int)
 |[]=>rfl
 |n::ns=>{.int n,ns.map V.int,rfl,rfl,aK.ints ns}
end
noncomputable def lR:Nat->List Str
 |40=>["machine","standing","earlier"]
 |_=>[]
noncomputable def aC (k:Nat):Nat:=5000+k
noncomputable def Ff (ks:List Int):Int:=reduceHash (Builtin.Tuple.tupleHashOf (ks.map hashInt))
noncomputable def MT (kss:List (List Int)):Int:=reduceHash (Builtin.Tuple.tupleHashOf (kss.map Ff))
noncomputable def nR (c:Int)(d:D):Option Int:=if c=77 then(mM d).map Ff else if c=78 then(qO d).map MT else none
noncomputable def nA (fa:Fa)(K:Qp)(μ:Mu)(H:Hp)(c:Int)(p:D×D)(e:RO):Prop:=∃b v,e.key=.ref b/\nR c p.1=some e.hash/\Rep fa K μ H p.1 (.ref b)/\RelV v e.val/\Rep fa K μ H p.2 v
noncomputable def jI (fa:Fa)(K:Qp)(μ:Mu)(H:Hp)(a:Addr)(ds:List D):Prop:=
 (∃(c:Nat) (C dx:Addr) (fs:List (Str×V)) (es:List D),fa (jO c)=some C/\H a=some (.ins C dx fs)/\fs.map (·.1)=(lR c).take fs.length/\ds=.int c::es/\aK fa K μ H es (fs.map (·.2)))\/
 ∃(c:Int) (es:List RO) (kvs:List (D×D)),H a=some (.dn es)/\(c=77\/c=78)/\ds=.int c::kvs.map (λp=>.tup [p.1,p.2])/\Sf (nA fa K μ H c) kvs es/\(kvs.map (·.1)).Nodup
def jI.extW {fa:Fa}{K:Qp}{μ μ':Mu}{H H':Hp}{a:Addr}{ds:List D}(h:jI fa K μ H a ds)(x:ExtW μ H μ' H')(e:H' a=H a):jI fa K μ' H' a ds:=
 h.imp (λ⟨c,C,dx,fs,es,h1,h2,h3,h4,h5⟩=>{c,C,dx,fs,es,h1,e.trans h2,h3,h4,h5.extW x})
  λ⟨c,es,kvs,h1,h2,h3,h4,h5⟩=>{c,es,kvs,e.trans h1,h2,h3,Sf.mapP h4 λp q ⟨b,v,e1,e2,e3,e4,e5⟩=>{b,v,e1,e2,e3.extW x,e4,e5.extW x},h5}
def jI.hold {fa:Fa}{K:Qp}{μ:Mu}{H:Hp}{a:Addr}{ds:List D}(h:jI fa K μ H a ds):∃o,H a=some o/\(∀vs,o≠.lst vs):=by
 rcases h with⟨_,_,_,_,_,_,h,_⟩|⟨_,_,_,h,_⟩
 ·exact{_,h,λ_ z=>by cases z}
 ·exact{_,h,λ_ z=>by cases z}
def jI.new {fa:Fa}{K:Qp}{μ:Mu}{H:Hp}{a p:Addr}{ds:List D}(h:jI fa K μ H a ds)(hp:H p=none):a≠p:=let{_,e,_}:=h.hold;aX e hp
def jI.nl {fa:Fa}{K:Qp}{μ:Mu}{H:Hp}{a p:Addr}{ds:List D}{vs:List V}(h:jI fa K μ H a ds)(hp:H p=some (.lst vs)):a≠p:=λz=>by
 obtain⟨o,e,n⟩:=h.hold;rw[z,hp] at e;cases e;exact n _ rfl
noncomputable def N2 (fa:Fa)(K:Qp)(μ:Mu)(H:Hp)(k:Nat)(ds:List D):Prop:=
 (∃a vs,μ.pub k=some a/\H a=some (.lst vs)/\aK fa K μ H ds vs)\/∃a,μ.ob (aC k)=some a/\μ.pub k=none/\jI fa K μ H a ds
structure RelM (fa:Fa) (K:Qp) (μ:Mu) (H:Hp) (M:Mem):Prop where
 at':∀(k:Nat) (ds:List D),M[k]?=some ds->N2 fa K μ H k ds
 out:∀(k:Nat),M.length<=k->μ.pub k=none
 oout:∀(k:Nat),M.length<=k->μ.ob (aC k)=none
 inj:∀j k a,μ.pub j=some a->μ.pub k=some a->j=k
 oinj:∀j k a,μ.ob (aC j)=some a->μ.ob (aC k)=some a->j=k
 sep:∀k a,μ.pub k=some a->μ.ob (aC k)=none
 pv:∀a∈μ.priv,(∃vs,H a=some (.lst vs))/\∀k,μ.pub k≠some a
structure bu (fa:Fa) (K:Qp) (μ:Mu) (H:Hp) (σ:L2.St) (Z:Env):Prop where
 len:σ.length=Z.length
 at':∀(i:Nat) (d:D),Z[i]?=some (some d)->∃v,σ[i]?=some (some v)/\Rep fa K μ H d v
section
variable{fa:Fa}{K:Qp}{μ μ':Mu}{H H':Hp}{σ:L2.St}{Z:Env}{M:Mem}
def bu.ext (h:bu fa K μ H σ Z)(x:Ext μ H μ' H'):bu fa K μ' H' σ Z:=
 {h.len,λi d e=>let⟨v,h1,h2⟩:=h.at' i d e;{v,h1,h2.ext x}}
def bu.set (h:bu fa K μ H σ Z){i:Nat}{d:D}{v:V}(r:Rep fa K μ H d v):bu fa K μ H (σ.set i (some v)) (Z.set i (some d)):=by
 refine{by simp[h.len],λj d' e=>?_}
 by_cases hj:j=i
 ·subst hj;have hl:j<Z.length:=by
   have:=(Qo.mp e).1;simpa using this
  rw[Q5 hl] at e;cases e;exact{v,Q5 (by rw[h.len];exact hl),r}
 ·rw[Qx (RC hj)] at e;obtain⟨u,h1,h2⟩:=h.at' j d' e;exact{u,by rw[Qx (RC hj)];exact h1,h2}
def bu.extW (h:bu fa K μ H σ Z)(x:ExtW μ H μ' H'):bu fa K μ' H' σ Z:=
 {h.len,λi d e=>let⟨v,h1,h2⟩:=h.at' i d e;{v,h1,h2.extW x}}
def RelM.mu_lt (h:RelM fa K μ H M)(e:μ.pub k=some a):∃ds vs,M[k]?=some ds/\H a=some (.lst vs)/\aK fa K μ H ds vs:=by
 by_cases hk:k<M.length
 ·rcases h.at' k M[k] (by simp[hk]) with⟨a',vs,h1,h2,h3⟩|⟨_,_,z,_⟩
  ·rw[e] at h1;cases h1;exact{_,vs,by simp[hk],h2,h3}
  ·rw[e] at z;cases z
 ·rw[h.out k `a] at e;cases e
def RelM.at_ (h:RelM fa K μ H M)(e:M[k]?=some ds)(p:μ.pub k=some a):∃vs,H a=some (.lst vs)/\aK fa K μ H ds vs:=by
 obtain⟨ds',vs,h1,h2,h3⟩:=h.mu_lt p;rw[e] at h1;cases h1;exact⟨vs,h2,h3⟩
def RelM.fresh (h:RelM fa K μ H M)(hp:H p=none):¬ μ.Mt p:=λe=>by
 rcases e with⟨k,e⟩|e
 ·obtain⟨ds,vs,_,h2,_⟩:=h.mu_lt e;rw[hp] at h2;cases h2
 ·obtain⟨⟨vs,h2⟩,_⟩:=h.pv p e;rw[hp] at h2;cases h2
def RelM.pne (h:RelM fa K μ H M)(hp:H p=none)(ha:a∈μ.priv):a≠p:=λe=>by
 obtain⟨⟨vs,h2⟩,_⟩:=h.pv a ha;rw[e,hp] at h2;cases h2
def Ext.alloc (h:RelM fa K μ H M)(hp:H p=none):Ext μ H μ (upd H p o):=by
 have rd:∀a u,Rd H a u->Rd (upd H p o) a u:=λa u h=>by
  rcases h with h|⟨ob,h⟩
  ·exact .inl (by rw[aG (aX h hp)];exact h)
  ·exact .inr {ob,by rw[aG (aX h hp)];exact h}
 exact{{λ_ _ h=>h,λa vs h=>rd a _ h,λa vs h n=>{by rw[aG (aX h hp)];exact h,n},λa ob u h=>by rw[aG (aX h hp)];exact h,λa o _ h=>by rw[aG (aX h hp)];exact h,λ_ _ h=>h},rfl,λa ha=>by rw[aG (h.pne hp ha)]}
def RelM.alloc (h:RelM fa K μ H M)(hp:H p=none):RelM fa K μ (upd H p o) M:=
 {λk ds e=>(h.at' k ds e).imp (λ⟨a,vs,h1,h2,h3⟩=>{a,vs,h1,by rw[aG (aX h2 hp)];exact h2,h3.ext (Ext.alloc h hp)}) λ⟨a,h1,h2,h3⟩=>{a,h1,h2,h3.extW (Ext.alloc h hp).toExtW (aG (h3.new hp))},h.out,h.oout,h.inj,h.oinj,h.sep,λa ha=>{let{⟨vs,e⟩,_}:=h.pv a ha;{vs,by rw[aG (h.pne hp ha)];exact e},(h.pv a ha).2}}
noncomputable def fN (μ:Mu)(n:Nat)(p:Addr):Mu:={λk=>if k=n then some p else μ.pub k,μ.priv,μ.ob}
def Ext.cell (h:RelM fa K μ H M)(hp:H p=none):Ext μ H (fN μ M.length p) (upd H p o):=by
 have rd:∀a u,Rd H a u->Rd (upd H p o) a u:=λa u h=>by
  rcases h with h|⟨ob,h⟩
  ·exact .inl (by rw[aG (aX h hp)];exact h)
  ·exact .inr {ob,by rw[aG (aX h hp)];exact h}
 refine{{λk a e=>?_,λa vs g=>rd a _ g,λa vs g n=>{by rw[aG (aX g hp)];exact g,λe=>?_},λa ob u h=>by rw[aG (aX h hp)];exact h,λa o _ h=>by rw[aG (aX h hp)];exact h,λ_ _ h=>h},rfl,λa ha=>by rw[aG (h.pne hp ha)]}
 ·show(if k=M.length then some p else μ.pub k)=some a;split
  ·next q=>rw[q,h.out _ (Qw _)] at e;cases e
  ·exact e
 ·rcases e with⟨k,e⟩|e
  ·have e:(if k=M.length then some p else μ.pub k)=some a:=e;split at e
   ·cases e;exact aX g hp rfl
   ·exact n (.inl ⟨k,e⟩)
  ·exact n (.inr e)
def RelM.cell (h:RelM fa K μ H M){p:Addr}{ds:List D}{vs:List V}(hp:H p=none)(r:aK fa K μ H ds vs) :
 RelM fa K (fN μ M.length p) (upd H p (.lst vs)) (M++[ds]):=by
 have x:Ext μ H (fN μ M.length p) (upd H p (.lst vs)):=Ext.cell h hp;have np:=h.fresh hp;refine{λk ds' e=>?_,λk hk=>?_,λk hk=>h.oout k (by simp at hk;omega),λj k a h1 h2=>?_,h.oinj,λk a z=>?_,λa ha=>?_}
 ·by_cases hk:k<M.length
  ·rw[Qv hk] at e;rcases h.at' k ds' e with⟨a,ws,h1,h2,h3⟩|⟨a,h1,h2,h3⟩
   ·exact .inl {a,ws,x.mu k a h1,by rw[aG (aX h2 hp)];exact h2,h3.ext x}
   ·exact .inr {a,h1,by show(if k=M.length then some p else μ.pub k)=none;rw[if_neg (QY hk)];exact h2,h3.extW x.toExtW (aG (h3.new hp))}
  ·have hk':k=M.length:=by
    have:=(Qo.mp e).1;simp at this;omega
   subst hk';rw[Ro (Qw _)] at e;simp at e;subst e;exact .inl {p,vs,by simp[fN],cD,r.ext x}
 ·simp at hk;show(if k=M.length then some p else μ.pub k)=none;rw[if_neg `a]
  exact h.out k `a
 ·have h1:(if j=M.length then some p else μ.pub j)=some a:=h1;have h2:(if k=M.length then some p else μ.pub k)=some a:=h2;split at h1<;>split at h2
  ·omega
  ·cases h1;exact absurd (.inl ⟨k,h2⟩) np
  ·cases h2;exact absurd (.inl ⟨j,h1⟩) np
  ·exact h.inj j k a h1 h2
 ·have z:(if k=M.length then some p else μ.pub k)=some a:=z;show μ.ob (aC k)=none;split at z
  ·next e=>rw[e];exact h.oout _ (Qw _)
  ·exact h.sep k a z
 ·obtain⟨⟨ws,e⟩,n⟩:=h.pv a ha;refine{{ws,by rw[aG (h.pne hp ha)];exact e},λk e2=>?_}
  have e2:(if k=M.length then some p else μ.pub k)=some a:=e2;split at e2
  ·cases e2;exact h.pne hp ha rfl
  ·exact n k e2
def ExtW.write (h2:H a=some (.lst vs))(e:μ.Mt a):ExtW μ H μ (upd H a (.lst ws)):=by
 have ne:∀b u,Rd H b u->(∀xs,u≠.lst xs)->b≠a:=λb u g nu q=>by
  subst q;rcases g with g|⟨ob,g⟩
  ·rw[h2] at g;cases g;exact nu _ rfl
  ·rw[h2] at g;cases g
 have rd:∀b u,b≠a->Rd H b u->Rd (upd H a (.lst ws)) b u:=λb u nb g=>by
  rcases g with g|⟨ob,g⟩
  ·exact .inl (by rw[aG nb];exact g)
  ·exact .inr {ob,by rw[aG nb];exact g}
 exact{λ_ _ q=>q,λb us g=>rd b _ (ne b _ g (λxs q=>by cases q)) g,λb us g n=>{by rw[aG (λq=>n (by rw[q];exact e))];exact g,n},λb ob u g=>by rw[aG (λq=>by rw[q,h2] at g;cases g)];exact g,λb o i g=>by rw[aG (λq=>by rw[q,h2] at g;cases g;rcases i with⟨_,i⟩|⟨_,i⟩<;>cases i)];exact g,λ_ _ q=>q}
def Ext.write {k:Nat}{a:Addr}{vs ws:List V}(h:RelM fa K μ H M)(e:μ.pub k=some a):Ext μ H μ (upd H a (.lst ws)):=by
 obtain⟨ds,vs,_,h2,_⟩:=h.mu_lt e;exact{ExtW.write h2 (.inl ⟨k,e⟩),rfl,λb hb=>by rw[aG (λq=>(h.pv b hb).2 k (by rw[q];exact e))]}
def RelM.write (h:RelM fa K μ H M){k:Nat}{a:Addr}{ds:List D}{ws:List V}(e:μ.pub k=some a)(r:aK fa K μ H ds ws):RelM fa K μ (upd H a (.lst ws)) (M.set k ds):=by
 have x:Ext μ H μ (upd H a (.lst ws)):=Ext.write (vs:=ws) h e;refine{λj es q=>?_,λj hj=>h.out j (by simpa using hj),λj hj=>h.oout j (by simpa using hj),h.inj,h.oinj,h.sep,λb hb=>{let{⟨vs,g⟩,_}:=h.pv b hb;{vs,by rw[x.pk b hb];exact g},(h.pv b hb).2}}
 by_cases hj:j=k
 ·subst hj;have hl:j<M.length:=by have:=(Qo.mp q).1;simpa using this
  rw[Q5 hl] at q;cases q;exact .inl {a,ws,e,cD,r.ext x}
 ·rw[Qx (RC hj)] at q;rcases h.at' j es q with⟨b,vs,h1,h2,h3⟩|⟨b,h1,h2,h3⟩
  ·have nb:b≠a:=λz=>hj (h.inj j k a (z ▸ h1) e);exact .inl {b,vs,h1,by rw[aG nb];exact h2,h3.ext x}
  ·obtain⟨_,_,_,hl,_⟩:=h.mu_lt e;exact .inr {b,h1,h2,h3.extW x.toExtW (aG (h3.nl hl))}
end
noncomputable def ae {α:Type}(r:Res α)(k:α->Mem->Prop):Prop:=match r with
 |.ok a M=>k a M
 |_=>False
def aE {α β:Type}{r:Res α}{f:α->Mem->Res β}{k:β->Mem->Prop}(h:ae (r.bind f) k):∃a M,r=.ok a M/\ae (f a M) k:=by
 cases r with
 |ok a M=>exact⟨a,M,rfl,h⟩
 |err=>exact h.elim
 |bad=>exact h.elim
def kJ {α:Type}{M:Mem}{o:Option α}{k:α->Mem->Prop}(h:ae (cm M o) k):∃a,o=some a/\k a M:=by
 cases o with
 |none=>exact h.elim
 |some a=>exact⟨a,rfl,h⟩
def aH {α:Type}{r:Res α}{k k':α->Mem->Prop}(h:ae r k)(m:∀a M,k a M->k' a M):ae r k':=by
 cases r with
 |ok a M=>exact m a M h
 |err=>exact h
 |bad=>exact h
section
variable(fa:Fa)(K:Qp)
noncomputable def aW (μ:Mu)(H:Hp)(Q:VK)(d:D)(M':Mem):Prop:=∀v H' μ',Ext μ H μ' H'->RelM fa K μ' H' M'->Rep fa K μ' H' d v->Q v H'
noncomputable def tE (g:Env->Mem->Res D):TE:=λσ H Q=>∃μ Z M,bu fa K μ H σ Z/\RelM fa K μ H M/\ae (g Z M) (aW fa K μ H Q)
noncomputable def tT (g:Env->Mem->Res Bool):TT:=λσ H Q=>∃μ Z M,bu fa K μ H σ Z/\RelM fa K μ H M/\ae (g Z M) λb M'=>∀H' μ',Ext μ H μ' H'->RelM fa K μ' H' M'->Q b H'
noncomputable def tA (g:Env->Mem->Res (List D)):TA:=λσ H Q=>∃μ Z M,bu fa K μ H σ Z/\RelM fa K μ H M/\ae (g Z M) λds M'=>∀vs H' μ',Ext μ H μ' H'->RelM fa K μ' H' M'->aK fa K μ' H' ds vs->Q vs H'
end
noncomputable def ny (New:Addr->Prop)(C:Addr)(dx:Option Addr)(a:Addr)(h:Heap)(H:Hp):Prop:=New a/\H a=none/\∃o vs,h.get? a=some o/\o.cls=.ref C/\o.dict=dx/\o.data=.fields vs/\
 (vs[1]?=some .none\/∃T oT ts,vs[1]?=some (.ref T)/\T≠a/\New T/\H T=none/\h.get? T=some oT/\oT.data=.fields ts/\ts[3]?=some .none)
noncomputable def yC (X:Cx)(b:Addr):Prop:=X.s₀.heap.get? b=none/\∀p∈X.pn,p.1≠b
noncomputable def XW (fa:Fa)(X:Cx)(μ:Mu)(H:Hp)(x:D)(Z:Env)(M:Mem):Prop:=∀pins σ' H' μ' s' a C dx c p,Inv X pins σ' H' s'->Ext μ H μ' H'->bu fa X.K μ' H' σ' Z->RelM fa X.K μ' H' M->x=.exc c p->fa (gj c)=some C->vt H' c dx p->ny (yC X) C dx a s'.heap H'->X.xe (.ref a) s'
noncomputable def nz (fa:Fa)(X:Cx)(μ:Mu)(H:Hp)(D:Ends):Fl->Mem->Prop
 |.next ρ',M'=>∀σ' H' μ',Ext μ H μ' H'->bu fa X.K μ' H' σ' ρ'->RelM fa X.K μ' H' M'->D.nx σ' H'
 |.ret d,M'=>aW fa X.K μ H D.rt d M'
 |.exc x ρ',M'=>XW fa X μ H x ρ' M'
noncomputable def tF (fa:Fa)(X:Cx)(g:Env->Mem->Res Fl):TS:=λD σ H=>∃μ Z M,bu fa X.K μ H σ Z/\RelM fa X.K μ H M/\ae (g Z M) (nz fa X μ H D)
def XW.ext (h:XW fa X μ H x Z M)(y:Ext μ H μ' H'):XW fa X μ' H' x Z M:=λpins σ1 H1 μ1 s1 a C dx c p I e=>h pins σ1 H1 μ1 s1 a C dx c p I (y.trans e)
section
variable{fa:Fa}{K:Qp}{μ μ':Mu}{H H':Hp}{Q:VK}
def aW.ext (h:aW fa K μ H Q d M)(x:Ext μ H μ' H'):aW fa K μ' H' Q d M:=λv H'' μ'' y m r=>h v H'' μ'' (x.trans y) m r
def kI {r:Res D}(h:ae r (aW fa K μ H Q))(x:Ext μ H μ' H'):ae r (aW fa K μ' H' Q):=aH h λ_ _ w=>w.ext x
end
def bB (h:PE X e t)(i:∀σ H Q,t' σ H Q->t σ H Q):PE X e t':=λpins s σ H Q I q=>h pins s σ H Q I (i σ H Q q)
def kF (h:PT X e t)(i:∀σ H Q,t' σ H Q->t σ H Q):PT X e t':=λpins s σ H Q I q=>h pins s σ H Q I (i σ H Q q)
def Ae (h:PW X e t)(i:∀σ H Q,t' σ H Q->t σ H Q):PW X e t':=λw pins s σ H Q I q=>h w pins s σ H Q I (i σ H Q q)
def Ao (h:PA X e t)(i:∀σ H Q,t' σ H Q->t σ H Q):PA X e t':=λpos pins s σ H Q I q=>h pos pins s σ H Q I (i σ H Q q)
def dR (h:PS X e t)(i:∀D σ H,t' D σ H->t D σ H):PS X e t':=λpins s σ H D I q=>h pins s σ H D I (i D σ H q)
def vW (h:k9 X e t)(i:∀D σ H,t' D σ H->t D σ H):k9 X e t':=λpins s σ H D I q=>h pins s σ H D I (i D σ H q)
section
variable{fa:Fa}{K:Qp}{μ:Mu}{H:Hp}{σ:L2.St}{Z:Env}{M:Mem}
def t1 {g:Env->Mem->Res D}{β:Type}{f:D->Mem->Res β}{P:β->Mem->Prop}{R:V->Hp->Prop}(hE:bu fa K μ H σ Z)(hM:RelM fa K μ H M)(h:ae ((g Z M).bind f) P)
 (k:∀x M1 v H1 μ1,Ext μ H μ1 H1->bu fa K μ1 H1 σ Z->RelM fa K μ1 H1 M1->Rep fa K μ1 H1 x v->ae (f x M1) P->R v H1):tE fa K g σ H R:=by
 obtain⟨x,M1,e,q⟩:=aE h;refine{μ,Z,M,hE,hM,?_};rw[e];exact λv H1 μ1 x1 m1 r1=>k x M1 v H1 μ1 x1 (hE.ext x1) m1 r1 q
def zx {g:Env->Mem->Res Bool}{β:Type}{f:Bool->Mem->Res β}{P:β->Mem->Prop}{R:Bool->Hp->Prop}(hE:bu fa K μ H σ Z)(hM:RelM fa K μ H M)(h:ae ((g Z M).bind f) P)
 (k:∀b M1 H1 μ1,Ext μ H μ1 H1->bu fa K μ1 H1 σ Z->RelM fa K μ1 H1 M1->ae (f b M1) P->R b H1):tT fa K g σ H R:=by
 obtain⟨b,M1,e,q⟩:=aE h;refine{μ,Z,M,hE,hM,?_};rw[e];exact λH1 μ1 x1 m1=>k b M1 H1 μ1 x1 (hE.ext x1) m1 q
def tJ {g:Env->Mem->Res (List D)}{β:Type}{f:List D->Mem->Res β}{P:β->Mem->Prop}{R:List V->Hp->Prop}(hE:bu fa K μ H σ Z)(hM:RelM fa K μ H M)(h:ae ((g Z M).bind f) P)
 (k:∀ds M1 vs H1 μ1,Ext μ H μ1 H1->bu fa K μ1 H1 σ Z->RelM fa K μ1 H1 M1->aK fa K μ1 H1 ds vs->ae (f ds M1) P->R vs H1):tA fa K g σ H R:=by
 obtain⟨ds,M1,e,q⟩:=aE h;refine{μ,Z,M,hE,hM,?_};rw[e];exact λv H1 μ1 x1 m1 r1=>k ds M1 v H1 μ1 x1 (hE.ext x1) m1 r1 q
end
mutual
def toPy:D->PyData
 |.non=>.none
 |.bl b=>.bool b
 |.int i=>.int i
 |.str x=>.str x
 |.tup ds=>.tuple (cH ds)
 |.lst ds=>.list (cH ds)
 |.frz _=>.none
 |.cell _=>.none
 |.fn _=>.none
 |.exc _ _=>.none
def cH:List D->List PyData
 |[]=>[]
 |d::r=>toPy d::cH r
end
def qu:∀(n:Nat) (d:D),az n d=true->(toPy d).canLay0=true/\(toPy d).depth<=n:=by
 have all:∀(n:Nat),(∀d,az n d=true->(toPy d).canLay0=true/\(toPy d).depth<=n)->∀ds:List D,ds.all (az n)=true->PyData.canLayAll0 (cH ds)=true/\PyData.depthAll (cH ds)<=n:=by
  intro n h ds;induction ds with
  |nil=>intro _;simp[cH,PyData.canLayAll0,PyData.depthAll]
  | cons d r ih =>
    intro q;simp only[RN,Qy] at q;obtain⟨h1,h2⟩:=h d q.1;obtain⟨h3,h4⟩:=ih q.2;simp only[cH,PyData.canLayAll0,PyData.depthAll,h1,h3,Bool.and_self,true_and];omega
 intro n;induction n with
 | zero =>
   intro d h;cases d with
   |str x=>exact{by simpa[toPy,PyData.canLay0,PyData.strOk,az] using h,by simp[toPy,PyData.depth]}
   |tup _=>simp[az] at h
   |lst _=>simp[az] at h
   |frz _=>simp[az] at h
   |cell _=>simp[az] at h
   |fn _=>simp[az] at h
   |exc y p=>simp[az] at h
   |_=>exact{by simp[toPy,PyData.canLay0],by simp[toPy,PyData.depth]}
 | succ n ih =>
   intro d h;cases d with
   |str x=>exact{by simpa[toPy,PyData.canLay0,PyData.strOk,az] using h,by simp[toPy,PyData.depth]}
   | tup ds =>
     obtain⟨h1,h2⟩:=all n ih ds (by simpa[az] using h)
     simp only[toPy,PyData.canLay0,PyData.depth,h1,true_and];omega
   | lst ds =>
     obtain⟨h1,h2⟩:=all n ih ds (by simpa[az] using h)
     simp only[toPy,PyData.canLay0,PyData.depth,h1,true_and];omega
   |frz _=>simp[az] at h
   |cell _=>simp[az] at h
   |fn _=>simp[az] at h
   |exc y p=>simp[az] at h
   |_=>exact{by simp[toPy,PyData.canLay0],by simp[toPy,PyData.depth]}
def jM (h:az 64 d=true):SeqAt.shaped (toPy d)=true:=by
 obtain⟨h1,h2⟩:=qu 64 d h;simp[SeqAt.shaped,h1,h2]
mutual
def nW:∀(n m:Nat) (a b:D),az n a=true->az m b=true->PyData.eqv (toPy a) (toPy b)=bO a b
 | n, m, .tup a, .tup b, ha, hb => by
   cases n with
   |zero=>simp[az] at ha
   | succ n =>
     cases m with
     |zero=>simp[az] at hb
     | succ m =>
       exact pf n m a b (by simpa[az] using ha) (by simpa[az] using hb)
 | n, m, .lst a, .lst b, ha, hb => by
   cases n with
   |zero=>simp[az] at ha
   | succ n =>
     cases m with
     |zero=>simp[az] at hb
     | succ m =>
       exact pf n m a b (by simpa[az] using ha) (by simpa[az] using hb)
 |n,m,.frz _,_,ha,hb=>by cases n<;>simp[az] at ha
 |n,m,.cell _,_,ha,hb=>by cases n<;>simp[az] at ha
 |n,m,.fn _,_,ha,hb=>by cases n<;>simp[az] at ha
 |n,m,.exc _ _,_,ha,hb=>by cases n<;>simp[az] at ha
 |n,m,_,.frz _,ha,hb=>by cases m<;>simp[az] at hb
 |n,m,_,.cell _,ha,hb=>by cases m<;>simp[az] at hb
 |n,m,_,.fn _,ha,hb=>by cases m<;>simp[az] at hb
 |n,m,_,.exc _ _,ha,hb=>by cases m<;>simp[az] at hb
 |_,_,.non,.non,_,_=>by first|rfl|simp[toPy,PyData.eqv];rfl
 |_,_,.non,.bl _,_,_=>by first|rfl|simp[toPy,PyData.eqv];rfl
 |_,_,.non,.int _,_,_=>by first|rfl|simp[toPy,PyData.eqv];rfl
 |_,_,.non,.str _,_,_=>by first|rfl|simp[toPy,PyData.eqv];rfl
 |_,_,.non,.tup _,_,_=>by first|rfl|simp[toPy,PyData.eqv];rfl
 |_,_,.non,.lst _,_,_=>by first|rfl|simp[toPy,PyData.eqv];rfl
 |_,_,.bl _,.non,_,_=>by first|rfl|simp[toPy,PyData.eqv];rfl
 |_,_,.bl _,.bl _,_,_=>by first|rfl|simp[toPy,PyData.eqv];rfl
 |_,_,.bl _,.int _,_,_=>by first|rfl|simp[toPy,PyData.eqv];rfl
 |_,_,.bl _,.str _,_,_=>by first|rfl|simp[toPy,PyData.eqv];rfl
 |_,_,.bl _,.tup _,_,_=>by first|rfl|simp[toPy,PyData.eqv];rfl
 |_,_,.bl _,.lst _,_,_=>by first|rfl|simp[toPy,PyData.eqv];rfl
 |_,_,.int _,.non,_,_=>by first|rfl|simp[toPy,PyData.eqv];rfl
 |_,_,.int _,.bl _,_,_=>by first|rfl|simp[toPy,PyData.eqv];rfl
 |_,_,.int _,.int _,_,_=>by first|rfl|simp[toPy,PyData.eqv];rfl
 |_,_,.int _,.str _,_,_=>by first|rfl|simp[toPy,PyData.eqv];rfl
 |_,_,.int _,.tup _,_,_=>by first|rfl|simp[toPy,PyData.eqv];rfl
 |_,_,.int _,.lst _,_,_=>by first|rfl|simp[toPy,PyData.eqv];rfl
 |_,_,.str _,.non,_,_=>by first|rfl|simp[toPy,PyData.eqv];rfl
 |_,_,.str _,.bl _,_,_=>by first|rfl|simp[toPy,PyData.eqv];rfl
 |_,_,.str _,.int _,_,_=>by first|rfl|simp[toPy,PyData.eqv];rfl
 |_,_,.str _,.str _,_,_=>by first|rfl|simp[toPy,PyData.eqv];rfl
 |_,_,.str _,.tup _,_,_=>by first|rfl|simp[toPy,PyData.eqv];rfl
 |_,_,.str _,.lst _,_,_=>by first|rfl|simp[toPy,PyData.eqv];rfl
 |_,_,.tup _,.non,_,_=>by first|rfl|simp[toPy,PyData.eqv];rfl
 |_,_,.tup _,.bl _,_,_=>by first|rfl|simp[toPy,PyData.eqv];rfl
 |_,_,.tup _,.int _,_,_=>by first|rfl|simp[toPy,PyData.eqv];rfl
 |_,_,.tup _,.str _,_,_=>by first|rfl|simp[toPy,PyData.eqv];rfl
 |_,_,.tup _,.lst _,_,_=>by first|rfl|simp[toPy,PyData.eqv];rfl
 |_,_,.lst _,.non,_,_=>by first|rfl|simp[toPy,PyData.eqv];rfl
 |_,_,.lst _,.bl _,_,_=>by first|rfl|simp[toPy,PyData.eqv];rfl
 |_,_,.lst _,.int _,_,_=>by first|rfl|simp[toPy,PyData.eqv];rfl
 |_,_,.lst _,.str _,_,_=>by first|rfl|simp[toPy,PyData.eqv];rfl
 |_,_,.lst _,.tup _,_,_=>by first|rfl|simp[toPy,PyData.eqv];rfl
def pf:∀(n m:Nat) (a b:List D),a.all (az n)=true->b.all (az m)=true->PyData.eqvAll (cH a) (cH b)=d4 a b
 |n,m,[],[],_,_=>by simp[cH,PyData.eqvAll,d4]
 |n,m,[],_::_,_,_=>by simp[cH,PyData.eqvAll,d4]
 |n,m,_::_,[],_,_=>by simp[cH,PyData.eqvAll,d4]
 | n, m, x :: a, y :: b, ha, hb => by
   simp only[RN,Qy] at ha hb;simp only[cH,PyData.eqvAll,d4];rw[nW n m x y ha.1 hb.1,pf n m a b ha.2 hb.2]
end
section
variable{fa:Fa}{X:Cx}{μ:Mu}{H:Hp}{σ:L2.St}{pins:List (Addr×Obj)}{s:Qu}{M:Mem}
def jt (hM:RelM fa X.K μ H M)(h:Rep fa X.K μ H d v)(e:jx M d=some ds):∃a vs,v=.ref a/\H a=some (.lst vs)/\aK fa X.K μ H ds vs:=by
 cases d with
 | lst xs =>
   cases e;obtain⟨a,vs,e,s,r⟩:=h;exact⟨a,vs,e,s.1,r⟩
 | cell k =>
   obtain⟨a,rfl,hk⟩:=h;obtain⟨vs,h2,h3⟩:=hM.at_ e hk;exact⟨a,vs,rfl,h2,h3⟩
 |_=>cases e
def bG (hM:RelM fa X.K μ H M)(h:Rep fa X.K μ H d v)(e:eB M d=some ds):∃a vs,v=.ref a/\c7 X.K H a vs/\aK fa X.K μ H ds vs:=by
 cases d with
 | lst xs =>
   obtain⟨a,vs,h1,h2,h3⟩:=jt hM h e;exact{a,vs,h1,.of h2,h3}
 | frz xs =>
   cases e;obtain⟨a,vs,e,s,r⟩:=h;exact{a,vs,e,s.elim (λz=>.inl (.inr z)) .inr,r}
 | cell k =>
   obtain⟨a,vs,h1,h2,h3⟩:=jt hM h e;exact{a,vs,h1,.of h2,h3}
 |_=>cases e
def jr (hM:RelM fa X.K μ H M)(h:Rep fa X.K μ H d v)(e:cj M d=some ds):∃a vs,v=.ref a/\(c7 X.K H a vs\/dQ X.K H a vs)/\aK fa X.K μ H ds vs:=by
 cases d with
 | tup xs =>
   cases e;obtain⟨a,vs,rfl,h1,h2⟩:=h;exact{a,vs,rfl,.inr h1,h2}
 | lst xs =>
   obtain⟨a,vs,h1,h2,h3⟩:=bG hM h e;exact{a,vs,h1,.inl h2,h3}
 | frz xs =>
   obtain⟨a,vs,h1,h2,h3⟩:=bG hM h e;exact{a,vs,h1,.inl h2,h3}
 | cell k =>
   obtain⟨a,vs,h1,h2,h3⟩:=bG hM h e;exact{a,vs,h1,.inl h2,h3}
 |_=>cases e
mutual
def eA (I:Inv X pins σ H s):∀(d:D) (n:Nat) (v:V) (u:Qr),az n d=true->Rep fa X.K μ H d v->RelV v u->∃as,Reads s.heap u (toPy d) as
 | .non, n, v, u, _, h, r => by
   obtain rfl:v=.non:=h;obtain rfl:u=Value.none:=r;exact{_,.none}
 | .bl b, n, v, u, _, h, r => by
   obtain rfl:v=.bl b:=h;obtain rfl:u=Value.bool b:=r;exact{_,.bool b}
 | .int i, n, v, u, _, h, r => by
   obtain rfl:v=.int i:=h;obtain⟨t,rfl⟩:=r;exact{_,.int i t}
 | .str x, n, v, u, _, h, r => by
   obtain rfl:v=.str x:=h;obtain⟨t,rfl⟩:=r;exact{_,.str x t}
 | .tup ds, n, v, u, hp, h, r => by
   cases n with
   |zero=>simp[az] at hp
   | succ n =>
     obtain⟨a,vs,rfl,h1,h2⟩:=h;obtain rfl:u=Value.ref a:=r;obtain⟨its,rv,⟨o,e1,e2,k,e3⟩,_⟩:=I.tuple h1;obtain⟨as,q⟩:=fM I ds n vs its (by simpa[az] using hp) h2 rv
     exact{_,.tuple e1 e2 e3 (by simpa using q)}
 | .lst ds, n, v, u, hp, h, r => by
   cases n with
   |zero=>simp[az] at hp
   | succ n =>
     obtain⟨a,vs,rfl,h1,h2⟩:=h;obtain rfl:u=Value.ref a:=r;obtain⟨its,rv,⟨o,k,e1,e2,e4,e3⟩,_⟩:=I.list (c7.of h1.1);obtain⟨as,q⟩:=fM I ds n vs its (by simpa[az] using hp) h2 rv
     exact{_,.list e1 e2 e3 (by simpa using q)}
 |.frz k,n,v,u,hp,_,_=>by cases n<;>simp[az] at hp
 |.cell k,n,v,u,hp,_,_=>by cases n<;>simp[az] at hp
 |.fn f,n,v,u,hp,_,_=>by cases n<;>simp[az] at hp
 |.exc _ _,n,v,u,hp,_,_=>by cases n<;>simp[az] at hp
def fM (I:Inv X pins σ H s):∀(ds:List D) (n:Nat) (vs:List V) (us:List Qr),ds.all (az n)=true->aK fa X.K μ H ds vs->Vals vs us->∃as,ReadsAll s.heap us (cH ds) as
 | [], n, vs, us, _, h, r => by
   obtain rfl:vs=[]:=h;cases r;exact{_,.nil}
 | d :: ds, n, vs, us, hp, h, r => by
   obtain⟨v,vr,rfl,h1,h2⟩:=h;simp only[RN,Qy] at hp;cases r with
   | cons r1 r2 =>
     obtain⟨as,q1⟩:=eA I d n v _ hp.1 h1 r1;obtain⟨bs,q2⟩:=fM I ds n vr _ hp.2 h2 r2;exact{_,.cons q1 q2}
end
def FK (h:az n (view M d)=true):(view M d=d/\az n d=true)\/∃ds,eB M d=some ds/\view M d=.lst ds:=by
 cases d with
 | cell k =>
   cases e:M[k]? with
   | none =>
     have ev:view M (.cell k)=.cell k:=by simp[view,e]
     rw[ev] at h;cases n<;>simp[az] at h
   |some ds=>exact .inr {ds,e,by simp[view,e]}
 |frz ds=>exact .inr ⟨ds,rfl,rfl⟩
 |_=>exact .inl ⟨rfl,h⟩
def lg (I:Inv X pins σ H s)(hM:RelM fa X.K μ H M)(hp:az 64 (view M d)=true)(h:Rep fa X.K μ H d v)(r:RelV v u):∃as,Reads s.heap u (toPy (view M d)) as:=by
 rcases FK hp with⟨e,hp'⟩|⟨ds,e,ev⟩
 ·rw[e];exact eA I _ 64 v u hp' h r
 ·rw[ev] at hp ⊢;obtain⟨a,vs,rfl,h1,h2⟩:=bG hM h e;obtain rfl:u=Value.ref a:=r;obtain⟨its,rv,⟨o,k,e1,e2,e4,e3⟩,_⟩:=I.list h1;obtain⟨as,q⟩:=fM I ds 63 vs its (by simpa[az] using hp) h2 rv
  exact{_,.list e1 e2 e3 (by simpa using q)}
def ke (I:Inv X pins σ H s)(hM:RelM fa X.K μ H M):∀(n m:Nat) (d:D) (v:V) (u:Qr),az m (dB n M d)=true->Rep fa X.K μ H d v->RelV v u->∃as,Reads s.heap u (toPy (dB n M d)) as
 |0,m,d,v,u,hp,h,r=>eA I d m v u hp h r
 | n + 1, m, d, v, u, hp, h, r => by
   have ih:=ke I hM n;have all:∀(m:Nat) (ds:List D) (vs:List V) (us:List Qr),(ds.map (dB n M)).all (az m)=true->aK fa X.K μ H ds vs->Vals vs us->∃as,ReadsAll s.heap us (cH (ds.map (dB n M))) as:=by
    intro m ds;induction ds with
    | nil =>
      intro vs us _ h r;obtain rfl:vs=[]:=h;cases r;exact{_,.nil}
    | cons d ds ihl =>
      intro vs us hp h r;obtain⟨v,vr,rfl,h1,h2⟩:=h;simp only[RU,RN,Qy] at hp;cases r with
      | cons r1 r2 =>
        obtain⟨as,q1⟩:=ih m d v _ hp.1 h1 r1;obtain⟨bs,q2⟩:=ihl vr _ hp.2 h2 r2;exact{_,.cons q1 q2}
   have lst:∀(ds:List D) (a:Addr) (vs:List V),az m (.lst (ds.map (dB n M)))=true->c7 X.K H a vs->aK fa X.K μ H ds vs->u=.ref a->∃as,Reads s.heap u (toPy (.lst (ds.map (dB n M)))) as:=by
    intro ds a vs hp h1 h2 e;subst e;cases m with
    |zero=>simp[az] at hp
    | succ m =>
      obtain⟨its,rv,⟨o,k,e1,e2,e4,e3⟩,_⟩:=I.list h1;obtain⟨as,q⟩:=all m ds vs its (by simpa[az] using hp) h2 rv
      exact{_,.list e1 e2 e3 (by simpa using q)}
   cases d with
   | cell k =>
     cases e:M[k]? with
     | none =>
       have ev:dB (n+1) M (.cell k)=.cell k:=by simp[dB,e]
       rw[ev] at hp;cases m<;>simp[az] at hp
     | some ds =>
       have ev:dB (n+1) M (.cell k)=.lst (ds.map (dB n M)):=by simp[dB,e]
       rw[ev] at hp ⊢;obtain⟨a,vs,rfl,h1,h2⟩:=bG hM h e;exact lst ds a vs hp h1 h2 r
   | frz ds =>
     obtain⟨a,vs,rfl,h1,h2⟩:=bG hM h rfl;exact lst ds a vs hp h1 h2 r
   | lst ds =>
     obtain⟨a,vs,rfl,h1,h2⟩:=bG hM h rfl;exact lst ds a vs hp h1 h2 r
   | tup ds =>
     have hp:az m (.tup (ds.map (dB n M)))=true:=hp;cases m with
     |zero=>simp[az] at hp
     | succ m =>
       obtain⟨a,vs,rfl,h1,h2⟩:=h;obtain rfl:u=Value.ref a:=r;obtain⟨its,rv,⟨o,e1,e2,k,e3⟩,_⟩:=I.tuple h1;obtain⟨as,q⟩:=all m ds vs its (by simpa[az] using hp) h2 rv
       exact{_,.tuple e1 e2 e3 (by simpa using q)}
   |non=>exact eA I .non m v u hp h r
   |bl b=>exact eA I (.bl b) m v u hp h r
   |int i=>exact eA I (.int i) m v u hp h r
   |str x=>exact eA I (.str x) m v u hp h r
   |fn f=>exact eA I (.fn f) m v u hp h r
   |exc y p=>exact eA I (.exc y p) m v u hp h r
abbrev Rm (X:Cx):Prop:=X.A.units+100<cLine
noncomputable def gP (fa:Fa)(K:Qp)(o:kc):R2:=λx y H Q=>∃μ M dx dy b,RelM fa K μ H M/\Rep fa K μ H dx x/\Rep fa K μ H dy y/\bF o dx dy M=some b/\Q (.bl b) H
def uR (hs:(ia a&&ia b)=false)(h:p8 a b=some k):az 64 a=true/\az 64 b=true/\k=bO a b:=by
 unfold p8 at h;rw[hs,Bool.false_or] at h;split at h
 ·next q=>
  simp only[Qy] at q;exact{q.1,q.2,(Qz h).symm}
 ·cases h
def uG (d:D):ia (view M d)=ia d:=by
 cases d with
 |cell k=>cases e:M[k]?<;>simp[view,e,ia]
 |_=>rfl
def rW (n:Nat)(d:D):ia (dB n M d)=ia d:=by
 cases n with
 |zero=>rfl
 | succ n =>
   cases d with
   |cell k=>cases e:M[k]?<;>simp[dB,e,ia]
   |_=>rfl
def r6 (I:Inv X pins σ H s)(hM:RelM fa X.K μ H M)(hs:(ia a&&ia b)=false)(h:mY M a b=some k)(h1:Rep fa X.K μ H a x)(h2:Rep fa X.K μ H b y)(rx:RelV x v)(ry:RelV y u) :
 ∃c e as bs,az 64 c=true/\az 64 e=true/\k=bO c e/\Reads s.heap v (toPy c) as/\Reads s.heap u (toPy e) bs:=by
 unfold mY at h;cases q:p8 (view M a) (view M b) with
 | some r =>
   rw[q] at h;cases h;obtain⟨p1,p2,e⟩:=uR (by rw[uG,uG];exact hs) q
   obtain⟨as,r1⟩:=lg I hM p1 h1 rx;obtain⟨bs,r2⟩:=lg I hM p2 h2 ry;exact{_,_,as,bs,p1,p2,e,r1,r2}
 | none =>
   rw[q] at h;obtain⟨p1,p2,e⟩:=uR (by rw[rW,rW];exact hs) h
   obtain⟨as,r1⟩:=ke I hM 64 64 a x v p1 h1 rx;obtain⟨bs,r2⟩:=ke I hM 64 64 b y u p2 h2 ry;exact{_,_,as,bs,p1,p2,e,r1,r2}
def tK (h:(ia a&&ia b)=true):∃x y,a=.str x/\b=.str y:=by
 cases a with
 | str x =>
   cases b with
   |str y=>exact⟨x,y,rfl,rfl⟩
   |_=>cases h
 |_=>cases h
def wI:mY M (.str x) (.str y)=some (x==y):=by
 have e:bO (.str x) (.str y)=(x==y):=rfl;rw[<- e];rfl
def PV (hu:Rm X):bQ X (compareOp .Eq) (gP fa X.K .eq):=by
 intro pins s σ H x y v u Q I rx ry h;obtain⟨μ,M,dx,dy,b,hM,h1,h2,e,q⟩:=h;cases hs:ia dx&&ia dy with
 | true =>
   obtain⟨i,j,rfl,rfl⟩:=tK hs;obtain rfl:x=.str i:=h1;obtain rfl:y=.str j:=h2;obtain rfl:(i==j)=b:=Qz (wI.symm.trans e);exact MR pins s σ H _ _ v u Q I rx ry {rfl,by rw[n5];exact q}
 | false =>
   obtain⟨_,_,as,bs,p1,p2,rfl,r1,r2⟩:=r6 I hM hs (e) h1 h2 rx ry;refine SeqAt.compareEq_shaped r1 r2 (jM p1) (jM p2) (by unfold Rm at hu;omega) ?_
   rw[nW 64 64 _ _ p1 p2];exact{.bl _,H,I,rfl,q}
def PL (hu:Rm X):bQ X (compareOp .NotEq) (gP fa X.K .ne):=by
 intro pins s σ H x y v u Q I rx ry h;obtain⟨μ,M,dx,dy,b,hM,h1,h2,e,q⟩:=h;have e:(mY M dx dy).map (!·)=some b:=e;cases e':mY M dx dy with
 |none=>rw[e'] at e;cases e
 | some k =>
   rw[e'] at e;obtain rfl:(!k)=b:=Qz e;cases hs:ia dx&&ia dy with
   | true =>
     obtain⟨i,j,rfl,rfl⟩:=tK hs;obtain rfl:x=.str i:=h1;obtain rfl:y=.str j:=h2;obtain rfl:(i==j)=k:=Qz (wI.symm.trans e');exact MM pins s σ H _ _ v u Q I rx ry {rfl,by rw[n5];exact q}
   | false =>
     obtain⟨_,_,as,bs,p1,p2,rfl,r1,r2⟩:=r6 I hM hs e' h1 h2 rx ry;refine SeqAt.compareNe_shaped r1 r2 (jM p1) (jM p2) (by unfold Rm at hu;omega) ?_
     rw[nW 64 64 _ _ p1 p2];exact{.bl _,H,I,rfl,q}
end
section
variable{fa:Fa}{X:Cx}{μ:Mu}{H:Hp}{σ:L2.St}{pins:List (Addr×Obj)}{s:Qu}{M:Mem}
def iG (h:bQ X f r)(i:∀x y H Q,r' x y H Q->r x y H Q):bQ X f r':=λpins s σ H x y v u Q I rx ry q=>h pins s σ H x y v u Q I rx ry (i x y H Q q)
def jD (h:b9 X f r)(i:∀xs H Q,r' xs H Q->r xs H Q):b9 X f r':=λpins s σ H xs us Q I rx q=>h pins s σ H xs us Q I rx (i xs H Q q)
def n6 {g:Int->Int->Bool}(ho:o=.lt\/o=.le\/o=.gt\/o=.ge)(hg:∀i j,bF o (.int i) (.int j) []=some (g i j))(h:gP fa X.K o x y H Q) :
 ∃i j,x=.int i/\y=.int j/\Q (.bl (g i j)) H:=by
 obtain⟨μ,M,dx,dy,b,hM,h1,h2,e,q⟩:=h;have key:∀i j,dx=.int i->dy=.int j->∃i j,x=.int i/\y=.int j/\Q (.bl (g i j)) H:=λi j e1 e2=>by
  subst e1 e2;have e3:bF o (.int i) (.int j) M=some (g i j):=by
   have:=hg i j;rcases ho with rfl|rfl|rfl|rfl<;>exact this
  rw[e] at e3;have e4:=Qz e3;subst e4;exact⟨i,j,h1,h2,q⟩
 rcases ho with rfl|rfl|rfl|rfl<;>
 ·cases dx with
  |int i=>cases dy<;>first|exact key _ _ rfl rfl|cases e
  |_=>cases e
def PM:bQ X (compareOp .Lt) (gP fa X.K .lt):=iG MN λx y H Q h=>n6 (.inl rfl) (λ_ _=>rfl) h
def PN:bQ X (compareOp .LtE) (gP fa X.K .le):=iG MO λx y H Q h=>n6 (.inr (.inl rfl)) (λ_ _=>rfl) h
def PR:bQ X (compareOp .Gt) (gP fa X.K .gt):=iG MP λx y H Q h=>n6 (.inr (.inr (.inl rfl))) (λ_ _=>rfl) h
def PU:bQ X (compareOp .GtE) (gP fa X.K .ge):=iG MQ λx y H Q h=>n6 (.inr (.inr (.inr rfl))) (λ_ _=>rfl) h
def vU {K:Qp}(h:Rep fa K μ H d v):decide (v=.non)=eX d:=by
 cases d with
 |non=>obtain rfl:v=.non:=h;rfl
 |bl b=>obtain rfl:v=.bl b:=h;rfl
 |int b=>obtain rfl:v=.int b:=h;rfl
 |str b=>obtain rfl:v=.str b:=h;rfl
 |tup b=>obtain⟨a,vs,rfl,_⟩:=h;rfl
 |lst b=>obtain⟨a,vs,rfl,_⟩:=h;rfl
 |frz b=>obtain⟨a,vs,rfl,_⟩:=h;rfl
 |cell b=>obtain⟨a,rfl,_⟩:=h;rfl
 |fn b=>obtain⟨a,rfl,_⟩:=h;rfl
 |exc y p=>obtain⟨a,_,_,rfl,_⟩:=h;rfl
def NO:bQ X (compareOp .Is) (gP fa X.K .isN):=iG J4 λx y H Q h=>by
 obtain⟨μ,M,dx,dy,b,hM,h1,h2,e,q⟩:=h;cases dy<;>first|cases (show(none:Option Bool)=some b from e)|skip
 refine{h2,?_};rw[vU h1];rw[Qz e];exact q
def LQ:bQ X (compareOp .IsNot) (gP fa X.K .notN):=iG GZ λx y H Q h=>by
 obtain⟨μ,M,dx,dy,b,hM,h1,h2,e,q⟩:=h;cases dy<;>first|cases (show(none:Option Bool)=some b from e)|skip
 refine{h2,?_};rw[vU h1];rw[Qz e];exact q
def vo (x:D)(hx:az 64 x=true):∀(ds:List D),ds.all (az 63)=true->((cH ds).any λy=>PyData.eqv y (toPy x))=ds.any λy=>bO y x
 |[],_=>rfl
 | d :: r, h => by
   simp only[RN,Qy] at h;simp only[cH,List.any_cons,nW 63 64 d x h.1 hx,vo x hx r h.2]
def tB (n:Nat):∀ds:List D,ds.all (az n)=true->PyData.canLayAll0 (cH ds)=true/\PyData.depthAll (cH ds)<=n
 |[],_=>by simp[cH,PyData.canLayAll0,PyData.depthAll]
 | d :: r, h => by
   simp only[RN,Qy] at h;obtain⟨h1,h2⟩:=qu n d h.1;obtain⟨h3,h4⟩:=tB n r h.2;simp only[cH,PyData.canLayAll0,PyData.depthAll,h1,h3,Bool.and_self,true_and];omega
def zU (I:Inv X pins σ H s)(hM:RelM fa X.K μ H M)(hp:ds.all (az 63)=true)(h:Rep fa X.K μ H d v)(r:RelV v u)(e:cj M d=some ds) :
 (∃as,Reads s.heap u (.list (cH ds)) as)\/∃as,Reads s.heap u (.tuple (cH ds)) as:=by
 obtain⟨a,vs,rfl,h1,h2⟩:=jr hM h e;obtain rfl:u=Value.ref a:=r;rcases h1 with h1|h1
 ·obtain⟨its,rv,⟨o,k,e1,e2,e4,e3⟩,_⟩:=I.list h1;obtain⟨as,q⟩:=fM I ds 63 vs its hp h2 rv;exact .inl {_,.list e1 e2 e3 (by simpa using q)}
 ·obtain⟨its,rv,⟨o,e1,e2,k,e3⟩,_⟩:=I.tuple h1;obtain⟨as,q⟩:=fM I ds 63 vs its hp h2 rv;exact .inr {_,.tuple e1 e2 e3 (by simpa using q)}
def AX (hu:Rm X)(I:Inv X pins σ H s)(hM:RelM fa X.K μ H M)(h1:Rep fa X.K μ H dx x)(h2:Rep fa X.K μ H dy y)(rx:RelV x v)(ry:RelV y u)
 (e1:cj M dy=some ds) (e2:pZ (view M dx) ds=some b) (neg:Bool) (q:Q (.bool (if neg then !b else b)) s):wpAny (model X.prog X.w) X.A (compareOp (if neg then .NotIn else .In) v u) Q X.xe s:=by
 unfold pZ at e2;split at e2
 ·next z=>
  simp only[Qy] at z;obtain⟨p1,p2⟩:=z;have e3:=Qz e2;subst e3;obtain⟨as,r1⟩:=lg I hM p1 h1 rx;obtain⟨c1,d1⟩:=qu 64 _ p1;obtain⟨c2,d2⟩:=tB 63 ds p2;have hu':X.A.units+1+min (PyData.depthAll (cH ds)) (toPy (view M dx)).depth<cLine:=by unfold Rm at hu;omega
  rw[<- vo _ p1 ds p2] at q;rcases zU I hM p2 h2 ry e1 with⟨bs,r2⟩|⟨bs,r2⟩
  ·cases neg
   ·exact SeqAt.in_list_reads r2 r1 c2 c1 hu' q
   ·exact SeqAt.notIn_list_reads r2 r1 c2 c1 hu' q
  ·cases neg
   ·exact SeqAt.in_tuple_reads r2 r1 c2 c1 hu' q
   ·exact SeqAt.notIn_tuple_reads r2 r1 c2 c1 hu' q
 ·cases e2
def PQ (hu:Rm X):bQ X (compareOp .In) (gP fa X.K .isin):=by
 intro pins s σ H x y v u Q I rx ry h;obtain⟨μ,M,dx,dy,b,hM,h1,h2,e,q⟩:=h;have gen:(cj M dy).bind (pZ (view M dx))=some b->wpAny (model X.prog X.w) X.A (compareOp .In v u) (EP X pins σ Q) X.xe s:=λe=>by
  cases e1:cj M dy with
  |none=>rw[e1] at e;cases e
  | some ds =>
    rw[e1] at e;exact AX hu I hM h1 h2 rx ry e1 e false {.bl b,H,I,rfl,q}
 by_cases hs:(∃a,dx=.str a)/\∃c,dy=.str c
 ·obtain⟨⟨a,rfl⟩,c,rfl⟩:=hs;have e':=Qz e;subst e';exact Ap pins s σ H x y v u Q I rx ry ⟨a,c,h1,h2,q⟩
 ·refine gen ?_;cases dx<;>first|exact e|(cases dy<;>first|exact e|exact absurd {{_,rfl},_,rfl} hs)
def HX (hu:Rm X):bQ X (compareOp .NotIn) (gP fa X.K .notin):=by
 intro pins s σ H x y v u Q I rx ry h;obtain⟨μ,M,dx,dy,b,hM,h1,h2,e,q⟩:=h;have gen:((cj M dy).bind (pZ (view M dx))).map (!·)=some b->wpAny (model X.prog X.w) X.A (compareOp .NotIn v u) (EP X pins σ Q) X.xe s:=λe=>by
  cases e1:cj M dy with
  |none=>rw[e1] at e;cases e
  | some ds =>
    rw[e1] at e;cases e2:pZ (view M dx) ds with
    |none=>rw[Option.bind_some,e2] at e;cases e
    | some k =>
      rw[Option.bind_some,e2] at e;have e':=Qz e;subst e';exact AX hu I hM h1 h2 rx ry e1 e2 true {.bl _,H,I,rfl,q}
 by_cases hs:(∃a,dx=.str a)/\∃c,dy=.str c
 ·obtain⟨⟨a,rfl⟩,c,rfl⟩:=hs;have e':=Qz e;subst e';exact ud pins s σ H x y v u Q I rx ry ⟨a,c,h1,h2,q⟩
 ·refine gen ?_;cases dx<;>first|exact e|(cases dy<;>first|exact e|exact absurd {{_,rfl},_,rfl} hs)
noncomputable def eZ:kc->CmpOp
 |.eq=>.Eq|.ne=>.NotEq|.lt=>.Lt|.le=>.LtE|.gt=>.Gt|.ge=>.GtE|.isN=>.Is|.notN=>.IsNot|.isin=>.In|.notin=>.NotIn
def n8 (hu:Rm X):∀o:kc,bQ X (compareOp (eZ o)) (gP fa X.K o)
 |.eq=>PV hu|.ne=>PL hu|.lt=>PM|.le=>PN|.gt=>PR|.ge=>PU|.isN=>NO|.notN=>LQ|.isin=>PQ hu|.notin=>HX hu
noncomputable def mC (fa:Fa)(K:Qp)(m:Bool)(o:oF):R2:=λx y H Q=>∃μ M dx dy,RelM fa K μ H M/\Rep fa K μ H dx x/\Rep fa K μ H dy y/\ae (fY m o dx dy M) (aW fa K μ H Q)
def aQ (hM:RelM fa X.K μ H M)(h:aW fa X.K μ H Q d M)(r:Rep fa X.K μ H d v):Q v H:=h v H μ .refl hM r
def gz (hM:RelM fa X.K μ H M)(r:aK fa X.K μ H ds vs)(h:ae (bh m ds M) (aW fa X.K μ H Q)):ds.length<=sz/\∀p,H p=none->Q (.ref p) (upd H p (.lst vs)):=by
 unfold bh at h;split at h
 ·next hz=>
  refine{hz,λp hp=>?_};cases m with
  | true =>
    exact h (.ref p) _ (fN μ M.length p) (Ext.cell hM hp) (hM.cell hp r) {p,rfl,by simp[fN]}
  | false =>
    exact h (.ref p) _ μ (Ext.alloc hM hp) (hM.alloc hp) {p,vs,rfl,{cD,hM.fresh hp},r.ext (Ext.alloc hM hp)}
 ·exact h.elim
def jm (hM:RelM fa X.K μ H M)(r:aK fa X.K μ H ds vs)(h:aW fa X.K μ H Q (.tup ds) M):∀p,H p=none->Q (.ref p) (upd H p (.tup vs)):=λp hp=>
 h (.ref p) _ μ (Ext.alloc hM hp) (hM.alloc hp) {p,vs,rfl,.of cD,r.ext (Ext.alloc hM hp)}
def dU:sz=sizeLine:=by rw[sizeLine_eq];rfl
def CO:bQ X (binaryOp .Add) (λx y H Q=>∃a b ys,x=.ref a/\y=.ref b/\dQ X.K H a []/\dQ X.K H b ys/\Q (.ref b) H):=by
 intro pins s σ H x y v u Q I rx ry h;obtain⟨a,b,ys,rfl,rfl,ha,hb,q⟩:=h;cases rx;cases ry;obtain⟨its,r1,p1,_⟩:=I.tuple ha;obtain⟨its2,r2,p2,_⟩:=I.tuple hb;cases r1;obtain⟨⟨cls,dd,data,sl⟩,ho,hc,n,hd⟩:=id p1;obtain⟨⟨cls2,dd2,data2,sl2⟩,ho2,hc2,n2,hd2⟩:=id p2;subst hc hd hc2 hd2;exact concat_meets {_,ho,rfl} {_,ho2,rfl} noFill_tuple_add seq_tuple_add PySem.F.slot_tuple_add PySem.F.entry_tuple_add (PySem.F.args_tuple_add_2 _ _)
  (tuple_addW0 a b #[] its2.toArray n n2 dd dd2 sl sl2 rfl) {ho,ho2,{.ref b,H,I,rfl,q}}
def Dz (I:Inv X pins σ H s)(hM:RelM fa X.K μ H M)(h1:Rep fa X.K μ H dx x)(h2:Rep fa X.K μ H dy y)(rx:RelV x v)(ry:RelV y u)
 (h:ae (match jx M dx,jx M dy with|some x,some y=>bh m (x++y) M|_,_=>.bad) (aW fa X.K μ H Q)):wpAny (model X.prog X.w) X.A (binaryOp .Add v u) (EP X pins σ Q) X.xe s:=by
 cases e1:jx M dx with
 |none=>rw[e1] at h;exact h.elim
 | some xs =>
   cases e2:jx M dy with
   |none=>rw[e1,e2] at h;exact h.elim
   | some ys =>
     rw[e1,e2] at h;obtain⟨a,vs,rfl,ha,ra⟩:=jt hM h1 e1;obtain⟨b,ws,rfl,hb,rb⟩:=jt hM h2 e2;obtain⟨hz,k⟩:=gz hM (ra.append rb) h;refine J5 pins s σ H _ _ v u Q I rx ry {a,b,vs,ws,rfl,rfl,ha,hb,?_,k};rw[ra.length,rb.length,<- Rb,<- dU];exact hz
def NZ (m:Bool):bQ X (binaryOp .Add) (mC fa X.K m .add):=by
 intro pins s σ H x y v u Q I rx ry h;obtain⟨μ,M,dx,dy,hM,h1,h2,h⟩:=h;have hi:∀i j,dx=.int i->dy=.int j->wpAny (model X.prog X.w) X.A (binaryOp .Add v u) (EP X pins σ Q) X.xe s:=λi j e1 e2=>by
  subst e1 e2;exact J6 pins s σ H x y v u Q I rx ry {i,j,h1,h2,aQ hM h rfl}
 have hs:∀i j,dx=.str i->dy=.str j->wpAny (model X.prog X.w) X.A (binaryOp .Add v u) (EP X pins σ Q) X.xe s:=λi j e1 e2=>by
  subst e1 e2;have h:ae (if i.cps.size+j.cps.size<=sz then .ok (.str {i.cps++j.cps}) M else .bad) (aW fa X.K μ H Q):=h;split at h
  ·next hz=>exact xE pins s σ H x y v u Q I rx ry {i,j,h1,h2,by rw[<- dU];exact hz,aQ hM h rfl}
  ·exact h.elim
 have ht:∀i j,dx=.tup i->dy=.tup j->wpAny (model X.prog X.w) X.A (binaryOp .Add v u) (EP X pins σ Q) X.xe s:=λi j e1 e2=>by
  subst e1 e2;have h:ae (if (i++j).length<=sz then .ok (.tup (i++j)) M else .bad) (aW fa X.K μ H Q):=h;split at h
  ·next hz=>
   obtain⟨a,vs,e1,ha,ra⟩:=id h1;obtain⟨b,ws,e2,hb,rb⟩:=id h2;by_cases h0:i=[]
   ·subst h0;obtain rfl:vs=[]:=ra;exact CO pins s σ H x y v u Q I rx ry {a,b,ws,e1,e2,ha,hb,aQ hM h ⟨b,ws,rfl,hb,rb⟩}
   ·have hv:vs≠[]:=λz=>h0 (by have:=ra.length;rw[z] at this;exact Sl.mp this.symm)
    refine G1 pins s σ H x y v u Q I rx ry {a,b,vs,ws,e1,e2,ha,hb,hv,?_,λz=>?_,λ_=>jm hM (ra.append rb) h}
    ·rw[ra.length,rb.length,<- Rb,<- dU];exact hz
    ·subst z;have ej:=Sl.mp rb.length.symm;subst ej;exact aQ hM h {a,vs,rfl,ha,by simpa using ra}
  ·exact h.elim
 cases dx<;>cases dy<;>first|exact hi _ _ rfl rfl|exact hs _ _ rfl rfl|exact ht _ _ rfl rfl|exact Dz (m:=m) I hM h1 h2 rx ry h
def s8 {g:Int->Int->Int}(hr:bQ X (binaryOp op) (rI C λi j=>.int (g i j)))
 (hD:∀dx dy M (P:D->Mem->Prop),ae (fY m o dx dy M) P->∃i j,dx=.int i/\dy=.int j/\C i j/\P (.int (g i j)) M):bQ X (binaryOp op) (mC fa X.K m o):=iG hr λx y H Q h=>by
 obtain⟨μ,M,dx,dy,hM,h1,h2,h⟩:=h;obtain⟨i,j,rfl,rfl,c,q⟩:=hD dx dy M _ h;exact{i,j,h1,h2,c,aQ hM q rfl}
def NT (m:Bool):bQ X (binaryOp .Sub) (mC fa X.K m .sub):=s8 (C:=λ_ _=>True) (iG JZ λx y H Q ⟨i,j,e1,e2,_,q⟩=>⟨i,j,e1,e2,q⟩) λdx dy M P h=>by
 cases dx<;>cases dy<;>first|exact{_,_,rfl,rfl,trivial,h}|exact h.elim
def LV (m:Bool):bQ X (binaryOp .FloorDiv) (mC fa X.K m .fdiv):=s8 G0 λdx dy M P h=>by
 have key:∀i j,dx=.int i->dy=.int j->∃i j,dx=.int i/\dy=.int j/\Ml i j/\P (.int (i / j)) M:=λi j e1 e2=>by
  subst e1 e2;have h:ae (if 0<j/\j<1073741824 then .ok (.int (i / j)) M else .bad) P:=h;split at h
  ·next c=>exact⟨i,j,rfl,rfl,c,h⟩
  ·exact h.elim
 cases dx<;>cases dy<;>first|exact key _ _ rfl rfl|exact h.elim
def NX (m:Bool):bQ X (binaryOp .Mod) (mC fa X.K m .mod):=s8 J3 λdx dy M P h=>by
 have key:∀i j,dx=.int i->dy=.int j->∃i j,dx=.int i/\dy=.int j/\0<j/\P (.int (i % j)) M:=λi j e1 e2=>by
  subst e1 e2;have h:ae (if 0<j then .ok (.int (i % j)) M else .bad) P:=h;split at h
  ·next c=>exact⟨i,j,rfl,rfl,c,h⟩
  ·exact h.elim
 cases dx<;>cases dy<;>first|exact key _ _ rfl rfl|exact h.elim
def NU (m:Bool):bQ X (binaryOp .Pow) (mC fa X.K m .pow):=s8 J1 λdx dy M P h=>by
 have key:∀i j,dx=.int i->dy=.int j->∃i j,dx=.int i/\dy=.int j/\Mj i j/\P (.int (i^j.toNat)) M:=λi j e1 e2=>by
  subst e1 e2;have h:ae (if 0<=j/\j<=1000000/\i.natAbs<2^64 then .ok (.int (i^j.toNat)) M else .bad) P:=h;split at h
  ·next c=>exact⟨i,j,rfl,rfl,c,h⟩
  ·exact h.elim
 cases dx<;>cases dy<;>first|exact key _ _ rfl rfl|exact h.elim
def CB {j:Int}(I:Inv X pins σ H s)(hM:RelM fa X.K μ H M)(h1:Rep fa X.K μ H dx x)(h2:Rep fa X.K μ H (.int j) y)(rx:RelV x v)(ry:RelV y u)
 (h:ae (match jx M dx with|some x=>if x.length*j.toNat<=sz/\-(2^63)<=j/\j<2^63 then bh m (List.replicate j.toNat x).flatten M else .bad|none=>.bad) (aW fa X.K μ H Q)) :
 wpAny (model X.prog X.w) X.A (binaryOp .Mult v u) (EP X pins σ Q) X.xe s:=by
 cases e1:jx M dx with
 |none=>rw[e1] at h;exact h.elim
 | some xs =>
   rw[e1] at h;simp only at h;split at h
   ·next c=>
    obtain⟨a,vs,rfl,ha,ra⟩:=jt hM h1 e1;obtain⟨hz,k⟩:=gz hM (ra.rep j.toNat) h;exact J0 pins s σ H _ _ v u Q I rx ry {a,j,vs,rfl,h2,ha,c.2.1,c.2.2,by rw[ra.length,<- dU];exact c.1,k}
   ·exact h.elim
end
end LD
namespace LD
open PySem PySem.Spec PyProof.Rows L2 PySem.Builtin
open PySem.Sem (wp)
def oU:fillsNumberSlot (.type "tuple") "mul"=pure false:=
 PySem.fillsNumberSlot_seq F.slot_tuple_mul.lookup `k F.slot_tuple_rmul.lookup `k
def tW:seqRepeat? (.type "tuple")=pure (some (.builtin "tuple.__mul__")):=by
 unfold seqRepeat?;rw[PySem.seqSlot_of (name:="__mul__") F.slot_tuple_mul.lookup `k,PySem.seqSlot_of (name:="__rmul__") F.slot_tuple_rmul.lookup `k]
 rfl
def qA (a:Int)(t:Tok)(l:Addr)(items:Array Qr)(n:Nat)(dd:Option Addr)(sl:Array (Option Qr)) :
 Meets (Builtin.«int.__rmul__» {[.int a t,.ref l],[]}) (λ_ R s=>s.heap.get? l=some {cls:=.type "tuple",dict:=dd,data:=.seq items n,slots:=sl}/\R (.ok (.ret Value.notImplemented)) s):=
 .of_wp λprog w A R s h=>by obtain⟨hp,g,d,tk,os⟩:=s;obtain⟨hl,h⟩:=h;wp_walk using wpAny_loadPart' hl;exact{_,rfl,h}
def xD {x:Int}(h0:-(2^63)<=x)(h1:x<2^63):(decide (x < -2^63)||decide (x≥2^63))=false:=by
 rw[decide_eq_false `a,decide_eq_false `a];rfl
def qL (l:Addr)(items:Array Qr)(n:Nat)(dd:Option Addr)(sl:Array (Option Qr))(x:Int)(u:Tok)(h0:-(2^63)<=x)(h1:x<2^63)(hc:(items.isEmpty||x==1)=true) :
 Meets (Builtin.«tuple.__mul__» {[.ref l,.int x u],[]}) (λ_ R s=>s.heap.get? l=some {cls:=.type "tuple",dict:=dd,data:=.seq items n,slots:=sl}/\R (.ok (.ret (.ref l))) s):=
 .of_wp λprog w A R s h=>by
  obtain⟨hp,g,d,tk,os⟩:=s;obtain⟨hl,h⟩:=h;have f1:=AutoSeq1.idx_int;wp_walk using wpAny_loadPart' hl
  refine wpAny_ite_false (by rw[xD h0 h1];rfl) ?_
  wp_walk using wpAny_loadPart' hl
  exact{_,rfl,h}
def qM (l:Addr)(items:Array Qr)(n:Nat)(dd:Option Addr)(sl:Array (Option Qr))(x:Int)(u:Tok)(h0:-(2^63)<=x)(h1:x<2^63)(hc:(items.isEmpty||x==1)=false)(hc1:(decide (x<=0)||items.isEmpty)=true) :
 Meets (Builtin.«tuple.__mul__» {[.ref l,.int x u],[]}) (λ_ R s=>s.heap.get? l=some {cls:=.type "tuple",dict:=dd,data:=.seq items n,slots:=sl}/\R (.ok (.ret (.ref s.heap.objs.size))) {s with heap:=s.heap.push {cls:=Value.type "tuple",data:=Data.seq #[]},toks:=s.toks}):=
 .of_wp λprog w A R s h=>by
  obtain⟨hp,g,d,tk,os⟩:=s;obtain⟨hl,h⟩:=h;have f1:=AutoSeq1.idx_int;wp_walk using wpAny_loadPart' hl
  refine wpAny_ite_false (by rw[xD h0 h1];rfl) ?_
  wp_walk using wpAny_loadPart' hl
  exact{_,rfl,h}
def qN (l:Addr)(items:Array Qr)(n:Nat)(dd:Option Addr)(sl:Array (Option Qr))(x:Int)(u:Tok)(h0:-(2^63)<=x)(h1:x<2^63)(hc:(items.isEmpty||x==1)=false)(hc1:(decide (x<=0)||items.isEmpty)=false)
 (hs:(items.size:Int)*x<=16777216) (hs2:(List.foldl (λx1 x2=>x1++x2) #[] (List.replicate x.toNat items)).size<=sizeLine) :
 Meets (Builtin.«tuple.__mul__» {[.ref l,.int x u],[]}) (λ_ R s=>s.heap.get? l=some {cls:=.type "tuple",dict:=dd,data:=.seq items n,slots:=sl}/\R (.ok (.ret (.ref s.heap.objs.size))) {s with heap:=s.heap.push {cls:=Value.type "tuple",data:=Data.seq (List.foldl (λx1 x2=>x1++x2) #[] (List.replicate x.toNat items))},toks:=s.toks}):=
 .of_wp λprog w A R s h=>by
  obtain⟨hp,g,d,tk,os⟩:=s;obtain⟨hl,h⟩:=h;have f1:=AutoSeq1.idx_int;wp_walk using wpAny_loadPart' hl
  refine wpAny_ite_false (by rw[xD h0 h1];rfl) ?_
  wp_walk using wpAny_loadPart' hl
  refine wpAny_ite_false (decide_eq_false `a) ?_
  wp_walk using wpAny_loadPart' hl
  refine wpAny_ite_false (decide_eq_false (by unfold Tuple.tupleTooMany;rw[sizeLine_eq];simp;omega)) ?_
  wp_walk using wpAny_loadPart' hl
  exact{_,rfl,h}
section
variable{fa:Fa}{X:Cx}{μ:Mu}{H:Hp}{σ:L2.St}{pins:List (Addr×Obj)}{s:Qu}{M:Mem}
def rQ (its:List Qr)(m:Nat):List.foldl (λx1 x2=>x1++x2) #[] (List.replicate m its.toArray)=(List.replicate m its).flatten.toArray:=by
 have:=foldl_rep its m [];rw[List.nil_append] at this;exact this
def GY:bQ X (binaryOp .Mult) (λx y H Q=>∃l k xs,x=.ref l/\y=.int k/\dQ X.K H l xs/\-(2^63)<=k/\k<2^63/\xs.length*k.toNat<=sz/\
 ((List.replicate k.toNat xs).flatten=xs->Q (.ref l) H)/\∀p,H p=none->Q (.ref p) (upd H p (.tup (List.replicate k.toNat xs).flatten))):=by
 intro pins s σ H x y v u Q I rx ry h;obtain⟨l,k,xs,rfl,rfl,hq,h1,h2,hz,q1,q2⟩:=h;cases rx;obtain⟨t,rfl⟩:=ry;obtain⟨its,r,p,hzz⟩:=I.tuple hq;have hl:=r.length;obtain⟨⟨cls,dd,data,sl⟩,ho,hc,n,hd⟩:=id p;subst hc hd;refine wpAny_binaryOp_repeat_ref `d {_,ho,rfl} (λs'=>typeIs_int s' k t) oU F.fills_int_mul F.slot_int_rmul tW F.slot_int_index.lookup
  (call_meets F.slot_int_rmul (typeIs_int s k t) F.entry_int_rmul (F.args_int_rmul_2 _ _) (qA k t l its.toArray n dd sl) {ho,rfl,{_,ho,rfl},?_})
 have new:∀(its':List Qr),Vals (List.replicate k.toNat xs).flatten its'->EP X pins σ Q (.ref s.heap.objs.size) {s with heap:=s.heap.push {cls:=Value.type "tuple",data:=Data.seq its'.toArray}}:=λits' r'=>by
  refine{.ref s.heap.objs.size,_,I.laid (λb ob q=>Qt _ q) (Qw _) ?_,rfl,q2 _ (I.hok.fresh (Qw _))};exact{by rw[len_rep,Nat.mul_comm,<- dU];exact hz,_,r',IsTup.new _ _}
 by_cases c1:(its.toArray.isEmpty||k==1)=true
 ·refine call_meets F.slot_tuple_mul {_,ho,rfl} F.entry_tuple_mul (F.args_tuple_mul_2 _ _) (qL l its.toArray n dd sl k t h1 h2 c1) {ho,{.ref l,H,I,rfl,q1 ?_}};rcases Bool.or_eq_true_iff.mp c1 with z|z
  ·have e:its=[]:=by simpa using z
   subst e;have e2:=Sl.mp hl;subst e2;simp
  ·have e:k=1:=by simpa using z
   subst e;simp
 ·have c1':(its.toArray.isEmpty||k==1)=false:=by simpa using c1
  by_cases c2:(decide (k<=0)||its.toArray.isEmpty)=true
  ·refine call_meets F.slot_tuple_mul {_,ho,rfl} F.entry_tuple_mul (F.args_tuple_mul_2 _ _) (qM l its.toArray n dd sl k t h1 h2 c1' c2) {ho,new [] ?_};have hk:k<=0:=by
    rcases Bool.or_eq_true_iff.mp c2 with z|z
    ·simpa using z
    ·rw[z] at c1';cases c1'
   have hk0:k.toNat=0:=`a
   rw[hk0];exact .nil
  ·have c2':(decide (k<=0)||its.toArray.isEmpty)=false:=by simpa using c2
   have hk:0<k:=by
    have:=(Bool.or_eq_false_iff.mp c2').1;simpa using this
   have hs:(its.toArray.size:Int)*k<=16777216:=by
    have e1:(its.toArray.size:Int)*k=((xs.length*k.toNat:Nat):Int):=by
     rw[QI,<- hl,Int.natCast_mul,Int.toNat_of_nonneg `a]
    rw[e1];have:xs.length*k.toNat<=16777216:=hz;omega
   have hs2:(List.foldl (λx1 x2=>x1++x2) #[] (List.replicate k.toNat its.toArray)).size<=sizeLine:=by
    rw[rQ,QI,len_rep,Nat.mul_comm,<- hl,<- dU];exact hz
   refine call_meets F.slot_tuple_mul {_,ho,rfl} F.entry_tuple_mul (F.args_tuple_mul_2 _ _) (qN l its.toArray n dd sl k t h1 h2 c1' c2' hs hs2) {ho,?_};rw[rQ];exact new _ (r.rep k.toNat)
def NV (m:Bool):bQ X (binaryOp .Mult) (mC fa X.K m .mul):=by
 intro pins s σ H x y v u Q I rx ry h;obtain⟨μ,M,dx,dy,hM,h1,h2,h⟩:=h;have hi:∀i j,dx=.int i->dy=.int j->wpAny (model X.prog X.w) X.A (binaryOp .Mult v u) (EP X pins σ Q) X.xe s:=λi j e1 e2=>by
  subst e1 e2;have h:ae (if (-(2^64)<i/\i<2^64)\/(-(2^64)<j/\j<2^64) then .ok (.int (i*j)) M else .bad) (aW fa X.K μ H Q):=h;split at h
  ·next c=>exact J2 pins s σ H x y v u Q I rx ry {i,j,h1,h2,c,aQ hM h rfl}
  ·exact h.elim
 have ht:∀i j,dx=.tup i->dy=.int j->wpAny (model X.prog X.w) X.A (binaryOp .Mult v u) (EP X pins σ Q) X.xe s:=λi j e1 e2=>by
  subst e1 e2;have h:ae (if i.length*j.toNat<=sz/\-(2^63)<=j/\j<2^63 then .ok (.tup (List.replicate j.toNat i).flatten) M else .bad) (aW fa X.K μ H Q):=h;split at h
  ·next c=>
   obtain⟨a,vs,e1,ha,ra⟩:=id h1;refine GY pins s σ H x y v u Q I rx ry {a,j,vs,e1,h2,ha,c.2.1,c.2.2,by rw[ra.length];exact c.1,λz=>?_,jm hM (ra.rep j.toNat) h}
   refine aQ hM h {a,vs,rfl,ha,?_};have:=ra.rep j.toNat;rw[z] at this;exact this
  ·exact h.elim
 have hl:∀j,dy=.int j->ae (match jx M dx with|some x=>if x.length*j.toNat<=sz/\-(2^63)<=j/\j<2^63 then bh m (List.replicate j.toNat x).flatten M else .bad|none=>.bad) (aW fa X.K μ H Q)->
  wpAny (model X.prog X.w) X.A (binaryOp .Mult v u) (EP X pins σ Q) X.xe s:=λj e1 h'=>by
  subst e1;exact CB I hM h1 h2 rx ry h'
 cases dy with
 |int j=>cases dx<;>first|exact hi _ _ rfl rfl|exact ht _ _ rfl rfl|exact hl _ rfl h
 |_=>cases dx<;>exact h.elim
noncomputable def binOp:oF->Operator
 |.add=>.Add|.sub=>.Sub|.mul=>.Mult|.fdiv=>.FloorDiv|.mod=>.Mod|.pow=>.Pow
def NY (m:Bool):∀o:oF,bQ X (binaryOp (binOp o)) (mC fa X.K m o)
 |.add=>NZ m|.sub=>NT m|.mul=>NV m|.fdiv=>LV m|.mod=>NX m|.pow=>NU m
end
end LD
namespace LD
open PySem PySem.Spec PyProof.Rows L2
section
variable{fa:Fa}{X:Cx}{μ:Mu}{H:Hp}{σ:L2.St}{pins:List (Addr×Obj)}{s:Qu}{M:Mem}
def KQ (h:j8 X r)(i:∀x y H Q,r' x y H Q->r x y H Q):j8 X r':=λvalue slice pins s σ H x y v u Q I rx ry q hs=>h value slice pins s σ H x y v u Q I rx ry (i x y H Q q) hs
noncomputable def rIdx (fa:Fa)(K:Qp):R2:=λx y H Q=>∃μ M dx dy d,RelM fa K μ H M/\Rep fa K μ H dx x/\Rep fa K μ H dy y/\b6 dx dy M=some d/\aW fa K μ H Q d M
def uF (n:Nat)(i:Int):LD.cv n i=L2.cv n i:=rfl
def M8:j8 X (rIdx fa X.K):=KQ KP λx y H Q h=>by
 obtain⟨μ,M,dx,dy,d,hM,h1,h2,e,q⟩:=h;have gen:∀i,dy=.int i->((cj M dx).bind λds=>(LD.cv ds.length i).bind λj=>ds[j]?)=some d->JE X.K x y H Q:=λi e0 e'=>by
  subst e0;clear e;have e:=e';clear e';cases e1:cj M dx with
  |none=>rw[e1] at e;cases e
  | some ds =>
    rw[e1,Option.bind_some] at e;obtain⟨a,vs,rfl,hq,r⟩:=jr hM h1 e1;cases e2:LD.cv ds.length i with
    |none=>rw[e2] at e;cases e
    | some j =>
      rw[e2,Option.bind_some] at e;obtain⟨v,hv,rv⟩:=r.get e;have he:sG vs i=some v:=by
       unfold sG;rw[r.length,<- uF,e2];exact hv
      rcases hq with hq|hq
      ·exact .inl {a,vs,i,v,rfl,h2,hq,he,aQ hM q rv}
      ·exact .inr (.inl {a,vs,i,v,rfl,h2,hq,he,aQ hM q rv})
 have str:∀z i,dx=.str z->dy=.int i->JE X.K x y H Q:=λz i e1 e2=>by
  subst e1 e2;have e:(if z.cps.size<=sz then(LD.cv z.cps.size i).bind λj=>(z.cps[j]?).map λc=>D.str {#[c]} else none)=some d:=e;split at e
  ·next hz=>
   cases e2:LD.cv z.cps.size i with
   |none=>rw[e2] at e;cases e
   | some j =>
     rw[e2,Option.bind_some] at e;cases e3:z.cps[j]? with
     |none=>rw[e3] at e;cases e
     | some c =>
       rw[e3] at e;have e4:=Qz e;subst e4;refine .inr (.inr {z,i,c,h1,h2,by rw[<- dU];exact hz,?_,aQ hM q rfl})
       unfold sG;rw[show z.cps.toList.length=z.cps.size by simp,<- uF,e2]
       simpa using e3
  ·cases e
 cases dy with
 |int i=>cases dx<;>first|exact str _ _ rfl rfl|exact gen _ rfl e
 |_=>cases dx<;>cases (e)
def Jb (h:nt X r)(i:∀x lo hi H Q,r' x lo hi H Q->r x lo hi H Q):nt X r':=λpins s σ H x v vl vu lo hi sl Q I rx hs pl pu q=>h pins s σ H x v vl vu lo hi sl Q I rx hs pl pu (i x lo hi H Q q)
noncomputable def pQ:D->Option (Option Int)
 |.non=>some none
 |.int i=>some (some i)
 |_=>none
def tV (n d:Nat)(x:D):LD.aU n d x=(pQ x).map (HT.aU n d):=by
 cases x<;>rfl
def tR:nt X (λx lo hi H Q=>∃a xs,x=.ref a/\dQ X.K H a xs/\(HT.aU xs.length 0 lo=0/\HT.aU xs.length xs.length hi=xs.length)/\Q (.ref a) H):=by
 intro pins s σ H x v vl vu lo hi sl Q I rx hs pl pu h;obtain⟨a,xs,rfl,hx,hw,q⟩:=h;cases rx;obtain⟨its,r,ht,hz⟩:=I.tuple hx;refine{"tuple",_,RS.lookup,ht.typeIs,?_};have hlen:its.toArray.size=xs.length:=by rw[QI];exact r.length.symm
 rw[<- hlen] at hw;obtain⟨os,hos,hcs,hds⟩:=id hs;have hTs:s.TypeIs (.ref sl) "slice":=⟨os,hos,hcs⟩;unfold getItem;try with_reducible refine tqo ?_
 first|refine tqa (tqb ?_)|skip
 refine tqa (wpAny_sequenceKey ht.typeIs `d ?_)
 refine tqa (wpAny_callSpecial?_slot ht.typeIs RS
  (wpAny_call_entry RS ht.typeIs entry_tuple_getitem ?_ (args_tuple_getitem _ _)))
 show wpAny _ _ (Builtin.Tuple.tupleItemsOf (.ref a) >>= _) _ _ s;refine tqa (tupleItemsOf_ ht ?_);refine tqa (wpAny_typeOf hTs ?_);rw[if_pos `d]
 refine tqa (HT.jo hs pl pu ?_);have hyes:(((HT.aU its.toArray.size 0 lo:Nat):Int)==0&&(1:Int)==1&&(HT.aU its.toArray.size its.toArray.size hi-HT.aU its.toArray.size 0 lo)==its.toArray.size)=true:=by
  rw[hw.1,hw.2];simp
 show wpAny _ _ (if (((HT.aU its.toArray.size 0 lo:Nat):Int)==0&&(1:Int)==1&&(HT.aU its.toArray.size its.toArray.size hi-HT.aU its.toArray.size 0 lo)==its.toArray.size)=true then _ else _) _ _ s;rw[if_pos hyes];refine tqa ?_;refine tqa (wpAny_typeOf ht.typeIs ?_);refine tqb ?_;rw[if_pos `d]
 exact tqa (wpAny_rule (tqb {_,rfl,tqb {.ref a,H,I,rfl,q}}))
noncomputable def OW (fa:Fa)(K:Qp)(m:Bool):V->Option Int->Option Int->Hp->VK->Prop:=λx lo hi H Q=>∃μ M dx dl dh,RelM fa K μ H M/\Rep fa K μ H dx x/\pQ dl=some lo/\pQ dh=some hi/\ae (gM m dx dl dh M) (aW fa K μ H Q)
def Gp (m:Bool):nt X (OW fa X.K m):=by
 refine Jb (Gr.or (Ja.or tR)) λx lo hi H Q h=>?_;obtain⟨μ,M,dx,dl,dh,hM,h1,e1,e2,h⟩:=h;have gen:ae (match eB M dx with
  | some xs => match LD.aU xs.length 0 dl, LD.aU xs.length xs.length dh with
    |some l,some h=>bh m (cut xs l h) M
    |_,_=>.bad
  |none=>.bad) (aW fa X.K μ H Q)->JA X.K x lo hi H Q:=λh=>by
  cases e:eB M dx with
  |none=>rw[e] at h;exact h.elim
  | some xs =>
    rw[e] at h;simp only[tV,e1,e2,Option.map_some] at h;obtain⟨a,vs,rfl,hq,r⟩:=bG hM h1 e;have hl:=r.length;obtain⟨_,k⟩:=gz hM ((r.drop (HT.aU xs.length 0 lo)).take (HT.aU xs.length xs.length hi-HT.aU xs.length 0 lo)) h;refine{a,vs,rfl,hq,?_};unfold m7;rw[hl];exact k
 have tup:∀xs,dx=.tup xs->Jz X.K x lo hi H Q\/∃a xs,x=.ref a/\dQ X.K H a xs/\(HT.aU xs.length 0 lo=0/\HT.aU xs.length xs.length hi=xs.length)/\Q (.ref a) H:=λxs e=>by
  subst e;have h:ae (match LD.aU xs.length 0 dl,LD.aU xs.length xs.length dh with
   |some l,some h=>.ok (.tup (cut xs l h)) M
   |_,_=>.bad) (aW fa X.K μ H Q):=h
  simp only[tV,e1,e2,Option.map_some] at h;obtain⟨a,vs,rfl,hq,r⟩:=h1;have hl:=r.length;by_cases hw:HT.aU vs.length 0 lo=0/\HT.aU vs.length vs.length hi=vs.length
  ·refine .inr {a,vs,rfl,hq,hw,?_};rw[hl] at hw;have e3:cut xs (HT.aU xs.length 0 lo) (HT.aU xs.length xs.length hi)=xs:=by rw[hw.1,hw.2];simp[cut]
   rw[e3] at h;exact aQ hM h ⟨a,vs,rfl,hq,r⟩
  ·refine .inl {a,vs,rfl,hq,hw,?_};have k:=jm hM ((r.drop (HT.aU xs.length 0 lo)).take (HT.aU xs.length xs.length hi-HT.aU xs.length 0 lo)) h;unfold m7;rw[hl];exact k
 cases dx<;>first|exact .inr (tup _ rfl)|exact .inl (gen h)
noncomputable def oN (fa:Fa)(K:Qp)(f:xg):List V->Hp->VK->Prop:=λvs H Q=>∃μ M ds,RelM fa K μ H M/\aK fa K μ H ds vs/\ae (ft f ds M) (aW fa K μ H Q)
def pK {d:D}{vs:List V}{K:Qp}(h:aK fa K μ H [d] vs):∃v,vs=[v]/\Rep fa K μ H d v:=by
 obtain⟨v,r,rfl,h1,h2⟩:=h;obtain rfl:r=[]:=h2;exact⟨v,rfl,h1⟩
def Nj:b9 X (.builtin "len") (oN fa X.K .len):=jD (va.or u9) λvs H Q h=>by
 obtain⟨μ,M,ds,hM,r,h⟩:=h
 match ds,r,h with
 |[],_,h=>exact h.elim
 |d::_::_,_,h=>cases d<;>exact h.elim
 | [d], r, h =>
   obtain⟨v,rfl,hv⟩:=pK r;have gen:ae (match cj M d with|some xs=>.ok (.int xs.length) M|none=>.bad) (aW fa X.K μ H Q)->∃p ys,[v]=[.ref p]/\(c7 X.K H p ys\/dQ X.K H p ys)/\Q (.int ys.length) H:=λh=>by
    cases e:cj M d with
    |none=>rw[e] at h;exact h.elim
    | some xs =>
      rw[e] at h;obtain⟨a,vs,rfl,hq,r⟩:=jr hM hv e;refine{a,vs,rfl,hq,?_};rw[r.length];exact aQ hM h rfl
   have str:∀x,d=.str x->∃z,[v]=[V.str z]/\z.length<=sizeLine/\Q (.int z.length) H:=λx e=>by
    subst e;have h:ae (if x.cps.size<=sz then .ok (.int x.cps.size) M else .bad) (aW fa X.K μ H Q):=h;split at h
    ·next c=>exact{x,by rw[show v=.str x from hv],by rw[<- dU];exact c,aQ hM h rfl}
    ·exact h.elim
   cases d<;>first|exact .inr (str _ rfl)|exact .inl (gen h)
def Hm:b9 X (.type "tuple") (oN fa X.K .tuple):=jD sM λvs H Q h=>by
 obtain⟨μ,M,ds,hM,r,h⟩:=h
 match ds,r,h with
 |[],_,h=>exact h.elim
 |d::_::_,_,h=>cases d<;>exact h.elim
 | [d], r, h =>
   obtain⟨v,rfl,hv⟩:=pK r;have gen:ae (match eB M d with|some xs=>.ok (.tup xs) M|none=>.bad) (aW fa X.K μ H Q)->∃p ys,[v]=[.ref p]/\((c7 X.K H p ys/\∀l,H l=none->Q (.ref l) (upd H l (.tup ys)))\/(dQ X.K H p ys/\Q (.ref p) H)):=λh=>by
    cases e:eB M d with
    |none=>rw[e] at h;exact h.elim
    | some xs =>
      rw[e] at h;obtain⟨a,vs,rfl,hq,r⟩:=bG hM hv e;exact{a,vs,rfl,.inl {hq,jm hM r h}}
   have tup:∀x,d=.tup x->∃p ys,[v]=[.ref p]/\((c7 X.K H p ys/\∀l,H l=none->Q (.ref l) (upd H l (.tup ys)))\/(dQ X.K H p ys/\Q (.ref p) H)):=λx e=>by
    subst e;obtain⟨a,vs,rfl,hq,r⟩:=id hv;exact{a,vs,rfl,.inr {hq,aQ hM h hv}}
   cases d<;>first|exact tup _ rfl|exact gen h
def La (m:Bool):b9 X (.type "list") (oN fa X.K (.list m)):=jD u7 λvs H Q h=>by
 obtain⟨μ,M,ds,hM,r,h⟩:=h
 match ds,r,h with
 |[],_,h=>exact h.elim
 |_::_::_,_,h=>exact h.elim
 | [d], r, h =>
   obtain⟨v,rfl,hv⟩:=pK r;have h:ae (match cj M d with|some xs=>bh m xs M|none=>.bad) (aW fa X.K μ H Q):=h
   cases e:cj M d with
   |none=>rw[e] at h;exact h.elim
   | some xs =>
     rw[e] at h;obtain⟨a,vs,rfl,hq,r⟩:=jr hM hv e;obtain⟨_,k⟩:=gz hM r h;exact⟨a,vs,rfl,hq,k⟩
end
section
variable{fa:Fa}{X:Cx}{μ:Mu}{H:Hp}{σ:L2.St}{pins:List (Addr×Obj)}{s:Qu}{M:Mem}
def OD (hM:RelM fa X.K μ H M)(h:Rep fa X.K μ H d v)(e:kg M d=some k):DL X.K v H k:=by
 cases d with
 |non=>obtain rfl:v=.non:=h;exact(Qz e).symm
 |bl b=>obtain rfl:v=.bl b:=h;exact(Qz e).symm
 |int i=>obtain rfl:v=.int i:=h;exact(Qz e).symm
 | str x =>
   obtain rfl:v=.str x:=h;have e:(if x.cps.size<=sz then some (x.cps.size != 0) else none)=some k:=e;split at e
   ·next c=>
    refine{by rw[<- dU];exact c,?_}
    rw[<- Qz e];show(x.cps.size != 0)=((x.cps.size:Int) != 0);rw[RV];simp
   ·cases e
 | tup ds =>
   obtain⟨a,vs,rfl,hq,r⟩:=h;refine .inr (.inl {vs,hq,?_});rw[<- Qz e];have:=r.length;cases vs<;>cases ds<;>simp_all
 | lst ds =>
   obtain⟨a,vs,rfl,hq,r⟩:=bG hM h rfl;refine .inl {vs,hq,?_};rw[<- Qz e];have:=r.length;cases vs<;>cases ds<;>simp_all
 | frz ds =>
   obtain⟨a,vs,rfl,hq,r⟩:=bG hM h rfl;refine .inl {vs,hq,?_};rw[<- Qz e];have:=r.length;cases vs<;>cases ds<;>simp_all
 | cell c =>
   have e:(M[c]?).map (λds=>!ds.isEmpty)=some k:=e;cases e1:M[c]? with
   |none=>rw[e1] at e;cases e
   | some ds =>
     rw[e1] at e;obtain⟨a,vs,rfl,hq,r⟩:=bG hM h e1;refine .inl {vs,hq,?_};rw[<- Qz e];have:=r.length;cases vs<;>cases ds<;>simp_all
 |fn f=>cases e
 |exc y p=>cases e
def Ac:∀{ds:List D}{bs:List Bool}{vs:List V}{us:List Qr},boolsOf ds=some bs->aK fa X.K μ H ds vs->Vals vs us->PyProof.Rows.LSm.BoolsAre us bs:=by
 intro ds;induction ds with
 | nil =>
   intro bs vs us e h r;obtain rfl:vs=[]:=h;cases r;cases e;exact .nil
 | cons d ds ih =>
   intro bs vs us e h r;obtain⟨v,vr,rfl,h1,h2⟩:=h;cases r with
   | cons r1 r2 =>
     cases d with
     | bl b =>
       have e:(boolsOf ds).map (b::·)=some bs:=e;cases e1:boolsOf ds with
       |none=>rw[e1] at e;cases e
       | some cs =>
         rw[e1] at e;have e2:=Qz e;subst e2;obtain rfl:v=.bl b:=h1;obtain rfl:_=Value.bool b:=r1;exact .cons b (ih e1 h2 r2)
     |_=>cases e
def rn:b9 X (.builtin "all") (λxs H Q=>∃μ ds bs p vs,xs=[.ref p]/\X.calm=true/\c7 X.K H p vs/\aK fa X.K μ H ds vs/\boolsOf ds=some bs/\Q (.bl (bs.all id)) H):=by
 intro pins s σ H xs us Q I r h;obtain⟨μ,ds,bs,p,vs,rfl,hc,hq,rl,eb,q⟩:=h;obtain⟨u,rfl,rx⟩:=vals1 r;cases rx;obtain⟨its,rv,pl,hz⟩:=I.list hq;have hb:=Ac eb rl rv;have hlt:=pl.lt;refine call_all_walk (wpAny_pyIter_list pl.isList ?_);refine{s.heap.objs.size,[s.heap.objs.size,p],[s.heap.objs.size],its.toArray.size,_,_,λi=>(bs[i]?).getD true,rfl,Walks.list (A:=X.A.in1) (I.ok.hd hc) _ p (QY hlt) its.toArray,
  {{_,QM _ rfl,rfl,rfl},pl.isList.push _},λi v s' Q' E' hP hQ=>?_,λh' tk hk=>?_}
 ·obtain⟨b,e,rfl⟩:=hb.get i v (by simpa using hP)
  simp only[e,Option.getD_some] at hQ;exact tqp hQ
 ·have e:((List.range its.toArray.size).all λi=>(bs[i]?).getD true)=bs.all id:=by
   rw[QI,hb.length];exact PyProof.Rows.LSm.range_all bs
  rw[e];exact{.bl _,H,I.kept (PyProof.Rows.LSm.kept_iter hk),rfl,q}
def oM:∀{ds:List D}{bs:List Int}{vs:List V}{us:List Qr},intsOf ds=some bs->aK fa X.K μ H ds vs->Vals vs us->SH us bs:=by
 intro ds;induction ds with
 | nil =>
   intro bs vs us e h r;obtain rfl:vs=[]:=h;cases r;cases e;exact .nil
 | cons d ds ih =>
   intro bs vs us e h r;obtain⟨v,vr,rfl,h1,h2⟩:=h;cases r with
   | cons r1 r2 =>
     cases d with
     | int b =>
       have e:(intsOf ds).map (b::·)=some bs:=e;cases e1:intsOf ds with
       |none=>rw[e1] at e;cases e
       | some cs =>
         rw[e1] at e;have e2:=Qz e;subst e2;obtain rfl:v=.int b:=h1;obtain⟨t,rfl⟩:=r1;exact .cons b t (ih e1 h2 r2)
     |_=>cases e
def sO:b9 X (.builtin "sum") (λxs H Q=>∃μ ds bs p vs,xs=[.ref p]/\X.calm=true/\c7 X.K H p vs/\aK fa X.K μ H ds vs/\intsOf ds=some bs/\Q (.int bs.sum) H):=by
 intro pins s σ H xs us Q I r h;obtain⟨μ,ds,ns,p,vs,rfl,hc,hq,rl,eb,q⟩:=h;obtain⟨u,rfl,rx⟩:=vals1 r;cases rx;obtain⟨its,rv,pl,hz⟩:=I.list hq;have hi:=oM eb rl rv;obtain⟨xs,hx⟩:=hi.allInts.items;have hl':=hx ▸ pl.isList;refine sum_intListG (I.ok.hd hc) hl' λh' tk t' hk=>?_;have e1:ns=xs.toList.map (·.1):=by
  rw[<- nums_intItems,<- hx];exact(hi.numsOf).symm
 have e2:preSum (numAt xs) xs.size=ns.sum:=by
  rw[preSum_eq,RD `s,e1]
 rw[e2];exact{.int _,H,I.kept hk,⟨t',rfl⟩,q}
def Nl (hc:X.calm=true):b9 X (.builtin "all") (oN fa X.K .all):=jD (rn) λvs H Q h=>by
 obtain⟨μ,M,ds,hM,r,h⟩:=h
 match ds,r,h with
 |[],_,h=>exact h.elim
 |d::_::_,_,h=>exact h.elim
 | [d], r, h =>
   obtain⟨v,rfl,hv⟩:=pK r;have h:ae (match eB M d with|some xs=>(match boolsOf xs with|some bs=>.ok (.bl (bs.all id)) M|none=>.bad)|none=>.bad) (aW fa X.K μ H Q):=h
   cases e:eB M d with
   |none=>rw[e] at h;exact h.elim
   | some xs =>
     rw[e] at h;simp only at h;cases e2:boolsOf xs with
     |none=>rw[e2] at h;exact h.elim
     | some bs =>
       rw[e2] at h;obtain⟨a,vs,rfl,hq,r⟩:=bG hM hv e;exact{μ,xs,bs,a,vs,rfl,hc,hq,r,e2,aQ hM h rfl}
def Nh (hc:X.calm=true):b9 X (.builtin "sum") (oN fa X.K .sum):=jD (sO) λvs H Q h=>by
 obtain⟨μ,M,ds,hM,r,h⟩:=h
 match ds,r,h with
 |[],_,h=>exact h.elim
 |d::_::_,_,h=>exact h.elim
 | [d], r, h =>
   obtain⟨v,rfl,hv⟩:=pK r;have h:ae (match eB M d with|some xs=>(match intsOf xs with|some bs=>.ok (.int bs.sum) M|none=>.bad)|none=>.bad) (aW fa X.K μ H Q):=h
   cases e:eB M d with
   |none=>rw[e] at h;exact h.elim
   | some xs =>
     rw[e] at h;simp only at h;cases e2:intsOf xs with
     |none=>rw[e2] at h;exact h.elim
     | some bs =>
       rw[e2] at h;obtain⟨a,vs,rfl,hq,r⟩:=bG hM hv e;exact{μ,xs,bs,a,vs,rfl,hc,hq,r,e2,aQ hM h rfl}
noncomputable def tyName:Ty->String
 |.int=>"int" | .bool=>"bool" | .str=>"str" | .tuple=>"tuple" | .list=>"list" | .own _=>""
noncomputable def N7:D->String
 |.non=>"NoneType" | .bl _=>"bool" | .int _=>"int" | .str _=>"str" | .tup _=>"tuple" | _=>"list"
def Mo (t:Ty)(d:D)(b:Bool)(ht:∀c,t≠.own c)(e:gV t d=some b):PySem.W.kitOne X.K (.type (N7 d)) (.type (tyName t))=some b:=by
 cases t with
 |own c=>exact absurd rfl (ht c)
 |_=>cases d<;>first|(cases (show(none:Option Bool)=some b from e))|(have e':=Qz e;subst e';(first|rfl|decide +kernel))
def BZ (hM:RelM fa X.K μ H M)(h:Rep fa X.K μ H d v)(e:gV t d=some b)(I:Inv X pins σ H s)(r:RelV v u)
 (ek:PySem.W.kitOne X.K (.type (N7 d)) c=some b) (q:∀tk,Q (.bool b) {s with toks:=tk}):wpAny (model X.prog X.w) X.A (call (.builtin "isinstance") [u,c]) Q X.xe s:=by
 cases d with
 |non=>obtain rfl:v=.non:=h;exact jU I r .non ek q
 |bl x=>obtain rfl:v=.bl x:=h;exact jU I r (.bl x) ek q
 |int x=>obtain rfl:v=.int x:=h;exact jU I r (.int x) ek q
 |str x=>obtain rfl:v=.str x:=h;exact jU I r (.str x) ek q
 | tup ds =>
   obtain⟨a,vs,rfl,hq,_⟩:=h;obtain rfl:u=Value.ref a:=r;obtain⟨its,rv,⟨o,h1,h2,_⟩,_⟩:=I.tuple hq;exact RJ PySem.W.kitx_tuple I.kIn ⟨o,h1,h2⟩ ek (λz=>nomatch z) q
 | lst ds =>
   obtain⟨a,vs,rfl,hq,_⟩:=bG hM h rfl;obtain rfl:u=Value.ref a:=r;obtain⟨its,rv,⟨o,n,h1,h2,_⟩,_⟩:=I.list hq;exact RJ PySem.W.kitx_list I.kIn ⟨o,h1,h2⟩ ek (λz=>nomatch z) q
 | frz ds =>
   obtain⟨a,vs,rfl,hq,_⟩:=bG hM h rfl;obtain rfl:u=Value.ref a:=r;obtain⟨its,rv,⟨o,n,h1,h2,_⟩,_⟩:=I.list hq;exact RJ PySem.W.kitx_list I.kIn ⟨o,h1,h2⟩ ek (λz=>nomatch z) q
 | cell k =>
   obtain⟨a,rfl,hk⟩:=h;obtain⟨ds,vs,_,hq,_⟩:=hM.mu_lt hk;obtain rfl:u=Value.ref a:=r;obtain⟨its,rv,⟨o,n,h1,h2,_⟩,_⟩:=I.list (c7.of hq);exact RJ PySem.W.kitx_list I.kIn ⟨o,h1,h2⟩ ek (λz=>nomatch z) q
 |fn f=>cases e
 |exc y p=>cases e
noncomputable def MC (fa:Fa)(K:Qp)(t:Ty):List V->Hp->VK->Prop:=λvs H Q=>∃μ M d v b,vs=[v,.ty (tyName t)]/\RelM fa K μ H M/\Rep fa K μ H d v/\gV t d=some b/\Q (.bl b) H
def Lb (t:Ty)(ht:∀c,t≠.own c):b9 X (.builtin "isinstance") (MC fa X.K t):=by
 intro pins s σ H xs us Q I r h;obtain⟨μ,M,d,v,b,rfl,hM,hv,e,q⟩:=h;obtain⟨u,w,rfl,r1,r2⟩:=vals2 r;obtain rfl:w=Value.type (tyName t):=r2;exact BZ hM hv e I r1 (Mo t d b ht e) λtk=>{.bl b,H,I.tok _,rfl,q}
end
section
variable{fa:Fa}{X:Cx}
abbrev DE (fa:Fa)(X:Cx)(e:Expr)(g:Env->Mem->Res D):Prop:=PE X e (tE fa X.K g)
abbrev DT (fa:Fa)(X:Cx)(e:Expr)(g:Env->Mem->Res Bool):Prop:=PT X e (tT fa X.K g)
abbrev DW (fa:Fa)(X:Cx)(e:Expr)(g:Env->Mem->Res Bool):Prop:=PW X e (tT fa X.K g)
abbrev DA (fa:Fa)(X:Cx)(es:List Expr)(g:Env->Mem->Res (List D)):Prop:=PA X es (tA fa X.K g)
abbrev DS (fa:Fa)(X:Cx)(st:Stmt)(g:Env->Mem->Res Fl):Prop:=PS X st (tF fa X g)
abbrev la (fa:Fa)(X:Cx)(st:List Stmt)(g:Env->Mem->Res Fl):Prop:=k9 X st (tF fa X g)
variable{a b d:Expr}{ga gb gd:Env->Mem->Res D}{pos:Pos}
def Nt {i:Nat}(hN:X.N[i]?=some x)(hv:Bx X.env.scope x)(hd:(x==("__debug__":Str))=false)(hcd:(x==("__classdict__":Str))=false) :
 DE fa X (.Name x pos) (λZ M=>cm M (Z[i]?.getD none)):=bB (An hN hv hd hcd) λσ H Q ⟨μ,Z,M,hE,hM,h⟩=>by
 obtain⟨d,e,w⟩:=kJ h;have e':Z[i]?=some (some d):=by
  cases q:Z[i]? with
  |none=>rw[q] at e;cases e
  |some o=>rw[q] at e;simp at e;rw[e]
 obtain⟨v,h1,h2⟩:=hE.at' i d e';exact{v,h1,aQ hM w h2}
def ji (h:PE X e (tC v))(r:∀μ H,Rep fa X.K μ H dc v):DE fa X e (λ_ M=>.ok dc M):=bB h λσ H Q ⟨μ,Z,M,hE,hM,h⟩=>aQ hM h (r μ H)
def NB {i:Int}:DE fa X (.Constant (.int i) j pos) (λ_ M=>.ok (.int i) M):=ji JW λ_ _=>rfl
def PJ:DE fa X (.Constant (.bool i) j pos) (λ_ M=>.ok (.bl i) M):=ji MK λ_ _=>rfl
def Nv:DE fa X (.Constant (.str i) j pos) (λ_ M=>.ok (.str i) M):=ji JR λ_ _=>rfl
def Fh:DE fa X (.Constant .none j pos) (λ_ M=>.ok .non M):=ji JU λ_ _=>rfl
def t2 {β:Type}{f:D->D->Mem->Res β}{P:β->Mem->Prop}{R:V->V->Hp->Prop}(hE:bu fa X.K μ H σ Z)(hM:RelM fa X.K μ H M)
 (h:ae ((ga Z M).bind λx M=>(gb Z M).bind λy M=>f x y M) P)
 (k:∀x y M2 v u H2 μ2,Ext μ H μ2 H2->bu fa X.K μ2 H2 σ Z->RelM fa X.K μ2 H2 M2->Rep fa X.K μ2 H2 x v->Rep fa X.K μ2 H2 y u->ae (f x y M2) P->R v u H2) :
 tE fa X.K ga σ H λv H1=>tE fa X.K gb σ H1 λu H2=>R v u H2:=
 t1 hE hM h λx M1 v H1 μ1 x1 hE1 hM1 r1 h1=>t1 hE1 hM1 h1 λy M2 u H2 μ2 x2 hE2 hM2 r2 h2=>k x y M2 v u H2 μ2 (x1.trans x2) hE2 hM2 (r1.ext x2) r2 h2
def NJ (m:Bool)(o:oF)(ha:DE fa X a ga)(hb:DE fa X b gb):DE fa X (.BinOp a (binOp o) b pos) (λZ M=>(ga Z M).bind λx M=>(gb Z M).bind λy M=>fY m o x y M):=
 bB (MI (NY m o) ha hb) λσ H Q ⟨μ,Z,M,hE,hM,h⟩=>t2 hE hM h λx y M2 v u H2 μ2 x2 hE2 hM2 r1 r2 h2=>{μ2,M2,x,y,hM2,r1,r2,kI h2 x2}
def pV {P:D->Mem->Prop}(h:ae ((cm M r).bind λb M=>.ok (.bl b) M) P):∃b,r=some b/\P (.bl b) M:=by
 obtain⟨b,M1,e,q⟩:=aE h;cases r with
 |none=>cases e
 |some b'=>cases e;exact{_,rfl,q}
def NG (hu:Rm X)(o:kc)(ha:DE fa X a ga)(hb:DE fa X b gb)(hm:behindInMarks (eZ o) b=false) :
 DE fa X (.Compare a [eZ o] [b] pos) (λZ M=>(ga Z M).bind λx M=>(gb Z M).bind λy M=>(cm M (bF o x y M)).bind λb M=>.ok (.bl b) M):=
 bB (qG (n8 hu o) ha hb hm) λσ H Q ⟨μ,Z,M,hE,hM,h⟩=>t2 hE hM h λx y M2 v u H2 μ2 x2 hE2 hM2 r1 r2 h2=>by
  obtain⟨b,e,q⟩:=pV h2;exact{μ2,M2,x,y,b,hM2,r1,r2,e,aQ hM2 (q.ext x2) rfl}
def Ln (hu:Rm X)(o:kc)(ha:DE fa X a ga)(hb:DE fa X b gb)(hm:behindInMarks (eZ o) b=false) :
 DT fa X (.Compare a [eZ o] [b] pos) (λZ M=>((ga Z M).bind λx M=>(gb Z M).bind λy M=>(cm M (bF o x y M)).bind λb M=>.ok (.bl b) M).bind λx M=>cm M (kg M x)):=
 kF (qD (n8 hu o) ha hb hm) λσ H Q ⟨μ,Z,M,hE,hM,h⟩=>by
  obtain⟨z,M3,e,q⟩:=aE h;have h':ae ((ga Z M).bind λx M=>(gb Z M).bind λy M=>(cm M (bF o x y M)).bind λb M=>.ok (.bl b) M) (λd M=>d=z/\M=M3):=by rw[e];exact⟨rfl,rfl⟩
  refine t2 hE hM h' λx y M2 v u H2 μ2 x2 hE2 hM2 r1 r2 h2=>?_;obtain⟨b,e1,e2,e3⟩:=pV h2;subst e2 e3;exact{μ2,M2,x,y,b,hM2,r1,r2,e1,b,rfl,q H2 μ2 x2 hM2}
def F1 (hb:∀Z M x M',g Z M=.ok x M'->∃k,x=.bl k)(h:tT fa X.K (λZ M=>(g Z M).bind λx M=>cm M (kg M x)) σ H Q) :
 tE fa X.K g σ H (λx H'=>∃k,x=.bl k/\Q k H'):=by
 obtain⟨μ,Z,M,hE,hM,h⟩:=h;obtain⟨x,M1,e,q⟩:=aE h;obtain⟨k,rfl⟩:=hb Z M x M1 e;refine{μ,Z,M,hE,hM,?_};rw[e];intro v H1 μ1 x1 m1 r1;obtain rfl:v=.bl k:=r1;exact{k,rfl,q H1 μ1 x1 m1}
def Fe {o o':kc}{gc:Env->Mem->Res D}(σ:L2.St)(H:Hp)(Q:VK):tE fa X.K (λZ M=>(ga Z M).bind λx M=>(gb Z M).bind λy M=>(cm M (bF o x y M)).bind λk M=>
 if k then(gc Z M).bind λz M=>(cm M (bF o' y z M)).bind λb M=>.ok (.bl b) M else .ok (.bl false) M) σ H Q->tG (gP fa X.K o) (gP fa X.K o') (tE fa X.K ga) (tE fa X.K gb) (tE fa X.K gc) σ H Q:=λ⟨μ,Z,M,hE,hM,h⟩=>by
 refine t2 hE hM h λx y M2 v u H2 μ2 x2 hE2 hM2 r1 r2 h2=>?_;obtain⟨k,M3,e,q⟩:=aE h2;cases ec:bF o x y M2 with
 |none=>rw[ec] at e;cases e
 | some k' =>
   rw[ec] at e;cases e;refine{μ2,_,x,y,k,hM2,r1,r2,ec,k,rfl,?_};cases k with
   |false=>exact aQ hM2 (aW.ext q x2) rfl
   | true =>
     refine t1 hE2 hM2 q λz M4 w H4 μ4 x4 hE4 hM4 r4 h4=>?_;obtain⟨b,e4,q4⟩:=pV h4;exact{μ4,M4,y,z,b,hM4,r2.ext x4,r4,e4,aQ hM4 (q4.ext (x2.trans x4)) rfl}
def NI (hu:Rm X)(o o':kc)(ha:DE fa X a ga)(hb:DE fa X b gb)(hc:DE fa X d gc)(hm:lastMarks [eZ o,eZ o'] [b,d]=false) :
 DE fa X (.Compare a [eZ o,eZ o'] [b,d] pos) (λZ M=>(ga Z M).bind λx M=>(gb Z M).bind λy M=>(cm M (bF o x y M)).bind λk M=>
  if k then(gc Z M).bind λz M=>(cm M (bF o' y z M)).bind λb M=>.ok (.bl b) M else .ok (.bl false) M):=bB (CM (n8 hu o) (n8 hu o') ha hb hc hm) Fe
def CP {x:D}(h:((cm M r).bind λb M=>Res.ok (.bl b) M)=.ok x M'):∃k,x=.bl k:=by
 cases r with
 |none=>cases h
 |some b=>cases h;exact⟨b,rfl⟩
def e9 {α β:Type}{r:Res α}{f:α->Mem->Res β}{x:β}(h:r.bind f=.ok x M):∃a M1,r=.ok a M1/\f a M1=.ok x M:=by
 cases r with
 |ok a M1=>exact⟨a,M1,rfl,h⟩
 |err=>cases h
 |bad=>cases h
def Lo (hu:Rm X)(o o':kc){gc:Env->Mem->Res D}(ha:DE fa X a ga)(hb:DE fa X b gb)(hc:DE fa X d gc)(hm:lastMarks [eZ o,eZ o'] [b,d]=false) :
 DT fa X (.Compare a [eZ o,eZ o'] [b,d] pos) (λZ M=>((ga Z M).bind λx M=>(gb Z M).bind λy M=>(cm M (bF o x y M)).bind λk M=>
  if k then(gc Z M).bind λz M=>(cm M (bF o' y z M)).bind λb M=>.ok (.bl b) M else .ok (.bl false) M).bind λx M=>cm M (kg M x)):=
 kF (CG (n8 hu o) (n8 hu o') ha hb hc hm) λσ H Q h=>Fe σ H _ (F1 (λZ M x M' e=>by
  obtain⟨x1,M1,_,e⟩:=e9 e;obtain⟨x2,M2,_,e⟩:=e9 e;obtain⟨k,M3,_,e⟩:=e9 e;cases k with
  |false=>cases e;exact{_,rfl}
  | true =>
    obtain⟨x4,M4,_,e⟩:=e9 e;exact CP e) h)
def Ny (ha:DE fa X a ga):DE fa X (.UnaryOp .USub a pos) (λZ M=>(ga Z M).bind λx M=>match x with|.int i=>.ok (.int (-i)) M|_=>.bad):=
 bB (MG IB ha) λσ H Q ⟨μ,Z,M,hE,hM,h⟩=>t1 hE hM h λx M1 v H1 μ1 x1 hE1 hM1 r1 h1=>by
  cases x with
  |int i=>exact{i,r1,aQ hM1 (aW.ext h1 x1) rfl}
  |_=>exact h1.elim
def NM {rest:List Expr}(ha:DE fa X a ga)(hb:DE fa X (.BoolOp .And (b::rest) pos) gb):DE fa X (.BoolOp .And (a::b::rest) pos) (λZ M=>(ga Z M).bind λx M=>match x with
 |.bl true=>gb Z M
 |.bl false=>.ok (.bl false) M
 |_=>.bad):=
 bB (JY ha hb) λσ H Q ⟨μ,Z,M,hE,hM,h⟩=>t1 hE hM h λx M1 v H1 μ1 x1 hE1 hM1 r1 h1=>by
  cases x with
  | bl k =>
    refine{k,r1,?_};cases k with
    |true=>exact{μ1,Z,M1,hE1,hM1,kI h1 x1}
    |false=>exact aQ hM1 (aW.ext h1 x1) rfl
  |_=>exact h1.elim
def PH {rest:List Expr}(ha:DE fa X a ga)(hb:DE fa X (.BoolOp .Or (b::rest) pos) gb):DE fa X (.BoolOp .Or (a::b::rest) pos) (λZ M=>(ga Z M).bind λx M=>match x with
 |.bl true=>.ok (.bl true) M
 |.bl false=>gb Z M
 |_=>.bad):=
 bB (MH ha hb) λσ H Q ⟨μ,Z,M,hE,hM,h⟩=>t1 hE hM h λx M1 v H1 μ1 x1 hE1 hM1 r1 h1=>by
  cases x with
  | bl k =>
    refine{k,r1,?_};cases k with
    |true=>exact aQ hM1 (aW.ext h1 x1) rfl
    |false=>exact{μ1,Z,M1,hE1,hM1,kI h1 x1}
  |_=>exact h1.elim
def Fg (ha:DE fa X a ga):DE fa X (.BoolOp op [a] pos) ga:=JS ha
def Nx (ha:DE fa X a ga):DE fa X (.UnaryOp .Not a pos) (λZ M=>(ga Z M).bind λx M=>match x with|.bl k=>.ok (.bl (!k)) M|_=>.bad):=
 bB (JT ha) λσ H Q ⟨μ,Z,M,hE,hM,h⟩=>t1 hE hM h λx M1 v H1 μ1 x1 hE1 hM1 r1 h1=>by
  cases x with
  |bl k=>exact{k,r1,aQ hM1 (aW.ext h1 x1) rfl}
  |_=>exact h1.elim
variable{ta tb:Env->Mem->Res Bool}
def Hu (ha:DT fa X a ta):DW fa X (.BoolOp .And [a] pos) ta:=GI ha
def Lj (ha:DT fa X a ta):DW fa X (.BoolOp .Or [a] pos) ta:=JH ha
def Oc {Q:Bool->Hp->Prop}(x:Ext μ H μ' H')(h:ae b' λb M'=>∀H'' μ'',Ext μ H μ'' H''->RelM fa X.K μ'' H'' M'->Q b H''):ae b' λb M'=>∀H'' μ'',Ext μ' H' μ'' H''->RelM fa X.K μ'' H'' M'->Q b H'':=
 aH h λb M q H'' μ'' y m=>q H'' μ'' (x.trans y) m
def Lk {rest:List Expr}(ha:DT fa X a ta)(hb:DW fa X (.BoolOp .And (b::rest) pos) tb):DW fa X (.BoolOp .And (a::b::rest) pos) (λZ M=>(ta Z M).bind λk M=>if k then tb Z M else .ok false M):=
 Ae (JI ha hb) λσ H Q ⟨μ,Z,M,hE,hM,h⟩=>zx hE hM h λk M1 H1 μ1 x1 hE1 hM1 h1=>by
  cases k with
  |true=>exact{μ1,Z,M1,hE1,hM1,Oc x1 h1}
  |false=>exact h1 H1 μ1 x1 hM1
def Nn {rest:List Expr}(ha:DT fa X a ta)(hb:DW fa X (.BoolOp .Or (b::rest) pos) tb):DW fa X (.BoolOp .Or (a::b::rest) pos) (λZ M=>(ta Z M).bind λk M=>if k then .ok true M else tb Z M):=
 Ae (ME ha hb) λσ H Q ⟨μ,Z,M,hE,hM,h⟩=>zx hE hM h λk M1 H1 μ1 x1 hE1 hM1 h1=>by
  cases k with
  |true=>exact h1 H1 μ1 x1 hM1
  |false=>exact{μ1,Z,M1,hE1,hM1,Oc x1 h1}
def Ll (ha:DT fa X a ta):DT fa X (.UnaryOp .Not a pos) (λZ M=>(ta Z M).bind λk M=>.ok (!k) M):=
 kF (JL ha) λσ H Q ⟨μ,Z,M,hE,hM,h⟩=>zx hE hM h λk M1 H1 μ1 x1 hE1 hM1 h1=>h1 H1 μ1 x1 hM1
def Ds (ha:DE fa X a ga)(he:∀whole,isTrue a X.env whole=(do let v <- whole;standAt a.pos;holding [v] (truthy v))):DT fa X a (λZ M=>(ga Z M).bind λx M=>cm M (kg M x)):=
 kF (CF ha he) λσ H Q ⟨μ,Z,M,hE,hM,h⟩=>t1 hE hM h λx M1 v H1 μ1 x1 hE1 hM1 r1 h1=>by
  obtain⟨k,e,q⟩:=kJ h1;exact{k,OD hM1 r1 e,q H1 μ1 x1 hM1}
def NA (hc:DT fa X c gc)(ha:DE fa X a ga)(hb:DE fa X b gb):DE fa X (.IfExp c a b pos) (λZ M=>(gc Z M).bind λk M=>if k then ga Z M else gb Z M):=
 bB (uc hc ha hb) λσ H Q ⟨μ,Z,M,hE,hM,h⟩=>zx hE hM h λk M1 H1 μ1 x1 hE1 hM1 h1=>by
  cases k with
  |true=>exact{μ1,Z,M1,hE1,hM1,kI h1 x1}
  |false=>exact{μ1,Z,M1,hE1,hM1,kI h1 x1}
def NC (ha:DE fa X a ga)(hb:DE fa X b gb)(hs:iq b):DE fa X (.Subscript a b pos) (λZ M=>(ga Z M).bind λx M=>(gb Z M).bind λy M=>cm M (b6 x y M)):=
 bB (xA M8 ha hb hs) λσ H Q ⟨μ,Z,M,hE,hM,h⟩=>t2 hE hM h λx y M2 v u H2 μ2 x2 hE2 hM2 r1 r2 h2=>by
  obtain⟨d,e,q⟩:=kJ h2;exact{μ2,M2,x,y,d,hM2,r1,r2,e,q.ext x2}
noncomputable def DO (fa:Fa)(X:Cx)(e:Option Expr)(hp:Bool)(g:Env->Mem->Res D):Prop:=PO X e λσ H Q=>∃μ Z M,bu fa X.K μ H σ Z/\RelM fa X.K μ H M/\ae (g Z M) λd M'=>∃o,eO hp d=true/\pQ d=some o/\∀H' μ',Ext μ H μ' H'->RelM fa X.K μ' H' M'->Q o H'
def HC:DO fa X none false (λ_ M=>.ok .non M):=λpins s σ H Q I ⟨μ,Z,M,hE,hM,o,_,e,k⟩=>by
 cases e;exact GQ pins s σ H Q I (k H μ .refl hM)
def HB (ha:DE fa X a ga):DO fa X (some a) true ga:=λpins s σ H Q I ⟨μ,Z,M,hE,hM,h⟩=>GP ha pins s σ H Q I {μ,Z,M,hE,hM,aH h λd M' ⟨o,p,e,k⟩ v H' μ' x m r=>by
 cases d with
 |int i=>cases e;exact{i,r,k H' μ' x m}
 |_=>cases p}
def part_of {d:D}(h:eO hp d=true):∃o,pQ d=some o:=by
 cases hp<;>cases d<;>first|exact{_,rfl}|cases h
def Nw (m hl hh:Bool){lo hi:Option Expr}(ha:DE fa X a ga)(hlo:DO fa X lo hl gl)(hhi:DO fa X hi hh gh):DE fa X (.Subscript a (.Slice lo hi none p2) pos)
 (λZ M=>(ga Z M).bind λx M=>(gl Z M).bind λl M=>(gh Z M).bind λh M=>if eO hl l&&eO hh h then gM m x l h M else .bad):=
 bB (CK (Gp m) ha hlo hhi) λσ H Q ⟨μ,Z,M,hE,hM,h⟩=>t1 hE hM h λx M1 v H1 μ1 x1 hE1 hM1 r1 h1=>by
  obtain⟨l,M2,e2,h2⟩:=aE h1;obtain⟨u,M3,e3,h3⟩:=aE h2;split at h3
  ·next c=>
   rw[Qy] at c;obtain⟨ol,el⟩:=part_of c.1;obtain⟨ou,eu⟩:=part_of c.2;refine{μ1,Z,M1,hE1,hM1,?_};rw[e2];refine{ol,c.1,el,λH2 μ2 x2 hM2=>{μ2,Z,M2,hE1.ext x2,hM2,?_}};rw[e3];exact{ou,c.2,eu,λH3 μ3 x3 hM3=>{μ3,M3,x,l,u,hM3,(r1.ext x2).ext x3,el,eu,kI h3 ((x1.trans x2).trans x3)}}
  ·exact h3.elim
def LH:DA fa X [] (λ_ M=>.ok [] M):=Ao dI λσ H Q ⟨μ,Z,M,hE,hM,h⟩=>h [] H μ .refl hM rfl
def HM (ha:DE fa X a ga)(hs:DA fa X es gs)(h0:starEach (a::es) X.env=(false,eval a X.env)::starEach es X.env) :
 DA fa X (a::es) (λZ M=>(ga Z M).bind λx M=>(gs Z M).bind λxs M=>.ok (x::xs) M):=
 Ao (cf ha hs h0) λσ H Q ⟨μ,Z,M,hE,hM,h⟩=>t1 hE hM h λx M1 v H1 μ1 x1 hE1 hM1 r1 h1=>tJ hE1 hM1 h1 λxs M2 vs H2 μ2 x2 hE2 hM2 r2 h2=>h2 (v::vs) H2 μ2 (x1.trans x2) hM2 {v,vs,rfl,r1.ext x2,r2}
def Nu (hs:DA fa X es gs):DE fa X (.Tuple es k pos) (λZ M=>(gs Z M).bind lG):=
 bB (JQ hs) λσ H Q ⟨μ,Z,M,hE,hM,h⟩=>tJ hE hM h λxs M1 vs H1 μ1 x1 hE1 hM1 r1 h1=>by
  unfold lG at h1;split at h1
  ·next c=>exact{by rw[r1.length,<- dU];exact c,jm hM1 r1 (aW.ext h1 x1)}
  ·exact h1.elim
def Nz (m:Bool)(hs:DA fa X es gs):DE fa X (.List es pos) (λZ M=>(gs Z M).bind (bh m)):=
 bB (JV hs) λσ H Q ⟨μ,Z,M,hE,hM,h⟩=>tJ hE hM h λxs M1 vs H1 μ1 x1 hE1 hM1 r1 h1=>by
  obtain⟨c,k⟩:=gz hM1 r1 (kI h1 x1);exact{by rw[r1.length,<- dU];exact c,k}
end
def sd (o:Obj)(f:Array Qr->Array Qr):(o.mapFields f).dict=o.dict:=by
 obtain⟨c,d,dt,sl⟩:=o;cases dt<;>rfl
section
variable{P:Rp}{w:Rr}{M:Model}{A:RW}{E:Qr->Qu->Prop}{base:Heap}{env:R6}{outer:List R6}{L a C:Addr}{dx:Option Addr}{New:Addr->Prop}{H:Hp}{s:Qu}{Q:Unit->Qu->Prop}
def vO (hfr:A.frames=some (env::outer))(hl:s.heap.FunFrames base (env::outer))(hf:env.frame=some L)
 (he:s.heap.get? a=some oe) (hd:oe.data=.fields vs) (hsz:1<vs.size)
 (h:∀h' T oT ts,(∀b o,b∉gg (env::outer)->b≠a->s.heap.get? b=some o->h'.get? b=some o)->(∀b o,b≠a->s.heap.get? b=some o->∃sl,h'.get? b=some {o with slots:=sl})->s.heap.objs.size<=T->T≠a->
  h'.get? a=some (oe.mapFields (·.setIfInBounds 1 (.ref T)))->h'.get? T=some oT->oT.data=.fields ts->ts[3]?=some .none->Q () {s with heap:=h'}) :
 wpAny M A (do let f <- frameOf env;let pl <- entryPlaceOf L had;let b <- EntryCells.newEntry head f .none (rawInt L) .none pl;setField (.ref a) 1 b) (λ_ s'=>wpAny M A (setFlight (.ref a) none) Q E s') E s:=by
 have hene:a∉gg (env::outer):=λhm=>by
  obtain⟨_,o,ho,hnf⟩:=hl.mem hm;rw[he] at ho;cases ho;exact hnf vs hd
 refine tqa (wpAny_frameOf_fun hfr hl hf λh₁ hs₁=>?_);refine tqa (wpAny_entryPlaceOf λpl hpl=>?_);refine tqa (wpAny_newObj_type ?_ (hpl.sizeOk5 _ _ _ _ _));have he₁:h₁.get? a=some oe:=(hs₁.2.1 a hene).trans he;generalize ho:({cls:=.type "traceback",dict:=none,data:=.fields ([head,.ref L,.none,rawInt L,.none]++(if pl.isEmpty then List.replicate 6 Value.none else pl)).toArray}:Obj)=o;have hod:o.data=.fields ([head,.ref L,.none,rawInt L,.none]++(if pl.isEmpty then List.replicate 6 Value.none else pl)).toArray:=by rw[<- ho]
 have he₂:=Qt o he₁;refine wpAny_setField he₂ hd hsz ?_;have hTe:=Rz (QK he₁);have hd₃:=R9 hd (·.setIfInBounds 1 (Value.ref h₁.objs.size));have he₃:=Ry (Obj.mapFields (·.setIfInBounds 1 (Value.ref h₁.objs.size))) he₂ (SN hd₃);have hT₃:=(Rn (h₁.push o) (Obj.mapFields (·.setIfInBounds 1 (Value.ref h₁.objs.size))) (RC hTe)).trans (QM h₁ (SN hod));refine tqa (tqf he₃ hd₃ (x:=.ref h₁.objs.size) (by simp[hsz]) ?_)
 rw[if_pos `s]
 refine wpAny_setField hT₃ hod (by simp only[QI,Rb,RY,List.length_nil]<;>omega) ?_
 have keep:∀b u,b≠a->h₁.get? b=some u->(((h₁.push o).update a (Obj.mapFields (·.setIfInBounds 1 (Value.ref h₁.objs.size)))).update h₁.objs.size (Obj.mapFields (·.setIfInBounds 3 ((none:Option Addr).elim Value.none λf=>rawInt f)))).get? b=some u:=λb u hbe hb=>by
  have hbT:=Rz (QK hb);rw[Rn _ _ hbT,Rn _ _ (RC hbe)];exact Qt _ hb
 refine h _ h₁.objs.size _ _ (λb u hb hbe q=>keep b u hbe ((hs₁.2.1 b hb).trans q)) (λb u hbe q=>?_) (Nat.le_of_eq hs₁.1.symm) hTe ?_ (Ry _ hT₃ (SN (R9 hod _))) (R9 hod _) ?_
 ·obtain⟨sl,e⟩:=hs₁.2.2 b u q;exact{sl,keep b _ hbe e}
 ·rw[Rn _ _ hTe];exact he₃
 ·first|(simp;done)|(rcases hpl with rfl|⟨_,_,_,_,_,_,_,rfl⟩<;>simp)
def v7 (hfr:A.frames=some (env::outer))(hl:s.heap.FunFrames base (env::outer))(hf:env.frame=some L)(hF:ny New C dx a s.heap H)(hN:∀b,s.heap.objs.size<=b->New b)(hok:eJ P w H s.heap)(hfree:∀b∈gg (env::outer),H b=none)
 (h:∀h' ch,(∀b∈ch,New b/\H b=none/\∃o vs,s.heap.get? b=some o/\o.data=.fields vs)->Un (gg (env::outer)) ch H H s.heap h'->eJ P w H h'->ny New C dx a h' H->Q () {s with heap:=h'}) :
 wpAny M A (noteFrame (.ref a) env) (λ_ s1=>wpAny M A (setFlight (.ref a) none) Q E s1) E s:=by
 obtain⟨na,ha,oe,vs,he,hc,hdx,hd,tr⟩:=hF;have fin:∀h' ch,(∀b∈ch,New b/\H b=none/\∃o vs,s.heap.get? b=some o/\o.data=.fields vs)->(∀b o,b∉gg (env::outer)->b∉ch->s.heap.get? b=some o->h'.get? b=some o)->(∀b o,b∉ch->s.heap.get? b=some o->∃sl,h'.get? b=some {o with slots:=sl})->ny New C dx a h' H->Q () {s with heap:=h'}:=λh' ch hch keep slot fl=>by
  refine h h' ch hch {λb o q _ hb hx=>keep b o hb hx q,λb o q _ _ hx=>slot b o hx q,λ_ _ _ n _=>n,λb o q hx=>let⟨sl,e⟩:=slot b o hx q;{_,e},λ_ _ e=>e,λ_ _ _ e=>e,λb ps e=>{#[],by rw[e];simp}} (λb u e=>(hok b u e).stay (λc v hc q=>?_) (λ_ q=>q) λ_ _ q=>q) fl
  have nn:H c≠none:=by rcases hc with z|z<;>(intro z';first|(rw[z,e] at z';cases z')|(rw[z] at z';cases z'))
  exact keep c v (λz=>nn (hfree c z)) (λz=>nn (hch c z).2.1) q
 unfold noteFrame;simp only[hf];rcases tr with h1|⟨T,oT,ts,h1,hTa,nT,hT0,hT,hdT,h3⟩
 ·refine tqa (tqf he hd h1 ?_);rw[if_neg `d]
  refine vO hfr hl hf he hd (Sd.mp h1).1 λh' T oT ts k1 k2 k3 k4 k5 k6 k7 k8=>?_;refine fin h' [a] (λb hb=>?_) (λb o hb hx q=>k1 b o hb (λz=>hx (by simp[z])) q) (λb o hx q=>k2 b o (λz=>hx (by simp[z])) q) {na,ha,_,_,k5,?_,?_,R9 hd _,.inr {T,oT,ts,by simp[(Sd.mp h1).1],k4,hN _ k3,hok.fresh k3,k6,k7,k8}}
  ·rcases QF.mp hb with rfl
   exact⟨na,ha,oe,vs,he,hd⟩
  ·rw[Obj.cls_mapFields];exact hc
  ·rw[sd];exact hdx
 ·refine tqa (tqf he hd h1 ?_);rw[if_pos `s]
  refine tqa (tqf hT hdT h3 ?_);rw[if_neg (by simp[rawInt])]
  refine tqa (wpAny_setField hT hdT (Sd.mp h3).1 ?_);have other:∀b,b≠T->(s.heap.update T (Obj.mapFields (·.setIfInBounds 3 Value.none))).get? b=s.heap.get? b:=λb hb=>Rn _ _ (RC hb);have noRec:∀b o,s.heap.get? b=some o->(∀vs,o.data≠.fields vs)->b≠T:=λb o hb hnf q=>by
   rw[q,hT] at hb;cases hb;exact hnf ts hdT
  have hz:(s.heap.update T (Obj.mapFields (·.setIfInBounds 3 Value.none))).objs.size=s.heap.objs.size:=Heap.size_after_update ..;refine vO hfr (hl.of_keeps λb o hb hnf=>{o,(other b (noRec b o hb hnf)).trans hb,rfl}) hf ((other a (RC hTa)).trans he) hd (Sd.mp h1).1 λh' T' oT' ts' k1 k2 k3 k4 k5 k6 k7 k8=>?_;have k3:s.heap.objs.size<=T':=by rw[<- hz];exact k3
  refine fin h' [a,T] (λb hb=>?_) (λb o hb hx q=>k1 b o hb (λz=>hx (by simp[z])) ((other b (λz=>hx (by simp[z]))).trans q)) (λb o hx q=>k2 b o (λz=>hx (by simp[z])) ((other b (λz=>hx (by simp[z]))).trans q)) {na,ha,_,_,k5,?_,?_,R9 hd _,.inr {T',oT',ts',by simp[(Sd.mp h1).1],k4,hN _ k3,hok.fresh k3,k6,k7,k8}}
  ·rcases Rf.mp hb with rfl|hb
   ·exact⟨na,ha,oe,vs,he,hd⟩
   ·rcases QF.mp hb with rfl
    exact⟨nT,hT0,oT,ts,hT,hdT⟩
  ·rw[Obj.cls_mapFields];exact hc
  ·rw[sd];exact hdx
end
noncomputable def iY (P:Rp)(w:Rr):oE:=λouter H s E e s'=>∃a C dx H',e=.ref a/\s'.os=s.os/\AllBare s'.gens/\Un (gg outer) [] H H' s.heap s'.heap/\eJ P w H' s'.heap/\ny (λb=>s.heap.get? b=none) C dx a s'.heap H'/\E (.ref C) dx H'
def ny.imp (f:ny New C dx a h H)(i:∀b,New b->New' b):ny New' C dx a h H:=by
 obtain⟨na,ha,o,vs,h1,h2,h3,h4,tr⟩:=f;refine{i _ na,ha,o,vs,h1,h2,h3,h4,?_};rcases tr with t|⟨T,oT,ts,t1,t2,t3,t4⟩
 ·exact .inl t
 ·exact .inr {T,oT,ts,t1,t2,i _ t3,t4}
section
variable{P:Rp}{w:Rr}{K:Qp}{mg:Str->Option Qr}{base:Heap}{N:List Str}{qual:Str}{scope:Scope}{f:Addr}{cd:Qr}{A:RW}{outer:List R6}{s:Qu}{H:Hp}{E:XK}
def C1 (I:Inv (gD (iY P w) P w K mg base N qual scope f cd A outer s H E) pins σ H' s')(hF:ny (yC (gD (iY P w) P w K mg base N qual scope f cd A outer s H E)) C dx a s'.heap H')(hE:E (.ref C) dx H') :
 (gD (iY P w) P w K mg base N qual scope f cd A outer s H E).xe (.ref a) s':=by
 have hst:=I.stack;have hsz:=I.sz;have hL:∀b o,s.heap.get? b=some o->b∈gg (envOfC qual scope s.heap.objs.size f cd::outer)->b∈gg outer:=λb o q hb=>by
  rcases Rf.mp (hb) with e|e
  ·exact absurd (QK q) (by rw[e];exact RL _)
  ·exact e
 unfold gD;refine tqa (v7 (New:=λb=>s.heap.get? b=none) I.ok.frames hst rfl (hF.imp λb z=>z.1) (λb z=>Heap.get?_none_of_le (QH hsz z)) I.hok I.stkFree λh' ch hch u hok fl=>?_);have nch:∀b o,s.heap.get? b=some o->b∉ch:=λb o q z=>by have:=(hch b z).1;rw[q] at this;cases this
 have hb0:=I.base;refine{a,C,dx,H',rfl,I.os,I.bare,{λb o q n hb hx=>?_,λb o q n hb hx=>?_,hb0.free,λb o q hx=>?_,hb0.tups,hb0.frzs,hb0.tbls},hok,fl,hE}
 ·exact u.keep b o (hb0.keep b o q n hb hx) (hb0.free b o q n hx) (λz=>hb (hL b o q z)) (nch b o q)
 ·obtain⟨sl,e⟩:=hb0.slot b o q n hb hx;obtain⟨sl',e'⟩:=u.any e (hb0.free b o q n hx) (nch b o q);exact⟨sl',e'⟩
 ·obtain⟨o',e⟩:=hb0.there b o q hx;exact u.there b o' e (nch b o q)
end
section
variable{X:Cx}{pins:List (Addr×Obj)}{σ:L2.St}{H H':Hp}{s s':Qu}{E:XK}{e:Qr}
def rY (I:Inv X pins σ H s)(hx:X.ex=[])(h:iY X.prog X.w X.stack H s E e s'):∃a C dx H',e=.ref a/\Inv X pins σ H' s'/\ny (yC X) C dx a s'.heap H'/\E (.ref C) dx H':=by
 obtain⟨a,C,dx,H',rfl,os,bare,un,hok,fl,q⟩:=h;refine{a,C,dx,H',rfl,I.call' os un hok bare (λb z=>absurd z `s),fl.imp λb z=>{?_,λp hp e=>?_},q}
 ·cases e:X.s₀.heap.get? b with
  |none=>rfl
  | some o =>
    obtain⟨o',e'⟩:=I.base.there b o e (by rw[hx];simp)
    rw[z] at e';cases e'
 ·have:=(I.pin p (RE _ hp)).1;rw[e,z] at this;cases this
def Di (I:Inv X pins σ H s)(hch:∀b∈ch,X.s₀.heap.get? b=none/\(∃o vs,s.heap.get? b=some o/\o.data=.fields vs)/\∀p∈X.pn++pins,p.1≠b)(u:Un (gg X.stack) ch H H s.heap h')(hok:eJ X.prog X.w H h'):Inv X pins σ H {s with heap:=h'}:=by
 obtain⟨m,⟨o,es,ep,ho,hd,r⟩,hl⟩:=id I.loc;have neL:X.env.locals∉ch:=λz=>by
  obtain⟨o',vs,e,d⟩:=(hch _ z).2.1;rw[ho] at e;cases e;rw[hd] at d;cases d
 have neC:∀x c,X.env.cells.lookup x=some c->c∉ch:=λx c e z=>by
  obtain⟨o',vs,e',d⟩:=(hch _ z).2.1;obtain⟨v,o2,e2,d2⟩:=I.cell x c e;rw[e2] at e';cases e';rw[d2] at d;cases d
 have n0:∀b o,X.s₀.heap.get? b=some o->b∉ch:=λb o e z=>by rw[(hch b z).1] at e;cases e
 have nst:∀b o,X.s₀.heap.get? b=some o->b∉X.fs->b∉gg X.stack:=λb o e n z=>(Rf.mp (I.stkSub b z)).elim (λq=>absurd (QK e) (by rw[q];exact Nat.not_lt.mpr I.ok.above)) n
 obtain⟨sl,hL⟩:=u.any ho I.free neL;have cellK:∀x c,X.env.cells.lookup x=some c->∀v,s.heap.IsCell c v->h'.IsCell c v:=λx c e v ⟨o,ho,hd⟩=>by
  obtain⟨sl,q⟩:=u.any ho (I.freeC x c e) (neC x c e);exact{_,q,hd}
 refine{I.ok,I.os,I.bare,{λb o e n hb hx=>?_,λb o e n hb hx=>?_,I.base.free,λb o e hx=>?_,I.base.tups,I.base.frzs,I.base.tbls},{m,{_,es,ep,hL,hd,r},λi x v e1 e2 e3=>?_},λx c e=>?_,I.free,I.freeC,λp hp=>?_,hok,I.len}
 ·exact u.keep b o (I.base.keep b o e n hb hx) (I.base.free b o e n hx) (nst b o e hb) (n0 b o e)
 ·obtain⟨sl,e1⟩:=I.base.slot b o e n hb hx;obtain⟨sl',e2⟩:=u.any e1 (I.base.free b o e n hx) (n0 b o e);exact⟨sl',e2⟩
 ·obtain⟨o',e1⟩:=I.base.there b o e hx;exact u.there b o' e1 (n0 b o e)
 ·obtain⟨u',r',l⟩:=hl i x v e1 e2 e3;refine{u',r',?_};rcases l with l|⟨k,c,e,z⟩
  ·exact .inl l
  ·exact .inr {k,c,e,cellK x c e _ z}
 ·obtain⟨v,z⟩:=I.cell x c e;exact{v,cellK x c e v z}
 ·obtain⟨e,n,ne,nf,d⟩:=I.pin p hp;exact{u.keep p.1 p.2 e n (λz=>(Rf.mp (I.stkSub _ z)).elim ne nf) λz=>(hch _ z).2.2 p hp rfl,n,ne,nf,d}
end
noncomputable def fC {α:Type}(r:Res α)(k:α->Mem->Prop)(kx:D->Mem->Prop):Prop:=match r with
 |.ok a M=>k a M
 |.err x M=>kx x M
 |.bad=>False
def J8 {α:Type}{r:Res α}{k:α->Mem->Prop}{kx:D->Mem->Prop}(h:ae r k):fC r k kx:=by
 cases r with
 |ok a M=>exact h
 |err=>exact h.elim
 |bad=>exact h
noncomputable def Ft (fa:Fa)(K:Qp)(μ:Mu)(H:Hp)(E:XK)(x:D)(M':Mem):Prop:=∀C dx c p H' μ',Ext μ H μ' H'->RelM fa K μ' H' M'->x=.exc c p->fa (gj c)=some C->vt H' c dx p->E (.ref C) dx H'
def ED:Passes (iY P w) X E0:=λ_ _ _ _ _ _ _ h=>let{_,_,_,_,_,_,_,_,_,_,z}:=h;z.elim
noncomputable def Ex (fa:Fa)(K:Qp)(k:Nat)(call:List D->Mem->Res D):Sp:=λvs H Q E=>vs.length=k/\∃μ M ds,RelM fa K μ H M/\aK fa K μ H ds vs/\fC (call ds M) (aW fa K μ H Q) (Ft fa K μ H E)
noncomputable def h9 (fa:Fa)(P:Rp)(w:Rr)(K:Qp)(mg:Str->Option Qr)(base:Heap)(n:Nat)(f:Nat)(call:List D->Mem->Res D):Prop:=
 (∀ds M,call ds M=.bad)\/∃(ad:Addr) (fd:FuncData) (ps:List Str),fa f=some ad/\PySem.W.keepIn K (.ref ad)=true/\Binds K fd ps []/\(∀ds M,ds.length≠ps.length->call ds M=.bad)/\md P w K mg base (iY P w) (2*n+4) ad fd ps (Ex fa K ps.length call)/\((fa (500+f)).isSome=true->Binds K fd ps [.none])
section
variable{fa:Fa}{X:Cx}{a b d:Expr}{ga gb gd:Env->Mem->Res D}{pos p:Pos}{es:List Expr}{gs:Env->Mem->Res (List D)}{n:Nat}
def Bp {call:List D->Mem->Res D}{r:Res (List D)}(hb:∀ds M,call ds M=.bad)(h:ae (r.bind λds M=>call ds M) P):False:=by
 obtain⟨ds,M,_,q⟩:=aE h;rw[hb] at q;exact q
def si {call:List D->Mem->Res D}(hE:bu fa X.K μ H σ Z)(hM:RelM fa X.K μ H M)(h:ae ((gs Z M).bind λds M=>call ds M) (aW fa X.K μ H Q))
 (hk:∀ds M1,ds.length≠k->call ds M1=.bad):Eu (Ex fa X.K k call) [] E0 (tA fa X.K gs) σ H Q:=by
 refine tJ hE hM h λds M1 vs H1 μ1 x1 hE1 hM1 r1 h1=>?_;rw[Rv];refine{?_,μ1,M1,ds,hM1,r1,J8 (kI h1 x1)};rw[r1.length];by_cases hl:ds.length=k
 ·exact hl
 ·rw[hk ds M1 hl] at h1;exact h1.elim
def LN {call:List D->Mem->Res D}(C:h9 fa X.prog X.w X.K X.mg X.base n f call)(hr:dA (2*n+4) X.A)(hg:Gl X x)(hm:∀ad,fa f=some ad->X.mg x=some (.ref ad))(hs:DA fa X (a::es) gs)
 (hdb:(x==("__debug__":Str))=false) (he:starEach (a::es) X.env=(false,eval a X.env)::starEach es X.env) (hpl:(backTo pos (starEach es X.env)).any (·.1)=false) :
 DE fa X (.Call (.Name x p) (a::es) [] pos) (λZ M=>(gs Z M).bind λds M=>call ds M):=by
 rcases C with hb|⟨ad,fd,ps,h1,h2,h3,h4,F,_⟩
 ·exact λpins s σ H Q I ⟨μ,Z,M,hE,hM,h⟩=>(Bp hb h).elim
 ·exact bB (GU F hr hg (hm ad h1) h2 h3 .nil ED hs hdb he hpl) λσ H Q ⟨μ,Z,M,hE,hM,h⟩=>si hE hM h h4
def HQ {i:Nat}{x:Str}{call:Nat->List D->Mem->Res D}(C:∀f,h9 fa X.prog X.w X.K X.mg X.base n f (call f))(hr:dA (2*n+4) X.A)(hN:X.N[i]?=some x)(hv:Bx X.env.scope x)(hs:DA fa X (a::es) gs)
 (hd:(x==("__debug__":Str))=false) (hcd:(x==("__classdict__":Str))=false) (he:starEach (a::es) X.env=(false,eval a X.env)::starEach es X.env) (hpl:(backTo pos (starEach es X.env)).any (·.1)=false) :
 DE fa X (.Call (.Name x p) (a::es) [] pos) (λZ M=>match Z[i]?.getD none with|some (.fn f)=>(gs Z M).bind λds M=>call f ds M|_=>.bad):=by
 intro pins s σ H Q I ⟨μ,Z,M,hE,hM,h⟩;dsimp only at h;cases e:Z[i]?.getD none with
 |none=>rw[e] at h;exact h.elim
 | some df =>
   cases df with
   | fn f =>
     rw[e] at h;have e':Z[i]?=some (some (.fn f)):=by
      cases q:Z[i]? with
      |none=>rw[q] at e;cases e
      |some o=>rw[q] at e;simp at e;rw[e]
     obtain⟨v,hv1,hv2⟩:=hE.at' i _ e';obtain⟨ad,rfl,had⟩:=hv2;rcases C f with hb|⟨ad',fd,ps,h1,h2,h3,h4,F,_⟩
     ·exact(Bp hb h).elim
     ·rcases had with had|⟨had,_⟩<;>rw[had] at h1<;>cases h1
      refine wpAny_Call_Name_kw (aT (An hN hv hd hcd pins s σ H (λv H'=>v=.ref ad/\H'=H) I {_,hv1,rfl,rfl}) λu s1 ⟨v,H1,I1,r1,e1,e2⟩=>?_);subst e1 e2;obtain rfl:u=Value.ref ad:=r1;refine PySem.W.callWith_K I1.ok.mod.kin h2 (aT (hs pos pins s1 σ H1 _ I1 (si hE hM h h4)) λus s2 ⟨vs,H2,I2,r,q⟩=>{I2.kIn,?_}) he hpl;exact zZ F hr h3 .nil ED I2 r q
   |_=>rw[e] at h;exact h.elim
def yk (f:xg){id:String}(hc:b9 X (.builtin id) (oN fa X.K f))(hg:Gl X x)(hm:X.mg x=none)(hv:bootBuiltins x=some (.builtin id))(hs:DA fa X (a::es) gs)(hn:x≠"__name__")(hdb:(x==("__debug__":Str))=false)
 (he:starEach (a::es) X.env=(false,eval a X.env)::starEach es X.env) (hpl:(backTo pos (starEach es X.env)).any (·.1)=false):DE fa X (.Call (.Name x p) (a::es) [] pos) (λZ M=>(gs Z M).bind λds M=>ft f ds M):=
 bB (ie hc hg hm hv hs hn hdb he hpl) λσ H Q ⟨μ,Z,M,hE,hM,h⟩=>tJ hE hM h λds M1 vs H1 μ1 x1 hE1 hM1 r1 h1=>{μ1,M1,ds,hM1,r1,kI h1 x1}
def A8 (f:xg)(hc:b9 X (.type T) (oN fa X.K f))(hg:Gl X x)(hm:X.mg x=none)(hv:bootBuiltins x=some (.type T))(hs:DA fa X (a::es) gs)(hn:x≠"__name__")(hdb:(x==("__debug__":Str))=false)
 (he:starEach (a::es) X.env=(false,eval a X.env)::starEach es X.env) (hpl:(backTo pos (starEach es X.env)).any (·.1)=false):DE fa X (.Call (.Name x p) (a::es) [] pos) (λZ M=>(gs Z M).bind λds M=>ft f ds M):=
 bB (mE hc hg hm hv hs hn hdb he hpl) λσ H Q ⟨μ,Z,M,hE,hM,h⟩=>tJ hE hM h λds M1 vs H1 μ1 x1 hE1 hM1 r1 h1=>{μ1,M1,ds,hM1,r1,kI h1 x1}
def LI (t:Ty)(ht:∀c,t≠.own c)(ha:DE fa X a ga)(hg:Gl X "isinstance")(hm:X.mg "isinstance"=none)(hv:bootBuiltins "isinstance"=some (.builtin "isinstance"))(hgt:Gl X x)(hmt:X.mg x=none)(hvt:bootBuiltins x=some (.type (tyName t)))
 (hn:x≠"__name__") (hdb:(x==("__debug__":Str))=false)
 (he:starEach [a,.Name x p1] X.env=(false,eval a X.env)::starEach [.Name x p1] X.env):DE fa X (.Call (.Name "isinstance" p2) [a,.Name x p1] [] pos) (λZ M=>(ga Z M).bind λx M=>(cm M (gV t x)).bind λb M=>.ok (.bl b) M):=
 bB (ie (Lb t ht) hg hm hv (cf ha (cf (GV hgt hmt hvt (v:=.ty (tyName t)) rfl hn hdb) dI `r) he) `d `d he `r) λσ H Q ⟨μ,Z,M,hE,hM,h⟩=>t1 hE hM h λx M1 v H1 μ1 x1 hE1 hM1 r1 h1=>by
  obtain⟨b,e,q⟩:=pV h1;exact{μ1,M1,x,v,b,rfl,hM1,r1,e,aQ hM1 (q.ext x1) rfl}
noncomputable def gT (fa:Fa)(K:Qp)(t:fW):TG:=λv σ H Q=>∃μ Z M d ρ1,bu fa K μ H σ Z/\RelM fa K μ H M/\Rep fa K μ H d v/\bX t d Z=some ρ1/\∀σ1,bu fa K μ H σ1 ρ1->Q σ1 H
def ub (h:PG X tg g)(i:∀v σ H Q,g' v σ H Q->g v σ H Q):PG X tg g':=λpins s σ H v u Q I r q=>h pins s σ H v u Q I r (i v σ H Q q)
def vY (h:vD X tg g)(i:∀v σ H Q,g' v σ H Q->g v σ H Q):vD X tg g':=λpins s σ H v u Q I r q=>h pins s σ H v u Q I r (i v σ H Q q)
def HK (hN:X.N.Nodup)(hi:X.N[i]?=some x)(hx:Loc X.env.scope x)(hf:X.fn x=true\/X.env.scope.names.lookup x=some .local):PG X (.Name x pos) (gT fa X.K (.one i)):=
 ub (qF hN hi hx hf) λv σ H Q ⟨μ,Z,M,d,ρ1,hE,hM,r,e,k⟩=>by
  have e':=Qz e;subst e';exact k _ (hE.set r)
noncomputable def KZ (fa:Fa)(K:Qp)(l:List Nat):sH:=λvs σ H Q=>∃μ Z M ds ρ1,bu fa K μ H σ Z/\RelM fa K μ H M/\aK fa K μ H ds vs/\c5 l ds Z=some ρ1/\∀σ1,bu fa K μ H σ1 ρ1->Q σ1 H
inductive ja (X:Cx):List Nat->List Expr->Prop
 |nil:ja X [] []
 |cons {i:Nat}{x:Str}{p:Pos}{l:List Nat}{ns:List Expr} (hi:X.N[i]?=some x) (hx:Loc X.env.scope x) (hf:X.fn x=true\/X.env.scope.names.lookup x=some .local) (r:ja X l ns):ja X (i::l) (.Name x p::ns)
def ja.each (h:ja X l ns):(assignEach ns X.env).length=l.length/\(assignEach ns X.env).findIdx? (·.1)=none:=by
 induction h with
 |nil=>exact⟨rfl,rfl⟩
 | cons hi hx hf r ih =>
   rename_i i x p l ns;have e:assignEach (.Name x p::ns) X.env=(false,assign (.Name x p) X.env)::assignEach ns X.env:=rfl;rw[e];refine{by simp[ih.1],?_}
   rw[List.findIdx?_cons];simp[ih.2]
def uV (hN:X.N.Nodup)(h:ja X l ns):vD X ns (KZ fa X.K l):=by
 induction h with
 | nil =>
   refine vY vX λvs σ H Q ⟨μ,Z,M,ds,ρ1,hE,hM,r,e,k⟩=>?_;cases ds with
   | nil =>
     obtain rfl:vs=[]:=r;have e':=Qz e;subst e';exact{rfl,k _ hE}
   |cons=>cases e
 | cons hi hx hf r ih =>
   refine vY (oR (qF hN hi hx hf) ih `r) λvs σ H Q ⟨μ,Z,M,ds,ρ1,hE,hM,r,e,k⟩=>?_
   cases ds with
   |nil=>cases e
   | cons d ds =>
     obtain⟨v,vr,rfl,r1,r2⟩:=r;exact{v,vr,rfl,μ,_,M,ds,ρ1,hE.set r1,hM,r2,e,k}
def iQ:∀{l:List Nat}{ds:List D}{Z ρ1:Env},c5 l ds Z=some ρ1->ds.length=l.length
 |[],[],_,_,_=>rfl
 |_::_,[],_,_,h=>by cases h
 |[],_::_,_,_,h=>by cases h
 | _ :: l, _ :: ds, _, _, h => by
   have:=iQ (ds:=ds) h;simp[this]
def LF (hc:X.calm=true)(hN:X.N.Nodup)(h:ja X l ns):PG X (.Tuple ns k pos) (gT fa X.K (.tup l)):=
 ub (ua hc (uV hN h) h.each.1 h.each.2) λv σ H Q ⟨μ,Z,M,d,ρ1,hE,hM,r,e,k⟩=>by
  cases d with
  | tup ds =>
    obtain⟨a,vs,rfl,hq,r⟩:=r;exact{a,vs,rfl,hq,by rw[r.length];exact iQ e,μ,Z,M,ds,ρ1,hE,hM,r,e,k}
  |_=>cases e
def ve {d:D}(h:bX (.two j l) d Z=some ρ1):∃e ds,d=.tup [e,.tup ds]/\c5 l ds (Z.set j (some e))=some ρ1:=by
 unfold bX at h;split at h
 ·next e=>cases e
 ·next e=>cases e
 ·next e=>cases e;exact{_,_,rfl,h}
 ·cases h
 ·cases h
def LC (hc:X.calm=true)(hN:X.N.Nodup){ns:List Expr}(hi:X.N[i]?=some x)(hx:Loc X.env.scope x)(hf:X.fn x=true\/X.env.scope.names.lookup x=some .local)(h:ja X l ns):PG X (.Tuple [.Name x px,.Tuple ns k2 p2] k pos) (gT fa X.K (.two i l)):=
 ub (ua hc (oR (qF hN hi hx hf) (oR (ua hc (uV hN h) h.each.1 h.each.2) vX))) λv σ H Q ⟨μ,Z,M,d,ρ1,hE,hM,r,e,k⟩=>by
  obtain⟨d0,ds,rfl,e⟩:=ve e;obtain⟨a,vs,rfl,hq,v0,vs1,rfl,r0,v1,vs2,rfl,r1,r2⟩:=r;obtain rfl:vs2=[]:=r2;obtain⟨b,ws,rfl,hq2,rr⟩:=r1;exact{a,_,rfl,hq,rfl,v0,_,rfl,.ref b,[],rfl,b,ws,rfl,hq2,by rw[rr.length];exact iQ e,μ,Z.set i (some d0),M,ds,ρ1,hE.set r0,hM,rr,e,λσ1 h1=>{rfl,k σ1 h1}}
end
section
variable{fa:Fa}{X:Cx}{a b d:Expr}{ga gb gd:Env->Mem->Res D}{pos p:Pos}{es:List Expr}{gs:Env->Mem->Res (List D)}{n:Nat}
def Lv (ha:DE fa X a ga)(hg:PG X tg (gT fa X.K t))(hs:swapsWithSole [tg] a pos.line X.env=pure false)(hw:swappedStores [tg] a X.env=pure none)(h1:(assignEach [tg] X.env).map (·.2)=[assign tg X.env]) :
 DS fa X (.Assign [tg] a pos) (λZ M=>(ga Z M).bind λx M=>(cm M (bX t x Z)).bind λρ1 M=>.ok (.next ρ1) M):=
 dR (pO ha hg hs hw h1) λD σ H ⟨μ,Z,M,hE,hM,h⟩=>t1 hE hM h λx M1 v H1 μ1 x1 hE1 hM1 r1 h1=>by
  obtain⟨ρ1,M2,e,q⟩:=aE h1;cases eb:bX t x Z with
  |none=>rw[eb] at e;cases e
  | some ρ2 =>
    rw[eb] at e;cases e;exact{μ1,Z,M1,x,ρ1,hE1,hM1,r1,eb,λσ1 hE2=>q σ1 H1 μ1 x1 hE2 hM1}
def mv {D':Ends}{ad:Addr}(hE:bu fa X.K μ H σ Z)(hM:RelM fa X.K μ H M)(hk:μ.pub k=some ad)(r:aK fa X.K μ H ds ws)
 (q:∀σ' H' μ',Ext μ H μ' H'->bu fa X.K μ' H' σ' Z->RelM fa X.K μ' H' (M.set k ds)->D'.nx σ' H'):D'.nx σ (upd H ad (.lst ws)):=
 q σ _ μ (Ext.write (vs:=ws) hM hk) (hE.ext (Ext.write (vs:=ws) hM hk)) (hM.write hk r)
def Lq (ha:DE fa X a ga)(hb:DE fa X b gb)(hd:DE fa X d gd){p2:Pos}
 (h0:∀v,assign (.Subscript a b p2) X.env v=(do
  let ov <- holding [v] (eval a X.env)
  let iv <- holding [v,ov] (eval b X.env)
  standAt p2
  holding [v,ov,iv] (setItem ov iv v)
  release [v,ov,iv] [])) (hs:swapsWithSole [.Subscript a b p2] d pos.line X.env=pure false) (hw:swappedStores [.Subscript a b p2] d X.env=pure none) (h1:(assignEach [.Subscript a b p2] X.env).map (·.2)=[assign (.Subscript a b p2) X.env]) :
 DS fa X (.Assign [.Subscript a b p2] d pos) (λZ M=>(gd Z M).bind λz M=>(ga Z M).bind λx M=>(gb Z M).bind λy M=>match x,y with
  | .cell k, .int n => match M[k]? with
    | some ds => match cv ds.length n with
      |some j=>.ok (.next Z) (M.set k (ds.set j z))
      |none=>.bad
    |none=>.bad
  |_,_=>.bad):=
 dR (pO hd (Am ha hb set_list h0) hs hw h1) λD' σ H ⟨μ,Z,M,hE,hM,h⟩=>t1 hE hM h λz M1 v H1 μ1 x1 hE1 hM1 r1 h1=>t2 hE1 hM1 h1 λx y M2 vx vy H2 μ2 x2 hE2 hM2 rx ry h2=>by
  have key:∀k n,x=.cell k->y=.int n->EC vx vy v H2 λH3=>D'.nx σ H3:=λk n e1 e2=>by
   subst e1 e2;dsimp only at h2;cases e:M2[k]? with
   |none=>rw[e] at h2;exact h2.elim
   | some ds =>
     rw[e] at h2;dsimp only at h2;cases ej:LD.cv ds.length n with
     |none=>rw[ej] at h2;exact h2.elim
     | some j =>
       rw[ej] at h2;obtain⟨ad,rfl,hk⟩:=rx;obtain⟨ws,h4,h5⟩:=hM2.at_ e hk;have q:=h2;refine{ad,ws,n,j,rfl,ry,h4,by rw[h5.length];exact ej,mv hE2 hM2 hk (h5.set j (r1.ext x2)) λσ' H' μ' x' e' m'=>q σ' H' μ' ((x1.trans x2).trans x') e' m'}
  cases x with
  | cell k => cases y with
    |int n=>exact key k n rfl rfl
    |_=>exact h2.elim
  |_=>exact h2.elim
def Lw (ha:DE fa X a ga)(hd:DE fa X d gd){apos cpos:Pos}(hbase:attributeBase a "append" X.env (eval a X.env)=eval a X.env)(hline:(apos.endLine==cpos.line)=true)(hs:starEach [d] X.env=[(false,eval d X.env)])
 (hsw:swapsWith (.Call (.Attribute a "append" apos) [d] [] cpos) none pos.line X.env=pure false) :
 DS fa X (.Expr (.Call (.Attribute a "append" apos) [d] [] cpos) pos) (λZ M=>(ga Z M).bind λx M=>(gd Z M).bind λz M=>match x with
  | .cell k => match M[k]? with
    |some ds=>if ds.length<sz then .ok (.next Z) (M.set k (ds++[z])) else .bad
    |none=>.bad
  |_=>.bad):=
 dR (nI (xB PySem.F.plainAttrs_list PySem.F.slot_list_append PySem.F.type_list_append mH ha (cf hd dI hs) hbase (by rw[hs];rfl) hline hs `r) hsw) λD' σ H ⟨μ,Z,M,hE,hM,h⟩=>by
  obtain⟨x,M1,e1,h1⟩:=aE h;obtain⟨z,M2,e2,h2⟩:=aE h1;cases x with
  | cell k =>
    dsimp only at h2;cases e:M2[k]? with
    |none=>rw[e] at h2;exact h2.elim
    | some ds =>
      rw[e] at h2;dsimp only at h2;split at h2
      ·next hz=>
       have q:=h2;refine{μ,Z,M,hE,hM,?_};rw[e1];intro vx H1 μ1 x1 hM1 rx;obtain⟨ad,rfl,hk⟩:=rx;obtain⟨ds1,ws1,_,hH1,_⟩:=hM1.mu_lt hk;refine{.inl {rfl,ws1,c7.of hH1},μ1,Z,M1,hE.ext x1,hM1,?_};rw[e2];intro vz H2 μ2 x2 hM2 rz;obtain⟨ws,h4,h5⟩:=hM2.at_ e (x2.mu k ad hk);refine{ad,ws,vz,rfl,rfl,h4,by rw[h5.length,<- dU];exact hz,?_}
       exact mv ((hE.ext x1).ext x2) hM2 (x2.mu k ad hk) (h5.append (.one rz)) λσ' H' μ' x' e' m'=>q σ' H' μ' ((x1.trans x2).trans x') e' m'
      ·exact h2.elim
  |_=>exact h2.elim
def Np (ha:DE fa X a ga)(hs:swapsWith a none pos.line X.env=pure false):DS fa X (.Expr a pos) (λZ M=>(ga Z M).bind λ_ M=>.ok (.next Z) M):=
 dR (nI ha hs) λD' σ H ⟨μ,Z,M,hE,hM,h⟩=>t1 hE hM h λx M1 v H1 μ1 x1 hE1 hM1 r1 h1=>h1 σ H1 μ1 x1 hE1 hM1
def Lp (ha:DE fa X a ga):DS fa X (.Return (some a) pos) (λZ M=>(ga Z M).bind λx M=>.ok (.ret x) M):=
 dR (Ag ha) λD' σ H ⟨μ,Z,M,hE,hM,h⟩=>by
  obtain⟨x,M1,e,q⟩:=aE h;refine{μ,Z,M,hE,hM,?_};rw[e];exact q
def Hw:DS fa X (.Return none pos) (λ_ M=>.ok (.ret .non) M):=dR GL λD' σ H ⟨μ,Z,M,hE,hM,h⟩=>aQ hM h rfl
def Hx:DS fa X (.Pass pos) (λZ M=>.ok (.next Z) M):=dR GN λD' σ H ⟨μ,Z,M,hE,hM,h⟩=>h σ H μ .refl hE hM
def nz.ext (x:Ext μ H μ' H')(q:nz fa X μ H D' fl M):nz fa X μ' H' D' fl M:=by
 cases fl with
 |next ρ'=>exact λσ' H'' μ'' y e m=>q σ' H'' μ'' (x.trans y) e m
 |ret d=>exact aW.ext q x
 |exc x' ρ'=>exact XW.ext q x
def J9 (x:Ext μ H μ' H')(h:ae r (nz fa X μ H D')):ae r (nz fa X μ' H' D'):=aH h λfl M q=>q.ext x
def Lr {st sf:List Stmt}(hc:DT fa X c gc)(ht:la fa X st gt)(hf:la fa X sf gf):DS fa X (.If c st sf pos) (λZ M=>(gc Z M).bind λk M=>if k then gt Z M else gf Z M):=
 dR (MF hc ht hf) λD' σ H ⟨μ,Z,M,hE,hM,h⟩=>zx hE hM h λk M1 H1 μ1 x1 hE1 hM1 h1=>by
  cases k with
  |true=>exact{μ1,Z,M1,hE1,hM1,J9 x1 h1}
  |false=>exact{μ1,Z,M1,hE1,hM1,J9 x1 h1}
def Hv:la fa X [] (λZ M=>.ok (.next Z) M):=vW GK λD' σ H ⟨μ,Z,M,hE,hM,h⟩=>h σ H μ .refl hE hM
def Dt {st:Stmt}(h1:DS fa X st g)(h2:la fa X ss g'):la fa X (st::ss) (λZ M=>(g Z M).bind λfl M=>match fl with
 |.next Z=>g' Z M
 |fl=>.ok fl M):=
 vW (CH h1 h2) λD' σ H ⟨μ,Z,M,hE,hM,h⟩=>by
  obtain⟨fl,M1,e,q⟩:=aE h;refine{μ,Z,M,hE,hM,?_};rw[e];cases fl with
  |next ρ1=>exact λσ1 H1 μ1 x1 hE1 hM1=>{μ1,ρ1,M1,hE1,hM1,J9 x1 q}
  |ret d=>exact q
  |exc x ρ1=>exact q
end
noncomputable def dN (fa:Fa)(K:Qp)(μ0:Mu)(H0:Hp)(w:Walk)(J:It):Prop:=
 ∀(μ:Mu) (H:Hp) (M:Mem) (ds:List D),ExtW μ0 H0 μ H->RelM fa K μ H M->w M=some ds->(∀(i:Nat) (d:D),ds[i]?=some d->J.go i H/\∀x H',J.yld i H x H'->Ext μ H μ H'/\RelM fa K μ H' M/\Rep fa K μ H' d x)/\∀i,ds.length<=i->J.stop i H
noncomputable def tI (fa:Fa)(K:Qp)(g:Env->Mem->Res Walk):TI:=λσ H R=>∃μ Z M,bu fa K μ H σ Z/\RelM fa K μ H M/\ae (g Z M) λw M'=>∀J H' μ',Ext μ H μ' H'->RelM fa K μ' H' M'->dN fa K μ' H' w J->R J H'
abbrev DI (fa:Fa)(X:Cx)(tg iter:Expr)(g:Env->Mem->Res Walk):Prop:=PI X tg iter (tI fa X.K g)
def rK {K:Qp}(h:dN fa K μ0 H0 w J)(x:ExtW μ0 H0 μ1 H1):dN fa K μ1 H1 w J:=λμ H M ds y hM e=>h μ H M ds (x.trans y) hM e
section
variable{fa:Fa}{X:Cx}{tg a b d:Expr}{ga gb gd:Env->Mem->Res D}{pos p:Pos}{es:List Expr}{n:Nat}
def yT {ad:Addr}(h:Rep fa X.K μ0 H0 dd (.ref ad)):dN fa X.K μ0 H0 (λM=>eB M dd) (Me X.K ad):=λμ H M ds x hM e=>by
 obtain⟨ad',vs,ea,s,r⟩:=bG hM (Rep.extW x h) e;cases ea;refine{λi d hd=>?_,λi hi=>{vs,s,by rw[r.length];exact hi}}
 obtain⟨v,hv,rv⟩:=r.get hd;refine{⟨vs,v,s,hv⟩,λy H' ⟨e,hy⟩=>?_};subst e;have:=hy vs s;rw[hv] at this;cases this;exact{.refl,hM,rv}
def BH {ad:Addr}(h:Rep fa X.K μ0 H0 (.tup ds) (.ref ad)):dN fa X.K μ0 H0 (λ_=>some ds) (Md X.K ad):=λμ H M ds' x hM e'=>by
 cases e';obtain⟨ad',vs,e,s,r⟩:=Rep.extW x h;cases e;refine{λi d hd=>?_,λi hi=>{vs,s,by rw[r.length];exact hi}}
 obtain⟨v,hv,rv⟩:=r.get hd;refine{⟨vs,v,s,hv⟩,λy H' ⟨e,hy⟩=>?_};subst e;have:=hy vs s;rw[hv] at this;cases this;exact{.refl,hM,rv}
def BI (lo:Int)(n:Nat):dN fa X.K μ0 H0 (λ_=>some ((List.range n).map λ(k:Nat)=>D.int (lo+(k:Int)))) (Fx lo n):=λμ H M ds x hM e=>by
 cases e;refine{λi d hd=>?_,λi hi=>(show n<=i by simpa using hi)}
 rw[QL] at hd;by_cases hi:i<n
 ·rw[SU hi] at hd;have e:=Qz hd;subst e;refine{hi,λy H' ⟨e1,e2⟩=>?_};subst e1 e2;exact{.refl,hM,rfl}
 ·rw[List.getElem?_eq_none (by simpa using hi)] at hd;cases hd
noncomputable def bR (ga:Env->Mem->Res D):Env->Mem->Res Walk:=λZ M=>(ga Z M).bind λx M=>match x with
 |.lst ds=>.ok (λ_=>some ds) M
 |.tup ds=>.ok (λ_=>some ds) M
 |.frz ds=>.ok (λ_=>some ds) M
 |.cell k=>.ok (λM=>M[k]?) M
 |_=>.bad
def LB (ha:DE fa X a ga):DI fa X tg a (bR ga):=λpins s σ H R I ⟨μ,Z,M,hE,hM,h⟩=>by
 obtain⟨x,M1,e,q⟩:=aE h;have lst:(∀μ' H',RelM fa X.K μ' H' M1->∀v,Rep fa X.K μ' H' x v->∃ds,eB M1 x=some ds)->(∀J H' μ',Ext μ H μ' H'->RelM fa X.K μ' H' M1->dN fa X.K μ' H' (λM=>eB M x) J->R J H')->
  wpAny (model X.prog X.w) X.A (eval a X.env) (λv s1=>wpAny (model X.prog X.w) X.A (pyIter v) (L8 X pins σ tg R) X.xe s1) X.xe s:=λhx q=>by
  refine GR ha pins s σ H R I {μ,Z,M,hE,hM,?_};rw[e];intro v H1 μ1 x1 m1 r1;obtain⟨ds,er⟩:=hx μ1 H1 m1 v r1;obtain⟨ad,vs,rfl,s1,r⟩:=bG m1 r1 er;exact{ad,rfl,⟨vs,s1⟩,q _ H1 μ1 x1 m1 (yT r1)}
 cases x with
 |lst ds=>exact lst (λ_ _ _ _ _=>⟨ds,rfl⟩) q
 |frz ds=>exact lst (λ_ _ _ _ _=>⟨ds,rfl⟩) q
 | tup ds =>
   refine JP ha pins s σ H R I {μ,Z,M,hE,hM,?_};rw[e];intro v H1 μ1 x1 m1 r1;obtain⟨ad,vs,rfl,s1,r⟩:=id r1;exact{ad,rfl,⟨vs,s1⟩,q _ H1 μ1 x1 m1 (BH r1)}
 |cell k=>exact lst (λμ' H' m' v ⟨ad,_,hk⟩=>let{ds,_,e,_}:=m'.mu_lt hk;⟨ds,e⟩) q
 |_=>exact q.elim
noncomputable def cZ (ga:Env->Mem->Res D):Env->Mem->Res Walk:=λZ M=>(ga Z M).bind λx M=>match x with
 |.int n=>if -(2^62)<=n/\n<2^62 then .ok (λ_=>some ((List.range n.toNat).map λ(k:Nat)=>D.int (k:Int))) M else .bad
 |_=>.bad
def HH (ha:DE fa X a ga)(hg:Gl X "range")(hm:X.mg "range"=none)(hs:starEach [a] X.env=[(false,eval a X.env)]):DI fa X tg (.Call (.Name "range" p) [a] [] pos) (cZ ga):=λpins s σ H R I ⟨μ,Z,M,hE,hM,h⟩=>by
 refine Al hg hm (cf ha dI hs) hs pins s σ H R I ?_;refine t1 hE hM h λx M1 v H1 μ1 x1 hE1 hM1 r1 h1=>?_;cases x with
 | int n =>
   dsimp only at h1;split at h1
   ·next c=>
    obtain rfl:v=.int n:=r1;refine{n,rfl,c.1,c.2,h1 _ H1 μ1 x1 hM1 ?_};have:=BI (fa:=fa) (X:=X) (μ0:=μ1) (H0:=H1) 0 n.toNat;simpa using this
   ·exact h1.elim
 |_=>exact h1.elim
noncomputable def iw (t:fW)(gb:Env->Mem->Res Fl):Fl->D->Mem->Res Fl:=λfl d M=>match fl with
 |.next Z=>(cm M (bX t d Z)).bind λρ1 M=>gb ρ1 M
 |fl=>.ok fl M
noncomputable def Fl.out:Fl->Bool
 |.next _=>false
 |_=>true
def lK {gb:Env->Mem->Res Fl}(ho:fl.out=true):∀(n i:Nat) (M:Mem),ae (gp (iw t gb) w n i fl M) P->P fl M
 |0,_,_,h=>h.elim
 | n + 1, i, M, h => by
   unfold gp at h;cases e:w M with
   |none=>rw[e] at h;exact h.elim
   | some ds =>
     rw[e] at h;dsimp only at h;cases e2:ds[i]? with
     |none=>rw[e2] at h;exact h
     | some d' =>
       rw[e2] at h;cases fl with
       |next Z=>cases ho
       |ret d=>exact lK ho n (i+1) M h
       |exc x Z=>exact lK ho n (i+1) M h
noncomputable def tL (fa:Fa)(X:Cx)(g:Env->Mem->Res Fl):TS:=λD σ H=>(∀σ H,D.nx σ H->D.ct σ H)/\tF fa X g D σ H
abbrev OB (fa:Fa)(X:Cx)(st:List Stmt)(g:Env->Mem->Res Fl):Prop:=k9 X st (tL fa X g)
def Nq {body:List Stmt}{gb:Env->Mem->Res Fl}(h:la fa X body gb):OB fa X body gb:=λpins s σ H D I q=>h pins s σ H D I q.2
def Lu {gw:Env->Mem->Res Walk}{gb:Env->Mem->Res Fl}(hp:PassesOwn (model X.prog X.w) X.A X.env X.xe)(hc:X.calm=true)(hi:DI fa X tg a gw)(hg:PG X tg (gT fa X.K t))(hb:OB fa X body gb)
 (hs:∀x,foldedSetIterable a X.env x=pure x):DS fa X (.For tg a body [] pos) (λZ M=>(gw Z M).bind λw M=>cL (iw t gb) w (.next Z) M):=
 dR (JM hp hc hi hg hb hs) λD' σ H ⟨μ,Z,M,hE,hM,h⟩=>by
  obtain⟨w,M1,e,q⟩:=aE h;refine{μ,Z,M,hE,hM,?_};rw[e];intro J H1 μ1 x1 hM1 wk;have hE1:=hE.ext x1;refine{λi m σ' H'=>∃μ' ρ' M',Ext μ1 H1 μ' H'/\bu fa X.K μ' H' σ' ρ'/\RelM fa X.K μ' H' M'/\ae (gp (iw t gb) w m i (.next ρ') M') (nz fa X μ H D'),
   {_,μ1,Z,M1,.refl,hE1,hM1,q},?_}
  rintro i m σ2 H2 ⟨μ2,ρ2,M2,x2,hE2,hM2,q2⟩;cases m with
  |zero=>exact q2.elim
  | succ m =>
    unfold gp at q2;cases e2:w M2 with
    |none=>rw[e2] at q2;exact q2.elim
    | some ds =>
      rw[e2] at q2;dsimp only at q2;obtain⟨go,stop⟩:=wk μ2 H2 M2 ds x2.toExtW hM2 e2;cases ed:ds[i]? with
      | none =>
        rw[ed] at q2;exact .inl {stop i (List.getElem?_eq_none_iff.mp ed),q2 σ2 H2 μ2 (x1.trans x2) hE2 hM2}
      | some d =>
        rw[ed] at q2;obtain⟨g1,g2⟩:=go i d ed;refine .inr {g1,λσ' H'=>∃μ' ρ' M',Ext μ1 H1 μ' H'/\bu fa X.K μ' H' σ' ρ'/\RelM fa X.K μ' H' M'/\ae (gp (iw t gb) w m (i+1) (.next ρ') M') (nz fa X μ H D'),λσ' H' z=>{m,`a,z},λy H3 hy=>?_}
        obtain⟨x3,hM3,r3⟩:=g2 y H3 hy;obtain⟨fl,M4,e4,q4⟩:=aE q2;obtain⟨ρ4,M5,e5,e6⟩:=e9 e4;cases eb:bX t d ρ2 with
        |none=>rw[eb] at e5;cases e5
        | some ρ5 =>
          rw[eb] at e5;cases e5;refine{μ2,ρ2,_,d,ρ4,hE2.ext x3,hM3,r3,eb,λσ5 hE5=>{λ_ _ z=>z,μ2,ρ4,_,hE5,hM3,?_}};rw[e6];cases fl with
          |next ρ6=>exact λσ6 H6 μ6 x6 hE6 hM6=>{μ6,ρ6,M4,(x2.trans x3).trans x6,hE6,hM6,q4}
          |ret d6=>exact(lK rfl m (i+1) M4 q4).ext ((x1.trans x2).trans x3)
          |exc x6 ρ6=>exact(lK rfl m (i+1) M4 q4).ext ((x1.trans x2).trans x3)
end
abbrev FF:Qr->Qu->Prop:=λ_ _=>False
section
variable{prog:Rp}{w:Rr}{A:RW}{s:Qu}
def Bb
 (heq:compTurn ce k it acc env=(standAt p >>= λ_=>pyNext it >>= λr=>match r with
  |none=>pure (.done .next)
  |some v=>letOwnedTupleGo target it v >>= λ_=>assign target env v >>= λ_=>body >>= λ_=>again (.compLoop ce k it acc env)))
 (hd:(model prog w).den (.compLoop ce k it acc env)=(compTurn ce k it acc env).onRaise (λx=>do noteFrame x env;theTreesLotGoes x)/\A.under (.compLoop ce k it acc env)=A) (I:Nat->Qu->Prop)
 (turn:∀n s,I n s->wpAny (model prog w) A (pyNext it) (λr s₁=>match r with
  |none=>R (.ok .next) s₁
  |some v=>wpAny (model prog w) A (letOwnedTupleGo target it v) (λ_ s₂=>wpAny (model prog w) A (assign target env v) (λ_ s₃=>wpAny (model prog w) A body (λ_ s₄=>∃m,m<n/\I m s₄) FF s₃) FF s₂) FF s₁) FF s)
 (n:Nat) (h:I n s):codeAny (model prog w) A (.compLoop ce k it acc env) R s:=by
 refine codeAny_loop rfl I (λn s hI=>?_) n h;rw[hd.1,hd.2];refine wpAny_noted ?_;rw[heq];refine wpAny_noRaise ?_;refine tqa (wpAny_standAt (tqa (aT (turn n s hI) λr s₁ h₁=>?_)));cases r with
 |none=>exact tqb h₁
 | some v =>
   refine tqa (aT h₁ λ_ s₂ h₂=>?_);exact tqa (aT h₂ λ_ s₃ h₃=>tqa (aT h₃ λ_ s₄ h₄=>tqb ⟨rfl,h₄⟩))
def B6 (elt target iter:Expr)(gs:List SF)(scope:Scope)(pos:Pos)(it acc:Qr)(env:R6) :
 compTurn (.ListComp elt [{target,iter,[],0}] scope pos) 0 it acc env=(standAt iter.pos >>= λ_=>pyNext it >>= λr=>match r with
  |none=>pure (.done .next)
  |some v=>letOwnedTupleGo target it v >>= λ_=>assign target env v >>= λ_=>(eval elt env >>= λx=>call (.builtin "list.append") [acc,x] >>= λ_=>pure ()) >>= λ_=>again (.compLoop (.ListComp elt [{target,iter,[],0}] scope pos) 0 it acc env)):=`r
def turn_if (elt target iter c:Expr)(scope:Scope)(pos:Pos)(it acc:Qr)(env:R6) :
 compTurn (.ListComp elt [{target,iter,[c],0}] scope pos) 0 it acc env=(standAt iter.pos >>= λ_=>pyNext it >>= λr=>match r with
  |none=>pure (.done .next)
  |some v=>letOwnedTupleGo target it v >>= λ_=>assign target env v >>= λ_=>(isTrue c env (eval c env) >>= λok=>if ok=true then(eval elt env >>= λx=>call (.builtin "list.append") [acc,x] >>= λ_=>pure ()) else pure ()) >>= λ_=>again (.compLoop (.ListComp elt [{target,iter,[c],0}] scope pos) 0 it acc env)):=by
 rw[compTurn_list];refine congrArg _ (funext λ_=>congrArg _ (funext λr=>?_));cases r with
 |none=>rfl
 | some v =>
   simp only[List.forIn_cons,List.forIn_nil,if_true,bind_assoc,pure_bind];refine congrArg _ (funext λ_=>congrArg _ (funext λ_=>congrArg _ (funext λok=>?_)));cases ok<;>simp
def B4 (elt target iter t2 i2:Expr)(scope:Scope)(pos:Pos)(it acc:Qr)(env:R6) :
 compTurn (.ListComp elt [{target,iter,[],0},{t2,i2,[],0}] scope pos) 0 it acc env=(standAt iter.pos >>= λ_=>pyNext it >>= λr=>match r with
  |none=>pure (.done .next)
  |some v=>letOwnedTupleGo target it v >>= λ_=>assign target env v >>= λ_=>(eval i2 env >>= λx=>standAt i2.pos >>= λ_=>foldedSetIterable i2 env x >>= λx=>holding [x] (pyIter x) >>= λj=>runOwn (.compStart (.ListComp elt [{target,iter,[],0},{t2,i2,[],0}] scope pos) 1 j acc env) env >>= λ_=>pure ()) >>= λ_=>again (.compLoop (.ListComp elt [{target,iter,[],0},{t2,i2,[],0}] scope pos) 0 it acc env)):=by
 refine bind_congr λ_=>bind_congr λr=>?_;cases r with
 |none=>rfl
 |some v=>simp
def B5 (elt target iter t2 i2:Expr)(scope:Scope)(pos:Pos)(it acc:Qr)(env:R6) :
 compTurn (.ListComp elt [{target,iter,[],0},{t2,i2,[],0}] scope pos) 1 it acc env=(standAt i2.pos >>= λ_=>pyNext it >>= λr=>match r with
  |none=>pure (.done .next)
  |some v=>letOwnedTupleGo t2 it v >>= λ_=>assign t2 env v >>= λ_=>(eval elt env >>= λx=>call (.builtin "list.append") [acc,x] >>= λ_=>pure ()) >>= λ_=>again (.compLoop (.ListComp elt [{target,iter,[],0},{t2,i2,[],0}] scope pos) 1 it acc env)):=by
 rfl
def lV (env:R6):∀(ns:List (Str×NameKind)) (cs:List (Str×Addr)),(∀y∈ns,y.2=.free->∃c,env.cells.lookup y.1=some c)->(∀x c,cs.lookup x=some c->env.cells.lookup x=some c)->
 ∃cl,(forIn ns cs λ(y:Str×NameKind) (r:List (Str×Addr))=>if (y.2==NameKind.free)=true then cellOf env y.1 >>= λa=>pure (ForInStep.yield ((y.1,a)::r)) else pure (ForInStep.yield r):Sem _)=pure cl/\
  (∀x c,cl.lookup x=some c->env.cells.lookup x=some c)/\(∀x c,cs.lookup x=some c->∃c',cl.lookup x=some c')/\∀y∈ns,y.2=.free->∃c,cl.lookup y.1=some c
 |[],cs,_,h2=>{cs,`s,h2,λx c e=>⟨c,e⟩,λy hy=>nomatch hy}
 | (n, k) :: ns, cs, h1, h2 => by
   by_cases hk:k=.free
   ·subst hk;obtain⟨a,ha⟩:=h1 (n,.free) QN rfl;have lk:∀x c,((n,a)::cs).lookup x=some c->env.cells.lookup x=some c:=λx c e=>by
     rw[RA] at e;split at e
     ·next q=>cases e;rw[eq_of_beq q];exact ha
     ·exact h2 x c e
    obtain⟨cl,e,p1,p2,p3⟩:=lV env ns ((n,a)::cs) (λy hy=>h1 y (QJ _ hy)) lk;refine{cl,?_,p1,λx c q=>?_,λy hy hf=>?_}
    ·rw[List.forIn_cons];have ec:cellOf env n=pure a:=by unfold cellOf;rw[ha]
     simp only[beq_self_eq_true,if_true,ec];exact e
    ·by_cases hx:x=n
     ·exact p2 x a (by rw[RA,hx];simp)
     ·exact p2 x c (by rw[RA,RZ.mpr hx];exact q)
    ·rcases Rf.mp hy with z|z
     ·subst z;exact p2 n a (by simp[RA])
     ·exact p3 y z hf
   ·obtain⟨cl,e,p1,p2,p3⟩:=lV env ns cs (λy hy=>h1 y (QJ _ hy)) h2;refine{cl,?_,p1,p2,λy hy hf=>?_}
    ·rw[List.forIn_cons];have eb:(k==NameKind.free)=false:=by simpa using hk
     simp only[eb,Bool.false_eq_true,if_false];exact e
    ·rcases Rf.mp hy with z|z
     ·subst z;exact absurd hf hk
     ·exact p3 y z hf
def qf (h:∀y∈scope.names,y.2=.free->∃c,env.cells.lookup y.1=some c) :
 ∃cl,closureFor scope env=pure cl/\(∀x c,cl.lookup x=some c->env.cells.lookup x=some c)/\∀y∈scope.names,y.2=.free->∃c,cl.lookup y.1=some c:=by
 obtain⟨cl,e,p1,_,p3⟩:=lV env scope.names [] h (λx c q=>nomatch q);exact{cl,by unfold closureFor;simp only[bind_pure];exact e,p1,p3}
end
noncomputable def gi (X:Cx)(own bn:List Str)(scope:Scope)(cl:List (Str×Addr))(C:Addr)(fp:List Addr)(s:Qu)(H:Hp):Cx:=
 {X with N:=own++bn,s₀:=s,H₀:=H,env:=compEnvC scope cl C X.env,outer:=X.stack,ex:=fp,fn:=λx=>scope.names.lookup x==some .cell,pn:=[],xe:=FF}
def mem_of_lookup {β:Type}:∀{l:List (Str×β)}{x:Str}{k:β},l.lookup x=some k->(x,k)∈l
 |[],_,_,h=>by cases h
 | (n, b) :: r, x, k, h => by
   rw[RA] at h;split at h
   ·next q=>cases h;rw[eq_of_beq q];exact QN
   ·exact QJ _ (mem_of_lookup h)
def gO {env:R6}:∀{names:List (Str×NameKind)}{x:Str}{k:NameKind},
 (names.map λ(n,k)=>if (k==NameKind.free&&env.scope.kind==.function&&env.kindOf n==some .cell) then(n,NameKind.cell) else(n,k)).lookup x=some k->
 ∃k0,(x,k0)∈names/\names.lookup x=some k0/\(k=k0\/(k0=.free/\k=.cell))
 |[],_,_,h=>by cases h
 | (n, k0) :: r, x, k, h => by
   have ih:=@gO env r x k;have h:List.lookup x ((if (k0==NameKind.free&&env.scope.kind==.function&&env.kindOf n==some .cell)=true then(n,NameKind.cell) else(n,k0))::_)=some k:=h;cases hx:x==n with
   | true =>
     have e:=eq_of_beq hx;subst e;refine{k0,QN,by simp[RA],?_}
     split at h
     ·next c=>
      simp[RA] at h;simp at c;exact .inr ⟨c.1.1,h.symm⟩
     ·simp[RA] at h;exact .inl h.symm
   | false =>
     have h':List.lookup x (r.map λ(n,k)=>if (k==NameKind.free&&env.scope.kind==.function&&env.kindOf n==some .cell) then(n,NameKind.cell) else(n,k))=some k:=by
      split at h<;>simpa[RA,hx] using h
     obtain⟨k1,h1,h2,h3⟩:=ih h';exact{k1,QJ _ h1,by simp[RA,hx];exact h2,h3}
def pS {α β:Type}{R:α->β->Prop}:∀{l:List α}{r:List β}{i:Nat}{x:α},Sf R l r->l[i]?=some x->∃y,r[i]?=some y/\R x y
 |_,_,_,_,.nil,e=>by simp at e
 |_,_,0,_,.cons p _,e=>by simp at e;subst e;exact{_,rfl,p}
 | _, _, i + 1, x, .cons _ t, e => by
   obtain⟨y,h1,h2⟩:=pS t (by simpa using e)
   exact{y,by simpa using h1,h2}
structure fK (X:Cx) (own bn:List Str) (scope:Scope):Prop where
 kind:scope.kind=.function
 cel:∀y∈scope.names,y.2=.cell->scope.names.lookup y.1=some .cell
 loc:∀y∈scope.names,y.2=.local->scope.names.lookup y.1=some .local
 free:∀y∈scope.names,y.2=.free->X.env.kindOf y.1=some .cell\/X.env.kindOf y.1=some .free
 dis:Sf (λb x=>(b=x/\scope.names.lookup x≠some .local/\scope.names.lookup x≠some .cell)\/scope.names.lookup b=none) bn X.N
def jC:∀(names:List (Str×NameKind)) (n:Nat) (acc:List (Str×Addr)),cellsFrom n names acc=cellsFrom n names []++acc
 |[],_,_=>rfl
 | (nm, k) :: r, n, acc => by
   unfold cellsFrom;split
   ·rw[jC r (n+1) ((nm,n)::acc),jC r (n+1) [(nm,n)],RH];rfl
   ·exact jC r n acc
def u4:∀{names:List (Str×NameKind)}{n:Nat}{x:Str}{c:Addr},(x,c)∈cellsFrom n names []->(x,NameKind.cell)∈names
 |[],_,_,_,h=>nomatch h
 | (nm, k) :: r, n, x, c, h => by
   unfold cellsFrom at h;split at h
   ·next e=>
    rw[jC] at h;rcases Rq.mp h with h|h
    ·exact QJ _ (u4 h)
    ·cases QF.mp h;rw[eq_of_beq e];exact QN
   ·exact QJ _ (u4 h)
def qg:∀{names:List (Str×NameKind)}{n:Nat}{x:Str},(x,NameKind.cell)∈names->∃c,(x,c)∈cellsFrom n names []
 | (nm, k) :: r, n, x, h => by
   unfold cellsFrom;rcases Rf.mp h with h|h
   ·cases h;rw[if_pos (by rfl:(NameKind.cell==NameKind.cell)=true),jC]
    exact{n,Q4 _ (QF.mpr rfl)}
   ·split
    ·obtain⟨c,hc⟩:=qg h;rw[jC];exact{c,RE _ hc}
    ·exact qg h
def mL {β:Type}:∀{l:List (Str×β)}{x:Str}{b:β},(x,b)∈l->∃c,l.lookup x=some c
 | (n, b') :: r, x, b, h => by
   rw[RA];cases e:x==n with
   |true=>exact{_,rfl}
   | false =>
     rcases Rf.mp h with z|z
     ·cases z;rw[beq_self_eq_true] at e;cases e
     ·exact mL z
def r8
 (h:Q (newEnv scope s.heap.objs.size globals (cellsFrom (s.heap.objs.size+1) scope.names cl) qual none .none (some env) builtinsNs) {s with heap:=pushCells (s.heap.push {cls:=.type "dict",data:=.dict #[]}) scope.names}) :
 wpAny M A (newFunctionEnv scope globals cl [] qual none .none (some env)) Q E s:=by
 simp only[newFunctionEnv,Option.isSome_some,if_true];refine tqa (wpAny_alloc ?_);refine tqa (wpAny_layCells _ (λname kind cells=>by cases hkc:kind==NameKind.cell<;>simp[hkc]) _ _ _ _ ?_)
 rw[show({s with heap:=s.heap.push {cls:=.type "dict",data:=.dict #[]}}:Qu).heap.objs.size=s.heap.objs.size+1 from Sg ..]
 exact tqa (tqb (tqb h))
section
variable{X:Cx}{pins:List (Addr×Obj)}{σ:L2.St}{H:Hp}{s:Qu}{fp:List Addr}{scope:Scope}{cl:List (Str×Addr)}{own bn:List Str}
structure Cl (X:Cx) (scope:Scope) (cl:List (Str×Addr)) (n:Nat):Prop where
 sub:∀x c,cl.lookup x=some c->(scope.names.lookup x=some .cell/\n<c)\/(scope.names.lookup x≠some .cell/\X.env.cells.lookup x=some c)
 inj:∀x y c,cl.lookup x=some c->cl.lookup y=some c->scope.names.lookup x=some .cell->scope.names.lookup y=some .cell->x=y
 has:∀y∈scope.names,(y.2=.free\/y.2=.cell)->∃c,cl.lookup y.1=some c
def Fi (S:fK X own bn scope)(h1:∀x c,cl.lookup x=some c->X.env.cells.lookup x=some c)(h2:∀y∈scope.names,y.2=.free->∃c,cl.lookup y.1=some c)(h:Heap)(hn:h.objs.size=n+1) :
 Cl X scope (cellsFrom (n+1) scope.names cl) n/\∀x c,(cellsFrom (n+1) scope.names cl).lookup x=some c->scope.names.lookup x=some .cell->(pushCells h scope.names).IsCell c none:=by
 have ok:=cellsFrom_ok scope.names h (n+1) [] {λ_ _ hm=>(nomatch hm),List.Pairwise.nil} (by rw[hn];exact Qw _)
 rw[hn] at ok;rw[jC];have own_:∀{x c},(cellsFrom (n+1) scope.names []++cl).lookup x=some c->scope.names.lookup x=some .cell->(x,c)∈cellsFrom (n+1) scope.names []:=λ{x c} e hx=>by
  obtain⟨c',hc'⟩:=qg (mem_of_lookup hx);obtain⟨c2,h2⟩:=mL hc';rw[List.lookup_append,h2] at e;cases e;exact mem_of_lookup h2
 have out_:∀{x c},(cellsFrom (n+1) scope.names []++cl).lookup x=some c->scope.names.lookup x≠some .cell->cl.lookup x=some c:=λ{x c} e hx=>by
  rw[List.lookup_append] at e;cases z:(cellsFrom (n+1) scope.names []).lookup x with
  |none=>rw[z] at e;exact e
  |some c'=>exact absurd (S.cel _ (u4 (mem_of_lookup z)) rfl) hx
 refine{{λx c e=>?_,λx y c e1 e2 hx hy=>?_,λy hy hk=>?_},λx c e hx=>(ok.empty x c (own_ e hx)).1}
 ·by_cases hx:scope.names.lookup x=some .cell
  ·exact .inl {hx,(ok.empty x c (own_ e hx)).2}
  ·exact .inr {hx,h1 x c (out_ e hx)}
 ·exact name_of_addr ok.apart (own_ e1 hx) (own_ e2 hy)
 ·rcases hk with hk|hk
  ·obtain⟨c,hc⟩:=h2 y hy hk;rw[List.lookup_append];cases (cellsFrom (n+1) scope.names []).lookup y.1 with
   |none=>exact⟨c,hc⟩
   |some c'=>exact⟨c',rfl⟩
  ·obtain⟨c,hc⟩:=qg (by rw[<- hk];exact hy)
   obtain⟨c2,e2⟩:=mL hc;rw[List.lookup_append,e2];exact⟨c2,rfl⟩
def HU (I:Inv X pins σ H s)(S:fK X own bn scope)(hcl:Cl X scope cl s.heap.objs.size)(hfp:∀b∈fp,fH X pins H b)(hfo:∀b∈fp,∃o,s.heap.get? b=some o) :
 (gi X own bn scope cl s.heap.objs.size fp s H).Ok where
 mod:=I.ok.mod
 kind:=S.kind
 glob:=I.ok.glob
 blt:=I.ok.blt
 above:=Qw _
 inj:=λx y c h1 h2=>by
  have lt:=λz e=>Nat.not_lt.mpr (Sy (let{_,q}:=I.cell z c e;q.lt))
  rcases hcl.sub x c h1 with⟨a1,a2⟩|⟨a1,a2⟩<;>rcases hcl.sub y c h2 with⟨b1,b2⟩|⟨b1,b2⟩
  ·exact hcl.inj x y c h1 h2 a1 b1
  ·exact absurd a2 (lt y b2)
  ·exact absurd b2 (lt x a2)
  ·exact I.ok.inj x y c a2 b2
 has:=λx h=>by
  have key:∀k,(relabel scope X.env).names.lookup x=some k->(k=.cell\/k=.free)->∃c,cl.lookup x=some c:=λk hk hh=>by
   obtain⟨k0,h1,h2,h3⟩:=gO hk;refine hcl.has _ h1 ?_;rcases h3 with e|⟨e,_⟩
   ·rcases hh with z|z
    ·exact .inr (e.symm.trans z)
    ·exact .inl (e.symm.trans z)
   ·exact .inl e
  rcases h with h|h
  ·exact key _ h (.inl rfl)
  ·exact key _ h (.inr rfl)
 cab:=λx c h e=>by
  rcases hcl.sub x c e with⟨_,a2⟩|⟨a1,_⟩
  ·exact Sy a2
  ·exact absurd (eq_of_beq h) a1
 hd:=I.ok.hd
 frames:=I.ok.frames
 stk:=.inl rfl
 exf:=λb hb=>{λe=>by
  obtain⟨o,ho⟩:=hfo b hb;exact absurd (QK ho) (by rw[e];exact RL _),λx c e=>by
  rcases hcl.sub x c e with⟨_,a2⟩|⟨_,a2⟩
  ·obtain⟨o,ho⟩:=hfo b hb;exact λz=>absurd (QK ho) (by rw[<- z];exact Nat.lt_asymm a2)
  ·exact(hfp b hb).2.2.2.2.1 x c a2}
 bs:=λb o e=>I.bs b o e
 bsz:=QH I.ok.bsz I.sz
 noex:=λb o e hb=>by
  rcases(hfp b hb).2.2.2.1 with z|z
  ·exact I.ok.noex b o e z
  ·exact absurd (QS (QK e) (QH I.ok.bsz z)) (RL _)
 exfs:=λb hb hx=>by
  rcases Rf.mp (I.stkSub b hx) with e|e
  ·exact(hfp b hb).2.1 e
  ·exact(hfp b hb).2.2.1 e
 funs:=I.stack
 frf:=λb hb=>I.stkFree b hb
def u3 (I:Inv X pins σ H s)(S:fK X own bn scope)(hcl:Cl X scope cl s.heap.objs.size)(hfp:∀b∈fp,fH X pins H b)(hfo:∀b∈fp,∃o,s.heap.get? b=some o)
 (hn:h'.Ns s.heap.objs.size m) (hk:∀b o,s.heap.get? b=some o->h'.get? b=some o) (hce:∀x c,cl.lookup x=some c->scope.names.lookup x=some .cell->h'.IsCell c none) :
 Inv (gi X own bn scope cl s.heap.objs.size fp s H) [] (List.replicate own.length none++σ) H {s with heap:=h',toks:=t'} where
 ok:=HU I S hcl hfp hfo
 os:=rfl
 bare:=I.bare
 base:=Un.kept hk
 loc:=by
  refine{m,hn,λi x v e1 e2 hv=>?_};have e1:(own++bn)[i]?=some x:=e1;have hi:own.length<=i:=by
   by_cases q:i<own.length
   ·rw[Qv (by simpa using q),SD] at e2
    simp[q] at e2
   ·omega
  rw[Ro hi] at e1;rw[Ro (by simpa using hi)] at e2
  simp only[List.length_replicate] at e2;have hx:X.N[i-own.length]?=some x/\scope.names.lookup x≠some .local/\scope.names.lookup x≠some .cell:=by
   rcases pS S.dis e1 with⟨y,h1,⟨h2,h3⟩|h2⟩
   ·subst h2;exact⟨h1,h3⟩
   ·exfalso;have no:∀k,(relabel scope X.env).names.lookup x≠some k:=λk hk=>by
     obtain⟨k0,_,h3,_⟩:=gO hk;rw[h2] at h3;cases h3
    rcases hv with z|z|z
    ·exact no _ z
    ·exact no _ z
    ·exact no _ z
  have key:∀k,(relabel scope X.env).names.lookup x=some k->(k=.local\/k=.cell\/k=.free)->∃c,(k=.cell\/k=.free)/\cl.lookup x=some c/\(X.env.kindOf x=some .cell\/X.env.kindOf x=some .free):=λk hk2 hh=>by
   obtain⟨k0,h1,h2,h3⟩:=gO hk2;have nl:k0≠.local:=λe=>hx.2.1 (by rw[h2,e])
   have hf:k0=.free:=by
    rcases h3 with e|⟨e,_⟩
    ·rcases hh with z|z|z
     ·exact absurd (e.symm.trans z) nl
     ·exact absurd (by rw[h2,e.symm.trans z]) hx.2.2
     ·exact e.symm.trans z
    ·exact e
   obtain⟨c,hc⟩:=hcl.has _ h1 (.inl hf);refine{c,?_,hc,S.free _ h1 hf};rcases hh with z|z|z
   ·rcases h3 with e|⟨_,e⟩
    ·rw[hf] at e;rw[e] at z;cases z
    ·rw[e] at z;cases z
   ·exact .inl z
   ·exact .inr z
  have fin:∀k,(relabel scope X.env).names.lookup x=some k->(k=.local\/k=.cell\/k=.free)->∃u,RelV v u/\Look (compEnvC scope cl s.heap.objs.size X.env) h' m x u:=λk hk2 hh=>by
   obtain⟨c,h1,h2,h3⟩:=key k hk2 hh;obtain⟨m0,_,hl⟩:=I.loc;obtain⟨u,r,l⟩:=hl _ x v hx.1 e2 (.inr h3);refine{u,r,.inr {?_,c,h2,?_}}
   ·rcases h1 with z|z
    ·subst z;exact .inl hk2
    ·subst z;exact .inr hk2
   ·rcases l with⟨z,_⟩|⟨_,c',hc',hcell⟩
    ·rcases h3 with q|q
     ·rw[z] at q;cases q
     ·rw[z] at q;cases q
    ·rcases hcl.sub x c h2 with⟨a1,_⟩|⟨_,a2⟩
     ·exact absurd a1 hx.2.2
     rw[a2] at hc';cases hc';obtain⟨o,ho,hd⟩:=hcell;exact{o,hk _ _ ho,hd}
  rcases hv with z|z|z
  ·exact fin _ z (.inl rfl)
  ·exact fin _ z (.inr (.inl rfl))
  ·exact fin _ z (.inr (.inr rfl))
 cell:=λx c e=>by
  rcases hcl.sub x c e with⟨a1,_⟩|⟨_,a2⟩
  ·exact{none,hce x c e a1}
  obtain⟨v,o,ho,hd⟩:=I.cell x c a2;exact{v,o,hk _ _ ho,hd}
 free:=I.hok.fresh (Qw _)
 freeC:=λx c e=>(hcl.sub x c e).elim (λz=>I.hok.fresh (Sy z.2)) λz=>I.freeC x c z.2
 pin:=λp hp=>nomatch hp
 hok:=I.hok.kept hk
 len:=by
  show(List.replicate own.length none++σ).length=(own++bn).length;have:=Paired.length S.dis;simp[I.len,this]
def comp_back (I:Inv X pins σ H s)(hfp:∀b∈fp,fH X pins H b)(I':Inv (gi X own bn scope cl C fp s H) pins' σ' H' s'):Inv X pins σ H' s':=
 I.call' I'.os I'.base I'.hok I'.bare λb hb=>{(hfp b hb).2.2.2.1,(hfp b hb).2.1,(hfp b hb).2.2.2.2.1,(hfp b hb).2.2.2.2.2}
def se (I:Inv X pins σ H s)(hf:H' s.heap.objs.size=none)(I':Inv X pins σ' H' s')(hs:Sh s.heap.objs.size s'.heap h''):Inv X pins σ' H' {s' with heap:=h''}:=
 I'.turned (λb o hb e=>(hs.2 b hb).trans e) hf (Rz I.lt) (.inr I.sz) (λx c e z=>by
  obtain⟨v,q⟩:=I.cell x c e;exact absurd q.lt (by rw[z];exact RL _)) λp hp z=>absurd (QK (I.pin p hp).1) (by rw[z];exact RL _)
end
structure fJ (a:Addr) (μ:Mu) (H:Hp) (μ':Mu) (H':Hp):Prop extends ExtW μ H μ' H' where
 pr:μ'.priv=μ.priv
 pk:∀b∈μ.priv,b≠a->H' b=H b
def fJ.refl:fJ a μ H μ H:={.refl,rfl,λ_ _ _=>rfl}
def fJ.trans (x:fJ a μ H μ1 H1)(y:fJ a μ1 H1 μ2 H2):fJ a μ H μ2 H2:=
 {x.toExtW.trans y.toExtW,y.pr.trans x.pr,λb hb n=>(y.pk b (by rw[x.pr];exact hb) n).trans (x.pk b hb n)}
def Ext.toD (x:Ext μ H μ' H'):fJ a μ H μ' H':={x.toExtW,x.pr,λb hb _=>x.pk b hb}
noncomputable def slots:fW->List Nat
 |.one i=>[i]
 |.tup l=>l
 |.two i l=>i::l
noncomputable def Clear (W:List Nat)(Z:Env):Prop:=∀i∈W,∀d,Z[i]?≠some (some d)
section
variable{fa:Fa}{K:Qp}{μ μ':Mu}{H H':Hp}{σ:L2.St}{Z ρ1:Env}{M:Mem}{a:Addr}
def bu.weak (h:bu fa K μ H σ ρ1)(hl:ρ1.length=Z.length)(w:∀(i:Nat) d,Z[i]?=some (some d)->ρ1[i]?=some (some d)):bu fa K μ H σ Z:=
 {h.len.trans hl,λi d e=>h.at' i d (w i d e)}
def lA:∀{l:List Nat}{ds:List D}{Z ρ1:Env},c5 l ds Z=some ρ1->ρ1.length=Z.length/\∀i,i∉l->ρ1[i]?=Z[i]?
 |[],[],Z,ρ1,h=>by cases h;exact{rfl,λ_ _=>rfl}
 |_::_,[],_,_,h=>by cases h
 |[],_::_,_,_,h=>by cases h
 | j :: l, d :: ds, Z, ρ1, h => by
   obtain⟨h1,h2⟩:=lA (ds:=ds) h;refine{by simpa using h1,λi hi=>?_}
   rw[h2 i (λz=>hi (QJ _ z)),Qx (λz=>hi (by rw[z];exact QN))]
def sk (h:bX t d Z=some ρ1):ρ1.length=Z.length/\∀i,i∉slots t->ρ1[i]?=Z[i]?:=by
 cases t with
 | one j =>
   cases h;exact{`s,λi hi=>Qx (λz=>hi (by rw[z];exact QN))}
 | tup l =>
   cases d with
   |tup ds=>exact lA h
   |_=>cases h
 | two j l =>
   obtain⟨e,ds,rfl,h⟩:=ve h;obtain⟨h1,h2⟩:=lA h;refine{by simpa using h1,λi hi=>?_}
   rw[h2 i (λz=>hi (QJ _ z)),Qx (λz=>hi (by rw[z];exact QN))]
def bu.unbind (h:bX t d Z=some ρ1)(c:Clear (slots t) Z)(r:bu fa K μ H σ ρ1):bu fa K μ H σ Z:=by
 obtain⟨h1,h2⟩:=sk h;refine r.weak h1 λi d e=>?_;by_cases hi:i∈slots t
 ·exact absurd e (c i hi d)
 ·rw[h2 i hi];exact e
def RelM.writeP (h:RelM fa K μ H M)(e:a∈μ.priv)(hH:H a=some (.lst vs)):RelM fa K μ (upd H a (.lst ws)) M:=by
 have x:ExtW μ H μ (upd H a (.lst ws)):=ExtW.write hH (.inr e);refine{λk ds q=>?_,h.out,h.oout,h.inj,h.oinj,h.sep,λb hb=>{?_,(h.pv b hb).2}}
 ·rcases h.at' k ds q with⟨b,us,h1,h2,h3⟩|⟨b,h1,h2,h3⟩
  ·have nb:b≠a:=λz=>(h.pv a e).2 k (by rw[h1,z])
   exact .inl {b,us,h1,by rw[aG nb];exact h2,h3.extW x}
  ·exact .inr {b,h1,h2,h3.extW x (aG (h3.nl hH))}
 ·by_cases hb':b=a
  ·subst hb';exact⟨ws,cD⟩
  ·obtain⟨us,q⟩:=(h.pv b hb).1;exact{us,by rw[aG hb'];exact q}
def fJ.writeP (e:a∈μ.priv)(hH:H a=some (.lst vs)):fJ a μ H μ (upd H a (.lst ws)):=
 {ExtW.write hH (.inr e),rfl,λb _ n=>by rw[aG n]}
end
abbrev PA:=Mu->Hp->List D->Prop
noncomputable def yA (A:PA):Prop:=∀μ H μ' H' acc,Ext μ H μ' H'->A μ H acc->A μ' H' acc
noncomputable def LA (fa:Fa)(K:Qp)(a:Addr):PA:=λμ H acc=>a∈μ.priv/\∃vs,H a=some (.lst vs)/\aK fa K μ H acc vs
def LA.stab {K:Qp}:yA (LA fa K a):=λ_ _ _ _ _ x ⟨h1,vs,h2,h3⟩=>{by rw[x.pr];exact h1,vs,by rw[x.pk _ h1];exact h2,h3.ext x}
noncomputable def WB (fa:Fa)(K:Qp)(A:PA)(a:Addr)(μ:Mu)(H:Hp)(Z:Env)(Q:L2.St->Hp->Prop)(acc:List D)(M':Mem):Prop:=
 ∀σ' H' μ',fJ a μ H μ' H'->bu fa K μ' H' σ' Z->RelM fa K μ' H' M'->A μ' H' acc->Q σ' H'
def WB.ext {K:Qp}(h:WB fa K A a μ H Z Q acc M')(x:fJ a μ H μ1 H1):WB fa K A a μ1 H1 Z Q acc M':=
 λσ' H' μ' y e m h1=>h σ' H' μ' (x.trans y) e m h1
noncomputable def DB (fa:Fa)(X:Cx)(A:PA)(a:Addr)(W:List Nat)(body:Sem Unit)(g:Env->List D->Mem->Res (List D)):Prop:=
 ∀(pins:List (Addr×Obj)) (s:Qu) (σ:L2.St) (H:Hp) (Q:L2.St->Hp->Prop) (μ:Mu) (Z:Env) (M:Mem) (acc:List D),Inv X pins σ H s->bu fa X.K μ H σ Z->RelM fa X.K μ H M->Clear W Z->A μ H acc->
  ae (g Z acc M) (WB fa X.K A a μ H Z Q)->wpAny (model X.prog X.w) X.A body (λ_ s'=>∃σ' H',Inv X pins σ' H' s'/\Q σ' H') X.xe s
noncomputable def bp (ge:Env->Mem->Res D):Env->List D->Mem->Res (List D):=λZ acc M=>(ge Z M).bind λx M=>if acc.length<sz then .ok (acc++[x]) M else .bad
noncomputable def gY (gc:Env->Mem->Res Bool)(g:Env->List D->Mem->Res (List D)):Env->List D->Mem->Res (List D):=λZ acc M=>(gc Z M).bind λk M=>if k then g Z acc M else .ok acc M
noncomputable def cw (t:fW)(g:Env->List D->Mem->Res (List D))(Z:Env):List D->D->Mem->Res (List D):=λacc d M=>(cm M (bX t d Z)).bind λρ1 M=>g ρ1 acc M
noncomputable def uN (t:fW)(gw:Env->Mem->Res Walk)(g:Env->List D->Mem->Res (List D)):Env->List D->Mem->Res (List D):=λZ acc M=>(gw Z M).bind λw M=>cL (cw t g Z) w acc M
section
variable{fa:Fa}{X:Cx}{a:Addr}
def uY (he:DE fa X elt ge):DB fa X (LA fa X.K a) a [] (eval elt X.env >>= λx=>call (.builtin "list.append") [.ref a,x] >>= λ_=>pure ()) (bp ge):=by
 intro pins s σ H Q μ Z M acc I hE hM hc ⟨ha,vs,hH,hr⟩ h;obtain⟨x,M1,e,q⟩:=aE h;split at q
 ·next hz=>
  refine tqa (aT (he pins s σ H (λv H1=>∃μ1,Ext μ H μ1 H1/\RelM fa X.K μ1 H1 M1/\Rep fa X.K μ1 H1 x v) I {μ,Z,M,hE,hM,?_}) λu s1 ⟨v,H1,I1,rv,μ1,x1,m1,r1⟩=>?_)
  ·rw[e];exact λv H1 μ1 x1 m1 r1=>⟨μ1,x1,m1,r1⟩
  have hH1:H1 a=some (.lst vs):=by rw[x1.pk a ha];exact hH
  have ha1:a∈μ1.priv:=by rw[x1.pr];exact ha
  have hl:vs.length<sizeLine:=by rw[hr.length,<- dU];exact hz
  refine tqa (aT (mH pins s1 σ H1 (.ref a) [v] (.ref a) [u] (λ_ H2=>H2=upd H1 a (.lst (vs++[v]))) I1 rfl (.cons rv .nil) ⟨a,vs,v,rfl,rfl,hH1,hl,rfl⟩) λ_ s2 ⟨_,H2,I2,_,e2⟩=>tqb {σ,H2,I2,?_});subst e2;have xd:fJ a μ1 H1 μ1 (upd H1 a (.lst (vs++[v]))):=fJ.writeP ha1 hH1;exact q σ _ μ1 (x1.toD.trans xd) ((hE.ext x1).extW xd.toExtW) (m1.writeP ha1 hH1) {ha1,_,cD,((hr.ext x1).append (.one r1)).extW xd.toExtW}
 ·exact q.elim
def Nr (sA:yA A)(hc:DT fa X c gc)(hb:DB fa X A a W body g) :
 DB fa X A a W (isTrue c X.env (eval c X.env) >>= λok=>if ok=true then body else pure ()) (gY gc g):=by
 intro pins s σ H Q μ Z M acc I hE hM hw hA h;obtain⟨k,M1,e,q⟩:=aE h;refine tqa (aT (hc pins s σ H (λb H1=>b=k/\∃μ1,Ext μ H μ1 H1/\RelM fa X.K μ1 H1 M1) I {μ,Z,M,hE,hM,?_}) λb s1 ⟨H1,I1,eb,μ1,x1,m1⟩=>?_)
 ·rw[e];exact λH1 μ1 x1 m1=>⟨rfl,μ1,x1,m1⟩
 subst eb;cases b with
 | true =>
   rw[if_pos rfl];exact hb pins s1 σ H1 Q μ1 Z M1 acc I1 (hE.ext x1) m1 hw (sA _ _ _ _ _ x1 hA) (aH q λ_ _ w=>w.ext x1.toD)
 | false =>
   rw[if_neg QR];exact tqb {σ,H1,I1,q σ H1 μ1 x1.toD (hE.ext x1) m1 (sA _ _ _ _ _ x1 hA)}
def rh (sA:yA A)
 (heq:compTurn ce k (.ref it) (.ref a) X.env=(standAt p >>= λ_=>pyNext (.ref it) >>= λr=>match r with
  |none=>pure (.done .next)
  |some v=>letOwnedTupleGo tg (.ref it) v >>= λ_=>assign tg X.env v >>= λ_=>body >>= λ_=>again (.compLoop ce k (.ref it) (.ref a) X.env)))
 (hd:(model X.prog X.w).den (.compLoop ce k (.ref it) (.ref a) X.env)=(compTurn ce k (.ref it) (.ref a) X.env).onRaise (λx=>do noteFrame x X.env;theTreesLotGoes x)/\X.A.under (.compLoop ce k (.ref it) (.ref a) X.env)=X.A) (hx:X.xe=FF) (hcalm:X.calm=true) (T:Turn X.prog X.w X.K tg J fp it tn) (hg:PG X tg (gT fa X.K t)) (hb:DB fa X A a W body g) (hW:∀i∈W,i∉slots t)
 (I:Inv X pins σ H s) (st:tn 0 s.heap) (hf:∀b∈fp,fH X pins H b) (hE:bu fa X.K μ H σ Z) (hM:RelM fa X.K μ H M)
 (hcl:Clear (slots t++W) Z) (hA:A μ H acc) (wk:dN fa X.K μ H w J) (q:ae (cL (cw t g Z) w acc M) (WB fa X.K A a μ H Z Q)) :
 codeAny (model X.prog X.w) X.A (.compLoop ce k (.ref it) (.ref a) X.env) (λr s'=>r=.ok .next/\∃σ' H',Inv X pins σ' H' s'/\Q σ' H') s:=by
 have stat:∀{H':Hp},(∀b∈fp,H' b=none)->∀b∈fp,fH X pins H' b:=λhn b hb=>{hn b hb,(hf b hb).2};have clt:=λi hi=>hcl i (RE _ hi);have clW:∀d ρ1,bX t d Z=some ρ1->Clear W ρ1:=λd ρ1 e i hi d' z=>by
  rw[(sk e).2 i (hW i hi)] at z;exact hcl i (Q4 _ hi) d' z
 let P:Nat->Nat->Qu->Prop:=λm i s'=>∃σ' H' μ' M' acc',Inv X pins σ' H' s'/\tn i s'.heap/\(∀b∈fp,H' b=none)/\fJ a μ H μ' H'/\bu fa X.K μ' H' σ' Z/\RelM fa X.K μ' H' M'/\A μ' H' acc'/\
  ae (gp (cw t g Z) w m i acc' M') (WB fa X.K A a μ H Z Q)
 have P0:∃m,P m 0 s:={_,σ,H,μ,M,acc,I,st,λb hb=>(hf b hb).1,.refl,hE,hM,hA,q};obtain⟨m0,P0⟩:=P0;have hturn:∀(n:Nat) (i:Nat) (s3:Qu),P n i s3->wpAny (model X.prog X.w) X.A (pyNext (.ref it)) (λr s₁=>match r with
  |none=>(∃σ' H',Inv X pins σ' H' s₁/\Q σ' H')
  |some v=>wpAny (model X.prog X.w) X.A (letOwnedTupleGo tg (.ref it) v) (λ_ s₂=>wpAny (model X.prog X.w) X.A (assign tg X.env v) (λ_ s₃=>wpAny (model X.prog X.w) X.A body (λ_ s₄=>∃m,m<n/\P m (i+1) s₄) FF s₃) FF s₂) FF s₁) FF s3:=by
  rintro n i s3 ⟨σ3,H3,μ3,M3,acc3,I3,st3,fr3,x3,hE3,hM3,hA3,q3⟩;have one:∀(d:D) (rest:List D->Mem->Res (List D)) (next:List D->Mem->Prop),J.go i H3->(∀x H',J.yld i H3 x H'->Ext μ3 H3 μ3 H'/\RelM fa X.K μ3 H' M3/\Rep fa X.K μ3 H' d x)->ae ((cw t g Z acc3 d M3).bind rest) (WB fa X.K A a μ H Z Q)->
   (∀σ' H' μ' M' acc' s',Inv X pins σ' H' s'->tn (i+1) s'.heap->(∀b∈fp,H' b=none)->fJ a μ H μ' H'->bu fa X.K μ' H' σ' Z->RelM fa X.K μ' H' M'->A μ' H' acc'->ae (rest acc' M') (WB fa X.K A a μ H Z Q)->∃m,m<n/\P m (i+1) s')->
   wpAny (model X.prog X.w) X.A (pyNext (.ref it)) (λr s₁=>match r with
    |none=>(∃σ' H',Inv X pins σ' H' s₁/\Q σ' H')
    |some v=>wpAny (model X.prog X.w) X.A (letOwnedTupleGo tg (.ref it) v) (λ_ s₂=>wpAny (model X.prog X.w) X.A (assign tg X.env v) (λ_ s₃=>wpAny (model X.prog X.w) X.A body (λ_ s₄=>∃m,m<n/\P m (i+1) s₄) FF s₃) FF s₂) FF s₁) FF s3:=by
   intro d rest next go yl qd fin
   refine aT (T.item X rfl rfl rfl hcalm i pins s3 σ3 H3 FF I3 (stat fr3) st3 go) λr s4 ⟨u,hr4,h4⟩=>?_;subst hr4;refine aT h4 λ_ s5 ⟨x,H5,I5,r5,y5,st5,fr5⟩=>?_;obtain⟨x5,hM5,rd⟩:=yl x H5 y5;have I5':=I5.pinned (stat fr5) (T.obj _ _ st5);obtain⟨acc6,M6,e6,q6⟩:=aE qd;obtain⟨ρ1,M7,e7,e8⟩:=e9 e6;cases eb:bX t d Z with
   |none=>rw[eb] at e7;cases e7
   | some ρ2 =>
     rw[eb] at e7;cases e7;have hg':=hg _ s5 σ3 H5 x u (λσ' H'=>H'=H5/\bu fa X.K μ3 H5 σ' ρ1) I5' r5 {μ3,Z,_,d,ρ1,hE3.ext x5,hM5,rd,eb,λσ1 h1=>⟨rfl,h1⟩};rw[hx] at hg';refine aT hg' λ_ s6 ⟨σ6,H6,I6,eH,hE6⟩=>?_;subst eH;have hb':=hb _ s6 σ6 H6 (λσ' H'=>∃μ',fJ a μ3 H6 μ' H'/\bu fa X.K μ' H' σ' ρ1/\RelM fa X.K μ' H' M6/\A μ' H' acc6) μ3 ρ1 _ acc3 I6 hE6 hM5 (clW d ρ1 eb) (sA _ _ _ _ _ x5 hA3) (by
      rw[e8];exact λσ' H' μ' z1 z2 z3 z4=>⟨μ',z1,z2,z3,z4⟩)
     rw[hx] at hb';refine aT hb' λ_ s7 ⟨σ7,H7,I7,μ7,x7,hE7,hM7,hA7⟩=>?_;refine fin σ7 H7 μ7 M6 acc6 s7 I7.unpinned (T.keep _ _ _ st5 λb hb o e=>(I7.pin (b,o) (Q4 _ (Q4 _ (i4 hb e)))).1) (λb hb=>?_) ((x3.trans x5.toD).trans x7) (hE7.unbind eb clt) hM7 hA7 q6;obtain⟨o,e,dd⟩:=T.obj _ _ st5 b hb;exact(I7.pin (b,o) (Q4 _ (Q4 _ (i4 hb e)))).2.1
  have stop:J.stop i H3->ae (.ok acc3 M3) (WB fa X.K A a μ H Z Q)->wpAny (model X.prog X.w) X.A (pyNext (.ref it)) (λr s₁=>match r with
   |none=>(∃σ' H',Inv X pins σ' H' s₁/\Q σ' H')
   |some v=>wpAny (model X.prog X.w) X.A (letOwnedTupleGo tg (.ref it) v) (λ_ s₂=>wpAny (model X.prog X.w) X.A (assign tg X.env v) (λ_ s₃=>wpAny (model X.prog X.w) X.A body (λ_ s₄=>∃m,m<n/\P m (i+1) s₄) FF s₃) FF s₂) FF s₁) FF s3:=λhs q=>by
   refine aT (T.done X rfl rfl rfl hcalm i pins s3 σ3 H3 FF I3 (stat fr3) st3 hs) λr s4 ⟨hr4,I4⟩=>?_;subst hr4;exact{σ3,H3,I4,q σ3 H3 μ3 x3 hE3 hM3 hA3}
  cases n with
  |zero=>exact q3.elim
  | succ n =>
    unfold gp at q3;cases e2:w M3 with
    |none=>rw[e2] at q3;exact q3.elim
    | some ds =>
      rw[e2] at q3;dsimp only at q3;obtain⟨go,stp⟩:=wk μ3 H3 M3 ds x3.toExtW hM3 e2;cases ed:ds[i]? with
      | none =>
        rw[ed] at q3;exact stop (stp i (List.getElem?_eq_none_iff.mp ed)) q3
      | some d =>
        rw[ed] at q3;obtain⟨g1,g2⟩:=go i d ed;refine one d (gp (cw t g Z) w n (i+1)) (λ_ _=>True) g1 g2 q3 ?_;intro σ' H' μ' M' acc' s' z1 z2 z3 z4 z5 z6 z7 z8;exact{n,`a,σ',H',μ',M',acc',z1,z2,z3,z4,z5,z6,z7,z8}
 refine Bb heq hd (λn s'=>∃i,P n i s') (λn s3 ⟨i,h3⟩=>?_) m0 {0,P0};refine aT (hturn n i s3 h3) λr s1 h=>?_;cases r with
 |none=>exact⟨rfl,h⟩
 |some v=>exact aT h λ_ s2 h=>aT h λ_ s3 h=>aT h λ_ s4 ⟨m,hm,h⟩=>{m,hm,i+1,h}
end
section
variable{prog:Rp}{w:Rr}{A:RW}{s:Qu}{R:Result->Qu->Prop}
def sL {elt t1 i1 t2 i2:Expr}
 (h0:codeAny (model prog w) A (.compLoop (.ListComp elt [{t1,i1,f1,0},{t2,i2,f2,0}] scope pos) 1 it acc env) R s)
 (h:wpAny (model prog w) A (pyIter it) (λit' s'=>codeAny (model prog w) A (.compLoop (.ListComp elt [{t1,i1,f1,0},{t2,i2,f2,0}] scope pos) 1 it' acc env) R s')
  (notedBy (model prog w) A env λx s'=>R (.error x) s') s) :
 codeAny (model prog w) A (.compStart (.ListComp elt [{t1,i1,f1,0},{t2,i2,f2,0}] scope pos) 1 it acc env) R s:=by
 refine codeAny_of_tree ?_;refine wpAny_notedAt ?_;refine tqa (wpAny_askSetting (wpAny_ite ?_));split
 ·first
   |exact tqa (tqb (tqb (And.intro rfl h0)))
   |exact tqb (And.intro rfl h0)
 ·first
   |exact tqa (wpAny_rule (tqa (wpAny_standAt (tqa (wpAny_mono h (λit' s' h'=>tqb (And.intro rfl h')) λ_ _ x=>x)))))
   |(refine tqa (wpAny_rule ?_);show wpAny _ _ (standAt i2.pos >>= _) _ _ s;exact tqa (wpAny_standAt (tqa (wpAny_mono h (λit' s' h'=>tqb (And.intro rfl h')) λ_ _ x=>x))))
end
section
variable{fa:Fa}{X:Cx}{a:Addr}
def LG {elt t1 i1 t2 i2:Expr}(hx:X.xe=FF)(hcalm:X.calm=true)(hi:DI fa X t2 i2 gw)(hg:PG X t2 (gT fa X.K t))(he:DE fa X elt ge)
 (hs:∀x,foldedSetIterable i2 X.env x=pure x) :
 DB fa X (LA fa X.K a) a (slots t) (eval i2 X.env >>= λx=>standAt i2.pos >>= λ_=>foldedSetIterable i2 X.env x >>= λx=>holding [x] (pyIter x) >>= λj=>runOwn (.compStart (.ListComp elt [{t1,i1,[],0},{t2,i2,[],0}] scope pos) 1 j (.ref a) X.env) X.env >>= λ_=>pure ()) (uN t gw (bp ge)):=by
 intro pins s σ H Q μ Z M acc I hE hM hc hA h;obtain⟨w,M1,e,q⟩:=aE h;refine tqa (aT (hi pins s σ H (λJ H1=>∃μ1,Ext μ H μ1 H1/\RelM fa X.K μ1 H1 M1/\dN fa X.K μ1 H1 w J) I {μ,Z,M,hE,hM,?_}) λv s1 h1=>?_)
 ·rw[e];exact λJ H1 μ1 x1 m1 wk=>⟨μ1,x1,m1,wk⟩
 refine tqa (wpAny_standAt (tqa (wpAny_of_eq (hs v) (tqa (tqo (aT h1 λitv s2 h2=>?_))))));obtain⟨it,fp,tn,J,H2,ei,I2,T,st2,f2,μ2,x2,m2,wk⟩:=h2;subst ei;have go:=rh LA.stab (B5 elt t1 i1 t2 i2 scope pos (.ref it) (.ref a) X.env) ⟨rfl,rfl⟩ hx hcalm T hg (uY he) (λi hi=>nomatch hi) I2 st2 f2 (hE.ext x2) m2 (by simpa using hc) (LA.stab _ _ _ _ _ x2 hA) wk (aH q λ_ _ z=>z.ext x2.toD)
 refine tqa (wpAny_runOwn ?_);have go':codeAny (model X.prog X.w) (X.A.mark none) (.compLoop (.ListComp elt [{t1,i1,[],0},{t2,i2,[],0}] scope pos) 1 (.ref it) (.ref a) X.env) (λr s'=>match r with|.ok f=>wpAny (model X.prog X.w) X.A (pure ():Sem Unit) (λ_ s'=>∃σ' H',Inv X pins σ' H' s'/\Q σ' H') X.xe s'|.error e=>cameBackBy (model X.prog X.w) X.A X.env X.xe e s') s2:=
  codeAny_mono go λr s' ⟨er,z⟩=>by subst er;exact tqb z
 exact sL go' (T.self _ 0 _ _ _ st2 go')
end
section
variable{fa:Fa}{K:Qp}{μ1 μ':Mu}{H1 H':Hp}{M1 M':Mem}{a:Addr}
noncomputable def Kp (μ:Mu)(a:Addr):Mu:={μ.pub,a::μ.priv,μ.ob}
def mW (h:RelM fa K μ1 H1 M1)(ha:H1 a=none)(o:HO):ExtW μ1 H1 (Kp μ1 a) (upd H1 a o):=by
 have x:ExtW μ1 H1 μ1 (upd H1 a o):=(Ext.alloc h ha).toExtW;refine{x.mu,x.tups,λb vs e n=>{(x.lsts b vs e n).1,λz=>?_},x.frzs,x.exts,x.obs};rcases z with z|z
 ·exact n (.inl z)
 ·rcases Rf.mp z with z|z
  ·subst z;rw[ha] at e;cases e
  ·exact n (.inr z)
def Ad (h:RelM fa K μ1 H1 M1)(ha:H1 a=none)(vs:List V):RelM fa K (Kp μ1 a) (upd H1 a (.lst vs)) M1:=by
 have x:=mW h ha (.lst vs);refine{λk ds e=>(h.at' k ds e).imp (λ⟨b,ws,h1,h2,h3⟩=>{b,ws,h1,by rw[aG (aX h2 ha)];exact h2,h3.extW x}) λ⟨b,h1,h2,h3⟩=>{b,h1,h2,h3.extW x (aG (h3.new ha))},h.out,h.oout,h.inj,h.oinj,h.sep,λb hb=>?_}
 ·rcases Rf.mp hb with z|z
  ·subst z;exact{⟨vs,cD⟩,λk e=>by
    obtain⟨_,_,_,q,_⟩:=h.mu_lt e;rw[ha] at q;cases q}
  ·obtain⟨⟨ws,q⟩,n⟩:=h.pv b z;exact{{ws,by rw[aG (aX q ha)];exact q},n}
def GJ (h:RelM fa K μ1 H1 M1)(ha:H1 a=none)(x:fJ a (Kp μ1 a) (upd H1 a (.lst [])) μ' H')(hM:RelM fa K μ' H' M')(hH:H' a=some (.lst vs))(hr:aK fa K μ' H' acc vs)
 (q:ae (bh m acc M') (aW fa K μ1 H1 Q)):Q (.ref a) H':=by
 have na:=λz=>h.pne ha z rfl;have hp:=x.pr;have nk:∀k,μ'.pub k≠some a:=(hM.pv a (by rw[hp];exact QN)).2
 have x0:=mW h ha (.lst []);have xe:Ext μ1 H1 ⟨μ'.pub,μ1.priv,μ'.ob⟩ H':=by
  refine{{λk b e=>x.mu k b e,λb ws e=>x.tups b ws (x0.tups b ws e),λb ws e n=>?_,λb ob u e=>x.frzs b ob u (x0.frzs b ob u e),λb o i e=>x.exts b o i (x0.exts b o i e),λk b e=>x.obs k b (x0.obs k b e)},rfl,λb hb=>?_}
  ·obtain⟨z1,z2⟩:=x0.lsts b ws e n;obtain⟨z3,z4⟩:=x.lsts b ws z1 z2;refine{z3,λz=>z4 ?_};rcases z with z|z
   ·exact .inl z
   ·exact .inr (by rw[hp];exact QJ _ z)
  ·have nb:b≠a:=λe=>na (by rw[<- e];exact hb)
   rw[x.pk b (QJ _ hb) nb,aG nb]
 have xw:ExtW μ' H' ⟨μ'.pub,μ1.priv,μ'.ob⟩ H':={λ_ _ e=>e,λ_ _ e=>e,λb ws e n=>{e,λz=>n (z.elim .inl λz=>.inr (by rw[hp];exact QJ _ z))},λ_ _ _ e=>e,λ_ _ _ e=>e,λ_ _ e=>e}
 have me:RelM fa K ⟨μ'.pub,μ1.priv,μ'.ob⟩ H' M':={λk ds e=>(hM.at' k ds e).imp (λ⟨b,ws,h1,h2,h3⟩=>{b,ws,h1,h2,h3.extW xw}) λ⟨b,h1,h2,h3⟩=>{b,h1,h2,h3.extW xw rfl},hM.out,hM.oout,hM.inj,hM.oinj,hM.sep,λb hb=>hM.pv b (by rw[hp];exact QJ _ hb)}
 have re:=hr.extW xw;have nMt:¬ (⟨μ'.pub,μ1.priv,μ'.ob⟩:Mu).Mt a:=λz=>z.elim (λ⟨k,e⟩=>nk k e) na;unfold bh at q;split at q
 ·cases m with
  | false =>
    exact q (.ref a) H' _ xe me {a,vs,rfl,⟨hH,nMt⟩,re}
  | true =>
    have pc:∀k b,(fN ⟨μ'.pub,μ1.priv,μ'.ob⟩ M'.length a).pub k=some b->(k=M'.length/\b=a)\/(k≠M'.length/\μ'.pub k=some b):=λk b e=>by
     have e:(if k=M'.length then some a else μ'.pub k)=some b:=e;split at e
     ·next z=>cases e;exact .inl ⟨z,rfl⟩
     ·next z=>exact .inr ⟨z,e⟩
    have mc:∀k b,μ'.pub k=some b->(fN ⟨μ'.pub,μ1.priv,μ'.ob⟩ M'.length a).pub k=some b:=λk b e=>by
     show(if k=M'.length then some a else μ'.pub k)=some b;split
     ·next z=>rw[z,hM.out _ (Qw _)] at e;cases e
     ·exact e
    have ac:(fN ⟨μ'.pub,μ1.priv,μ'.ob⟩ M'.length a).pub M'.length=some a:=by
     show(if M'.length=M'.length then some a else _)=some a;rw[if_pos rfl]
    have nc:∀b,¬ μ'.Mt b->¬ (fN ⟨μ'.pub,μ1.priv,μ'.ob⟩ M'.length a).Mt b:=λb n z=>by
     rcases z with⟨k,z⟩|z
     ·rcases pc k b z with⟨_,e⟩|⟨_,e⟩
      ·exact n (.inr (by rw[hp,e];exact QN))
      ·exact n (.inl ⟨k,e⟩)
     ·exact n (.inr (by rw[hp];exact QJ _ z))
    have xc:ExtW μ' H' (fN ⟨μ'.pub,μ1.priv,μ'.ob⟩ M'.length a) H':={mc,λ_ _ e=>e,λb ws e n=>{e,nc b n},λ_ _ _ e=>e,λ_ _ _ e=>e,λ_ _ e=>e};have xe2:Ext μ1 H1 (fN ⟨μ'.pub,μ1.priv,μ'.ob⟩ M'.length a) H':=by
     refine{{λk b e=>mc k b (x.mu k b e),xe.tups,λb ws e n=>?_,xe.frzs,xe.exts,xe.obs},rfl,xe.pk};obtain⟨z1,z2⟩:=x0.lsts b ws e n;obtain⟨z3,z4⟩:=x.lsts b ws z1 z2;exact{z3,nc b z4}
    have mce:RelM fa K (fN ⟨μ'.pub,μ1.priv,μ'.ob⟩ M'.length a) H' (M'++[acc]):=by
     refine{λk ds e=>?_,λk hk=>?_,λk hk=>hM.oout k (by simp at hk;omega),λj k b e1 e2=>?_,hM.oinj,λk b z=>?_,λb hb=>?_}
     ·by_cases hk:k<M'.length
      ·rw[Qv hk] at e;rcases hM.at' k ds e with⟨b,ws,h1,h2,h3⟩|⟨b,h1,h2,h3⟩
       ·exact .inl {b,ws,mc k b h1,h2,h3.extW xc}
       ·exact .inr {b,h1,by show(if k=M'.length then some a else μ'.pub k)=none;rw[if_neg (QY hk)];exact h2,h3.extW xc rfl}
      ·have hk':k=M'.length:=by
        have:=(Qo.mp e).1;simp at this;omega
       subst hk';rw[Ro (Qw _)] at e;simp at e;subst e;exact .inl {a,vs,ac,hH,hr.extW xc}
     ·simp at hk;show(if k=M'.length then some a else μ'.pub k)=none;rw[if_neg `a]
      exact hM.out k `a
     ·rcases pc j b e1 with⟨j1,j2⟩|⟨j1,j2⟩<;>rcases pc k b e2 with⟨k1,k2⟩|⟨k1,k2⟩
      ·omega
      ·exact absurd (j2 ▸ k2) (nk k)
      ·exact absurd (k2 ▸ j2) (nk j)
      ·exact hM.inj j k b j2 k2
     ·show μ'.ob (aC k)=none;rcases pc k b z with⟨e,_⟩|⟨_,e⟩
      ·rw[e];exact hM.oout _ (Qw _)
      ·exact hM.sep k b e
     ·have hb:=hb;obtain⟨z1,z2⟩:=hM.pv b (by rw[hp];exact QJ _ hb)
      refine{z1,λk e=>?_};rcases pc k b e with⟨_,e⟩|⟨_,e⟩
      ·exact na (e ▸ hb)
      ·exact z2 k e
    exact q (.ref a) H' _ xe2 mce ⟨a,rfl,ac⟩
 ·exact q.elim
end
section
variable{fa:Fa}{X:Cx}
noncomputable def bj (m:Bool)(n:Nat)(t:fW)(gw:Env->Mem->Res Walk)(g:Env->List D->Mem->Res (List D)):Env->Mem->Res D:=λZ M=>
 (gw Z M).bind λw M=>(cL (cw t g (List.replicate n none++Z)) w [] M).bind (bh m)
noncomputable def qm (X:Cx)(elt tg iter:Expr)(ifs:List Expr)(rest:List SF)(scope:Scope)(pos:Pos)(body:Addr->R6->Sem Unit):Prop:=
 ∀(it a:Addr) (env:R6),compTurn (.ListComp elt ({tg,iter,ifs,0}::rest) scope pos) 0 (.ref it) (.ref a) env=(standAt iter.pos >>= λ_=>pyNext (.ref it) >>= λr=>match r with
  |none=>pure (.done .next)
  |some v=>letOwnedTupleGo tg (.ref it) v >>= λ_=>assign tg env v >>= λ_=>body a env >>= λ_=>again (.compLoop (.ListComp elt ({tg,iter,ifs,0}::rest) scope pos) 0 (.ref it) (.ref a) env))
structure Block (fa:Fa) (X:Cx) (A:Addr->PA) (own bn:List Str) (scope:Scope) (tg:Expr) (t:fW) (W:List Nat) (body:Addr->R6->Sem Unit) (g:Env->List D->Mem->Res (List D)):Prop where
 pg:∀cl C fp s H,PG (gi X own bn scope cl C fp s H) tg (gT fa X.K t)
 db:∀cl C fp s H a,DB fa (gi X own bn scope cl C fp s H) (A a) a W (body a (compEnvC scope cl C X.env)) g
def sh (h:∀i∈W,i<n):Clear W (List.replicate n none++Z):=λi hi d e=>by
 rw[Qv (by simpa using h i hi),SD] at e
 simp[h i hi] at e
def tX {K:Qp}(n:Nat)(h:bu fa K μ H σ Z):bu fa K μ H (List.replicate n none++σ) (List.replicate n none++Z):=by
 refine{by simp[h.len],λi d e=>?_}
 by_cases hi:i<n
 ·rw[Qv (by simpa using hi),SD] at e
  simp[hi] at e
 ·rw[Ro `o] at e ⊢
  simp only[List.length_replicate] at e ⊢;exact h.at' _ d e
def qe {rest:List SF}
 (S:fK X own bn scope) (hcalm:X.calm=true) (hi:DI fa X tg iter gw) (B:Block fa X (LA fa X.K) own bn scope tg t W body g) (hT:qm X elt tg iter ifs rest scope pos body) (hW:∀i∈W,i∉slots t) (hn:∀i∈slots t++W,i<own.length)
 (hs:∀x,foldedSetIterable iter X.env x=pure x)
 (I:Inv X pins σ H s) (hE:bu fa X.K μ H σ Z) (hM:RelM fa X.K μ H M) (h:ae (bj m own.length t gw g Z M) (aW fa X.K μ H Q))
 (post:∀(a C:Addr) (s':Qu) (H':Hp),Inv X pins σ H' s'->Q (.ref a) H'->(∃m,s'.heap.Ns C m)->(∀σ2 H2 s2,Inv X pins σ2 H2 s2->(H' C=none->H2 C=none)->H2 C=none/\∀h'',Sh C s2.heap h''->Inv X pins σ2 H2 {s2 with heap:=h''})->H' C=none->(C≠X.env.locals/\∀x c,X.env.cells.lookup x=some c->c≠C)->compPost (model X.prog X.w) X.A X.xe use QQ (.ref a) C (.ok .next) s') :
 wpAny (model X.prog X.w) X.A (comprehension (.ListComp elt ({tg,iter,ifs,0}::rest) scope pos) scope X.env p0 (newList []) false (eval iter X.env) use) QQ X.xe s:=by
 obtain⟨w,M1,ew,q⟩:=aE h;obtain⟨acc,M2,ea,q2⟩:=aE q;obtain⟨cl,hcl,hsub,hhas⟩:=qf λy hy hf=>I.ok.has y.1 (S.free y hy hf);refine wpAny_comprehension_free rfl hs hcl S.kind S.loc ?_;refine aT (hi pins s σ H (λJ H1=>∃μ1,Ext μ H μ1 H1/\RelM fa X.K μ1 H1 M1/\dN fa X.K μ1 H1 w J) I {μ,Z,M,hE,hM,?_}) λv s1 h1=>aT h1 λitv s2 h2=>?_
 ·rw[ew];exact λJ H1 μ1 x1 m1 wk=>⟨μ1,x1,m1,wk⟩
 obtain⟨it,fp,tn,J,H2,ei,I2,T,st2,f2,μ2,x2,m2,wk⟩:=h2;subst ei;refine wpAny_newObj_type ?_;have ha:=I2.hok.fresh (Qw _);have I3:Inv X pins σ (upd H2 s2.heap.objs.size (.lst [])) {s2 with heap:=s2.heap.push {cls:=.type "list",dict:=none,data:=.seq ([]:List Qr).toArray}}:=
  I2.laid (λb o e=>Qt _ e) (Qw _) {RB _,[],_,.nil,QM _ rfl}
 generalize hs3:({s2 with heap:=s2.heap.push {cls:=.type "list",dict:=none,data:=.seq ([]:List Qr).toArray}}:Qu)=s3 at I3 ⊢
 have k3:∀b o,s2.heap.get? b=some o->s3.heap.get? b=some o:=λb o e=>by rw[<- hs3];exact Qt _ e
 have fo2:=T.obj _ _ st2;have f3:∀b∈fp,fH X pins (upd H2 s2.heap.objs.size (.lst [])) b:=λb hb=>by
  obtain⟨o,e,_⟩:=fo2 b hb;exact{by rw[aG (QY (QK e))];exact(f2 b hb).1,(f2 b hb).2}
 have fo3:∀b∈fp,∃o,s3.heap.get? b=some o:=λb hb=>let{o,e,_}:=fo2 b hb;{o,k3 b o e}
 obtain⟨CL,hce⟩:=Fi S hsub hhas (s3.heap.push {cls:=.type "dict",data:=.dict #[]}) (Sg ..);generalize hcl':cellsFrom (s3.heap.objs.size+1) scope.names cl=cl' at CL hce;refine r8 ?_;rw[hcl'];have hns₁:(pushCells (s3.heap.push {cls:=.type "dict",data:=.dict #[]}) scope.names).Ns s3.heap.objs.size (λ_=>none):=(Heap.Ns.new s3.heap (.type "dict")).keeps (pushCells_keeps _ _);have k4:∀b o,s3.heap.get? b=some o->(pushCells (s3.heap.push {cls:=.type "dict",data:=.dict #[]}) scope.names).get? b=some o:=λb o e=>pushCells_keeps _ _ b o (Qt _ e);generalize pushCells (s3.heap.push {cls:=.type "dict",data:=.dict #[]}) scope.names=h₁ at hns₁ k4 hce ⊢;clear hcl hcl' hsub hhas cl
 rename List (Str×Addr)=>cl
 have I4:=u3 (t':=s3.toks) I3 S CL f3 fo3 hns₁ k4 hce;have ok4:=I4.ok;have f4:∀b∈fp,fH (gi X own bn scope cl s3.heap.objs.size fp s3 (upd H2 s2.heap.objs.size (.lst []))) [] (upd H2 s2.heap.objs.size (.lst [])) b:=λb hb=>
  {(f3 b hb).1,(ok4.exf b hb).1,ok4.exfs b hb,.inl hb,(ok4.exf b hb).2,λp hp=>nomatch hp}
 have st4:=T.keep _ _ _ st2 λb hb o e=>k4 b o (k3 b o e);have x3:=mW m2 ha (.lst []);have go:=rh LA.stab (X:=gi X own bn scope cl s3.heap.objs.size fp s3 (upd H2 s2.heap.objs.size (.lst []))) (acc:=[]) (hT it s2.heap.objs.size _) ⟨rfl,rfl⟩ rfl hcalm T (B.pg _ _ _ _ _) (B.db _ _ _ _ _ _) hW I4 st4 f4
  (tX own.length ((hE.ext x2).extW x3)) (Ad m2 ha []) (sh hn) {QN,_,cD,rfl} (rK wk x3) (by
   rw[ea];rintro σ' H' μ' z1 z2 z3 ⟨_,vs',z4,z5⟩;exact GJ m2 ha z1 z3 z4 z5 (kI q2 x2))
 have go':codeAny (model X.prog X.w) X.A (.compLoop (.ListComp elt ({tg,iter,ifs,0}::rest) scope pos) 0 (.ref it) (.ref s2.heap.objs.size) (compEnvC scope cl s3.heap.objs.size X.env)) (compPost (model X.prog X.w) X.A X.xe use QQ (.ref s2.heap.objs.size) s3.heap.objs.size) {s3 with heap:=h₁}:=
  codeAny_mono go λr s' ⟨er,σ',H',I',z⟩=>by
   subst er;refine post _ _ s' H' (comp_back I3 f3 I') z (let{m,hn,_}:=I'.loc;⟨m,hn⟩) (λσ2 H2 s2' I2' hf=>{hf I'.free,λh'' hs''=>se I3 (hf I'.free) I2' hs''}) I'.free {Rz I3.lt,λx c e z=>by
    obtain⟨v,q⟩:=I3.cell x c e;exact absurd q.lt (by rw[z];exact RL _)}
 exact codeAny_compStart_list go' (T.self _ 0 _ _ _ st4 go')
def LM (m:Bool){elt tg iter:Expr}{rest:List SF}
 (S:fK X own bn scope) (hcalm:X.calm=true) (hi:DI fa X tg iter gw) (B:Block fa X (LA fa X.K) own bn scope tg t W body g) (hT:qm X elt tg iter ifs rest scope pos body) (hW:∀i∈W,i∉slots t) (hn:∀i∈slots t++W,i<own.length)
 (hs:∀x,foldedSetIterable iter X.env x=pure x):DE fa X (.ListComp elt ({tg,iter,ifs,0}::rest) scope pos) (bj m own.length t gw g):=by
 intro pins s σ H Q I ⟨μ,Z,M,hE,hM,h⟩;rw[eval_ListComp];refine qe S hcalm hi B hT hW hn hs I hE hM h ?_;intro a C s' H' I' q ⟨m,hn⟩ gone hf _;exact{m,hn,λh' hs'=>{.ref a,H',(gone σ H' s' I' id).2 h' hs',rfl,q}}
def yh (m:Bool){y:Str}{rest:List SF}
 (S:fK X own bn scope) (hcalm:X.calm=true) (hi:DI fa X tg iter gw) (B:Block fa X (LA fa X.K) own bn scope tg t W body g) (hT:qm X elt tg iter ifs rest scope pos body) (hW:∀i∈W,i∉slots t) (hn:∀i∈slots t++W,i<own.length)
 (hs:∀x,foldedSetIterable iter X.env x=pure x) (hN:X.N.Nodup) (hy:X.N[i]?=some y) (hl:X.env.scope.names.lookup y=some .local)
 (hsw:swapsWith (.ListComp elt ({tg,iter,ifs,0}::rest) scope pos) (some (.Name y py)) spos.line X.env=pure true) :
 DS fa X (.Assign [.Name y py] (.ListComp elt ({tg,iter,ifs,0}::rest) scope pos) spos) (λZ M=>(bj m own.length t gw g Z M).bind λx M=>(cm M (bX (.one i) x Z)).bind λρ1 M=>.ok (.next ρ1) M):=by
 intro pins s σ H D' I ⟨μ,Z,M,hE,hM,h⟩;obtain⟨x,M1,ex,q⟩:=aE h;rw[exec_Assign_Name_used _ _ _ _ hsw];refine tqa (wpAny_standAt (tqa ?_));refine tqa (aT (qe S hcalm hi B hT hW hn hs I hE hM (by
  rw[ex];exact λv H' μ' x1 m1 r1=>q _ H' μ' x1 ((hE.ext x1).set r1) m1) ?_) λ_ s' hq=>tqb (tqb hq))
 intro a C s' H' I' q ⟨m,hn⟩ gone hf ⟨nL,nC⟩;refine wpAny_assign_Name (rP I' hN hy (.inl hl) (v:=.ref a) rfl (λs2 I2 ⟨b,hb,hb2⟩=>?_) (.inr hl));have nb:C≠b:=by
  rcases hb2 with z|z
  ·rw[z];exact nL
  ·exact RC (nC y b z)
 exact{m,hn.sameBut hb nb,λh' hs'=>{_,H',(gone _ H' s2 I2 id).2 h' hs',q}}
end
section
variable{X:Cx}{pins:List (Addr×Obj)}{σ:L2.St}{H:Hp}{s:Qu}{h':Heap}{t':Nat}{ch:List Addr}
def vL (I:Inv X pins σ H s)(hf:∀b∈ch,fH X pins H b)(k:∀b o,b∉ch->s.heap.get? b=some o->h'.get? b=some o):Inv X pins σ H {s with heap:=h',toks:=t'}:=by
 have nit:∀b u,H b=some u->b∉ch:=λb u e z=>by rw[(hf b z).1] at e;cases e
 refine I.step (λb hb=>{(hf b hb).2.2.2.1,(hf b hb).2.1,(hf b hb).2.2.2.2.1,(hf b hb).2.2.2.2.2}) (λb o _ _ hc e _=>k b o hc e) (λb o _ _ hc e _=>{o.slots,k b o hc e}) (λ_ _ _ _ n=>n)
  (λb o hc e=>{o,k b o hc e}) (λ_ _ e=>e) (λ_ _ _ e=>e) (λb ps e=>{#[],by rw[e];simp}) (λm hm=>?_) (λb u e=>?_) I.bare
 ·obtain⟨o,es,ep,ho,r⟩:=hm;exact{o,es,ep,k _ o (λz=>(hf _ z).2.1 rfl) ho,r}
 ·refine(I.hok b u e).stay (λc v hc q=>k c v ?_ q) (λ_ q=>q) λ_ _ q=>q;rcases hc with z|z
  ·rw[z];exact nit b u e
  ·exact nit c _ z
def rM (I:Inv X pins σ H s)(hf:∀b∈ch,fH X pins H b)(k:∀b o,b∉ch->s.heap.get? b=some o->h'.get? b=some o)(hT:s.heap.objs.size<=T)(new:cX X.prog X.w (upd H T o) h' T o) :
 Inv X pins σ (upd H T o) {s with heap:=h',toks:=t'}:=by
 have hn:=I.hok.fresh hT;have nit:∀b u,H b=some u->b∉ch:=λb u e z=>by rw[(hf b z).1] at e;cases e
 refine I.step (λb hb=>{(hf b hb).2.2.2.1,(hf b hb).2.1,(hf b hb).2.2.2.2.1,(hf b hb).2.2.2.2.2}) (λb o _ _ hc e _=>k b o hc e) (λb o _ _ hc e _=>{o.slots,k b o hc e})
  (λb o _ e n=>by rw[aG (QY (QS (QK e) hT))];exact n)
  (λb o hc e=>{o,k b o hc e}) (λb xs e=>by rw[aG (aX e hn)];exact e) (λb ob u e=>by rw[aG (aX e hn)];exact e) (λb ps e=>{#[],by rw[aG (aX e hn),e];simp}) (λm hm=>?_) (λb u e=>?_) I.bare
 ·obtain⟨o,es,ep,ho,r⟩:=hm;exact{o,es,ep,k _ o (λz=>(hf _ z).2.1 rfl) ho,r}
 ·by_cases hb:b=T
  ·subst hb;rw[cD] at e;cases e;exact new
  ·rw[aG hb] at e;refine(I.hok b u e).stay (λc v hc q=>k c v ?_ q) (λc q=>by rw[aG (aX q hn)];exact q) λc xs q=>by rw[aG (aX q hn)];exact q
   rcases hc with z|z
   ·rw[z];exact nit b u e
   ·exact nit c _ z
end
section
variable{fa:Fa}{X:Cx}{a:Expr}{ga:Env->Mem->Res D}{pos p:Pos}
def m5:∀(ds:List D) (k i:Nat),(fy k ds)[i]?=(ds[i]?).map λd=>.tup [.int ((k+i:Nat):Int),d]
 |[],_,_=>by simp[fy]
 |d::ds,k,0=>by simp[fy]
 | d :: ds, k, i + 1 => by
   have:=m5 ds (k+1) i;simp only[fy,List.getElem?_cons_succ,this]
   congr 1
   funext d
   congr 3
   omega
def mZ:∀(ds:List D) (k:Nat),(fy k ds).length=ds.length
 |[],_=>rfl
 |d::ds,k=>by simp[fy,mZ ds]
end
noncomputable def cg:Bool->Heap->Addr->Array Qr->Prop
 |true,h,a,its=>h.IsList a its
 |false,h,a,its=>h.IsTuple a its
noncomputable def ff:Bool->Heap->Addr->Addr->Nat->Prop
 |true,h,it,a,i=>h.IsListIter it a i
 |false,h,it,a,i=>h.IsTupleIter it a i
def cg.extBut (x:cg b h a its)(hs:Heap.ExtBut c h h')(n:a≠c):cg b h' a its:=by
 cases b<;>(obtain⟨o,ho,r⟩:=x;exact{o,hs a o n ho,r})
def ff.extBut (x:ff b h it a i)(hs:Heap.ExtBut c h h')(n:it≠c):ff b h' it a i:=by
 cases b<;>(obtain⟨o,ho,r⟩:=x;exact{o,hs it o n ho,r})
def cg.at (x:cg b h a its)(k:∀o,h.get? a=some o->h'.get? a=some o):cg b h' a its:=by
 cases b<;>(obtain⟨o,ho,r⟩:=x;exact{o,k o ho,r})
def ff.at (x:ff b h it a i)(k:∀o,h.get? it=some o->h'.get? it=some o):ff b h' it a i:=by
 cases b<;>(obtain⟨o,ho,r⟩:=x;exact{o,k o ho,r})
def ff.obj (x:ff b h it a i):∃o,h.get? it=some o/\∀v,o.data≠.cell v:=by
 cases b<;>(obtain⟨o,ho,c,d⟩:=x;exact{o,ho,λv z=>by rw[d] at z;cases z})
section
variable{prog:Rp}{w:Rr}{A:RW}{E:Qr->Qu->Prop}{s:Qu}
def vp {a b:Nat}(h:a≠b):@Ne Addr a b:=h
def Iz {T:Addr}{its:Array Qr}{k:Nat}{x:Qr}{Q:Unit->Qu->Prop}(hT:s.heap.get? T=some {cls:=.type "tuple",data:=.seq its})(hz:its.size<=64)
 (h:∀h',h'.get? T=some {cls:=.type "tuple",data:=.seq (its.setIfInBounds k x)}->Sh T s.heap h'->Q () {s with heap:=h'}) :
 wpAny (model prog w) A (updateSeq T (·.setIfInBounds k x)) Q E s:=by
 refine wpAny_updateSeq hT rfl (h _ ?_ (RQ ..)) (QH hz `d) (by rw[Array.size_setIfInBounds];exact QH hz `d)
 rw[Ry _ hT rfl];simp[Obj.mapSeq]
def i3 {b:Bool}{it a:Addr}{i:Nat}{its:Array Qr}{Q:Qr->Qu->Prop}(hh:A.handled=none)(hit:ff b s.heap it a i)(hl:cg b s.heap a its)
 (hQ:∀x h',its[i]?=some x->ff b h' it a (i+1)->Sh it s.heap h'->Q x {s with heap:=h'})
 (hE:its[i]?=none->∀h' e,Heap.ExtBut it s.heap h'->(∃o,h'.get? e=some o/\o.cls=.type "StopIteration")->E (.ref e) {s with heap:=h'}):wpAny (model prog w) A (Builtin.SmallTypes.nextOf (.ref it)) Q E s:=by
 cases b with
 | true => cases hx : its[i]? with
   |some x=>exact wpAny_nextOf_list_item hit hl hx λh'=>hQ x h' hx
   |none=>exact wpAny_nextOf_list_end hh hit hl hx (hE hx)
 | false =>
   obtain⟨o,ho,hc,hd⟩:=id hit;obtain⟨ol,hol,_,nl,hdl⟩:=hl;refine tqa (wpAny_callSpecial?_slot hit.typeIs F.slot_tuple_iterator_next
    (wpAny_call_entry F.slot_tuple_iterator_next hit.typeIs F.entry_tuple_iterator_next ?_ (F.args_tuple_iterator_next_1 _)))
   show wpAny _ _ (field (.ref it) 0 >>= _) _ _ s;refine tqa (tqf ho hd rfl ?_);show wpAny _ _ (if (Value.ref a==Value.none)=true then _ else _) _ _ s;rw[if_neg (show ¬ ((Value.ref a==Value.none)=true) from QR)];refine tqa (tqf ho hd rfl ?_);refine tqa (wpAny_seqItems hol hdl ?_);cases hx:its[i]? with
   | some x =>
     simp only[R1,hx];refine tqa (wpAny_setField ho hd `s (tqb {x,rfl,tqb (hQ x _ hx ?_ (RQ ..))}))
     exact{_,Ry _ ho (SN (R9 hd _)),(Obj.cls_mapFields ..).trans hc,by
      rw[R9 hd];simp[rawInt]}
   | none =>
     simp only[R1,hx];refine tqa (wpAny_rule (tqa (wpAny_setField ho hd `s ?_)))
     refine tqa ?_;refine tqa (wpAny_newObj_type ?_ (by size_fits))
     refine tqa (wpAny_of_eq (by first|rfl|(simp only[firstArgMember];rfl)) ?_)
     refine wpAny_newObj_type ?_ (by size_fits)
     refine tqa (wpAny_handled ?_);first|rw[show A.in1.handled=none from hh]|rw[hh]
     refine tqa (tqb (wpAny_throw ?_));exact hE hx _ _ (((RQ ..).extBut.push _).push _) {_,QM _ rfl,rfl}
abbrev jn (us:Array Qr):Obj:={cls:=.type "tuple",data:=.seq us}
noncomputable def qB (n k j:Nat):List Qr:=(List.range' k j).map λk=>Value.ref (n+k)
noncomputable def yw (n m:Nat)(h h':Heap):Prop:=∀(c:Nat) o,(c<n\/c=n+m\/n+m+2<c)->h.get? c=some o->h'.get? c=some o
noncomputable def yD (n i k:Nat)(l:List (Bool×Nat))(h:Heap):Prop:=∀(j:Nat) b a,l[j]?=some (b,a)->ff b h (n+j) a (if j<k then i+1 else i)
noncomputable def L7 (n:Nat)(l:List (Bool×Nat))(xs:Nat->Array Qr)(h:Heap):Prop:=∀(j:Nat) b a,l[j]?=some (b,a)->a<n/\cg b h a (xs j)
abbrev ql (h:Heap)(n m:Nat)(v:Qr):Prop:=IsZip h (n+m+2) (n+m) (n+m+1) v
noncomputable def PY (n m i k:Nat)(l:List (Bool×Nat))(xs:Nat->Array Qr)(h0 h:Heap):Prop:=ql h n m .ellipsis/\(∃us:Array Qr,us.size=m/\(∀j<k,us[j]?=(xs j)[i]?)/\h.get? (n+m+1)=some (jn us))/\yD n i k l h/\L7 n l xs h/\yw n m h0 h/\h.objs.size=h0.objs.size
def EJ {M:Model}{β:Type}{f:Qr×Nat->β->Sem (ForInStep β)}{b:β}{Q:β->Qu->Prop}(n m:Nat)(I:Nat->Qu->Prop)
 (hs:∀k s,k<m->I k s->wpAny M A (f (.ref (n+k),k) b) (λr s'=>r=.yield b/\I (k+1) s') E s) (hQ:∀s,I m s->Q b s):∀(j k:Nat) (s:Qu),k+j=m->I k s->wpAny M A (forIn ((qB n k j).zipIdx k) b f) Q E s
 |0,k,s,e,h=>tqb (hQ s (e ▸ h))
 | j + 1, k, s, e, h => by
   show wpAny M A (forIn ((Value.ref (n+k),k)::(qB n (k+1) j).zipIdx (k+1)) b f) Q E s;rw[List.forIn_cons];refine tqa (aT (hs k s `a h) ?_)
   rintro _ s' ⟨rfl,h'⟩;exact EJ n m I hs hQ j (k+1) s' `a h'
def td {n m i:Nat}{l:List (Bool×Nat)}{xs:Nat->Array Qr}{us:Array Qr}{Q:Qr->Qu->Prop}(hh:A.handled=none)(hl:l.length=m+1)(h64:m<64)
 (hz:ql s.heap n (m+1) .none) (hTI:s.heap.get? (n+(m+1))=some (jn (qB n 0 (m+1)).toArray)) (hTO:s.heap.get? (n+(m+1)+1)=some (jn us)) (hu:us.size=m+1) (hi:yD n i 0 l s.heap) (hq:L7 n l xs s.heap)
 (hQ:∀h' us,us.size=m+1->(∀k<m+1,us[k]?=(xs k)[i]?)->ql h' n (m+1) (rawInt s.heap.objs.size)->h'.get? (n+(m+1)+1)=some (jn us)->yD n (i+1) 0 l h'->h'.get? s.heap.objs.size=some (jn us)->yw n (m+1) s.heap h'->Q (.ref s.heap.objs.size) {s with heap:=h'})
 (hE:∀h' e k,k<m+1->(xs k)[i]?=none->yw n (m+1) s.heap h'->(∃o,h'.get? e=some o/\o.cls=.type "StopIteration")->E (.ref e) {s with heap:=h'}) :
 wpAny (model prog w) A (Builtin.«zip.__next__» {[.ref (n+(m+1)+2)],[]}) (λfin s'=>∃v,fin=.done (.ret v)/\Q v s') E s:=by
 show wpAny _ _ (field (.ref (n+(m+1)+2)) 2 >>= _) _ _ _;refine tqa (tqf hz rfl rfl ?_);refine tqa (tqf hz rfl rfl ?_);refine tqa (wpAny_seqItems hTI rfl ?_);refine tqa ?_;refine tqa (tqf hz rfl rfl (tqb ?_));refine tqa (wpAny_rule ?_);refine tqa (tqf hz rfl rfl ?_);refine tqa (wpAny_setField_rec hz `s λh0 hz0 hs0=>?_)
 have u0:∀(c:Nat) o,c≠n+(m+1)+2->s.heap.get? c=some o->h0.get? c=some o:=λc o ne=>hs0.extBut c o ne;have mm:∀{j b a},l[j]?=some (b,a)->j<m+1:=λe=>hl ▸ (Qo.mp e).1;refine tqa (EJ n (m+1) (λk s'=>∃h,s'={s with heap:=h}/\PY n (m+1) i k l xs s.heap h) ?_ ?_ (m+1) 0 _ (Nat.zero_add _) {h0,rfl,hz0,{us,hu,λ_ z=>absurd z (R4 _),u0 _ _ `a hTO},λj b a e=>(hi j b a e).at λo=>u0 _ o (by have:=mm e;omega),λj b a e=>{(hq j b a e).1,(hq j b a e).2.at λo=>u0 _ o (by have:=(hq j b a e).1;omega)},λc o hc=>u0 c o `a,hs0.1})
 ·rintro k _ hk ⟨h,rfl,hz,⟨us,hu,hx,hT⟩,hi,hq,kp,sz⟩;obtain⟨⟨b,a⟩,e⟩:∃p,l[k]?=some p:={_,QG `a}
  have it:=hi k b a e;rw[if_neg (RL k)] at it;refine tqa (wpAny_onRaise ?_);refine tqa (i3 hh it (hq k b a e).2 (λx h1 ex j1 hs1=>tqb ?_) λen h1 e1 hs1 ⟨oe,hoe,hce⟩=>?_)
  ·have hT1:=hs1.extBut _ _ (vp `a) hT
   refine tqa (wpAny_seqItems hT1 rfl ?_);refine tqa (Iz hT1 `a λh2 hT2 hs2=>?_)
   have up:∀(c:Nat) o,c≠n+k->c≠n+(m+1)+1->h.get? c=some o->h2.get? c=some o:=λc o x y z=>hs2.extBut c o y (hs1.extBut c o x z);refine tqa (wpAny_letGo (tqb {rfl,h2,rfl,up _ _ `a `a hz,{_,(Array.size_setIfInBounds ..).trans hu,λj hj=>?_,hT2},λj b' a' e'=>?_,λj b a e=>{(hq j b a e).1,(hq j b a e).2.at λo=>up _ o (by have:=(hq j b a e).1;omega) (by have:=(hq j b a e).1;omega)},λc o hc x=>up c o `a `a (kp c o hc x),by rw[hs2.1,hs1.1,sz]}))
   ·by_cases jk:j=k
    ·subst jk;rw[Array.getElem?_setIfInBounds_self_of_lt `a,ex]
    ·rw[Array.getElem?_setIfInBounds_ne (RC jk),hx j `a]
   ·by_cases jk:j=k
    ·subst jk;cases e.symm.trans e';rw[if_pos (Nat.lt_succ_self _)];exact j1.at λo=>hs2.extBut _ o (vp `a)
    ·have q:=hi j b' a' e';have:=mm e';rw[show(if j<k+1 then i+1 else i)=if j<k then i+1 else i by split<;>split<;>omega]
     exact q.at λo=>up _ o `a `a
  ·have hz1:=hs1 _ _ (vp `a) hz
   have hez:e1≠n+(m+1)+2:=λx=>by subst x;rw[hz1] at hoe;cases hoe;simp at hce
   exact wpAny_setField_rec hz1 `s λh2 _ hs2=>hE h2 e1 k hk en (λc o hc x=>hs2.extBut _ _ (vp `a) (hs1 _ _ (vp `a) (kp c o hc x))) {oe,hs2.extBut _ _ hez hoe,hce}
 ·rintro _ ⟨h4,rfl,hz4,⟨us,hu,hx,hT⟩,hi,hq,kp,sz4⟩;refine tqa (wpAny_seqItems hT rfl ?_);refine tqa (wpAny_newTuple (hsz:=QH (show us.toList.length<=64 by rw[Sz];omega) `d) ?_)
  have hzlt:=QK hz4;refine tqa ?_;have hz6:ql (h4.push (jn us)) n (m+1) .ellipsis:=Qt _ hz4;refine tqa (wpAny_setField_rec hz6 `s λh7 hz7 hs7=>?_)
  refine wpAny_setField_rec hz7 `s λh8 hz8 hs8=>?_
  have up:∀(c:Nat) o,c≠n+(m+1)+2->(h4.push (jn us)).get? c=some o->h8.get? c=some o:=λc o c1 e=>hs8.extBut _ _ c1 (hs7.extBut _ _ c1 e);refine tqb {_,rfl,?_};have hT8:=up h4.objs.size _ (Rz hzlt) (QM _ rfl);rw[sz4] at hT8 hz8 ⊢;refine hQ h8 us hu hx hz8 (up _ _ `a (Qt _ hT)) (λj b a e=>?_) hT8 λc o hc e=>up c o `a (Qt _ (kp c o hc e))
  have q:=hi j b a e;rw[if_pos (mm e)] at q;exact q.at λo e'=>up _ o (by have:=mm e;omega) (Qt _ e')
end
noncomputable def iO (K:Qp)(H:Hp):Bool->Addr->List V->Prop
 |true,a,xs=>c7 K H a xs
 |false,a,xs=>dQ K H a xs
noncomputable def iA:D->Bool
 |.tup _=>false
 |_=>true
noncomputable def fx:D->Bool
 |.tup _=>true
 |.lst _=>true
 |.frz _=>true
 |.cell _=>true
 |_=>false
def nE {X:Cx}{pins:List (Addr×Obj)}{σ:L2.St}{H:Hp}{s:Qu}{b:Bool}{a:Addr}{xs:List V}(I:Inv X pins σ H s)(h:iO X.K H b a xs):∃its:List Qr,Vals xs its/\cg b s.heap a its.toArray:=by
 cases b with
 |true=>obtain⟨its,r,p,_⟩:=I.list h;exact⟨its,r,p.isList⟩
 |false=>obtain⟨its,r,p,_⟩:=I.tuple h;exact⟨its,r,p⟩
def lC {X:Cx}{pins:List (Addr×Obj)}{σ:L2.St}{H:Hp}{s:Qu}{b:Bool}{a:Addr}{xs ys:List V}(I:Inv X pins σ H s)(h:iO X.K H b a xs)(h':iO X.K H b a ys):xs=ys:=by
 cases b with
 |true=>exact I.list_inj h h'
 |false=>exact I.tuple_inj h h'
def lB {fa:Fa}{X:Cx}{μ:Mu}{H:Hp}{M:Mem}{d:D}{a:Addr}{ds:List D}(hM:RelM fa X.K μ H M)(h:Rep fa X.K μ H d (.ref a))(e:cj M d=some ds):∃vs,iO X.K H (iA d) a vs/\aK fa X.K μ H ds vs:=by
 cases d with
 |tup xs=>cases e;obtain⟨a',vs,e,s,r⟩:=h;cases e;exact⟨vs,s,r⟩
 |lst xs=>obtain⟨a',vs,e',s,r⟩:=bG hM h (e);cases e';exact⟨vs,s,r⟩
 |frz xs=>obtain⟨a',vs,e',s,r⟩:=bG hM h (e);cases e';exact⟨vs,s,r⟩
 |cell k=>obtain⟨a',vs,e',s,r⟩:=bG hM h (e);cases e';exact⟨vs,s,r⟩
 |_=>cases e
def oJ {fa:Fa}{X:Cx}{pins:List (Addr×Obj)}{σ:L2.St}{μ:Mu}{H:Hp}{s:Qu}{M:Mem}{d:D}{v:V}(I:Inv X pins σ H s)(hM:RelM fa X.K μ H M)(h:Rep fa X.K μ H d v)(e:fx d=true):∃(a:Nat) (its:Array Qr),v=.ref a/\cg (iA d) s.heap a its:=by
 have key:∀ds,cj M d=some ds->∃(a:Nat) (its:Array Qr),v=.ref a/\cg (iA d) s.heap a its:=λds z=>by
  obtain⟨a,vs,rfl,_,_⟩:=jr hM h z;obtain⟨vs,s1,_⟩:=lB hM h z;obtain⟨its,_,p⟩:=nE I s1;exact⟨a,its.toArray,rfl,p⟩
 cases d with
 |tup xs=>exact key xs rfl
 |lst xs=>exact key xs rfl
 |frz xs=>exact key xs rfl
 | cell k =>
   obtain⟨a,e,hk⟩:=id h;obtain⟨ds,_,z,_⟩:=hM.mu_lt hk;exact key ds z
 |_=>cases e
def cg.lt {b:Bool}{h:Heap}{a:Addr}{its:Array Qr}(x:cg b h a its):a<h.objs.size:=by
 cases b<;>(obtain⟨o,ho,r⟩:=x;exact QK ho)
def cg.push {b:Bool}{h:Heap}{a:Addr}{its:Array Qr}(x:cg b h a its)(ob:Obj):cg b (h.push ob) a its:=by
 cases b<;>(obtain⟨o,ho,r⟩:=x;exact{o,Qt _ ho,r})
noncomputable def fO (b:Bool)(a:Addr):Obj:={cls:=.type (if b then "list_iterator" else "tuple_iterator"),data:=.fields #[.ref a,.int 0 0]}
def ff.new {b:Bool}{h:Heap}{it a:Addr}(e:h.get? it=some (fO b a)):ff b h it a 0:=by
 cases b<;>exact{_,e,rfl,rfl}
def pL {prog:Rp}{w:Rr}{A:RW}{E:Qr->Qu->Prop}{s:Qu}{b:Bool}{a:Addr}{its:Array Qr}{Q:Qr->Qu->Prop}(h:cg b s.heap a its)(hQ:Q (.ref s.heap.objs.size) {s with heap:=s.heap.push (fO b a)}):wpAny (model prog w) A (pyIter (.ref a)) Q E s:=by
 cases b with
 |true=>exact wpAny_pyIter_list h hQ
 |false=>exact wpAny_pyIter_tuple h hQ
abbrev jJ:=List (Bool×Nat)
noncomputable def Mc (K:Qp)(l:jJ):It:=
 {λi H => ∀ (j : Nat) b a, l[j]? = some (b, a) -> ∃ xs x, iO K H b a xs /\ xs[i]? = some x,
  λi H v H'=>∃p ys,H p=none/\v=.ref p/\H'=upd H p (.tup ys)/\ys.length=l.length/\∀(j:Nat) b a,l[j]?=some (b,a)->∀xs,iO K H b a xs->ys[j]?=xs[i]?,
  λi H=>(∀(j:Nat) b a,l[j]?=some (b,a)->∃xs,iO K H b a xs)/\∃(j:Nat) (b:Bool) (a:Nat) (xs:List V),l[j]?=some (b,a)/\iO K H b a xs/\xs.length<=i}
noncomputable def yv (n m:Nat)(l:jJ)(i:Nat)(h:Heap):Prop:=ql h n (m+1) .none/\h.get? (n+(m+1))=some (jn (qB n 0 (m+1)).toArray)/\(∃us:Array Qr,us.size=m+1/\h.get? (n+(m+1)+1)=some (jn us))/\yD n i 0 l h
noncomputable def Ih (n m:Nat):List Addr:=List.range' n (m+4)
def d8 {n m b:Nat}:b∈Ih n m↔n<=b/\b<n+(m+4):=List.mem_range'_1
def Ey {X:Cx}{pins:List (Addr×Obj)}{σ:L2.St}{H:Hp}{s:Qu}{l:jJ}(I:Inv X pins σ H s)(h:∀(j:Nat) b a,l[j]?=some (b,a)->∃xs,iO X.K H b a xs) :
 ∃(vs:Nat->List V) (ws:Nat->List Qr),∀(j:Nat) b a,l[j]?=some (b,a)->iO X.K H b a (vs j)/\Vals (vs j) (ws j)/\cg b s.heap a (ws j).toArray:=by
 obtain⟨f,hf⟩:=Classical.skolem.mp λj:Nat=>show ∃p:List V×List Qr,∀b a,l[j]?=some (b,a)->iO X.K H b a p.1/\Vals p.1 p.2/\cg b s.heap a p.2.toArray from by
  cases e:l[j]? with
  |none=>exact{([],[]),λ_ _ z=>by cases z}
  | some p =>
    obtain⟨xs,hx⟩:=h j p.1 p.2 e;obtain⟨its,r,q⟩:=nE I hx;exact{(xs,its),λb' a' z=>by cases z;exact⟨hx,r,q⟩}
 exact{λj=>(f j).1,λj=>(f j).2,hf}
def Ed:∀{us:List Qr}{R:Nat->V->Prop},(∀(k:Nat) w,us[k]?=some w->∃y,RelV y w/\R k y)->∃ys,Vals ys us/\∀(k:Nat) y,ys[k]?=some y->R k y
 |[],R,_=>{[],.nil,λ_ _ z=>by simp at z}
 | w :: r, R, h => by
   obtain⟨y,e,q⟩:=h 0 w rfl;obtain⟨ys,v,t⟩:=Ed λk w e=>h (k+1) w e;exact{y::ys,.cons e v,λk z e=>match k,e with
    |0,e=>by cases e;exact q
    |k+1,e=>t k z e}
def B3 {P:Rp}{w:Rr}{K:Qp}{elts:List Expr}{kk:Nat}{pos:Pos}(n m:Nat)(l:jJ)(hl:l.length=m+1)(h64:m<64)(hn:∀(j:Nat) b a,l[j]?=some (b,a)->a<n) :
 Turn P w K (.Tuple elts kk pos) (Mc K l) (Ih n m) (n+(m+1)+2) (λi h=>yv n m l i h) where
 mem:=d8.mpr `a
 obj:=λi h ⟨h1,h2,⟨us,_,h3⟩,hi⟩ (b:Nat) hb=>by
  replace hb:=d8.mp hb;by_cases c:b<n+(m+1)
  ·obtain⟨j,rfl⟩:∃j,b=n+j:={b-n,`a}
   exact(hi j _ _ (QG `a)).obj
  ·rcases(show b=n+(m+1)\/b=n+(m+1)+1\/b=n+(m+1)+2 by omega) with rfl|rfl|rfl
   ·exact{_,h2,λv z=>by cases z}
   ·exact{_,h3,λv z=>by cases z}
   ·exact{_,h1,λv z=>by cases z}
 keep:=λi h h' ⟨h1,h2,⟨us,hu,h3⟩,hi⟩ k=>{k _ (d8.mpr `a) _ h1,k _ (d8.mpr `a) _ h2,{us,hu,k _ (d8.mpr `a) _ h3},λj b a e=>(hi j b a e).at (k _ (d8.mpr (by have:=(Qo.mp e).1;omega)))}
 item:=by
  intro X hP hw hK hc i pins s σ H E I hf {h1,h2,⟨us,hu,h3⟩,hi} hg;subst hP hw hK;obtain⟨vs,ws,hv⟩:=Ey I λj b a e=>(hg j b a e).imp λ_ ⟨_,h,_⟩=>h;have it:∀k,k<m+1->∃x w b a,l[k]?=some (b,a)/\(vs k)[i]?=some x/\(ws k)[i]?=some w/\RelV x w:=λk hk=>by
   have e:l[k]?=some (l[k]'(`a)):=QG _
   obtain⟨xs,x,hx,ex⟩:=hg k _ _ e;obtain⟨q1,q2,_⟩:=hv k _ _ e;rw[lC I hx q1] at ex;obtain⟨w,hw,r⟩:=q2.get ex;exact{x,w,_,_,e,ex,hw,r}
  have hT:s.TypeIs (.ref (n+(m+1)+2)) "zip":={_,h1,rfl};unfold pyNext;refine tqa (wpAny_attempt (wpAny_callSpecial?_slot hT F.slot_zip_next
   (wpAny_call_entry F.slot_zip_next hT F.entry_zip_next
    (td (I.ok.hd hc) hl h64 h1 h2 h3 hu hi (λj b a e=>{hn j b a e,(hv j b a e).2.2}) (λh4 us hu hx z1 z2 g hTT hk=>tqb {_,rfl,?_}) λh' e k hk en _ _=>?_) (F.args_zip_next_1 _))))
  ·have zlt:n+(m+1)+2<s.heap.objs.size:=QK h1;refine wpAny_letOwnedTupleGo_zip z1 λh5 hz5 hs5=>?_;have up:∀(c:Nat) o,c≠n+(m+1)+2->h4.get? c=some o->h5.get? c=some o:=λc o=>hs5.extBut c o;obtain⟨ys,vy,ty⟩:=Ed (us:=us.toList) λk w e=>by
    have hk:k<m+1:=by have:=(Qo.mp e).1;rw[Sz] at this;omega
    obtain⟨x,w',_,_,_,ex,ew,r⟩:=it k hk;have q:=hx k hk;rw[Array.getElem?_toList] at e;simp only[List.getElem?_toArray] at q;rw[e,ew] at q;cases q;exact⟨x,r,ex⟩
   have ly:ys.length=m+1:=by rw[vy.length,Sz,hu]
   refine{.ref s.heap.objs.size,upd H s.heap.objs.size (.tup ys),rM (s:=s) I hf (λ(b:Nat) o hb q=>up b o (λz=>hb (d8.mpr `a)) (hk b o (by rw[d8] at hb;omega) q)) (Qw _) {by rw[ly];exact QH (show m+1<=64 by omega) `d,us.toList,vy,{_,up _ _ (Rz zlt) hTT,rfl,_,rfl}},rfl,
    {_,ys,I.hok.fresh (Qw _),rfl,rfl,ly.trans hl.symm,λj b a e xs hx=>?_},{hz5,up _ _ `a (hk _ _ `a h2),{us,hu,up _ _ `a z2},λj b a e=>(g j b a e).at λo=>up _ o (by have:=(Qo.mp e).1;omega)},λ(b:Nat) hb=>?_}
   ·have hj:j<ys.length:=by have:=(Qo.mp e).1;omega
    have e1:=QG hj;rw[lC I hx (hv j b a e).1,ty j _ e1,e1]
   ·rw[d8] at hb;rw[aG (QY (by omega:(b:Nat)<s.heap.objs.size))];exact(hf b (d8.mpr hb)).1
  ·obtain⟨_,_,_,_,_,_,ew,_⟩:=it k hk;simp only[List.getElem?_toArray] at en;rw[ew] at en;cases en
 done:=by
  intro X hP hw hK hc i pins s σ H E I hf {h1,h2,⟨us,hu,h3⟩,hi} ⟨hs,k,b,a,xs,ek,hq,le⟩;subst hP hw hK;obtain⟨vs,ws,hv⟩:=Ey I hs;have hT:s.TypeIs (.ref (n+(m+1)+2)) "zip":={_,h1,rfl};unfold pyNext;refine tqa (wpAny_attempt (wpAny_callSpecial?_slot hT F.slot_zip_next
   (wpAny_call_entry F.slot_zip_next hT F.entry_zip_next
    (td (I.ok.hd hc) hl h64 h1 h2 h3 hu hi (λj b a e=>{hn j b a e,(hv j b a e).2.2}) (λh4 us hu hx _ _ _ _ _=>?_) λh' e k _ _ hk he=>?_) (F.args_zip_next_1 _))))
  ·exfalso;have hk:=(Qo.mp ek).1;have q:=hx k `a
   obtain⟨q1,q2,_⟩:=hv k b a ek;rw[Se `a] at q
   simp only[List.getElem?_toArray] at q;rw[List.getElem?_eq_none (by rw[<- q2.length,lC I q1 hq];exact le)] at q
   cases q
  ·obtain⟨o,ho,hcl⟩:=he;refine tqa (wpAny_isInstance ⟨o,ho,hcl⟩ isSubtype_stop ?_);exact tqb {rfl,vL I hf λ(b:Nat) o hb q=>hk b o (by rw[d8] at hb;omega) q}
 self:=λ_ _ _ _ _ st h=>wpAny_pyIter_zip st.1 h
noncomputable def iy (h:Heap):jJ->Heap
 |[]=>h
 |p::r=>iy (h.push (fO p.1 p.2)) r
noncomputable def sP (h:Heap):jJ->List Qr
 |[]=>[]
 |p::r=>.ref h.objs.size::sP (h.push (fO p.1 p.2)) r
def pN:∀{h:Heap}{l:jJ},(iy h l).objs.size=h.objs.size+l.length
 |_,[]=>rfl
 |h,p::r=>by show(iy _ r).objs.size=_;rw[pN,Sg,RY];omega
def mD:∀{l:jJ}{h:Heap}{c:Nat}{o:Obj},h.get? c=some o->(iy h l).get? c=some o
 |[],_,_,_,e=>e
 |_::r,_,_,_,e=>mD (l:=r) (Qt _ e)
def rS:∀{l:jJ}{h:Heap}{j:Nat}{p:Bool×Nat},l[j]?=some p->(iy h l).get? (h.objs.size+j)=some (fO p.1 p.2)
 |_::r,h,0,_,e=>by cases e;exact mD (l:=r) (QM _ rfl)
 | q :: r, h, j + 1, _, e => by
   have:=rS (h:=h.push (fO q.1 q.2)) (j:=j) e;rw[Sg,SI,Nat.add_comm 1] at this;exact this
def tZ:∀{l:jJ}{h:Heap}{n k:Nat},h.objs.size=n+k->sP h l=qB n k l.length
 |[],_,_,_,_=>rfl
 | p :: r, h, n, k, e => by
   have:=tZ (l:=r) (h:=h.push (fO p.1 p.2)) (k:=k+1) (by rw[Sg,e];rfl)
   show Value.ref h.objs.size::sP _ r=Value.ref (n+k)::qB n (k+1) r.length;rw[this,e]
abbrev DZ (h:Heap)(l:jJ):Heap:=(iy h l).push (jn (sP h l).toArray)
abbrev yI (h:Heap)(l:jJ):Heap:=(DZ h l).push (jn (l.map λ_=>Value.none).toArray)
abbrev tm (h:Heap)(l:jJ):Heap:=(yI h l).push {cls:=.type "zip",data:=.fields #[.none,.bool false,.bool false,.ref (iy h l).objs.size,.ref (DZ h l).objs.size]}
def Fz (h:Heap){l:jJ}{m:Nat}(hl:l.length=m+1):(yI h l).objs.size=h.objs.size+(m+1)+2/\yv h.objs.size m l 0 (tm h l)/\∀c o,h.get? c=some o->(tm h l).get? c=some o:=by
 have s0:(iy h l).objs.size=h.objs.size+(m+1):=by rw[pN,hl]
 have s1:(DZ h l).objs.size=h.objs.size+(m+1)+1:=by rw[Sg,s0]
 have s2:(yI h l).objs.size=h.objs.size+(m+1)+2:=by rw[Sg,s1]
 have up:∀{c:Nat}{o},(iy h l).get? c=some o->(tm h l).get? c=some o:=λe=>Qt _ (Qt _ (Qt _ e));have g1:(tm h l).get? (iy h l).objs.size=some _:=Qt _ (Qt _ (QM _ rfl));have g2:(tm h l).get? (DZ h l).objs.size=some _:=Qt _ (QM _ rfl);have g3:(tm h l).get? (yI h l).objs.size=some _:=QM _ rfl;rw[s0,tZ (Nat.add_zero _).symm,hl] at g1;rw[s1] at g2;rw[s2,s1,s0] at g3;exact{s2,{g3,g1,{_,by simp[hl],g2},λj b a e=>ff.new (up (rS e))},λc o e=>up (mD e)}
def xO (b0:Bool)(a0:Nat)(b1:Bool)(a1:Nat)(xs0 xs1:Array Qr) :
 Meets (Builtin.«zip.__new__» {[.type "zip",.ref a0,.ref a1],[]}) (λ_ R s=>cg b0 s.heap a0 xs0/\cg b1 s.heap a1 xs1/\
  R (.ok (.ret (.ref (yI s.heap [(b0,a0),(b1,a1)]).objs.size))) {s with heap:=tm s.heap [(b0,a0),(b1,a1)]}):=
 .of_wp λprog w A R s h=>by
  obtain⟨hp,g,d,tk,os⟩:=s;obtain⟨q0,q1,h⟩:=h;have hsub:=sub_zip;have L0:=q0;have L1:cg b1 (Shared.heap {hp.push (fO b0 a0),g,d,tk,os}) a1 xs1:=(q1).push _;wp_walk using pL L0,pL L1
  exact{_,rfl,h}
section
variable{prog:Rp}{w:Rr}{A:RW}{E:Qr->Qu->Prop}{s:Qu}{a0 a1 a2:Nat}{b0 b1 b2:Bool}{xs0 xs1 xs2:Array Qr}{Q:Qr->Qu->Prop}
def Bh (q0:cg b0 s.heap a0 xs0)(q1:cg b1 s.heap a1 xs1)(h:∀h',yv s.heap.objs.size 1 [(b0,a0),(b1,a1)] 0 h'->(∀c o,s.heap.get? c=some o->h'.get? c=some o)->Q (.ref (s.heap.objs.size+2+2)) {s with heap:=h'}) :
 wpAny (model prog w) A (call (.type "zip") [.ref a0,.ref a1]) Q E s:=by
 obtain⟨z,y,x⟩:=Fz s.heap (l:=[(b0,a0),(b1,a1)]) rfl;refine callType_new F.called_zip `d (F.typeCall_zip_2 _ _) (F.newCall_zip_2 _ _) (λobj=>F.args_object_init_3 obj _ _) F.entry_zip_new (xO b0 a0 b1 a1 xs0 xs1) {q0,q1,?_}
 show _/\_;rw[z];exact{{_,y.1,rfl},h _ y x}
end
noncomputable def pH (d0 d1:D):Walk:=λM=>(cj M d0).bind λy0=>(cj M d1).map λy1=>eF y0 y1
noncomputable def jW (g0 g1:Env->Mem->Res D):Env->Mem->Res Walk:=λZ M=>(g0 Z M).bind λd0 M=>(g1 Z M).bind λd1 M=>if fx d0&&fx d1 then .ok (pH d0 d1) M else .bad
def tj:∀(y0 y1:List D) (i:Nat) (d:D),(eF y0 y1)[i]?=some d↔∃e0 e1,y0[i]?=some e0/\y1[i]?=some e1/\d=.tup [e0,e1]
 |c0::t0,c1::t1,0,d=>by simp[eF,eq_comm]
 | c0 :: t0, c1 :: t1, i + 1, d => by
   have:=tj t0 t1 i d;simpa[eF] using this
 |[],_,i,d=>by simp[eF]
 |_::_,[],i,d=>by simp[eF]
def tf:∀(y0 y1:List D) (i:Nat),(eF y0 y1).length<=i->y0.length<=i\/y1.length<=i
 |c0::t0,c1::t1,0,h=>by simp[eF] at h
 | c0 :: t0, c1 :: t1, i + 1, h => by
   have:=tf t0 t1 i (by simpa[eF] using h)
   simpa using this
 |[],_,i,h=>`s
 |_::_,[],i,h=>`s
def EB {fa:Fa}{K:Qp}{μ:Mu}{H:Hp}:∀{es:List D}{ws:List V},es.length=ws.length->(∀(j:Nat) e w,es[j]?=some e->ws[j]?=some w->Rep fa K μ H e w)->aK fa K μ H es ws
 |[],[],_,_=>rfl
 |e::es,w::ws,hl,h=>{w,ws,rfl,h 0 e w rfl rfl,EB (by simpa using hl) λj e w=>h (j+1) e w}
def BG {fa:Fa}{X:Cx}{μ0:Mu}{H0:Hp}{l:jJ}{w:Walk} (hw:∀μ H M ds,ExtW μ0 H0 μ H->RelM fa X.K μ H M->w M=some ds->∃ys:List (List D),ys.length=l.length/\(∀(j:Nat) y b a,ys[j]?=some y->l[j]?=some (b,a)->∃vs,iO X.K H b a vs/\aK fa X.K μ H y vs)/\
 (∀(i:Nat) d,ds[i]?=some d->∃es,d=.tup es/\es.map some=ys.map (·[i]?))/\∀i,ds.length<=i->∃y∈ys,y.length<=i):dN fa X.K μ0 H0 w (Mc X.K l):=λμ H M ds x hM e=>by
 obtain⟨ys,hl,hv,hd,he⟩:=hw μ H M ds x hM e;have at_:∀(j:Nat) b a,l[j]?=some (b,a)->∃y vs,ys[j]?=some y/\iO X.K H b a vs/\aK fa X.K μ H y vs:=λj b a e=>by
  have hj:=(Qo.mp e).1;have ey:=QG (l:=ys) (i:=j) `a
  obtain⟨vs,q,r⟩:=hv j _ b a ey e;exact{_,vs,ey,q,r}
 refine{λi d hi=>?_,λi hi=>{λj b a e=>?_,?_}}
 ·obtain⟨es,rfl,ee⟩:=hd i d hi;have ej:∀{j:Nat}{y:List D},ys[j]?=some y->es[j]?.map some=some y[i]?:=λ{j y} ey=>by
   have:=congrArg (·[j]?) ee;simpa[ey] using this
  have le:es.length=l.length:=by have:=congrArg List.length ee;simpa[hl] using this
  have it:∀(j:Nat) b a,l[j]?=some (b,a)->∃vs e v,es[j]?=some e/\iO X.K H b a vs/\vs[i]?=some v/\Rep fa X.K μ H e v:=λj b a e=>by
   obtain⟨y,vs,ey,q,r⟩:=at_ j b a e;have z:=ej ey;cases h:es[j]? with
   |none=>rw[h] at z;cases z
   | some e =>
     rw[h] at z;obtain⟨v,hv,rv⟩:=r.get (Qz z).symm;exact⟨vs,e,v,rfl,q,hv,rv⟩
  refine{λj b a e=>?_,λy H' ⟨p,zs,hp,ey,eH,lz,t⟩=>?_}
  ·obtain⟨vs,_,v,_,q,hv,_⟩:=it j b a e;exact⟨vs,v,q,hv⟩
  subst eH ey;refine{Ext.alloc hM hp,hM.alloc hp,p,zs,rfl,.inl (.inl cD),EB (le.trans lz.symm) λj e w ee ew=>?_};have el:=QG (l:=l) (i:=j) (by have:=(Qo.mp ee).1;omega)
  obtain⟨vs,e',v,h1,q,hv,rv⟩:=it j _ _ el;have z:=t j _ _ el vs q;rw[ew,hv] at z;rw[ee] at h1;cases z;cases h1;exact rv.ext (Ext.alloc hM hp)
 ·obtain⟨_,vs,_,q,_⟩:=at_ j b a e;exact⟨vs,q⟩
 ·obtain⟨y,hy,ly⟩:=he i hi;obtain⟨j,ej⟩:=List.getElem?_of_mem hy;have el:=QG (l:=l) (i:=j) (by have:=(Qo.mp ej).1;omega)
  obtain⟨vs,q,r⟩:=hv j y _ _ ej el;exact{j,_,_,vs,el,q,by rw[r.length];exact ly}
section
variable{fa:Fa}{X:Cx}{μ0:Mu}{H0:Hp}{d0 d1 d2:D}{a0 a1 a2:Nat}(r0:Rep fa X.K μ0 H0 d0 (.ref a0))(r1:Rep fa X.K μ0 H0 d1 (.ref a1))(r2:Rep fa X.K μ0 H0 d2 (.ref a2))
include r0 r1
theorem yS:dN fa X.K μ0 H0 (pH d0 d1) (Mc X.K [(iA d0,a0),(iA d1,a1)]):=BG λμ H M ds x hM e=>by
 obtain⟨y0,s0,e⟩:=Ru.mp e;obtain⟨y1,s1,rfl⟩:=QA.mp e;refine{[y0,y1],rfl,λj y b a ey el=>?_,λi d hd=>?_,λi hi=>?_}
 ·match j,ey,el with
  |0,ey,el=>cases ey;cases el;exact lB hM (Rep.extW x r0) s0
  |1,ey,el=>cases ey;cases el;exact lB hM (Rep.extW x r1) s1
 ·obtain⟨e0,e1,h0,h1,rfl⟩:=(tj y0 y1 i d).mp hd;exact{_,rfl,by simp[h0,h1]}
 ·rcases tf y0 y1 i hi with z|z<;>exact{_,`s,z}
include r2
end
def HG {fa:Fa}{X:Cx}{elts:List Expr}{kk:Nat}{tp p pos:Pos}{e0 e1:Expr}{g0 g1:Env->Mem->Res D}(h0:DE fa X e0 g0)(h1:DE fa X e1 g1)(hg:Gl X "zip")(hm:X.mg "zip"=none)
 (hs0:starEach [e0,e1] X.env=[(false,eval e0 X.env),(false,eval e1 X.env)]) (hs1:starEach [e1] X.env=[(false,eval e1 X.env)]):DI fa X (.Tuple elts kk tp) (.Call (.Name "zip" p) [e0,e1] [] pos) (jW g0 g1):=by
 intro pins s σ H R I ⟨μ,Z,M,hE,hM,h⟩;obtain⟨d0,M0,c0,t0⟩:=aE h;obtain⟨d1,M1,c1,t1⟩:=aE t0;split at t1
 ·next hsq=>
  simp only[Qy] at hsq;obtain⟨hq0,hq1⟩:=hsq;refine Call_ (gU I hg hm boot_zip (R8 (aT (cf h0 (cf h1 dI hs1) (by rw[hs0,hs1]) pos pins s σ H (λvs H1=>∃v0 v1 μ1,vs=[v0,v1]/\Ext μ H μ1 H1/\RelM fa X.K μ1 H1 M1/\Rep fa X.K μ1 H1 d0 v0/\Rep fa X.K μ1 H1 d1 v1) I ?_) λus s1 ⟨vs,H1,I1,r1,v0,v1,μ1,ev,x1,m1,rv0,rv1⟩=>?_) (by rw[hs0,hs1]) (by rw[hs1];rfl)))
  ·refine{μ,Z,M,hE,hM,?_};rw[c0];intro v0 H1 μ1 x1 m1 r0;refine{μ1,Z,M0,(hE.ext x1),m1,?_};rw[c1];intro v1 H2 μ2 x2 m2 r1;exact{v0,v1,μ2,rfl,(x1.trans x2),m2,(r0.ext x2),r1}
  subst ev;obtain⟨a0,its0,rfl,z0⟩:=oJ I1 m1 rv0 hq0;obtain⟨a1,its1,rfl,z1⟩:=oJ I1 m1 rv1 hq1;cases r1 with
  | cons y0 r1 =>
    cases r1 with
    | cons y1 r1 =>
      cases r1;obtain rfl:=y0;obtain rfl:=y1;refine Bh z0 z1 λh1 za hk=>?_;have I2:=I1.kept (t':=s1.toks) hk;refine wpAny_pyIter_zip za.1 ?_;refine{s1.heap.objs.size+2+2,Ih s1.heap.objs.size 1,_,_,H1,rfl,I2,B3 s1.heap.objs.size 1 [(iA d0,a0),(iA d1,a1)] rfl `d (λj b a e=>match j,e with
       |0,e=>by cases e;exact z0.lt
       |1,e=>by cases e;exact z1.lt),za,λb hb=>?_,t1 _ H1 μ1 x1 m1 (yS rv0 rv1)}
      have hb:=(d8.mp hb).1;exact I1.fpOk hb (I1.hok.fresh hb)
 ·exact t1.elim
noncomputable def yf (it:Addr):Obj:={cls:=.type "enumerate",data:=.fields #[.none,.bool false,.ref it,rawInt 0,.none,.none]}
def AB (l:Addr)(us:Array Qr)(n:Nat)(dct:Option Addr)(sl:Array (Option Qr)) :
 Meets (Builtin.«enumerate.__new__» {[.type "enumerate",.ref l],[]}) (λ_ R s=>s.heap.get? l=some {.type "tuple",dct,.seq us n,sl}/\
  R (.ok (.ret (.ref (s.heap.push (fO false l)).objs.size))) {s with heap:=(s.heap.push (fO false l)).push (yf s.heap.objs.size)}):=
 .of_wp λprog w A R s h=>by
  obtain⟨hp,g,d,tk,os⟩:=s;obtain⟨ht,h⟩:=h;have q:=sub_enumerate;have hL:Heap.IsTuple (Shared.heap ⟨hp,g,d,tk,os⟩) l us:={_,ht,rfl,n,rfl};wp_walk using Q1 ht
  refine wpAny_stack_any λ_=>tqb ?_;split
  ·rename_i c _ _ _ _ _;cases (c==Value.type "enumerate")<;>
   ·wp_walk using Q1 ht,wpAny_pyIter_tuple hL
    exact{_,rfl,h}
  ·wp_walk using Q1 ht,wpAny_pyIter_tuple hL
   exact{_,rfl,h}
section
variable{prog:Rp}{w:Rr}{A:RW}{E:Qr->Qu->Prop}{s:Qu}
def DC (hL:cg b s.heap l us)
 (h:∀h',IsEnum h' (s.heap.objs.size+1) s.heap.objs.size 0 .none->ff b h' s.heap.objs.size l 0->(∀c o,s.heap.get? c=some o->h'.get? c=some o)->Q (.ref (s.heap.objs.size+1)) {s with heap:=h'}):wpAny (model prog w) A (call (.type "enumerate") [.ref l]) Q E s:=by
 cases b with
 |true=>exact call_enumerate_list hL λh' e i _ k=>h h' e i k
 | false =>
   obtain⟨⟨c,dct,dt,sl⟩,ht,hc,n,hd⟩:=hL;cases hc;cases hd;refine callType_new F.called_enumerate `d (F.typeCall_enumerate_1 _) (F.newCall_enumerate_1 _) (λo=>F.args_object_init_2 o _) F.entry_enumerate_new (AB l us n dct sl) {ht,?_}
   have hz:(s.heap.push (fO false l)).objs.size=s.heap.objs.size+1:=Sg ..;rw[hz];have he:IsEnum ((s.heap.push (fO false l)).push (yf s.heap.objs.size)) (s.heap.objs.size+1) s.heap.objs.size 0 .none:=by
    have:=QM (s.heap.push (fO false l)) (o:=yf s.heap.objs.size) rfl;rw[hz] at this;exact this
   exact{{_,he,rfl},h _ he (ff.new (Qt _ (QM _ rfl))) λc o x=>Qt _ (Qt _ x)}
def Ly (hh:A.handled=none)(hne:l≠it)(us:Array Qr):Draws prog w A it [it,l] us.size (λi v=>us[i]?=some v) (λi h=>ff b h it l i/\cg b h l us) where
 live:=λ_ _ st=>let{o,ho,_}:=st.1.obj;⟨o,ho⟩
 frame:=λ_ _ _ st hk=>{st.1.at λo e=>hk it `s o e,st.2.at λo e=>hk l `s o e}
 item:=λi s Q E hi st hQ=>i3 hh st.1 st.2 (λx h' hx it' hs'=>hQ _ h' s.toks hx {it',st.2.extBut hs'.extBut hne} hs') λz=>by rw[Se hi] at z;cases z
 done:=λs Q E st hE=>i3 hh st.1 st.2 (λx h' hx=>by rw[Array.getElem?_eq_none (Qw _)] at hx;cases hx) λ_=>hE
def Lx (hh:A.handled=none)(hx:us[i]?=none):Draws prog w A it [it,l] i (λ_ _=>True) (λk h=>k=i/\ff b h it l i/\cg b h l us) where
 live:=λ_ _ st=>let{o,ho,_}:=st.2.1.obj;⟨o,ho⟩
 frame:=λ_ _ _ st hk=>{st.1,st.2.1.at λo e=>hk it `s o e,st.2.2.at λo e=>hk l `s o e}
 item:=λk s Q E hi st hQ=>absurd st.1 (QY hi)
 done:=λs Q E st hE=>i3 hh st.2.1 st.2.2 (λx h' e=>by rw[hx] at e;cases e) λ_=>hE
end
noncomputable def Oz (K:Qp)(b:Bool)(a:Addr):It:=
 {λi H=>∃xs x,iO K H b a xs/\xs[i]?=some x,λi H v H'=>∃p x,H p=none/\v=.ref p/\H'=upd H p (.tup [.int i,x])/\∀xs,iO K H b a xs->xs[i]?=some x,λi H=>∃xs,iO K H b a xs/\xs.length<=i}
def zt {K:Qp}(b:Bool)(a it e:Addr)(hne:e≠it)(hna:a≠it)(hea:e≠a) :
 Turn P w K (.Tuple elts kk pos) (Oz K b a) [e,it] e (λi h=>(∃old,IsEnum h e it (i:Nat) old)/\ff b h it a i) where
 mem:=`s
 obj:=λi h ⟨⟨old,he⟩,hi⟩ c hb=>by
  rcases Rf.mp hb with z|z
  ·subst z;exact{_,he,λv z=>by cases z}
  ·have e:c=it:=by simpa using z
   subst e;exact hi.obj
 keep:=λi h h' ⟨⟨old,he⟩,st⟩ k=>{{old,k e `s _ he},st.at λo e=>k it `s o e}
 item:=by
  intro X hP hw hK hc i pins s σ H E I hf st hg;subst hP hw hK;obtain⟨xs,x,hq,hx⟩:=hg;obtain⟨⟨old,he⟩,hit⟩:=st;obtain⟨its,rv,p⟩:=nE I hq;obtain⟨u,hu,ru⟩:=rv.get hx;have hi:i<its.toArray.size:=by have:=(Qo.mp hu).1;simpa using this
  refine wpAny_pyNext_enum_itemD (Ly (A:=X.A.in1) (I.ok.hd hc) hna its.toArray) he ⟨hit,p⟩ hi hne (by simp[hne,hea]) λu' h1 tk hu' ho hit1 hT hsz hk=>{_,rfl,?_}
  have eu:u'=u:=by
   have hu':its[i]?=some u':=by simpa using hu'
   rw[hu] at hu';exact(Qz hu').symm
  subst eu;have hT0:=I.hok.fresh (Qw _);have elt:=QK he;refine wpAny_letOwnedTupleGo_enum ho λh2 he2 hs2=>?_;have hT2:h2.get? s.heap.objs.size=some {cls:=.type "tuple",data:=.seq #[.int i tk,u']}:=(hs2.2 _ (Rz elt)).trans hT;refine{.ref s.heap.objs.size,upd H s.heap.objs.size (.tup [.int i,x]),rM (s:=s) I hf (λc o hb q=>(hs2.2 c (λz=>hb (by simp[z]))).trans (hk c o (λz=>hb (by simp[z])) (λz=>hb (by simp[z])) q)) (Qw _) {?_,[.int i tk,u'],.cons {_,rfl} (.cons ru .nil),{_,hT2,rfl,_,rfl}},rfl,
   {_,x,hT0,rfl,rfl,λys hy=>by rw[lC I hy hq];exact hx},{⟨u',he2⟩,hit1.1.extBut hs2.extBut (RC hne)},λc hb=>?_}
  ·show 2<=sizeLine;decide
  ·have:c<s.heap.objs.size:=by
    rcases Rf.mp hb with z|z
    ·subst z;exact elt
    ·have e:c=it:=by simpa using z
     subst e;obtain⟨o,e,_⟩:=hit.obj;exact QK e
   rw[aG (QY this)];exact(hf c hb).1
 done:=by
  intro X hP hw hK hc i pins s σ H E I hf st hg;subst hP hw hK;obtain⟨xs,hq,hx⟩:=hg;obtain⟨⟨old,he⟩,hit⟩:=st;obtain⟨its,rv,p⟩:=nE I hq;have hl:=rv.length;exact wpAny_pyNext_enum_endD (Lx (A:=X.A.in1) (I.ok.hd hc) `o) he ⟨rfl,hit,p⟩ λh' eb=>{rfl,vL I hf λc o hb q=>eb c o (λz=>hb (by simp[z])) q}
 self:=λ_ _ _ _ _ ⟨⟨old,he⟩,_⟩ h=>wpAny_pyIter_enum he h
section
variable{fa:Fa}{X:Cx}{a:Expr}{ga:Env->Mem->Res D}{pos p:Pos}
def yU {ad:Addr}(h:Rep fa X.K μ0 H0 dd (.ref ad)):dN fa X.K μ0 H0 (λM=>(cj M dd).map (fy 0)) (Oz X.K (iA dd) ad):=λμ H M ds x hM e=>by
 dsimp only at e;cases e0:cj M dd with
 |none=>rw[e0] at e;cases e
 | some es =>
   rw[e0] at e;have e:=Qz e;subst e;obtain⟨vs,s,r⟩:=lB hM (Rep.extW x h) e0;refine{λi d hd=>?_,λi hi=>{vs,s,by rw[r.length,<- mZ es 0];exact hi}}
   rw[m5] at hd;cases e1:es[i]? with
   |none=>rw[e1] at hd;cases hd
   | some d0 =>
     rw[e1] at hd;have hd:=Qz hd;subst hd;obtain⟨v,hv,rv⟩:=r.get e1;refine{⟨vs,v,s,hv⟩,λy H' ⟨q,z,hq,ey,eH,hy⟩=>?_};have:=hy vs s;rw[hv] at this;cases this;subst eH ey;refine{Ext.alloc hM hq,hM.alloc hq,q,[.int i,v],rfl,.inl (.inl cD),.int i,[v],rfl,?_,v,[],rfl,rv.ext (Ext.alloc hM hq),rfl};show V.int i=V.int ((0+i:Nat):Int);rw[Nat.zero_add]
noncomputable def gr (ga:Env->Mem->Res D):Env->Mem->Res Walk:=λZ M=>(ga Z M).bind λx M=>if fx x=true then .ok (λM=>(cj M x).map (fy 0)) M else .bad
def HJ {elts:List Expr}(ha:DE fa X a ga)(hg:Gl X "enumerate")(hm:X.mg "enumerate"=none)(hs:starEach [a] X.env=[(false,eval a X.env)]):DI fa X (.Tuple elts kk tp) (.Call (.Name "enumerate" p) [a] [] pos) (gr ga):=by
 intro pins s σ H R I ⟨μ,Z,M,hE,hM,h⟩;obtain⟨x,M1,e,q⟩:=aE h;cases hx:fx x with
 |false=>rw[hx] at q;exact q.elim
 |true=>
 rw[hx] at q;refine Call_ (gU I hg hm boot_enumerate (R8 (aT (cf ha dI hs pos pins s σ H (λvs H1=>∃v μ1,vs=[v]/\Ext μ H μ1 H1/\RelM fa X.K μ1 H1 M1/\Rep fa X.K μ1 H1 x v) I {μ,Z,M,hE,hM,?_}) λus s1 ⟨vs,H1,I1,r1,v,μ1,ev,x1,m1,rv⟩=>?_) hs rfl))
 ·rw[e];exact λv H1 μ1 x1 m1 r1=>⟨v,μ1,rfl,x1,m1,r1⟩
 subst ev;obtain⟨ad,its,rfl,p1⟩:=oJ I1 m1 rv hx;cases r1 with
 | cons r1 rr =>
   cases rr;obtain rfl:=r1;have alt:=p1.lt;refine DC p1 λh1 he hit hk=>?_;have I2:=I1.kept (t':=s1.toks) hk;refine wpAny_pyIter_enum he ?_;refine{s1.heap.objs.size+1,[s1.heap.objs.size+1,s1.heap.objs.size],_,_,H1,rfl,I2,zt (iA x) ad s1.heap.objs.size (s1.heap.objs.size+1) (Nat.succ_ne_self _) (QY alt) (Rz (RP alt)),{{.none,he},hit},λb hb=>?_,q _ H1 μ1 x1 m1 (yU rv)};have hb:s1.heap.objs.size<=b:=by
    rcases Rf.mp hb with z|z
    ·subst z;exact Nat.le_succ _
    ·have e:b=s1.heap.objs.size:=by simpa using z
     subst e;exact Qw _
   exact I1.fpOk hb (I1.hok.fresh hb)
end
abbrev GE:=Env->Mem->Res D
abbrev GT:=Env->Mem->Res Bool
abbrev GA:=Env->Mem->Res (List D)
abbrev GW:=Env->Mem->Res Walk
abbrev GS:=Env->Mem->Res Fl
abbrev GB:=Env->List D->Mem->Res (List D)
abbrev Call:=Nat->List D->Mem->Res D
noncomputable def aa (i:Nat):GE:=λZ M=>cm M (Z[i]?.getD none)
noncomputable def gC (d:D):GE:=λ_ M=>.ok d M
noncomputable def au (m:Bool)(o:oF)(a b:GE):GE:=λZ M=>(a Z M).bind λx M=>(b Z M).bind λy M=>fY m o x y M
noncomputable def ax (o:kc)(a b:GE):GE:=λZ M=>(a Z M).bind λx M=>(b Z M).bind λy M=>(cm M (bF o x y M)).bind λb M=>.ok (.bl b) M
noncomputable def qS (o o':kc)(a b c:GE):GE:=λZ M=>(a Z M).bind λx M=>(b Z M).bind λy M=>(cm M (bF o x y M)).bind λk M=>
 if k then(c Z M).bind λz M=>(cm M (bF o' y z M)).bind λb M=>.ok (.bl b) M else .ok (.bl false) M
noncomputable def d3 (a:GE):GE:=λZ M=>(a Z M).bind λx M=>match x with|.int i=>.ok (.int (-i)) M|_=>.bad
noncomputable def dF (a b:GE):GE:=λZ M=>(a Z M).bind λx M=>match x with|.bl true=>b Z M|.bl false=>.ok (.bl false) M|_=>.bad
noncomputable def uK (a b:GE):GE:=λZ M=>(a Z M).bind λx M=>match x with|.bl true=>.ok (.bl true) M|.bl false=>b Z M|_=>.bad
noncomputable def KY (a:GE):GE:=λZ M=>(a Z M).bind λx M=>match x with|.bl k=>.ok (.bl (!k)) M|_=>.bad
noncomputable def fX (t:GT)(a b:GE):GE:=λZ M=>(t Z M).bind λk M=>if k then a Z M else b Z M
noncomputable def aq (a b:GE):GE:=λZ M=>(a Z M).bind λx M=>(b Z M).bind λy M=>cm M (b6 x y M)
noncomputable def fq (m hl hh:Bool)(a lo hi:GE):GE:=λZ M=>(a Z M).bind λx M=>(lo Z M).bind λl M=>(hi Z M).bind λh M=>if eO hl l&&eO hh h then gM m x l h M else .bad
noncomputable def bY:GA:=λ_ M=>.ok [] M
noncomputable def dP (a:GE)(s:GA):GA:=λZ M=>(a Z M).bind λx M=>(s Z M).bind λxs M=>.ok (x::xs) M
noncomputable def bH (s:GA):GE:=λZ M=>(s Z M).bind lG
noncomputable def bA (m:Bool)(s:GA):GE:=λZ M=>(s Z M).bind (bh m)
noncomputable def ai (f:Nat)(c:Call)(s:GA):GE:=λZ M=>(s Z M).bind λds M=>c f ds M
noncomputable def mV (i:Nat)(c:Call)(s:GA):GE:=λZ M=>match Z[i]?.getD none with|some (.fn f)=>(s Z M).bind λds M=>c f ds M|_=>.bad
noncomputable def aJ (f:xg)(s:GA):GE:=λZ M=>(s Z M).bind λds M=>ft f ds M
noncomputable def bI (t:Ty)(a:GE):GE:=λZ M=>(a Z M).bind λx M=>(cm M (gV t x)).bind λb M=>.ok (.bl b) M
noncomputable def aj (a:GE):GT:=λZ M=>(a Z M).bind λx M=>cm M (kg M x)
noncomputable def eV (a b:GT):GT:=λZ M=>(a Z M).bind λk M=>if k then b Z M else .ok false M
noncomputable def dY (a b:GT):GT:=λZ M=>(a Z M).bind λk M=>if k then .ok true M else b Z M
noncomputable def bL (a:GT):GT:=λZ M=>(a Z M).bind λk M=>.ok (!k) M
noncomputable def ay (t:fW)(a:GE):GS:=λZ M=>(a Z M).bind λx M=>(cm M (bX t x Z)).bind λρ1 M=>.ok (.next ρ1) M
noncomputable def eG (a b d:GE):GS:=λZ M=>(d Z M).bind λz M=>(a Z M).bind λx M=>(b Z M).bind λy M=>match x,y with
 | .cell k, .int n => match M[k]? with
   | some ds => match cv ds.length n with
     |some j=>.ok (.next Z) (M.set k (ds.set j z))
     |none=>.bad
   |none=>.bad
 |_,_=>.bad
noncomputable def fo (a d:GE):GS:=λZ M=>(a Z M).bind λx M=>(d Z M).bind λz M=>match x with
 | .cell k => match M[k]? with
   |some ds=>if ds.length<sz then .ok (.next Z) (M.set k (ds++[z])) else .bad
   |none=>.bad
 |_=>.bad
noncomputable def zY (a:GE):GS:=λZ M=>(a Z M).bind λ_ M=>.ok (.next Z) M
noncomputable def aM (a:GE):GS:=λZ M=>(a Z M).bind λx M=>.ok (.ret x) M
noncomputable def Ez:GS:=λ_ M=>.ok (.ret .non) M
noncomputable def EA:GS:=λZ M=>.ok (.next Z) M
noncomputable def OU:GS:=λ_ _=>.bad
noncomputable def aN (c:GT)(a b:GS):GS:=λZ M=>(c Z M).bind λk M=>if k then a Z M else b Z M
noncomputable def bU (t:fW)(w:GW)(b:GS):GS:=λZ M=>(w Z M).bind λw M=>cL (iw t b) w (.next Z) M
noncomputable def aD:GS:=λZ M=>.ok (.next Z) M
noncomputable def bw (a b:GS):GS:=λZ M=>(a Z M).bind λfl M=>match fl with
 |.next Z=>b Z M
 |fl=>.ok fl M
noncomputable def notStar:Expr->Bool
 |.Starred _ _=>false
 |_=>true
def a9 (h:notStar a=true):starEach (a::es) env=(false,eval a env)::starEach es env:=by
 cases a<;>first|rfl|cases h
def dE:∀{es:List Expr},es.all notStar=true->(backTo pos (starEach es env)).any (·.1)=false
 |[],_=>rfl
 | a :: es, h => by
   simp only[RN,Qy] at h;have ih:=dE (pos:=pos) (env:=env) h.2;rw[a9 h.1];simpa[backTo] using ih
section
variable{fa:Fa}{X:Cx}{a b d:Expr}{ga gb gd:GE}{ta tb:GT}{pos p:Pos}{es:List Expr}{gs:GA}{n:Nat}
def Jv {i:Int}(hg:Gl X x)(hm:X.mg x=some (.int i t))(hd:(x==("__debug__":Str))=false):DE fa X (.Name x pos) (gC (.int i)):=ji (v:=.int i) (kG hg hm ⟨t,rfl⟩ hd) λ_ _=>rfl
end
structure Df where
 params:Nat
 slots:Nat
 body:Call->GS
noncomputable def PD:Fl->Mem->Res D
 |.ret d,M=>.ok d M
 |.next _,M=>.ok .non M
 |.exc x _,M=>.err x M
noncomputable def PC:Res Fl->Res D
 |.ok fl M=>PD fl M
 |_=>.bad
noncomputable def gA (c:Call)(d:Df)(ds:List D)(M:Mem):Res D:=if ds.length=d.params then PC (d.body c (ds.map some++List.replicate (d.slots-ds.length) none) M) else .bad
noncomputable def ah (P:Nat->Option Df):Nat->Call
 |0,_,_,_=>.bad
 | n + 1, f, ds, M => match P f with
   |none=>.bad
   |some d=>gA (ah P n) d ds M
structure yF (K:Qp) (x qual:Str) (st:Stmt) (f:Addr) (fd:FuncData):Prop where
 ex:∃(oc:Qr) (od:Option Addr) (dV kV doc pm:Qr) (an:Option Addr) (cdv ct:Qr) (osl:Array (Option Qr)),
  fd=PySem.W.fnOf x qual (fj st) (dg st) (bc st) dV kV doc pm an cdv ct/\K.lookup f=some {oc,od,.func fd,osl}/\PySem.W.codeIn K cdv qual=true
 kp:PySem.W.keepIn K (.ref f)=true
def w9.toD {K:Qp}{st:Stmt}(F:w9 K x qual st f fd):yF K x qual st f fd:=let⟨oc,od,kV,doc,pm,an,cdv,ct,osl,r⟩:=F.ex;{{oc,od,.none,kV,doc,pm,an,cdv,ct,osl,r},F.kp}
structure yH (fa:Fa) (P:Rp) (w:Rr) (K:Qp) (mg:Str->Option Qr) (base:Heap) (f:Nat) (d:Df):Prop where
 ex:∃(ad:Addr) (fd:FuncData) (ps N:List Str) (st:Stmt) (x qual:Str),fa f=some ad/\yF K x qual st ad fd/\Binds K fd ps []/\((fa (500+f)).isSome=true->Binds K fd ps [.none])/\jl N ps (bc st)/\d.params=ps.length/\d.slots=N.length/\
  ∀(call:Call) (n:Nat) (cdv:Qr) (A:RW) (outer:List R6) (s:Qu) (H:Hp) (E:XK),(∀f,h9 fa P w K mg base n f (call f))->dA (2*n+5) (A.deeper (envOfC qual (bc st) s.heap.objs.size ad cdv))->
   la fa (gD (iY P w) P w K mg base N qual (bc st) ad cdv A outer s H E) (dg st) (d.body call)
def zB {K:Qp}(h:aK fa K μ H ds vs):bu fa K μ H (L2.start N vs) (ds.map some++List.replicate (N.length-ds.length) none):=by
 have hl:=h.length;refine{by unfold L2.start;simp[hl],λi d e=>?_}
 by_cases hi:i<ds.length
 ·rw[Qv (by simpa using hi),QL] at e
  cases e1:ds[i]? with
  |none=>rw[e1] at e;cases e
  | some d' =>
    rw[e1] at e;cases e;obtain⟨v,hv,rv⟩:=h.get e1;refine{v,?_,rv};unfold L2.start;rw[Qv `o,QL,hv]
    rfl
 ·rw[Ro `o,SD] at e
  split at e<;>cases e
def wG {K:Qp}{st:Stmt}(F:yF K x qual st f fd)(S:jl N ps (bc st))(len:∀vs H Q E,sp vs H Q E->vs.length=ps.length)
 (hbody:∀(cdv:Qr) (A:RW) (outer:List R6) (s:Qu) (H:Hp) (vs:List V) (Q:VK) (E:XK),dA k (A.deeper (envOfC qual (bc st) s.heap.objs.size f cdv))->sp vs H Q E->
  ∃t,k9 (gD (iY P w) P w K mg base N qual (bc st) f cdv A outer s H E) (dg st) t/\t {nx:=λ_ H'=>Q .non H',rt:=Q} (start N vs) H):md P w K mg base (iY P w) (k+1) f fd ps sp:=by
 obtain⟨oc,od,dV,kV,doc,pm,an,cdv,ct,osl,rfl,lk,hcd⟩:=F.ex;exact Nd lk hcd S len λA outer s H vs Q E hr hsp=>hbody cdv A outer s H vs Q E hr hsp
def sj {K:Qp}
 (hs:d.slots=N.length) (hM:RelM fa K μ H M) (hr:aK fa K μ H ds vs) (hq:fC (gA c d ds M) (aW fa K μ H Q) (Ft fa K μ H E)):tF fa (gD (iY P w) P w K mg base N qual scope f cd A outer s H E) (d.body c) {nx:=λ_ H'=>Q .non H',rt:=Q} (start N vs) H:=by
 unfold gA at hq;split at hq
 ·refine{μ,_,M,zB hr,hM,?_};rw[<- hs];cases e1:d.body c (ds.map some++List.replicate (d.slots-ds.length) none) M with
  | ok fl M1 =>
    rw[e1] at hq;cases fl with
    | next ρ' =>
      have q1:=hq;exact λσ' H' μ' x' e' m'=>q1 .non H' μ' x' m' rfl
    |ret d=>exact hq
    | exc x ρ' =>
      have q1:=hq;exact λpins σ' H' μ' s' a C dx c p I y _ m ex hc hn fl=>C1 I fl (q1 C dx c p H' μ' y m ex hc hn)
  |err=>rw[e1] at hq;exact hq.elim
  |bad=>rw[e1] at hq;exact hq.elim
 ·exact hq.elim
def vc {P:Rp}{w:Rr}{K:Qp}(h:∀f d,Pg f=some d->yH fa P w K mg base f d):∀(n f:Nat),h9 fa P w K mg base n f (ah Pg n f)
 |0,f=>.inl λ_ _=>rfl
 | n + 1, f => by
   have ih:=vc h n;cases e:Pg f with
   |none=>exact .inl λds M=>by show(match Pg f with|none=>Res.bad|some d=>gA (ah Pg n) d ds M)=Res.bad;rw[e]
   | some d =>
     have eq:∀ds M,ah Pg (n+1) f ds M=gA (ah Pg n) d ds M:=λds M=>by show(match Pg f with|none=>Res.bad|some d=>gA (ah Pg n) d ds M)=_;rw[e]
     obtain⟨ad,fd,ps,N,st,x,qual,h1,F,hb,hdf,S,hp,hs,hbody⟩:=(h f d e).ex;refine .inr {ad,fd,ps,h1,F.kp,hb,λds M hl=>?_,?_,hdf}
     ·rw[eq];unfold gA;rw[if_neg (by rw[hp];exact hl)]
     ·refine wG F S (λvs H Q E hsp=>hsp.1) λcdv A outer s H vs Q E hr hsp=>{_,hbody (ah Pg n) n cdv A outer s H E ih hr,?_};obtain⟨hl,μ,M,ds,hM,hr,hq⟩:=hsp;rw[eq] at hq;exact sj hs hM hr hq
noncomputable def pF (P:Sn)(e:RO)(kv:Str×Addr):Prop:=∃t,e={PyData.keyHash P kv.1,.str kv.1 t,.ref kv.2}
structure fV (K:Qp) (P:Sn) (a:Addr) (kvs:List (Str×Addr)):Prop where
 ex:∃(es:Array RO) (n:Nat),K.lookup a=some {cls:=.type "dict",data:=.dict es n}/\Sf (pF P) es.toList kvs
 nd:(kvs.map (·.1)).Nodup
 ns:(a==sysModules)=false
noncomputable def wo (kvs:List (Str×Addr)):List (Key×Qr):=kvs.map λkv=>(Sum.inr kv.1,.ref kv.2)
def uW:∀{es:List RO}{kvs:List (Str×Addr)},Sf (pF P) es kvs->∀e∈es,∃x t,e.key=.str x t/\e.hash=PyData.keyHash P x
 |_,_,.nil,e,h=>nomatch h
 | _, _, .cons r t, e, h => by
   rcases Rf.mp h with z|z
   ·subst z;obtain⟨t,rfl⟩:=r;exact{_,t,rfl,rfl}
   ·exact uW t e z
def qc:∀{es:List RO}{kvs:List (Str×Addr)},Sf (pF w.params) es kvs->Pairs (kQ prog w) es (wo kvs)
 |_,_,.nil=>.nil
 | e :: es, kv :: kvs, .cons r t => by
   obtain⟨u,rfl⟩:=r;exact Pairs.cons (jT kv.1 u) rfl (qc t)
def uD (I:Inv X pins σ H s)(h:fV X.K X.w.params a kvs):s.heap.DictOf (kQ X.prog X.w) a (wo kvs):=by
 obtain⟨es,n,lk,pr⟩:=h.ex;refine{_,es,n,I.kIn _ _ lk,⟨rfl,rfl,rfl⟩,rfl,λe he=>?_,qc pr,?_}
 ·obtain⟨x,t,e1,e2⟩:=uW pr e (by simpa using he)
  exact{Sum.inr x,by rw[e1];exact jT x t,e2}
 ·have e:(wo kvs).map (·.1)=(kvs.map (·.1)).map Sum.inr:=by unfold wo;simp
  rw[e];exact List.Pairwise.map _ (λa b (n:a≠b) z=>n (Sum.inr.inj z)) h.nd
def AI (kvs:List (Str×Addr))(k:Str):valueAt (wo kvs) (Sum.inr k:Key)=(kvs.lookup k).map Value.ref:=by
 induction kvs with
 |nil=>rfl
 | cons kv r ih =>
   unfold valueAt wo at ih ⊢;rw[RU,List.find?_cons,RA];by_cases e:kv.1=k
   ·subst e;simp
   ·have e2:decide ((Sum.inr kv.1:Key)=Sum.inr k)=false:=decide_eq_false λz=>e (Sum.inr.inj z);have e3:=RZ.mpr (RC e);rw[e2,e3];exact ih
noncomputable def eL (fa:Fa)(kvs:List (Str×Addr))(fs:List (Str×Nat)):Prop:=Sf (λ(p:Str×Addr) (q:Str×Nat)=>p.1=q.1/\fa q.2=some p.2) kvs fs
def eL.look:∀{kvs:List (Str×Addr)}{fs:List (Str×Nat)},eL fa kvs fs->(fs.lookup k=none/\kvs.lookup k=none)\/∃f ad,fs.lookup k=some f/\kvs.lookup k=some ad/\fa f=some ad
 |_,_,.nil=>.inl ⟨rfl,rfl⟩
 | (x, a) :: r, (y, f) :: t, .cons ⟨e1, e2⟩ q => by
   subst e1;rw[RA,RA];cases e:k==x with
   |true=>exact .inr ⟨f,a,rfl,rfl,e2⟩
   |false=>exact eL.look q
noncomputable def lQ (fs:List (Str×Nat))(i:GE):GE:=λZ M=>(i Z M).bind λd M=>match d with
 |.str k=>cm M ((fs.lookup k).map D.fn)
 |_=>.bad
noncomputable def i5 (fs:List (Str×Nat))(i:GE):GE:=λZ M=>(i Z M).bind λd M=>match d with
 |.str k=>.ok (.bl (!(fs.lookup k).isSome)) M
 |_=>.bad
section
variable{fa:Fa}{X:Cx}{a b:Expr}{ga gb:GE}{pos p:Pos}{ad:Addr}{kvs:List (Str×Addr)}{fs:List (Str×Nat)}{x:Str}
def Dh (hd:fV X.K X.w.params ad kvs):j8 X (λx y H Q=>∃k v,x=.ref ad/\y=.str k/\kvs.lookup k=some v/\Q (.ref v) H):=by
 intro value slice pins s σ H x y v u Q I rx ry h hs;obtain⟨k,c,rfl,rfl,hk,q⟩:=h;cases rx;obtain⟨t,rfl⟩:=ry;have dd:=uD I hd;have hT:s.TypeIs (.ref ad) "dict":=let{o,_,_,ho,{hc,_},_}:=dd;⟨o,ho,hc⟩
 refine tail_any hT PySem.F.slot_dict_getitem.lookup (wpAny_getItem_of (k:=(Sum.inr k:Key)) (jT k t) dd.mapOf (v:=.ref c) ?_ ?_) hs
 ·rw[AI,hk];rfl
 ·exact{.ref c,H,I.tok _,rfl,q}
def ue (hd:fV X.K X.w.params ad kvs):bQ X (compareOp .NotIn) (λx y H Q=>∃k,x=.str k/\y=.ref ad/\Q (.bl (!(kvs.lookup k).isSome)) H):=by
 intro pins s σ H x y v u Q I rx ry h;obtain⟨k,rfl,rfl,q⟩:=h;obtain⟨t,rfl⟩:=rx;cases ry;have dd:=uD I hd;refine wpAny_notIn_of (k:=(Sum.inr k:Key)) (jT k t) hd.ns dd.mapOf ?_;rw[AI,Sx];exact{.bl _,H,I.tok _,rfl,q}
def Jy (hd:fV X.K X.w.params ad kvs)(ho:eL fa kvs fs)(hg:Gl X x)(hm:X.mg x=some (.ref ad))(hdb:(x==("__debug__":Str))=false)(hb:DE fa X b gb)(hs:iq b):DE fa X (.Subscript (.Name x p) b pos) (lQ fs gb):=
 bB (xA (Dh hd) (kG (v:=.ref ad) hg hm rfl hdb) hb hs) λσ H Q ⟨μ,Z,M,hE,hM,h⟩=>t1 hE hM h λd M1 v H1 μ1 x1 hE1 hM1 r1 h1=>by
  cases d with
  | str k =>
    obtain⟨d,e,q⟩:=kJ h1;rcases ho.look with⟨e1,_⟩|⟨f,c,e1,e2,e3⟩
    ·rw[e1] at e;cases e
    ·rw[e1] at e;cases e;exact{k,c,rfl,r1,e2,q (.ref c) H1 μ1 x1 hM1 {c,rfl,.inl e3}}
  |_=>exact h1.elim
def CQ {d:D}{P:D->Mem->Prop}(h:ae (match d with|.str k=>Res.ok (.bl (!(fs.lookup k).isSome)) M1|_=>.bad) P):∃k,d=.str k/\P (.bl (!(fs.lookup k).isSome)) M1:=by
 cases d with
 |str k=>exact⟨k,rfl,h⟩
 |_=>exact h.elim
def Dv (ho:eL fa kvs fs)(k:Str):(kvs.lookup k).isSome=(fs.lookup k).isSome:=by
 rcases ho.look with⟨e1,e2⟩|⟨f,c,e1,e2,_⟩<;>rw[e1,e2]<;>rfl
def AZ (ho:eL fa kvs fs)(σ:L2.St)(H:Hp)(Q:VK)(h:tE fa X.K (i5 fs ga) σ H Q):zz (λx y H Q=>∃k,x=.str k/\y=.ref ad/\Q (.bl (!(kvs.lookup k).isSome)) H) (tE fa X.K ga) (tC (.ref ad)) σ H Q:=by
 obtain⟨μ,Z,M,hE,hM,h⟩:=h;refine t1 hE hM h λd M1 v H1 μ1 x1 hE1 hM1 r1 h1=>?_;obtain⟨k,rfl,q⟩:=CQ h1;refine{k,r1,rfl,?_};rw[Dv ho];exact q (.bl _) H1 μ1 x1 hM1 rfl
def Jw (hd:fV X.K X.w.params ad kvs)(ho:eL fa kvs fs)(hg:Gl X x)(hm:X.mg x=some (.ref ad))(hdb:(x==("__debug__":Str))=false)(ha:DE fa X a ga)(hmk:behindInMarks .NotIn (.Name x p)=false):DE fa X (.Compare a [.NotIn] [.Name x p] pos) (i5 fs ga):=
 bB (qG (ue hd) ha (kG (v:=.ref ad) hg hm rfl hdb) hmk) λσ H Q h=>AZ ho σ H Q h
def JG (hd:fV X.K X.w.params ad kvs)(ho:eL fa kvs fs)(hg:Gl X x)(hm:X.mg x=some (.ref ad))(hdb:(x==("__debug__":Str))=false)(ha:DE fa X a ga)(hmk:behindInMarks .NotIn (.Name x p)=false):DT fa X (.Compare a [.NotIn] [.Name x p] pos) (aj (i5 fs ga)):=
 kF (qD (ue hd) ha (kG (v:=.ref ad) hg hm rfl hdb) hmk) λσ H Q h=>by
  refine AZ ho σ H _ ?_;obtain⟨μ,Z,M,hE,hM,h⟩:=h;obtain⟨z,M3,e,q⟩:=aE h;refine{μ,Z,M,hE,hM,?_};rw[e];have hz:∃k,z=.bl k:=by
   obtain⟨d,M1,e1,e2⟩:=e9 e;cases d<;>first|(cases e2;exact{_,rfl})|cases e2
  obtain⟨k,rfl⟩:=hz;intro v H' μ' x' m' r';obtain rfl:v=.bl k:=r';exact{k,rfl,q H' μ' x' m'}
noncomputable def mU (m:Bool)(a:GE):GE:=λZ M=>(a Z M).bind λx M=>match x with
 |.int n=>if -(2^62)<=n/\n<2^20 then bh m ((List.range n.toNat).map λ(k:Nat)=>D.int (k:Int)) M else .bad
 |_=>.bad
def xZ:∀(n:Nat) (its:List Qr),its.length=n->(∀(i:Nat) (v:Qr),its[i]?=some v->∃t,v=.int (i:Int) t)->Vals ((List.range n).map λ(k:Nat)=>V.int (k:Int)) its:=by
 intro n its hl h;have key:∀(k:Nat) (its:List Qr),(∀(i:Nat) (v:Qr),its[i]?=some v->∃t,v=.int ((k+i:Nat):Int) t)->Vals ((List.range its.length).map λj=>V.int ((k+j:Nat):Int)) its:=by
  intro k its;induction its generalizing k with
  |nil=>intro _;exact .nil
  | cons v r ih =>
    intro h;rw[RY,List.range_succ_eq_map,RU,Rx];refine .cons (h 0 v rfl) ?_;have:=ih (k+1) λi u e=>by
     have:=h (i+1) u (by simpa using e)
     rw[show k+1+i=k+(i+1) by omega];exact this
    refine cast (congrArg (λf=>Vals ((List.range r.length).map f) r) ?_) this
    funext j
    congr 2
    omega
 have:=key 0 its λi v e=>by rw[Nat.zero_add];exact h i v e
 rw[hl] at this;simpa using this
def Gy (m:Bool)(hc:X.calm=true)(ha:DE fa X a ga)(hgl:Gl X "list")(hml:X.mg "list"=none)(hg:Gl X "range")(hm:X.mg "range"=none)(hs:starEach [a] X.env=[(false,eval a X.env)])
 (hs2:starEach [.Call (.Name "range" p2) [a] [] pos2] X.env=[(false,eval (.Call (.Name "range" p2) [a] [] pos2) X.env)]) :
 DE fa X (.Call (.Name "list" p1) [.Call (.Name "range" p2) [a] [] pos2] [] pos) (mU m ga):=by
 intro pins s σ H Q I ⟨μ,Z,M,hE,hM,h⟩;obtain⟨x,M1,e,q⟩:=aE h;have key:∀n,x=.int n->ae (if -(2^62)<=n/\n<2^20 then bh m ((List.range n.toNat).map λ(k:Nat)=>D.int (k:Int)) M1 else .bad) (aW fa X.K μ H Q)->
  wpAny (model X.prog X.w) X.A (eval (.Call (.Name "list" p1) [.Call (.Name "range" p2) [a] [] pos2] [] pos) X.env) (EP X pins σ Q) X.xe s:=λn en q'=>by
  subst en;by_cases c:-(2^62)<=n/\n<2^20
  ·rw[if_pos c] at q';refine Call_ (gU I hgl hml (by decide +kernel:bootBuiltins "list"=some (.type "list")) (R8 ?_ hs2 rfl))
   rw[hs2];refine Calls.spliced_cons ?_;refine Call_ (gU I hg hm boot_range (R8 (aT (cf ha dI hs pos2 pins s σ H (λvs H1=>∃μ1,vs=[.int n]/\Ext μ H μ1 H1/\RelM fa X.K μ1 H1 M1) I {μ,Z,M,hE,hM,?_}) λus s1 ⟨vs,H1,I1,r1,μ1,ev,x1,m1⟩=>?_) hs rfl))
   ·rw[e];intro v H1 μ1 x1 m1 r1;obtain rfl:v=.int n:=r1;exact⟨μ1,rfl,x1,m1⟩
   subst ev;cases r1 with
   | cons r rr =>
     cases rr;obtain⟨t,rfl⟩:=r;refine call_range_1 ?_;refine Calls.spliced_nil ?_;refine call_list_range (n:=n.toNat) (I.ok.hd hc) (IsRange.new ..) (small_one `a `a `a `a) (by rw[rangeSize_one];split<;>omega) `a λh' tk acc' c' kp eS its=>?_
     obtain⟨hsz,hit⟩:=its;have I2:Inv X pins σ H1 {s1 with heap:=s1.heap.push {cls:=.type "range",data:=.fields #[.int 0 s1.toks,.int n t,.int 1 (s1.toks+1)]},toks:=s1.toks+1+1}:=I1.kept λb o e=>Qt _ e
     have hv:=xZ n.toNat acc'.toList (by simpa using hsz) λi v e=>by
      obtain⟨u,z⟩:=hit i v (by simpa using e)
      exact{u,by rw[z];simp}
     have rl:aK fa X.K μ1 H1 ((List.range n.toNat).map λ(k:Nat)=>D.int (k:Int)) ((List.range n.toNat).map λ(k:Nat)=>V.int (k:Int)):=by
      have:=aK.ints (fa:=fa) (K:=X.K) (μ:=μ1) (H:=H1) ((List.range n.toNat).map λ(k:Nat)=>(k:Int));simpa[Rx,SK] using this
     obtain⟨c1,k1⟩:=gz m1 rl (kI q' x1);refine{.ref _,_,I2.laid (o:=.lst ((List.range n.toNat).map λ(k:Nat)=>V.int (k:Int))) kp (Qw _) {?_,acc'.toList,c',hv,by simpa using eS},rfl,k1 _ (I2.hok.fresh (Qw _))}
     rw[rl.length,<- dU];exact c1
  ·rw[if_neg c] at q';exact q'.elim
 cases x with
 |int n=>exact key n rfl q
 |_=>exact q.elim
end
noncomputable def rj (bn N:List Str)(sc scope:Scope):Bool:=
 scope.names.all (λy=>(y.2 != .cell||scope.names.lookup y.1==some .cell)&&(y.2 != .local||scope.names.lookup y.1==some .local)&&(y.2 != .free||sc.names.lookup y.1==some .cell||sc.names.lookup y.1==some .free)) &&
 bn.length==N.length&&(bn.zip N).all λp=>(p.1==p.2&&(scope.names.lookup p.2 != some .local&&scope.names.lookup p.2 != some .cell))||scope.names.lookup p.1==none
def pR {α β:Type}{R:α->β->Prop}:∀{l:List α}{r:List β},l.length=r.length->(∀p∈l.zip r,R p.1 p.2)->Sf R l r
 |[],[],_,_=>.nil
 |a::l,b::r,h,g=>.cons (g (a,b) QN) (pR (by simpa using h) λp hp=>g p (QJ _ hp))
 |[],_::_,h,_=>by cases h
 |_::_,[],h,_=>by cases h
def Bc (hk:scope.kind=.function)(hs:X.env.scope=sc)(hN:X.N=N)(h:rj bn N sc scope=true):fK X own bn scope:=by
 unfold rj at h;rw[Qy,Qy,QX,QX] at h;obtain⟨⟨h1,hl⟩,h2⟩:=h;refine{hk,λy hy e=>?_,λy hy e=>?_,λy hy e=>?_,?_}
 ·have:=h1 y hy;rw[e] at this;simpa using this
 ·have:=h1 y hy;simp only[Qy] at this;rw[e] at this;simpa using this
 ·have:=h1 y hy;simp only[Qy] at this;rw[e] at this;show X.env.scope.names.lookup y.1=_\/X.env.scope.names.lookup y.1=_;rw[hs];simpa using this
 ·rw[hN];refine pR (by simpa using hl) λp hp=>?_
  have:=h2 p hp;simp only[Sm,Qy,beq_iff_eq,bne_iff_ne] at this;exact this
section
variable{fa:Fa}{X:Cx}{elt tg iter c t2 i2:Expr}{scope:Scope}{pos:Pos}{own bn:List Str}{t u:fW}{gw gw2:GW}{ge:GE}{gc:GT}
def lu {l:List Nat}(h:l.all (· < n)=true):∀i∈l,i<n:=λi hi=>by
 have:=QX.mp h i hi;simpa using this
def zS {l W:List Nat}(h:W.all (λi=>!l.contains i)=true):∀i∈W,i∉l:=λi hi z=>by
 have:=QX.mp h i hi;simp[z] at this
variable{i:Nat}{y:Str}{py spos:Pos}
def Gz {i:Int}(hg:Gl X x)(hm:∃t,X.mg x=some (.int i t))(hd:(x==("__debug__":Str))=false):DE fa X (.Name x pos) (gC (.int i)):=let{_,h}:=hm;Jv hg h hd
def GF (h:∃ad kvs,X.mg x=some (.ref ad)/\fV X.K X.w.params ad kvs/\eL fa kvs fs)(hg:Gl X x)(hdb:(x==("__debug__":Str))=false)(hb:DE fa X b gb)(hs:iq b):DE fa X (.Subscript (.Name x p) b pos) (lQ fs gb):=
 let{_,_,h1,h2,h3}:=h;Jy h2 h3 hg h1 hdb hb hs
def GC (h:∃ad kvs,X.mg x=some (.ref ad)/\fV X.K X.w.params ad kvs/\eL fa kvs fs)(hg:Gl X x)(hdb:(x==("__debug__":Str))=false)(ha:DE fa X a ga)(hmk:behindInMarks .NotIn (.Name x p)=false):DE fa X (.Compare a [.NotIn] [.Name x p] pos) (i5 fs ga):=
 let{_,_,h1,h2,h3}:=h;Jw h2 h3 hg h1 hdb ha hmk
def GH (h:∃ad kvs,X.mg x=some (.ref ad)/\fV X.K X.w.params ad kvs/\eL fa kvs fs)(hg:Gl X x)(hdb:(x==("__debug__":Str))=false)(ha:DE fa X a ga)(hmk:behindInMarks .NotIn (.Name x p)=false):DT fa X (.Compare a [.NotIn] [.Name x p] pos) (aj (i5 fs ga)):=
 let{_,_,h1,h2,h3}:=h;JG h2 h3 hg h1 hdb ha hmk
def Gx (h:dA (n+4) X.A):Rm X:=by have:=h.un;show X.A.units+100<cLine;omega
end
section
variable{fa:Fa}{X:Cx}{a st:Expr}{ga:GE}{pos p2:Pos}
noncomputable def Jr (m:Bool)(x:D)(M:Mem):Res D:=match x with
 |.tup xs=>.ok (.tup xs.reverse) M
 | x => match eB M x with
   |some xs=>bh m xs.reverse M
   |none=>.bad
noncomputable def uM (a:GE):GE:=λZ M=>(a Z M).bind λx M=>match x with
 |.int i=>.ok (.int i) M
 |.bl k=>.ok (.int (if k then 1 else 0)) M
 |_=>.bad
def Ju (ha:DE fa X a ga)(hg:Gl X "int")(hm:X.mg "int"=none)(he:starEach [a] X.env=(false,eval a X.env)::starEach [] X.env):DE fa X (.Call (.Name "int" p) [a] [] pos) (uM ga):=
 bB (mE Bj hg hm `k (cf ha dI he) `d `d he `r) λσ H Q ⟨μ,Z,M,hE,hM,h⟩=>t1 hE hM h λx M1 v H1 μ1 x1 hE1 hM1 r1 h1=>by
  cases x with
  |int i=>obtain rfl:v=.int i:=r1;exact .inl {i,rfl,h1 _ H1 μ1 x1 hM1 rfl}
  |bl k=>obtain rfl:v=.bl k:=r1;exact .inr {k,rfl,h1 _ H1 μ1 x1 hM1 rfl}
  |_=>exact h1.elim
end
def mm {fa:Fa}{mg:Str->Option Qr}(e:fa i=some f)(m:mg x=some (.ref f)):∀ad,fa i=some ad->mg x=some (.ref ad):=λad h=>by rw[e] at h;cases h;exact m
def N4 {α:Type}{p:List α->Prop}(h:∀a,p [a])(us:List α)(hl:us.length=1):p us:=by
 obtain⟨a,rfl⟩:=List.length_eq_one_iff.mp hl;exact h a
def N3 {α:Type}{p:List α->Prop}(h:∀a b,p [a,b]):∀(us:List α) (hl:us.length=2),p us
 |[a,b],_=>h a b
def us3 {α:Type}{p:List α->Prop}(h:∀a b c,p [a,b,c]):∀(us:List α) (hl:us.length=3),p us
 |[a,b,c],_=>h a b c
def us4 {α:Type}{p:List α->Prop}(h:∀a b c d,p [a,b,c,d]):∀(us:List α) (hl:us.length=4),p us
 |[a,b,c,d],_=>h a b c d
def Az {K:Qp}(X:K.In h)(G:h.Ns mainGlobals mg)(a:PySem.W.nsIn K mainGlobals x=some (some (.ref f))):mg x=some (.ref f):=Sa X G a
def AO:Sf (pF P) [] []:=.nil
def gJ (h:Sf (pF P) es kvs):Sf (pF P) ({PyData.keyHash P x,.str x t,.ref a}::es) ((x,a)::kvs):=.cons ⟨t,rfl⟩ h
noncomputable def Ew (K:Qp):Sp:=λvs H Q _=>∃(a:Addr) (ns:List Int),vs=[.ref a]/\c7 K H a (ns.map V.int)/\yB H/\ns.length<=63/\∀H',Q (.bl true) H'
def Ky {K:Qp}{ad:Addr}{st:Stmt}(h:∀f d,Pg f=some d->yH fa P w K mg base f d)
 (hl:∀ns:List Int,ns.length<=63->∃M,ah Pg (n+1) f [.frz (ns.map D.int)] []=.ok (.bl true) M) (e:Pg f=some d) (F:w9 K x qual st ad fd) (S:jl N [y] (bc st)) (hs:d.slots=N.length)
 (hbody:∀(call:Call) (n:Nat) (cdv:Qr) (A:RW) (outer:List R6) (s:Qu) (H:Hp) (E:XK),(∀f,h9 fa P w K mg base n f (call f))->dA (2*n+5) (A.deeper (envOfC qual (bc st) s.heap.objs.size ad cdv))->
  la fa (gD (iY P w) P w K mg base N qual (bc st) ad cdv A outer s H E) (dg st) (d.body call)):md P w K mg base (iY P w) (2*n+5+1) ad fd [y] (Ew K):=by
 have eq:∀ds M,ah Pg (n+1) f ds M=gA (ah Pg n) d ds M:=λds M=>by show(match Pg f with|none=>Res.bad|some d=>gA (ah Pg n) d ds M)=_;rw[e]
 refine wG (w9.toD F) S (λvs H Q E hsp=>?_) λcdv A outer s H vs Q E hr hsp=>{_,hbody (ah Pg n) n cdv A outer s H E (vc h n) hr,?_}
 ·obtain⟨a,ns,rfl,_⟩:=hsp;rfl
 ·obtain⟨a,ns,rfl,hS,hO,hn,q⟩:=hsp;obtain⟨M',e'⟩:=hl ns hn;rw[eq] at e';have rp:aK fa K {λ_=>none,[],λ_=>none} H [.frz (ns.map D.int)] [.ref a]:=by
   refine{.ref a,[],rfl,{a,ns.map V.int,rfl,?_,aK.ints ns},rfl};rcases hS with(z|⟨o,z⟩)|z
   ·rcases hO a with y|⟨o,xs,y⟩
    ·rw[y] at z;cases z
    ·rw[y] at z;cases z
   ·exact .inl ⟨o,z⟩
   ·exact .inr z
  refine sj (μ:={λ_=>none,[],λ_=>none}) (M:=[]) hs {λk ds z=>by simp at z,λ_ _=>rfl,λ_ _=>rfl,(λ_ _ _ z=>nomatch z),(λ_ _ _ z=>nomatch z),(λ_ _ z=>nomatch z),(λ_ z=>nomatch z)} rp ?_
  rw[e'];intro v H' μ' _ _ r;obtain rfl:v=.bl true:=r;exact q H'
def we {K:Qp}{ad:Addr}(X:K.In h)(G:h.Ns mainGlobals mg)(a:PySem.W.nsIn K mainGlobals x=some (some (.ref ad)))
 (l:K.lookup ad=some {cls:=.type "dict",data:=.dict es n}) (he:Sf (pF P) es.toList kvs) (nd:(kvs.map (·.1)).Nodup) (ns:(ad==sysModules)=false) (dk:eL fa kvs fs):∃ad kvs,mg x=some (.ref ad)/\fV K P ad kvs/\eL fa kvs fs:=
 {ad,kvs,Sa X G a,{⟨es,n,l,he⟩,nd,ns},dk}
end LD
namespace LD
open PySem PySem.Spec PySem.Calls PyProof.Rows PySem.W
section
variable{prog:Rp}{w:Rr}{A:RW}{E:Qr->Qu->Prop}{s:Qu}{K:Frag}{x C:Addr}{ox:Obj}{od:Option Obj}{name:Str}
noncomputable def Im (K:Frag)(C:Addr):Bool:=findIn K (.ref C) "__getattribute__"==some (some (.builtin "BaseException.__getattribute__"))&&findIn K (.ref C) "__getattr__"==some none&&mroIn K C (.type "BaseException")==some true&&mroIn K C (.type "object")==some true &&
 findIn K (.ref C) "__class__"==some (some (.builtin "object.__class__"))&&specialIn K (.builtin "object.__class__") "__get__"==some (some (.builtin "getset_descriptor.__get__"))&&takesIn K (.builtin "object.__class__")==some true
end
end LD
namespace LD
open PySem PySem.Spec PyProof.Rows L2
noncomputable def cb (f:Nat)(c:Call)(s:GA):GE:=λZ M=>match s Z M with
 |.ok ds M=>c f ds M
 |_=>.bad
noncomputable def tq (k:D->Mem->Res Fl)(Z:Env):Res D->Res Fl
 |.ok d M=>k d M
 |.err x M=>.ok (.exc x Z) M
 |.bad=>.bad
noncomputable def iR (a:GE):GS:=λZ M=>tq (λ_ M=>.ok (.next Z) M) Z (a Z M)
noncomputable def fw (t:fW)(a:GE):GS:=λZ M=>tq (λx M=>(cm M (bX t x Z)).bind λρ1 M=>.ok (.next ρ1) M) Z (a Z M)
noncomputable def xr (a:GE):GS:=λZ M=>tq (λx M=>.ok (.ret x) M) Z (a Z M)
noncomputable def yb (t:GT)(a b:GE):GE:=λZ M=>match t Z M with
 |.ok k M=>if k then a Z M else b Z M
 |_=>.bad
noncomputable def f9 (c:Nat)(s:GA):GS:=λZ M=>match s Z M with
 |.ok ds M=>if ds.length<=sz then .ok (.exc (.exc c none) Z) M else .bad
 |_=>.bad
noncomputable def N9 (fa:Fa)(X:Cx)(g:GE):TE:=λσ H Q=>∃μ Z M,bu fa X.K μ H σ Z/\RelM fa X.K μ H M/\fC (g Z M) (aW fa X.K μ H Q) (λx M'=>XW fa X μ H x Z M')
abbrev DX (fa:Fa)(X:Cx)(e:Expr)(g:GE):Prop:=PE X e (N9 fa X g)
section
variable{fa:Fa}{X:Cx}{a b:Expr}{ga gb:GE}{ta:GT}{pos p:Pos}{es:List Expr}{gs:GA}{n:Nat}
def x_call (f:Nat){call:Call}(C:∀f,h9 fa X.prog X.w X.K X.mg X.base n f (call f))(hr:dA (2*n+4) X.A)(hex:X.ex=[])(hg:Gl X x)(hm:∀ad,fa f=some ad->X.mg x=some (.ref ad))(hs:DA fa X (a::es) gs)
 (hdb:(x==("__debug__":Str))=false) (he:notStar a=true) (hpl:es.all notStar=true):DX fa X (.Call (.Name x p) (a::es) [] pos) (cb f call gs):=by
 intro pins s σ H Q I ⟨μ,Z,M,hE,hM,h⟩;unfold cb at h;cases eg:gs Z M with
 |err=>rw[eg] at h;exact h.elim
 |bad=>rw[eg] at h;exact h.elim
 | ok ds M1 =>
   rw[eg] at h;have h:fC (call f ds M1) (aW fa X.K μ H Q) (λx M'=>XW fa X μ H x Z M'):=h;rcases C f with hb|⟨ad,fd,ps,h1,h2,h3,h4,F,_⟩
   ·rw[hb] at h;exact h.elim
   ·have hl:ds.length=ps.length:=by
     by_cases hl:ds.length=ps.length
     ·exact hl
     ·rw[h4 ds M1 hl] at h;exact h.elim
    refine wpAny_Call_Name_kw (jf I hg (hm ad h1) ?_ hdb);refine PySem.W.callWith_K I.ok.mod.kin h2 (aT (hs pos pins s σ H (λvs H1=>∃μ1,Ext μ H μ1 H1/\RelM fa X.K μ1 H1 M1/\aK fa X.K μ1 H1 ds vs) I {μ,Z,M,hE,hM,by rw[eg];exact λvs H1 μ1 x1 m1 r1=>⟨μ1,x1,m1,r1⟩}) λus s1 ⟨vs,H1,I1,r,μ1,x1,m1,r1⟩=>{I1.kIn,?_}) (a9 he) (dE hpl)
    have hsp:Ex fa X.K ps.length (call f) vs H1 Q λCv dx H'=>∃y M' μ' C' c p,Cv=.ref C'/\Ext μ1 H1 μ' H'/\RelM fa X.K μ' H' M'/\y=.exc c p/\fa (gj c)=some C'/\vt H' c dx p/\XW fa X μ H y Z M':=by
     refine{by rw[r1.length];exact hl,μ1,M1,ds,m1,r1,?_}
     cases ec:call f ds M1 with
     |ok d M2=>rw[ec] at h;exact aW.ext h x1
     |err y M2=>rw[ec] at h;exact λC dx c p H' μ' y' m ex hc hn=>{_,M2,μ',C,c,p,rfl,y',m,ex,hc,hn,h}
     |bad=>rw[ec] at h;exact h.elim
    have hl2:us.length=ps.length:=by rw[<- r.length,r1.length];exact hl
    have hb:=h3 s1 us I1.kIn (by simpa using hl2)
    rw[Rv] at hb;refine wpAny_call (codeAny_mono (F.run X.A X.stack s1 H1 {us,[]} us vs Q _ hr I1.env0 hb r hsp) λr' s' hq=>?_);cases r' with
    | error e =>
      unfold CR at hq;obtain⟨a',C',dx,H',rfl,I',fl,y,M',μ',C2,c,p,ec,ye,m',ey,hc,hn,hw⟩:=rY I1 hex hq;cases ec;exact hw pins σ H' μ' s' a' C' dx c p I' (x1.trans ye) ((hE.ext x1).ext ye) m' ey hc hn fl
    | ok fl =>
      cases fl with
      |ret u=>exact I1.after hq
      |next=>exact False.elim hq
      |brk=>exact False.elim hq
      |cont=>exact False.elim hq
def FG (f:Nat){call:Call}(C:∀f,h9 fa X.prog X.w X.K X.mg X.base n f (call f))(hr:dA (2*n+4) X.A)(hex:X.ex=[])(hg:Gl X x)(hm:∀ad,fa f=some ad->X.mg x=some (.ref ad))(hdf:(fa (500+f)).isSome=true)(hs:DE fa X a ga)
 (hdb:(x==("__debug__":Str))=false) (he:notStar a=true):DX fa X (.Call (.Name x p) [a] [] pos) (cb f call (dP ga (dP (gC .non) bY))):=by
 intro pins s σ H Q I ⟨μ,Z,M,hE,hM,h⟩;unfold cb at h;cases eg:ga Z M with
 |err=>unfold dP at h;rw[eg] at h;exact h.elim
 |bad=>unfold dP at h;rw[eg] at h;exact h.elim
 | ok d0 M1 =>
   unfold dP at h;rw[eg] at h;have h:fC (call f [d0,.non] M1) (aW fa X.K μ H Q) (λx M'=>XW fa X μ H x Z M'):=h;rcases C f with hb|⟨ad,fd,ps,h1,h2,h3,h4,F,hbd⟩
   ·rw[hb] at h;exact h.elim
   ·have hl:2=ps.length:=by
     by_cases hl:2=ps.length
     ·exact hl
     ·rw[h4 [d0,.non] M1 hl] at h;exact h.elim
    refine wpAny_Call_Name_kw (jf I hg (hm ad h1) ?_ hdb);refine PySem.W.callWith_K I.ok.mod.kin h2 (aT (cf hs dI (a9 he) pos pins s σ H (λvs H1=>∃v μ1,vs=[v]/\Ext μ H μ1 H1/\RelM fa X.K μ1 H1 M1/\Rep fa X.K μ1 H1 d0 v) I {μ,Z,M,hE,hM,by rw[eg];exact λv H1 μ1 x1 m1 r1=>⟨v,μ1,rfl,x1,m1,r1⟩}) λus s1 ⟨vs,H1,I1,r,v0,μ1,ev,x1,m1,r0⟩=>{I1.kIn,?_}) (a9 he) (dE rfl)
    subst ev;have r1:aK fa X.K μ1 H1 [d0,.non] [v0,.non]:={v0,[.non],rfl,r0,.non,[],rfl,rfl,rfl};have hsp:Ex fa X.K ps.length (call f) [v0,.non] H1 Q λCv dx H'=>∃y M' μ' C' c p,Cv=.ref C'/\Ext μ1 H1 μ' H'/\RelM fa X.K μ' H' M'/\y=.exc c p/\fa (gj c)=some C'/\vt H' c dx p/\XW fa X μ H y Z M':=by
     refine{hl,μ1,M1,[d0,.non],m1,r1,?_};cases ec:call f [d0,.non] M1 with
     |ok d M2=>rw[ec] at h;exact aW.ext h x1
     |err y M2=>rw[ec] at h;exact λC dx c p H' μ' y' m ex hc hn=>{_,M2,μ',C,c,p,rfl,y',m,ex,hc,hn,h}
     |bad=>rw[ec] at h;exact h.elim
    have hl2:=r.length.symm;have hb:=hbd hdf s1 us I1.kIn (by rw[Rb,hl2];exact hl)
    obtain⟨u0,rfl⟩:∃u0,us=[u0]:=List.length_eq_one_iff.mp hl2;have r2:Vals [v0,.non] [u0,.none]:=by cases r with|cons a _=>exact .cons a (.cons rfl .nil)
    refine wpAny_call (codeAny_mono (F.run X.A X.stack s1 H1 {[u0],[]} [u0,.none] [v0,.non] Q _ hr I1.env0 hb r2 hsp) λr' s' hq=>?_);cases r' with
    | error e =>
      unfold CR at hq;obtain⟨a',C',dx,H',rfl,I',fl,y,M',μ',C2,c,p,ec,ye,m',ey,hc,hn,hw⟩:=rY I1 hex hq;cases ec;exact hw pins σ H' μ' s' a' C' dx c p I' (x1.trans ye) ((hE.ext x1).ext ye) m' ey hc hn fl
    | ok fl =>
      cases fl with
      |ret u=>exact I1.after hq
      |next=>exact False.elim hq
      |brk=>exact False.elim hq
      |cont=>exact False.elim hq
def Mm (hc:DT fa X c ta)(ha:DX fa X a ga)(hb:DX fa X b gb):DX fa X (.IfExp c a b pos) (yb ta ga gb):=
 bB (uc hc ha hb) λσ H Q ⟨μ,Z,M,hE,hM,h⟩=>by
  unfold yb at h;cases et:ta Z M with
  |err=>rw[et] at h;exact h.elim
  |bad=>rw[et] at h;exact h.elim
  | ok k M1 =>
    rw[et] at h;refine{μ,Z,M,hE,hM,?_};rw[et];intro H1 μ1 x1 m1;have go:∀g:GE,fC (g Z M1) (aW fa X.K μ H Q) (λx M'=>XW fa X μ H x Z M')->N9 fa X g σ H1 Q:=λg q=>by
     refine{μ1,Z,M1,hE.ext x1,m1,?_};cases e:g Z M1 with
     |ok d M2=>rw[e] at q;exact aW.ext q x1
     |err y M2=>rw[e] at q;exact XW.ext q x1
     |bad=>rw[e] at q;exact q
    cases k with
    |true=>exact go ga h
    |false=>exact go gb h
def My (ha:DX fa X a ga)(hs:swapsWith a none pos.line X.env=pure false):DS fa X (.Expr a pos) (iR ga):=
 dR (nI ha hs) λD' σ H ⟨μ,Z,M,hE,hM,h⟩=>{μ,Z,M,hE,hM,by
  unfold iR at h;cases e:ga Z M with
  |ok d M1=>rw[e] at h;exact λv H1 μ1 x1 m1 r1=>h σ H1 μ1 x1 (hE.ext x1) m1
  |err x M1=>rw[e] at h;exact h
  |bad=>rw[e] at h;exact h.elim}
def Ji (ha:DX fa X a ga)(hg:PG X tg (gT fa X.K t))(hs:swapsWithSole [tg] a pos.line X.env=pure false)(hw:swappedStores [tg] a X.env=pure none)(h1:(assignEach [tg] X.env).map (·.2)=[assign tg X.env]) :
 DS fa X (.Assign [tg] a pos) (fw t ga):=
 dR (pO ha hg hs hw h1) λD σ H ⟨μ,Z,M,hE,hM,h⟩=>{μ,Z,M,hE,hM,by
  unfold fw at h;cases e:ga Z M with
  | ok d M1 =>
    rw[e] at h;obtain⟨ρ1,M2,e',q⟩:=aE h;cases eb:bX t d Z with
    |none=>rw[eb] at e';cases e'
    | some ρ2 =>
      rw[eb] at e';cases e';exact λv H1 μ1 x1 m1 r1=>{μ1,Z,_,d,ρ1,hE.ext x1,m1,r1,eb,λσ1 hE2=>q σ1 H1 μ1 x1 hE2 m1}
  |err x M1=>rw[e] at h;exact h
  |bad=>rw[e] at h;exact h.elim}
def Jf (ha:DX fa X a ga):DS fa X (.Return (some a) pos) (xr ga):=
 dR (Ag ha) λD' σ H ⟨μ,Z,M,hE,hM,h⟩=>{μ,Z,M,hE,hM,by
  unfold xr at h;cases e:ga Z M with
  |ok d M1=>rw[e] at h;exact h
  |err x M1=>rw[e] at h;exact h
  |bad=>rw[e] at h;exact h.elim}
end
abbrev Bl:List Qr:=[.type "ValueError",.type "Exception",.type "BaseException",.type "object"]
noncomputable def Jd (K:Qp)(C:Addr)(f:ClassData->Addr->List Qr->String->Bool):Bool:=match K.lookup C with
 | some {.type "type", _, .cls cd, sl} => (match cd.mro, sl.toList with
   |.ref C'::bm,[_,_,_,_,some (.builtin n),_]=>f cd C' bm n
   |_,_=>false)
 |_=>false
def Jc {K:Qp}(X:K.In h)(q:Jd K C f=true) :
 ∃bm N nm q bs hdct sn sub ab col dd k0 k1 k2 k3 k5 dl n C',f {nm,bs,.ref C'::bm,N,q,hdct,sn,sub,ab,col,dl} C' bm n=true/\h.get? C=some {.type "type",dd,.cls {nm,bs,.ref C'::bm,N,q,hdct,sn,sub,ab,col,dl},#[k0,k1,k2,k3,some (.builtin n),k5]}:=by
 unfold Jd at q;split at q
 ·rename_i dd cd sl ho;split at q
  ·rename_i C' bm k0 k1 k2 k3 n k5 hm hs;obtain⟨nm,bs,mro,ns,qn,hd,sn,sub,ab,col,del⟩:=cd;subst hm;have hsl:sl=#[k0,k1,k2,k3,some (.builtin n),k5]:=by
    obtain⟨l⟩:=sl;simp only at hs;rw[hs]
   subst hsl;exact{_,_,_,_,_,_,_,_,_,_,_,_,_,_,_,_,_,_,_,q,X _ _ ho}
  ·cases q
 ·cases q
def Dp {K:Qp}(X:K.In h)(q:PySem.W.excIn K C bmB newId=true) :
 ∃bm N nm q bs hdct sn sub ab col dd k0 k1 k2 k3 k5 mN,h.get? C=some (excClassObj nm q C N bs bm hdct sn sub ab col dd k0 k1 k2 k3 k5 newId)/\h.Ns N mN/\mN "__init__"=none/\OwnTail h bmB bm:=by
 obtain⟨bm,ns,nm,qn,bs,hd,sn,sub,ab,col,dd,k0,k1,k2,k3,k5,dl,n,C',q,ho⟩:=Jc X q;simp only[Qy,beq_iff_eq,Bool.not_eq_true'] at q;obtain⟨⟨⟨⟨⟨rfl,rfl⟩,rfl⟩,ht⟩,hok⟩,hni⟩:=q;exact{bm,ns,nm,qn,bs,hd,sn,sub,ab,col,dd,k0,k1,k2,k3,k5,_,ho,.of_isNs (PySem.W.isNs_of_in X hok),PySem.W.nsMap_none_of_in X hok hni,PySem.W.tail_of_in X ht}
def Ar (x:cX P w H h a o):∃ob,h.get? a=some ob:=by
 cases o with
 |lst xs=>obtain⟨_,_,_,_,e⟩:=x;exact{_,e}
 |tup xs=>obtain⟨_,_,_,ob,e,_⟩:=x;exact{_,e}
 |dK kvs=>obtain⟨_,_,_,_,o,_,_,e,_⟩:=x;exact{_,e}
 |dT kvs=>obtain⟨_,_,_,_,o,_,_,e,_⟩:=x;exact{_,e}
 |set S n=>obtain⟨o,_,_,_,e,_⟩:=x;exact{_,e}
 |ins C dx fs=>obtain⟨_,_,_,e,_⟩:=x;exact{_,e}
 |own y=>exact x
 |xd fs=>obtain⟨_,⟨_,_,_,e,_⟩,_⟩:=x;exact{_,e}
 |rng lo hi=>obtain⟨_,_,_,e⟩:=x;exact{_,e}
 |frz ob u=>obtain⟨e,_⟩:=x;exact{_,e}
 |tbl ps=>exact{_,x}
 |met f y=>exact{_,x}
 |ext φ=>obtain⟨_,e,_⟩:=x;exact e
 |dn es=>obtain⟨_,_,o,e,_⟩:=x;exact⟨o,e⟩
def uH (I:Inv X pins σ H s)(hex:X.ex=[])(hn:s.heap.get? e=none):yC X e/\H e=none:=by
 refine{{?_,λp hp z=>?_},?_}
 ·cases q:X.s₀.heap.get? e with
  |none=>rfl
  | some o =>
    obtain⟨o',e'⟩:=I.base.there e o q (by rw[hex];simp)
    rw[hn] at e';cases e'
 ·have:=(I.pin p (RE _ hp)).1;rw[z,hn] at this;cases this
 ·cases q:H e with
  |none=>rfl
  | some u =>
    obtain⟨ob,z⟩:=Ar (I.hok e u q);rw[hn] at z;cases z
section
variable{fa:Fa}{X:Cx}{a b:Expr}{ga gb:GE}{ta:GT}{pos p:Pos}{es:List Expr}{gs:GA}{n:Nat}
def Gv (c:Nat){x:Str}(hx:∃C,X.mg x=some (.ref C)/\fa (gj c)=some C/\PySem.W.excIn X.K C Bl "ValueError.__new__"=true)(hex:X.ex=[])(hg:Gl X x)(hc:X.calm=true)(hs:DA fa X (a::es) gs)
 (hdb:(x==("__debug__":Str))=false) (he:notStar a=true) (hpl:es.all notStar=true):DS fa X (.Raise (some (.Call (.Name x np) (a::es) [] cpos)) none pos) (f9 c gs):=by
 intro pins s σ H D' I ⟨μ,Z,M,hE,hM,h⟩;obtain⟨C,hmC,hfC,hin⟩:=hx;obtain⟨bm,N,nm,q,bs,hdct,sn,sub,ab,col,dd,k0,k1,k2,k3,k5,mN,hC,hN,hni,T⟩:=Dp I.ok.mod.kin hin;unfold f9 at h;cases eg:gs Z M with
 |err=>rw[eg] at h;exact h.elim
 |bad=>rw[eg] at h;exact h.elim
 | ok ds M1 =>
   rw[eg] at h;dsimp only at h;split at h
   ·next hz=>
    refine wpAny_Raise_call_subT (nm:=nm) (q:=q) (N:=N) (bs:=bs) (hdct:=hdct) (sn:=sn) (sub:=sub) (ab:=ab) (col:=col) (dd:=dd) (k0:=k0) (k1:=k1) (k2:=k2) (k3:=k3) (k5:=k5) PySem.F.excBase_ValueError (T.hasType `k) (I.ok.hd hc) (dE (by simp[he,hpl])) hni (jf I hg hmC {rfl,?_} hdb)
    have ar:=aT (hs cpos pins s σ H (λvs H1=>∃μ1,Ext μ H μ1 H1/\RelM fa X.K μ1 H1 M1/\aK fa X.K μ1 H1 ds vs) I {μ,Z,M,hE,hM,by rw[eg];exact λvs H1 μ1 x1 m1 r1=>⟨μ1,x1,m1,r1⟩}) (Q':=λus s2=>([]:List (Str×Qr))=[]/\us.length<=sizeLine/\s2.heap.get? C=some (excClassObj nm q C N bs bm hdct sn sub ab col dd k0 k1 k2 k3 k5 "ValueError.__new__")/\s2.heap.Ns N mN/\OwnTail s2.heap Bl bm/\∀h' e,Heap.MadeExcOf s2.heap h' e (.ref C) us->X.xe (.ref e) {s2 with heap:=h'}) λus s1 ⟨vs,H1,I1,r,μ1,x1,m1,r1⟩=>by
     refine{rfl,?_,I1.bk _ _ hC,hN.keeps I1.bk,T.keeps I1.bk,λh' e hm=>?_}
     ·rw[<- r.length,r1.length,<- dU];exact hz
     ·obtain⟨t,ht,_,_⟩:=hm.there;obtain⟨n1,n2⟩:=uH I1 hex hm.new;exact h pins σ H1 μ1 {s1 with heap:=h'} e C none c none (I1.kept hm.keeps) x1 (hE.ext x1) m1 rfl hfC rfl {n1,n2,_,_,ht,rfl,rfl,rfl,.inl rfl}
    rw[a9 he] at ar ⊢;exact PySem.Calls.evalArgs_plain ar
   ·exact h.elim
end
structure L4 (fa:Fa) (K:Qp):Prop where
 g:∀c C,fa (gj c)=some C->Im K C=true/\PySem.W.mroIn K C (.type "ValueError")=some true/\PySem.W.isIn K (.ref C) C=true
 d:∀c C D,fa (gj c)=some C->fa 999=some D->PySem.W.isIn K (.ref C) D=true/\PySem.W.mroIn K C (.ref D)=some true/\PySem.W.mroIn K D (.type "BaseException")=some true/\PySem.W.typeIn K (.ref D)=some (.type "type")
 n:∀c C c' C',fa (gj c)=some C->fa (gj c')=some C'->c'≠c->PySem.W.kin_not K C C'=true
def yc (f:ny New C dx a s.heap H)(h:Q () s):wpAny M A (setFlight (.ref a) none) Q E s:=by
 obtain⟨_,_,o,vs,h1,_,_,h4,tr⟩:=f;rcases tr with t|⟨T,oT,ts,t1,_,_,_,t5,t6,t7⟩
 ·refine tqa (tqf h1 h4 t ?_);rw[if_neg `d]
  exact tqb h
 ·refine tqa (tqf h1 h4 t1 ?_);rw[if_pos `s]
  refine wpAny_setField t5 t6 (Sd.mp t7).1 ?_;have e:=Heap.update_setField_same s.heap T oT ts 3 .none t5 t6 t7;show Q () {s with heap:=s.heap.update T (Obj.mapFields (·.setIfInBounds 3 .none))}
  rw[e];exact h
section
variable{X:Cx}{pins:List (Addr×Obj)}{σ:L2.St}{H:Hp}{s:Qu}
abbrev sS (X:Cx)(pn:List (Addr×Obj))(E:Qr->Qu->Prop):Cx:={X with pn:=pn,xe:=E}
abbrev sT (X:Cx)(v:Qr)(E:Qr->Qu->Prop):Cx:={X with A:=X.A.mark (some v),calm:=false,xe:=E}
def AV (I:Inv X pins σ H s)(E:Qr->Qu->Prop):Inv (sS X (X.pn++pins) E) [] σ H s:=
 {⟨I.ok.mod,I.ok.kind,I.ok.glob,I.ok.blt,I.ok.above,I.ok.inj,I.ok.has,I.ok.cab,I.ok.hd,I.ok.frames,I.ok.stk,I.ok.exf,I.ok.bs,I.ok.bsz,I.ok.noex,I.ok.exfs,I.ok.funs,I.ok.frf⟩,I.os,I.bare,I.base,I.loc,I.cell,I.free,I.freeC,λp hp=>I.pin p (by simpa using hp),I.hok,I.len}
def iJ (I:Inv (sS X (X.pn++pins) E) pins' σ H s):Inv X pins σ H s:=
 {⟨I.ok.mod,I.ok.kind,I.ok.glob,I.ok.blt,I.ok.above,I.ok.inj,I.ok.has,I.ok.cab,I.ok.hd,I.ok.frames,I.ok.stk,I.ok.exf,I.ok.bs,I.ok.bsz,I.ok.noex,I.ok.exfs,I.ok.funs,I.ok.frf⟩,I.os,I.bare,I.base,I.loc,I.cell,I.free,I.freeC,λp hp=>I.pin p (RE _ hp),I.hok,I.len}
def rX (I:Inv X pins σ H s)(v:Qr)(E:Qr->Qu->Prop):Inv (sT X v E) pins σ H s:=
 {{I.ok.mod,I.ok.kind,I.ok.glob,I.ok.blt,I.ok.above,I.ok.inj,I.ok.has,I.ok.cab,(λz=>nomatch z),I.ok.frames,I.ok.stk,I.ok.exf,I.ok.bs,I.ok.bsz,I.ok.noex,I.ok.exfs,I.ok.funs,I.ok.frf},I.os,I.bare,I.base,I.loc,I.cell,I.free,I.freeC,I.pin,I.hok,I.len}
def jV (hh:X.calm=true->X.A.handled=none)(I:Inv (sT X v E) pins σ H s):Inv X pins σ H s:=
 {⟨I.ok.mod,I.ok.kind,I.ok.glob,I.ok.blt,I.ok.above,I.ok.inj,I.ok.has,I.ok.cab,hh,I.ok.frames,I.ok.stk,I.ok.exf,I.ok.bs,I.ok.bsz,I.ok.noex,I.ok.exfs,I.ok.funs,I.ok.frf⟩,I.os,I.bare,I.base,I.loc,I.cell,I.free,I.freeC,I.pin,I.hok,I.len}
end
noncomputable def Ip (K:Qp)(cl:List (Nat×Addr))(D:Addr):Bool:=PySem.W.mroIn K D (.type "BaseException")==some true&&PySem.W.typeIn K (.ref D)==some (.type "type") &&
 cl.all λq=>Im K q.2&&PySem.W.mroIn K q.2 (.type "ValueError")==some true&&PySem.W.isIn K (.ref q.2) q.2&&PySem.W.isIn K (.ref q.2) D&&PySem.W.mroIn K q.2 (.ref D)==some true&&cl.all λr=>r.1==q.1||PySem.W.kin_not K q.2 r.2
noncomputable def uP (l cl:List (Nat×Addr))(D:Addr):Fa:=λi=>if i<999 then l.lookup i else if i=999 then some D else cl.lookup (i-1000)
def lookup_mem:∀{l:List (Nat×Addr)}{c:Nat}{C:Addr},l.lookup c=some C->(c,C)∈l
 |[],_,_,h=>by cases h
 | (a, b) :: r, c, C, h => by
   rw[RA] at h;split at h
   ·next e=>cases h;rw[eq_of_beq e];exact QN
   ·exact QJ _ (lookup_mem h)
def kW {D:Addr}(h:uP l cl D (gj c)=some C):(c,C)∈cl:=by
 unfold uP gj at h;rw[if_neg `a,if_neg `a,RR] at h
 exact lookup_mem h
def Io {K:Qp}{D:Addr}(h:Ip K cl D=true):L4 (uP l cl D) K:=by
 unfold Ip at h;simp only[Qy,beq_iff_eq,QX,Sm] at h;obtain⟨⟨h1,h2⟩,h3⟩:=h;refine{λc C e=>?_,λc C D' e e'=>?_,λc C c' C' e e' n=>?_}
 ·obtain⟨⟨⟨⟨⟨a1,a2⟩,a3⟩,a4⟩,a5⟩,a6⟩:=h3 _ (kW e);exact⟨a1,a2,a3⟩
 ·obtain⟨⟨⟨⟨⟨a1,a2⟩,a3⟩,a4⟩,a5⟩,a6⟩:=h3 _ (kW e);cases e';exact⟨a4,a5,h1,h2⟩
 ·obtain⟨⟨⟨⟨⟨a1,a2⟩,a3⟩,a4⟩,a5⟩,a6⟩:=h3 _ (kW e);exact(a6 _ (kW e')).elim (λz=>absurd z n) id
noncomputable def fit (z:Str)(i:Int)(y:Str):Prop:=i.natAbs.log2<1920/\(z++(toString i:Str)).length<=sizeLine/\(z++(toString i:Str)++y).length<=sizeLine
section
variable{X:Cx}{a:Expr}{ta:TE}{pos p1 p2 p3:Pos}{j j2:Nat}{z y:Str}
noncomputable def tF3 (z y:Str)(ta:TE):TE:=λσ H Q=>z.length<=sizeLine/\ta σ H λv H1=>∃i,v=.int i/\fit z i y/\Q (.str (z++(toString i:Str)++y)) H1
def Bt (z:Str):Str.empty++z=z:=by
 cases z with
 |mk c=>show Str.mk (#[]++c)=_;simp
def MJ (ha:PE X a ta):PE X (.JoinedStr [.Constant (.str z) j p1,.FormattedValue a (-1) none p2,.Constant (.str y) j2 p3] pos) (tF3 z y ta):=by
 intro pins s σ H Q I ⟨hz,h⟩;refine JoinedStr_many (joinParts_cons (Calls.Constant_str ?_));show(Str.empty++z).length<=sizeLine/\_;rw[Bt];refine{hz,joinParts_cons (FormattedValue_plain (aT (ha pins _ σ H _ (I.tok _) h) λu s1 ⟨v,H1,I1,r1,i,ev,⟨f1,f2,f3⟩,q⟩=>?_))};subst ev;obtain⟨t,rfl⟩:=r1;refine formatField_int_small f1 {f2,joinParts_cons (Calls.Constant_str {f3,joinParts_nil ?_ f3})};exact{.str _,H1,I1.tok _,{_,rfl},q}
end
noncomputable def L5 (C:Addr)(dx:Option Addr)(a:Addr)(h:Heap):Prop:=∃o vs t0,h.get? a=some o/\o.cls=.ref C/\o.dict=dx/\o.data=.fields vs/\vs[0]?=some (.ref t0)/\vs[1]?=some .none
noncomputable def Ld (K:Qp)(C:Addr)(fI:Addr):Bool:=Jd K C λcd C' bm n=>C'==C&&n=="ValueError.__new__"&&!cd.hasDel&&PySem.W.tailIn K Bl bm&&PySem.W.nsOkIn K cd.ns&&PySem.W.nsIn K cd.ns "__init__"==some (some (.ref fI))
noncomputable def spI (C:Addr)(fld:Str):Sp:=λvs H Q _=>∃e i,vs=[.ref e,.int i]/\H e=some (.ext (L5 C none e))/\i.natAbs<2^64/\∀d,H d=none->d≠e->Q .non (upd (upd H d (.xd [(fld,.int i)])) e (.ext (L5 C (some d) e)))
def len_app (a b:Str):(a++b).length=a.length+b.length:=by
 show(Str.append a b).length=_;unfold Str.append Str.length;simp
def K8 {i:Int}(hz:z.length<=1000)(hy:y.length<=1000)(hi:i.natAbs<2^64):fit z i y:=by
 have h1:i.natAbs.log2<1920:=by
  by_cases h0:i.natAbs=0
  ·rw[h0];decide
  ·exact QS ((Nat.log2_lt h0).mpr hi) `a
 have h2:=PyProof.Rows.int_text_len_1921 h1;have hs:sizeLine=16777216:=dU.symm;refine{h1,?_,?_}
 ·rw[len_app];omega
 ·rw[len_app,len_app];omega
noncomputable def Bz (fa:Fa)(P:Rp)(w:Rr)(K:Qp)(mg:Str->Option Qr)(base:Heap)(c:Nat)(x:Str):Prop:=
 ∃C fI fd y oI,mg x=some (.ref C)/\fa (gj c)=some C/\Ld K C fI=true/\PySem.W.keepIn K (.ref C)=true/\K.lookup fI=some oI/\oI.cls=.type "function"/\Binds K fd ["self",y] []/\md P w K mg base (iY P w) 1 fI fd ["self",y] (spI C (BE c))
noncomputable def vS (c:Nat)(a:GE):GS:=λZ M=>match a Z M with
 |.ok (.int i) M=>if i.natAbs<2^64 then .ok (.exc (.exc c (some i)) Z) M else .bad
 |_=>.bad
section
variable{fa:Fa}{X:Cx}{a b:Expr}{ga gb:GE}{ta:GT}{pos p np cpos:Pos}{es:List Expr}{gs:GA}{n:Nat}{x:Str}
noncomputable def Fs (fa:Fa)(K:Qp)(f:Str):Prop:=∀c C,fa (gj c)=some C->BE c=f->PySem.W.hasDictIn K C=true/\PySem.W.findIn K (.ref C) f=some none
end
noncomputable def inC (s:Stmt):Stmt:=match s with
 |.ClassDef _ _ _ (b::_) _ _ _ _ _ _ _=>b
 |_=>s
noncomputable def uO (z y:Str)(a:GE):GE:=λZ M=>(a Z M).bind λd M=>match d with
 |.int i=>if z.length<=1000/\y.length<=1000/\i.natAbs<2^64 then .ok (.str (z++(toString i:Str)++y)) M else .bad
 |_=>.bad
def OV (ha:DE fa X a ga):DE fa X (.JoinedStr [.Constant (.str z) j p1,.FormattedValue a (-1) none p2,.Constant (.str y) j2 p3] pos) (uO z y ga):=
 bB (MJ ha) λσ H Q ⟨μ,Z,M,hE,hM,h⟩=>by
  obtain⟨x0,M1,eg,h1⟩:=aE h;cases x0 with
  | int i =>
    have h1:ae (if z.length<=1000/\y.length<=1000/\i.natAbs<2^64 then .ok (.str (z++(toString i:Str)++y)) M1 else .bad) (aW fa X.K μ H Q):=h1;split at h1
    ·next hm=>
     refine{QH hm.1 (by rw[<- dU];decide),μ,Z,M,hE,hM,?_}
     rw[eg];intro v H1 μ1 x1 m1 r1;obtain rfl:v=.int i:=r1;exact{i,rfl,K8 hm.1 hm.2.1 hm.2.2,h1 (.str _) H1 μ1 x1 m1 rfl}
    ·exact h1.elim
  |_=>exact h1.elim
noncomputable def mr (k1 k2:Nat)(h:GS):Fl->Mem->Res Fl
 | .exc x Z, M => match x with
   |.exc c _=>if c=k1\/c=k2 then(h Z M).bind λfl M=>match fl with|.exc _ _=>.bad|fl=>.ok fl M else .bad
   |_=>.bad
 |fl,M=>.ok fl M
noncomputable def mB (b:GS)(k1 k2:Nat)(h:GS):GS:=λZ M=>(b Z M).bind (mr k1 k2 h)
noncomputable def w8 (fa:Fa)(K:Qp)(mg:Str->Option Qr)(x1 x2:Str)(k1 k2:Nat):Prop:=∃D1 D2,mg x1=some (.ref D1)/\mg x2=some (.ref D2)/\∀c C,c=k1\/c=k2->fa (gj c)=some C->PySem.W.exmAny K (.ref C) [.ref D1,.ref D2]=some true
noncomputable def OC (K:Qp)(cl:List (Nat×Addr))(D1 D2:Addr)(k1 k2:Nat):Bool:=cl.all λq=>!(q.1==k1||q.1==k2)||PySem.W.exmAny K (.ref q.2) [.ref D1,.ref D2]==some true
def IU {K:Qp}{D D1 D2:Addr}(m1:mg x1=some (.ref D1))(m2:mg x2=some (.ref D2))(h:OC K cl D1 D2 k1 k2=true):w8 (uP l cl D) K mg x1 x2 k1 k2:=by
 refine{D1,D2,m1,m2,λc C hc e=>?_};have:=QX.mp h _ (kW e);rw[Sm] at this;rcases this with z|z
 ·have e1:(c==k1||c==k2)=true:=by simpa using hc
  rw[e1] at z;cases z
 ·exact eq_of_beq z
noncomputable def L9 (fa:Fa)(K:Qp):Prop:=∀c C,fa (jO c)=some C->lR c≠[]->xb K C/\∀f∈lR c,Ma K C f
noncomputable def qp (fa:Fa)(K:Qp)(m:Str)(c f:Nat):Prop:=∃C,fa (jO c)=some C/\xb K C/\(∀ad,fa f=some ad->Meth K C m ad)/\m∉lR c/\lR c≠[]
noncomputable def nP (μ:Mu)(k:Nat)(p:Addr):Mu:={μ.pub,μ.priv,λj=>if j=aC k then some p else μ.ob j}
section
variable{fa:Fa}{K:Qp}{μ:Mu}{H:Hp}{M:Mem}
def RelM.ob_ins (h:RelM fa K μ H M)(e:μ.ob (aC k)=some a):∃o,H a=some o:=by
 by_cases hk:k<M.length
 ·rcases h.at' k M[k] (by simp[hk]) with⟨b,vs,h1,_⟩|⟨b,h1,h2,h3⟩
  ·rw[h.sep _ _ h1] at e;cases e
  ·rw[e] at h1;cases h1;exact let{o,z,_}:=h3.hold;⟨o,z⟩
 ·rw[h.oout k (Nat.le_of_not_lt hk)] at e;cases e
end
end LD
namespace LD
open PySem
section
variable{prog:Rp}{w:Rr}{A:RW}{E:Qr->Qu->Prop}{s:Qu}
abbrev TK (prog:Rp)(w:Rr)(h:Heap)(ks:List Int)(a:Addr):Prop:=IsTupleKey (intKind prog w) h ks a
inductive iP (prog:Rp) (w:Rr) (h:Heap):List (List Int)->List Qr->Prop
 |nil:iP prog w h [] []
 |cons {ks:List Int}{a:Addr}{kss:List (List Int)}{vs:List Qr}:TK prog w h ks a->iP prog w h kss vs->iP prog w h (ks::kss) (.ref a::vs)
noncomputable def NK (prog:Rp)(w:Rr)(h:Heap)(kss:List (List Int))(a:Addr):Prop:=∃o items n,h.get? a=some o/\o.cls=.type "tuple"/\o.data=.seq items n/\iP prog w h kss items.toList
def iP.inj:∀{x y:List (List Int)}{vs:List Qr},iP prog w h x vs->iP prog w h y vs->x=y
 |_,_,_,.nil,.nil=>rfl
 |_,_,_,.cons a r,.cons b t=>by rw[a.inj b,iP.inj r t]
def NK.typeIs (x:NK prog w s.heap kss a):s.TypeIs (.ref a) "tuple":=let{o,_,_,ho,hc,_}:=x;⟨o,ho,hc⟩
def NK.inj (hx:NK prog w h x a)(hy:NK prog w h y a):x=y:=by
 obtain⟨o,i,n,h1,_,h2,h3⟩:=hx;obtain⟨o',i',n',g1,_,g2,g3⟩:=hy;rw[h1] at g1;cases g1;rw[h2] at g2;cases g2;exact h3.inj g3
def iP.keeps (ho:h.get? d=some o)(hd:o.data=.dict es ep)(hs:Sh d h h'):∀{kss:List (List Int)}{vs:List Qr},iP prog w h kss vs->iP prog w h' kss vs
 |_,_,.nil=>.nil
 |_,_,.cons a r=>.cons (a.keeps ho hd hs) (iP.keeps ho hd hs r)
def NK.keeps (x:NK prog w h kss a)(ho:h.get? d=some o)(hd:o.data=.dict es ep)(hs:Sh d h h'):NK prog w h' kss a:=by
 obtain⟨u,i,n,h1,h2,h3,h4⟩:=x;refine{u,i,n,(hs.2 a λz=>?_).trans h1,h2,h3,h4.keeps ho hd hs};rw[z,ho] at h1;cases h1;rw[hd] at h3;cases h3
noncomputable def uj (prog:Rp)(w:Rr)(kss:List (List Int)):Int:=reduceHash (Builtin.Tuple.tupleHashOf (kss.map (tupleKeyHash (intKind prog w))))
noncomputable def nN (kss:List (List Int)):Nat:=(kss.map λks=>ks.length+1).sum+1
def G3 (hu:A.units+2<cLine)(hk:NK prog w s.heap kss a)(h:Q (uj prog w kss) {s with toks:=s.toks+nN kss}):wpAny (model prog w) A (pyHash (.ref a)) Q E s:=by
 have hT:=hk.typeIs;obtain⟨o,items,n,ho,_,hd,hi⟩:=hk;first|unfold pyHashByItsType|skip
 first|refine tqa (wpAny_cRoomFor_or (.inr `a) ?_)|skip
 refine tqa (wpAny_specialOf hT F.slot_tuple_hash.lookup ?_);rw[if_neg (by rw[beq_builtin_none];exact QR)]
 refine tqa (wpAny_specialOf hT F.slot_tuple_hash.lookup ?_);refine tqa (wpAny_callSpecialIfBoundUnlessNone?_slot hT F.slot_tuple_hash (wpAny_call_entry F.slot_tuple_hash hT F.entry_tuple_hash ?_ (F.args_tuple_hash_1 _)));show wpAny _ _ (Builtin.Tuple.tupleItemsOf (.ref a) >>= _) _ _ s;refine tqa (wpAny_tupleItemsOf ho hd ?_);refine tqa ?_;rw[<- Array.forIn_toList];refine wpAny_forIn_list _ (λrest (b:Array Int) s'=>∃done left,kss=done++left/\iP prog w s.heap left rest/\b.toList=done.map (tupleKeyHash (intKind prog w))/\s'={s with toks:=s.toks+(done.map λks=>ks.length+1).sum}) _ ?_ ?_ _ _ {[],kss,rfl,hi,rfl,rfl}
 ·rintro x rest b s' ⟨done,left,rfl,hl,hb,rfl⟩;cases hl with
  | @cons k c ks' _ h1 hl' =>
    refine tqa (wpAny_pyHash_tuple ?_ h1 ?_)
    ·show A.units+1<cLine;omega
    ·first
      |exact tqb {done++[k],ks',`s,hl',by simp[hb],by simp[SI]}
      |exact tqa (tqb (tqb {done++[k],ks',`s,hl',by simp[hb],by simp[SI]}))
 ·rintro b s' ⟨done,left,rfl,hl,hb,rfl⟩;cases hl;rw[Rv] at h;show wpAny _ _ (retInt (Builtin.Tuple.tupleHashOf b.toList)) _ _ _;rw[hb];refine wpAny_ret_mkInt ?_;generalize hv:Builtin.Tuple.tupleHashOf (done.map (tupleKeyHash (intKind prog w)))=v;show wpAny _ _ (if (decide (-(2:Int)^63<=v)&&decide (v<2^63))=true then _ else _) Q E _;unfold uj reduceHash at h;rw[hv] at h;by_cases hr:(decide (-(2:Int)^63<=v)&&decide (v<2^63))=true
  ·rw[if_pos hr];rw[if_pos hr] at h;exact tqb (by simpa[nN,SI] using h)
  ·rw[if_neg hr];rw[if_neg hr] at h;exact tqa (wpAny_rule (tqb (by simpa[nN,SI] using h)))
def xH (hu:A.units<cLine)(hx:NK prog w s.heap x a)(hy:NK prog w s.heap y b)(h:P (.done (.ret (.bool (decide (x=y))))) s) :
 wpAny (model prog w) A (Builtin.«tuple.__eq__» {[.ref a,.ref b],[]}) P E s:=by
 have hTb:=hy.typeIs;obtain⟨oa,xs,na,hoa,_,hda,hia⟩:=hx;obtain⟨ob,ys,nb,hob,_,hdb,hib⟩:=hy;show wpAny _ _ (isInstance (.ref b) (.type "tuple") >>= _) _ _ s;refine tqa (wpAny_isInstance hTb isSubtype_tuple_tuple ?_);refine tqa (wpAny_tupleItemsOf hoa hda (tqa (wpAny_tupleItemsOf hob hdb (tqa ?_))));refine wpAny_forIn_list _ (λrest r s'=>r.1=none/\s'=s/\∃x' y' xs' ys',rest=List.zip xs' ys'/\iP prog w s.heap x' xs'/\iP prog w s.heap y' ys'/\decide (x'=y')=decide (x=y)/\(xs'.length==ys'.length)=(xs.size==ys.size)) _ ?_ ?_ _ _ {rfl,rfl,x,y,xs.toList,ys.toList,rfl,hia,hib,rfl,`s}
 ·rintro⟨u,v⟩ rest r s' ⟨hr,rfl,x',y',xs',ys',hz,hx',hy',hdec,hlen⟩;cases hx' with
  |nil=>simp at hz
  | @cons k1 u' x2 xs2 h1 hx2 =>
    cases hy' with
    |nil=>simp at hz
    | @cons k2 v' y2 ys2 h2 hy2 =>
      obtain⟨⟨rfl,rfl⟩,rfl⟩:=hz;refine tqa (wpAny_eqBool_tuple hu h1 h2 ?_);by_cases hk:k1=k2
      ·subst hk;rw[decide_eq_true rfl];refine tqb {rfl,rfl,x2,y2,xs2,ys2,rfl,hx2,hy2,?_,by simpa using hlen}
       rw[<- hdec];by_cases hxy:x2=y2<;>simp[hxy]
      ·rw[decide_eq_false hk];rw[show decide (x=y)=false by rw[<- hdec];simp[hk]] at h
       exact tqa (tqb (tqb (tqb h)))
 ·rintro⟨r1,r2⟩ s' ⟨hr,rfl,x',y',xs',ys',hz,hx',hy',hdec,hlen⟩;subst hr;refine tqb ?_;show P (.done (.ret (.bool (xs.size==ys.size)))) s';rw[<- hlen,show(xs'.length==ys'.length)=decide (x=y) from ?_]
  ·exact h
  ·rw[<- hdec];cases hx' with
   |nil=>cases hy'<;>simp
   | cons _ _ => cases hy' with
     |nil=>simp
     |cons _ _=>simp at hz
def MS (hu:A.units+2<cLine)(hx:NK prog w s.heap x a)(hy:NK prog w s.heap y b)(h:Q (decide (x=y)) s):wpAny (model prog w) A (eqBool (.ref a) (.ref b)) Q E s:=by
 unfold eqBool;try with_reducible refine tqo ?_
 by_cases hab:(Value.ref a==Value.ref b)=true
 ·rw[if_pos hab];obtain rfl:a=b:=by have:=eq_of_beq hab;injection this
  obtain rfl:=hx.inj hy;exact tqa (wpAny_rule (tqb (by simpa using h)))
 ·rw[if_neg hab];refine tqa (wpAny_richCompare_same_room hx.typeIs hy.typeIs F.slot_tuple_eq (wpAny_call_entry F.slot_tuple_eq hx.typeIs F.entry_tuple_eq (xH ?_ hx hy {_,rfl,(λe=>nomatch e),tqp h}) (F.args_tuple_eq_2 _ _)) `a)
  show A.units+1<cLine;omega
def B9 (d:Nat)(hk:TK prog w s.heap ks a)(h:Q true s):wpAny (model prog w) A (eqIsQuiet (d+1) (.ref a)) Q E s:=by
 have hT:=hk.typeIs;obtain⟨o,items,n,ho,_,hd,hi⟩:=hk;unfold eqIsQuiet;refine tqa (wpAny_specialOf hT F.slot_tuple_eq.lookup ?_);refine tqa (wpAny_isInstance hT isSubtype_tuple_tuple ?_);refine tqa (wpAny_seqItems ho hd (tqa ?_));rw[<- Array.forIn_toList];refine wpAny_forIn_list _ (λrest r s'=>r.1=none/\s'=s/\∀v∈rest,carriedByValue v=true) _ ?_ ?_ _ _ ⟨rfl,rfl,hi.byValue⟩
 ·rintro v rest r s' ⟨hr,rfl,hall⟩;rw[eqIsQuiet_byValue _ (hall v QN)];refine tqa (tqb ?_);exact tqb {rfl,rfl,λu hu'=>hall u (QJ _ hu')}
 ·rintro⟨r1,r2⟩ s' ⟨hr,rfl,_⟩;subst hr;exact tqb h
def CT (hk:NK prog w s.heap kss a)(h:Q true s):wpAny (model prog w) A (eqIsQuiet 8 (.ref a)) Q E s:=by
 have hT:=hk.typeIs;obtain⟨o,items,n,ho,_,hd,hi⟩:=hk;unfold eqIsQuiet;refine tqa (wpAny_specialOf hT F.slot_tuple_eq.lookup ?_);refine tqa (wpAny_isInstance hT isSubtype_tuple_tuple ?_);refine tqa (wpAny_seqItems ho hd (tqa ?_));rw[<- Array.forIn_toList];refine wpAny_forIn_list _ (λrest r s'=>r.1=none/\s'=s/\∃ks,iP prog w s.heap ks rest) _ ?_ ?_ _ _ ⟨rfl,rfl,kss,hi⟩
 ·rintro v rest r s' ⟨hr,rfl,ks,hl⟩;cases hl with
  | @cons k c ks' _ h1 hl' =>
    refine tqa (B9 6 h1 ?_);exact tqb ⟨rfl,rfl,ks',hl'⟩
 ·rintro⟨r1,r2⟩ s' ⟨hr,rfl,_⟩;subst hr;exact tqb h
end
noncomputable def Kg (prog:Rp)(w:Rr):HeapKind prog w (List (List Int)) where
 is:=NK prog w
 hash:=uj prog w
 draws:=nN
 room:=λA=>A.units+2<cLine
 inj:=λhx hy=>hx.inj hy
 keeps:=λx ho hd hs=>x.keeps ho hd hs
 pyHash:=λhu hk h=>G3 hu hk h
 eqBool:=λhu hx hy h=>MS hu hx hy h
 quiet:=λhk h=>CT hk h
end LD
namespace LD
open PySem PySem.Spec PyProof.Rows
section
variable{prog:Rp}{w:Rr}{K:Type}[DecidableEq K]{knd:HeapKind prog w K}{A:RW}{E:Qr->Qu->Prop}{s:Qu}
noncomputable def jb (knd:HeapKind prog w K)(h:Heap)(d:Addr)(xs:List (K×Addr×Qr)):Prop:=
 ∃o es,h.get? d=some o/\o.ExactDict/\o.data=.dict es xs.length/\es.toList=xs.map (entryOfKey knd)/\(∀x∈xs,knd.is h x.1 x.2.1)/\(xs.map (·.1)).Nodup
def jb.of (x:jb knd h d xs):h.DictOfH knd d xs:=let⟨o,es,r⟩:=x;{o,es,_,r}
def lU (hu:knd.room A)(hkey:knd.is s.heap k a)(hm:jb knd s.heap d xs)
 (hQ:∀h',jb knd h' d (storedH xs k a v)->Sh d s.heap h'->Q () {s with heap:=h',toks:=s.toks+knd.draws k})
 (hsz:xs.length<=sizeLine) :
 wpAny (model prog w) A (dictSet d (.ref a) v) Q E s:=by
 obtain⟨o,es,ho,hc,hd,he,his,hn⟩:=hm;unfold dictSet;try with_reducible refine tqo ?_
 refine tqa (knd.pyHash hu hkey ?_);unfold dictSetHashed;try with_reducible refine tqo ?_
 refine tqa (wpAny_dictFind_heap hu hkey ho hd he his hn ?_ ?_)
 ·intro hno;have hnot:=not_mem_keys_of_get hno;have e:=storedH_new (atKey_none_of_get hno);refine tqa (wpAny_rule (wpAny_updateDictKeys (hz:=by have e:=size_of_entries he;omega) ho hd (hQ _ {_,_,Ry _ ho (Obj.isFreed_of_dict (Obj.data_mapDictKeys hd _)),
   hc.mapDictKeys _,(Obj.data_mapDictKeys hd _).trans (by rw[e,Rb];rfl),?_,?_,?_} (RQ ..))))
  ·rw[e];simp[he,entryOfKey]
  ·rw[e];intro x hx;rcases Rq.mp hx with hx|hx
   ·exact knd.keeps (his x hx) ho hd (RQ ..)
   ·simp only[QF] at hx;subst hx;exact knd.keeps hkey ho hd (RQ ..)
  ·rw[e];rw[Q0,Sk];refine{hn,`s,?_}
   intro x hx y hy;simp only[RU,List.map_nil,QF] at hy;subst hy;exact λe=>hnot (e ▸ hx)
 ·intro j p hj;have e:=storedH_old (atKey_of_get hn hj);refine tqa (wpAny_rule (tqa (wpAny_updateDict ho hd (wpAny_point (hQ _ {_,_,Ry _ ho (Obj.isFreed_of_dict (Obj.data_mapDict hd _)),
   hc.mapDict _,(Obj.data_mapDict hd _).trans (by rw[e,Qq]),?_,?_,?_} (RQ ..))))))
  ·rw[e];have:=modify_map_putAt (entryOfKey knd) (λe:RO=>{e with val:=v}) k v (λ_ _=>rfl) hn hj
   rw[<- he] at this;obtain⟨l⟩:=es;simpa using this
  ·rw[e];intro x hx;obtain⟨y,hy,rfl⟩:=QE.mp hx;unfold putAt;split<;>exact knd.keeps (his y hy) ho hd (RQ ..)
  ·rw[e];rw[keys_map_putAt];exact hn
def xq (hu:knd.room A.in1)(hkey:knd.is s.heap k a)(hm:jb knd s.heap d xs)
 (hQ:∀h',jb knd h' d (storedH xs k a v)->Sh d s.heap h'->Q () {s with heap:=h',toks:=s.toks+knd.draws k})
 (hsz:xs.length<=sizeLine) :
 wpAny (model prog w) A (setItem (.ref d) (.ref a) v) Q E s:=by
 have hT:=hm.of.typeIs;unfold setItem;try with_reducible refine tqo ?_
 refine tqa (wpAny_sequenceKey hT `d ?_)
 refine tqa (wpAny_callSpecial?_slot hT slot_dict_setitem
  (wpAny_call_entry slot_dict_setitem hT entry_dict_setitem ?_ (args_dict_setitem _ _ _)))
 refine tqa (wpAny_notOrdered_dict hT ?_);show wpAny _ _ (dictSet d (.ref a) v >>= _) _ _ s;exact tqa (lU (hsz:=hsz) hu hkey hm λh' hm' hs'=>tqb {.none,rfl,tqb (hQ h' hm' hs')})
end
end LD
namespace LD
open PySem PySem.Spec PyProof.Rows L2
def Ho {K:Qp}(h:PySem.W.exmAny K c [d,d]=some true):PySem.W.exmOne K c d=some true:=by
 obtain⟨b1,d1,e1,e2,e3⟩:=PySem.W.exmAny_cons h;obtain⟨b2,d2,e4,e5,e6⟩:=PySem.W.exmAny_cons e2;rw[e1] at e4;cases e4;cases e5;cases b1 with
 |true=>exact e1
 |false=>subst e6;cases e3
section
variable{fa:Fa}{X:Cx}{pos np hp:Pos}{x1:Str}{k1:Nat}{body suite:List Stmt}{b0:Stmt}{gB gH:GS}
def Cz (h2:w8 fa X.K X.mg x1 x1 k1 k1)(hex:X.ex=[])(hst:X.stack=X.env::X.outer)(hfr:X.env.frame=some X.env.locals)
 (hg:Gl X x1) (hdb:(x1==("__debug__":Str))=false) (hb:∀pn E,la fa (sS X pn E) body gB) (hh:∀v E,la fa (sT X v E) (b0::suite) gH) :
 DS fa X (.Try body [.ExceptHandler (some (.Name x1 np)) none (b0::suite) hp] [] [] pos) (mB gB k1 k1 gH):=by
 intro pins s σ H D' I ⟨μ,Z,M,hE,hM,h⟩;obtain⟨D1,D2,m1,m2,hm⟩:=h2;obtain rfl:D1=D2:=by rw[m1] at m2;cases m2;rfl
 obtain⟨fl,M1,e,q⟩:=aE h;refine wpAny_Try_except (wpAny_mono (hb (X.pn++pins) (λe s₁=>wpAny (model X.prog X.w) X.A (noteFrame e X.env) (λ_ s₂=>wpAny (model X.prog X.w) X.A (setFlight e none) (λ_ s₃=>wpAny (model X.prog X.w) X.A (handleBy e X.env [.ExceptHandler (some (.Name x1 np)) none (b0::suite) hp]) (SP X pins D') X.xe s₃) X.xe s₂) X.xe s₁) [] s σ H D' (AV I _) {μ,Z,M,hE,hM,?_}) (λf s1 z=>?_) λ_ _ z=>z)
 ·rw[e];cases fl with
  |next ρ'=>exact q
  |ret d=>exact q
  | exc y ρ1 =>
    intro pins' σ' H' μ' s' a C dx c p I1 ye hE1 hM1 ey hcC hn fl;refine v7 (by rw[<- hst];exact I1.ok.frames) (by rw[<- hst];exact I1.stack) hfr fl (λb z=>(uH I1 hex (Heap.get?_none_of_le z)).1) I1.hok (by rw[<- hst];exact I1.stkFree) λh' ch hch u hok fl2=>?_
    have I2:=Di (iJ I1) (λb hb=>{(hch b hb).1.1,(hch b hb).2.2,(hch b hb).1.2}) (by rw[hst];exact u) hok
    obtain⟨nw,ha,o,vs,h1,h2,h3,h4,tr⟩:=id fl2;have hnc:PySem.W.notCls o=true:=by unfold PySem.W.notCls;rw[h4]
    subst ey;have hck:c=k1\/c=k1:=by
     by_cases z:c=k1\/c=k1
     ·exact z
     ·unfold mr at q;dsimp only at q;rw[if_neg z] at q;exact q.elim
    unfold mr at q;dsimp only at q;rw[if_pos hck] at q;obtain⟨fl3,M2,e3,q3⟩:=aE q;have IA:∃od,PySem.W.InstAt h' a o C od:=by
     cases p with
     | none =>
       exact{none,h1,h2,hnc,by rw[h3,hn];trivial}
     | some k =>
       obtain⟨d,rfl,hd⟩:=hn;obtain⟨mA,⟨od,es,ep,ed,_⟩,_⟩:=hok d _ hd;exact{some od,h1,h2,hnc,by rw[h3];exact ed}
    obtain⟨od,IA⟩:=IA;refine wpAny_handleBy_cons (codeAny_handlers_test (jf (rX I2 (.ref a) X.xe) hg m1 ?_ hdb)) (by intro z;cases z)
    refine(PySem.W.exm_one I2.kIn IA.type (Ho (hm c C hck hcC))).at ?_;refine codeAny_handlers_suite (yc fl2 ?_);refine wpAny_mono (hh (.ref a) _ pins _ σ' H' D' (rX I2 (.ref a) _) {μ',_,M1,hE1,hM1,?_}) (λf s5 z=>?_) λ_ _ z=>z
    ·rw[e3];cases fl3 with
     |next ρ2=>exact λσ2 H2 μ2 x2 hE2 hM2=>q3 σ2 H2 μ2 (ye.trans x2) hE2 hM2
     |ret d=>exact aW.ext q3 ye
     |exc=>exact q3.elim
    ·dsimp only;cases f with
     | next =>
       obtain⟨σ5,H5,I5,z⟩:=z;exact{_,H5,jV I2.ok.hd I5,z}
     | ret u =>
       obtain⟨v,σ5,H5,I5,r5,z⟩:=z;exact{v,_,H5,jV I2.ok.hd I5,r5,z}
     |brk=>obtain⟨_,H5,I5,z⟩:=z;exact{_,H5,jV I2.ok.hd I5,z}
     |cont=>obtain⟨_,H5,I5,z⟩:=z;exact{_,H5,jV I2.ok.hd I5,z}
 ·cases f with
  |next=>obtain⟨σ5,H5,I5,z⟩:=z;exact wpAny_execs_nil {σ5,H5,iJ I5,z}
  |ret u=>obtain⟨v,σ5,H5,I5,r5,z⟩:=z;exact{v,σ5,H5,iJ I5,r5,z}
  |brk=>obtain⟨σ5,H5,I5,z⟩:=z;exact{σ5,H5,iJ I5,z}
  |cont=>obtain⟨σ5,H5,I5,z⟩:=z;exact{σ5,H5,iJ I5,z}
end
noncomputable def kC (c:GT)(b:GS):Nat->Env->Mem->Res Fl
 |0,_,_=>.bad
 | n + 1, Z, M => (c Z M).bind λk M => if k then(b Z M).bind λfl M => (match fl with
   |.next Z=>kC c b n Z M
   |fl=>.ok fl M) else .ok (.next Z) M
noncomputable def f7 (c:GT)(b:GS):GS:=λZ M=>kC c b 100000 Z M
section
variable{fa:Fa}{X:Cx}{c:Expr}{body:List Stmt}{gc:GT}{gb:GS}{pos:Pos}
def Gu (hp:PassesOwn (model X.prog X.w) X.A X.env X.xe)(hc:DT fa X c gc)(hb:la fa X body gb):DS fa X (.While c body [] pos) (f7 gc gb):=
 dR (CI hp hc hb) λD' σ H ⟨μ,Z,M,hE,hM,h⟩=>by
  refine{λm σ' H'=>∃μ' ρ' M',Ext μ H μ' H'/\bu fa X.K μ' H' σ' ρ'/\RelM fa X.K μ' H' M'/\ae (kC gc gb m ρ' M') (nz fa X μ H D'),{100000,μ,Z,M,.refl,hE,hM,h},?_};rintro m σ2 H2 ⟨μ2,ρ2,M2,x2,hE2,hM2,q2⟩;cases m with
  |zero=>exact q2.elim
  | succ m =>
    obtain⟨k,M3,e3,q3⟩:=aE q2;refine{μ2,ρ2,M2,hE2,hM2,?_};rw[e3];intro H3 μ3 x3 hM3;have hE3:=hE2.ext x3;cases k with
    |false=>exact q3 σ2 H3 μ3 (x2.trans x3) hE3 hM3
    | true =>
      obtain⟨fl,M4,e4,q4⟩:=aE q3;refine{λσ' H'=>∃μ' ρ' M',Ext μ H μ' H'/\bu fa X.K μ' H' σ' ρ'/\RelM fa X.K μ' H' M'/\ae (kC gc gb m ρ' M') (nz fa X μ H D'),λσ' H' z=>{m,Nat.lt_succ_self m,z},μ3,ρ2,M3,hE3,hM3,?_};rw[e4];cases fl with
      |next ρ6=>exact λσ6 H6 μ6 x6 hE6 hM6=>{μ6,ρ6,M4,(x2.trans x3).trans x6,hE6,hM6,q4}
      |ret d6=>exact aW.ext q4 (x2.trans x3)
      |exc x6 ρ6=>exact XW.ext q4 (x2.trans x3)
end
def wA {K:Qp}:∀{ds:List D}{vs:List V}{us:List Qr}{ks:List Int},aK fa K μ H ds vs->Vals vs us->intsOf ds=some ks->ItemsAre (intKind prog w) ks us
 | [], vs, us, ks, h, r, e => by
   obtain rfl:vs=[]:=h;cases r;cases e;exact .nil
 | .int i :: ds, vs, us, ks, h, r, e => by
   obtain⟨v,vr,rfl,p,q⟩:=h;cases r with
   | cons r1 r2 =>
     obtain⟨k,ek,e⟩:=QA.mp e;subst e;obtain rfl:v=.int i:=p;obtain⟨t,rfl⟩:=r1;exact .cons (by simp[intKind,Value.isInt]) (wA q r2 ek)
 |.non::_,_,_,_,_,_,e=>by cases e
 |.bl _::_,_,_,_,_,_,e=>by cases e
 |.str _::_,_,_,_,_,_,e=>by cases e
 |.tup _::_,_,_,_,_,_,e=>by cases e
 |.lst _::_,_,_,_,_,_,e=>by cases e
 |.frz _::_,_,_,_,_,_,e=>by cases e
 |.cell _::_,_,_,_,_,_,e=>by cases e
 |.fn _::_,_,_,_,_,_,e=>by cases e
 |.exc _ _::_,_,_,_,_,_,e=>by cases e
section
variable{fa:Fa}{X:Cx}{pins:List (Addr×Obj)}{σ:L2.St}{H:Hp}{s:Qu}{μ:Mu}
def zv (I:Inv X pins σ H s)(r:Rep fa X.K μ H (.tup ds) (.ref b)):∃vs its o n,aK fa X.K μ H ds vs/\Vals vs its/\s.heap.get? b=some o/\o.cls=.type "tuple"/\o.data=.seq its.toArray n:=by
 obtain⟨a,vs,e,hq,rr⟩:=r;cases e;obtain⟨its,rv,p,_⟩:=I.tuple hq;obtain⟨o,h1,h2,n,h3⟩:=p;exact⟨vs,its,o,n,rr,rv,h1,h2,h3⟩
def wx (I:Inv X pins σ H s)(r:Rep fa X.K μ H d (.ref b))(e:mM d=some ks):TK X.prog X.w s.heap ks b:=by
 cases d with
 | tup ds =>
   obtain⟨vs,its,o,n,rr,rv,h1,h2,h3⟩:=zv I r;exact{o,its.toArray,n,h1,h2,h3,by simpa using wA rr rv e}
 |_=>cases e
def uA (I:Inv X pins σ H s):∀{ds:List D}{vs:List V}{us:List Qr}{kss:List (List Int)},aK fa X.K μ H ds vs->Vals vs us->jS ds=some kss->iP X.prog X.w s.heap kss us
 | [], vs, us, kss, h, r, e => by
   obtain rfl:vs=[]:=h;cases r;cases e;exact .nil
 | d :: ds, vs, us, kss, h, r, e => by
   obtain⟨v,vr,rfl,p,q⟩:=h;cases r with
   | cons r1 r2 =>
     obtain⟨k,ek,e⟩:=Ru.mp e;obtain⟨kr,ekr,e⟩:=QA.mp e;subst e;cases d with
     | tup es =>
       obtain⟨a,ws,rfl,hq,rr⟩:=id p;obtain rfl:=(r1);exact .cons (wx I p ek) (uA I q r2 ekr)
     |_=>cases ek
def Hh (I:Inv X pins σ H s)(r:Rep fa X.K μ H d (.ref b))(e:qO d=some kss):NK X.prog X.w s.heap kss b:=by
 cases d with
 | tup ds =>
   obtain⟨vs,its,o,n,rr,rv,h1,h2,h3⟩:=zv I r;exact{o,its.toArray,n,h1,h2,h3,by simpa using uA I rr rv e}
 |_=>cases e
end
def uJ:∀{a b:List D}{x y:List Int},intsOf a=some x->intsOf b=some y->d4 a b=decide (x=y)/\(x=y->a=b)
 |[],[],_,_,e,f=>by cases e;cases f;exact{rfl,λ_=>rfl}
 | [], .int j :: b, _, _, e, f => by
   obtain⟨_,_,rfl⟩:=QA.mp f;cases e;exact{by simp[d4],λz=>by cases z}
 | .int i :: a, [], _, _, e, f => by
   obtain⟨_,_,rfl⟩:=QA.mp e;cases f;exact{by simp[d4],λz=>by cases z}
 | .int i :: a, .int j :: b, _, _, e, f => by
   obtain⟨x,e1,rfl⟩:=QA.mp e;obtain⟨y,f1,rfl⟩:=QA.mp f;obtain⟨h1,h2⟩:=uJ e1 f1;refine{?_,λz=>?_}
   ·show(i==j&&d4 a b)=_;rw[h1];by_cases z:i=j<;>simp[z]
   ·cases z;rw[h2 rfl]
 |.non::_,_,_,_,e,_=>by cases e
 |.bl _::_,_,_,_,e,_=>by cases e
 |.str _::_,_,_,_,e,_=>by cases e
 |.tup _::_,_,_,_,e,_=>by cases e
 |.lst _::_,_,_,_,e,_=>by cases e
 |.frz _::_,_,_,_,e,_=>by cases e
 |.cell _::_,_,_,_,e,_=>by cases e
 |.fn _::_,_,_,_,e,_=>by cases e
 |.exc _ _::_,_,_,_,e,_=>by cases e
 |_,.non::_,_,_,_,e=>by cases e
 |_,.bl _::_,_,_,_,e=>by cases e
 |_,.str _::_,_,_,_,e=>by cases e
 |_,.tup _::_,_,_,_,e=>by cases e
 |_,.lst _::_,_,_,_,e=>by cases e
 |_,.frz _::_,_,_,_,e=>by cases e
 |_,.cell _::_,_,_,_,e=>by cases e
 |_,.fn _::_,_,_,_,e=>by cases e
 |_,.exc _ _::_,_,_,_,e=>by cases e
def oY (e:mM d=some x):∃ds,d=.tup ds/\intsOf ds=some x:=by
 cases d with
 |tup ds=>exact⟨ds,rfl,e⟩
 |_=>cases e
def uC (e:mM a=some x)(f:mM b=some y):bO a b=decide (x=y)/\(x=y->a=b):=by
 obtain⟨as,rfl,e⟩:=oY e;obtain⟨bs,rfl,f⟩:=oY f;obtain⟨h1,h2⟩:=uJ e f;exact{h1,λz=>by rw[h2 z]}
def rV:∀{a b:List D}{x y:List (List Int)},jS a=some x->jS b=some y->d4 a b=decide (x=y)/\(x=y->a=b)
 |[],[],_,_,e,f=>by cases e;cases f;exact{rfl,λ_=>rfl}
 | [], d :: b, _, _, e, f => by
   obtain⟨_,_,f⟩:=Ru.mp f;obtain⟨_,_,rfl⟩:=QA.mp f;cases e;exact{by simp[d4],λz=>by cases z}
 | d :: a, [], _, _, e, f => by
   obtain⟨_,_,e⟩:=Ru.mp e;obtain⟨_,_,rfl⟩:=QA.mp e;cases f;exact{by simp[d4],λz=>by cases z}
 | d :: a, d' :: b, _, _, e, f => by
   obtain⟨k,ek,e⟩:=Ru.mp e;obtain⟨x,e1,rfl⟩:=QA.mp e;obtain⟨k',ek',f⟩:=Ru.mp f;obtain⟨y,f1,rfl⟩:=QA.mp f;obtain⟨g1,g2⟩:=uC ek ek';obtain⟨h1,h2⟩:=rV e1 f1;refine{?_,λz=>?_}
   ·show(bO d d'&&d4 a b)=_;rw[h1,g1];by_cases z:k=k'<;>simp[z]
   ·cases z;rw[h2 rfl,g2 rfl]
def Dc (e:qO a=some x)(f:qO b=some y):bO a b=decide (x=y)/\(x=y->a=b):=by
 cases a with
 | tup as =>
   cases b with
   | tup bs =>
     obtain⟨h1,h2⟩:=rV e f;exact{h1,λz=>by rw[h2 z]}
   |_=>cases f
 |_=>cases e
structure KD (X:Cx) (c:Int) where
 K:Type
 dq:DecidableEq K
 knd:HeapKind X.prog X.w K
 dec:D->Option K
 hash:∀d,nR c d=(dec d).map knd.hash
 is:∀{fa:Fa}{μ:Mu}{H:Hp}{pins:List (Addr×Obj)}{σ:L2.St}{s:Qu}{d:D}{b:Addr}{k:K},Inv X pins σ H s->Rep fa X.K μ H d (.ref b)->dec d=some k->knd.is s.heap k b
 beq:∀{a b:D}{x y:K},dec a=some x->dec b=some y->bO a b=decide (x=y)/\(x=y->a=b)
 ref:∀{fa:Fa}{μ:Mu}{H:Hp}{d:D}{v:V}{k:K},Rep fa X.K μ H d v->dec d=some k->∃b,v=.ref b
 room:Rm X->knd.room X.A.in1
 room0:Rm X->knd.room X.A
noncomputable def KD.f (X:Cx):KD X 77 where
 K:=List Int
 dq:=inferInstance
 knd:=tupleKind (intKind X.prog X.w)
 dec:=mM
 hash:=λd=>by unfold nR;rw[if_pos rfl];rfl
 is:=λI r e=>wx I r e
 beq:=λe f=>uC e f
 ref:=λr e=>by
  obtain⟨ds,rfl,_⟩:=oY e;obtain⟨a,_,rfl,_⟩:=r;exact⟨a,rfl⟩
 room:=λh=>by show X.A.units+1<cLine;unfold Rm at h;omega
 room0:=λh=>by show X.A.units<cLine;unfold Rm at h;omega
noncomputable def KD.n (X:Cx):KD X 78 where
 K:=List (List Int)
 dq:=inferInstance
 knd:=Kg X.prog X.w
 dec:=qO
 hash:=λd=>by unfold nR;rw[if_neg `d,if_pos rfl];rfl
 is:=λI r e=>Hh I r e
 beq:=λe f=>Dc e f
 ref:=λ{fa μ H d v k} r e=>by
  cases d with
  | tup ds =>
    obtain⟨a,_,rfl,_⟩:=r;exact⟨a,rfl⟩
  |_=>cases e
 room:=λh=>by show X.A.units+1+2<cLine;unfold Rm at h;omega
 room0:=λh=>by show X.A.units+2<cLine;unfold Rm at h;omega
instance kdq {X:Cx}{c:Int} (kd:KD X c):DecidableEq kd.K:=kd.dq
noncomputable def iF (p:D×D):D:=.tup [p.1,p.2]
section
variable{fa:Fa}{X:Cx}{pins:List (Addr×Obj)}{σ:L2.St}{H:Hp}{s:Qu}{μ:Mu}{c:Int}{kd:KD X c}{kvs:List (D×D)}
abbrev DP (fa:Fa)(X:Cx)(μ:Mu)(H:Hp){c:Int}(kd:KD X c):List (D×D)->List (kd.K×Addr×Qr)->Prop:=Sf λp x=>kd.dec p.1=some x.1/\Rep fa X.K μ H p.1 (.ref x.2.1)/\∃v,RelV v x.2.2/\Rep fa X.K μ H p.2 v
def KD.xs (kd:KD X c):∀{kvs:List (D×D)}{es:List RO},Sf (nA fa X.K μ H c) kvs es->∃xs,es=xs.map (entryOfKey kd.knd)/\DP fa X μ H kd kvs xs
 |_,_,.nil=>{[],rfl,.nil}
 | _, _, .cons ⟨b, v, e1, e2, e3, e4, e5⟩ r => by
   obtain⟨xs,rfl,q⟩:=KD.xs kd r;rw[kd.hash] at e2;obtain⟨k,ek,eh⟩:=QA.mp e2;refine{(k,b,_)::xs,?_,.cons ⟨ek,e3,v,e4,e5⟩ q};rw[RU]
   congr 1
   unfold entryOfKey;rw[eh,<- e1]
def KD.back {xs:List (kd.K×Addr×Qr)}:∀{kvs:List (D×D)},DP fa X μ H kd kvs xs->Sf (nA fa X.K μ H c) kvs (xs.map (entryOfKey kd.knd)):=by
 intro kvs h;induction h with
 |nil=>exact .nil
 |cons r _ ih=>exact .cons (let⟨h1,h2,v,h3,h4⟩:=r;{_,v,rfl,by rw[kd.hash,h1];rfl,h2,h3,h4}) ih
def DP.mem (h:DP fa X μ H kd kvs xs)(m:x∈xs):∃p∈kvs,kd.dec p.1=some x.1/\Rep fa X.K μ H p.1 (.ref x.2.1):=by
 induction h with
 |nil=>cases m
 | cons r _ ih =>
   rcases Rf.mp m with rfl|m
   ·exact{_,QN,r.1,r.2.1}
   ·obtain⟨p,hp,q⟩:=ih m;exact{p,QJ _ hp,q}
def DP.nodup (h:DP fa X μ H kd kvs xs)(n:(kvs.map (·.1)).Nodup):(xs.map (·.1)).Nodup:=by
 induction h with
 |nil=>exact List.nodup_nil
 | @cons p x ps xs' r t ih =>
   rw[RU,RF] at n ⊢;refine{λm=>n.1 ?_,ih n.2};obtain⟨y,my,ey⟩:=QE.mp m;obtain⟨q,mq,e1,_⟩:=DP.mem t my;have:=(kd.beq r.1 e1).2 ey.symm;rw[this];exact QE.mpr ⟨q,mq,rfl⟩
def KD.dict {xs:List (kd.K×Addr×Qr)}(I:Inv X pins σ H s)(e:H a=some (.dn (xs.map (entryOfKey kd.knd))))(h:DP fa X μ H kd kvs xs)(n:(kvs.map (·.1)).Nodup):(a==sysModules)=false/\xs.length<=sizeLine/\jb kd.knd s.heap a xs:=by
 obtain⟨z,y,o,h1,h2,h3⟩:=(I.hok a _ e);refine{y,by simpa using z,o,_,h1,h2,by rw[h3,Qq],`s,λx hx=>?_,h.nodup n}
 obtain⟨p,_,e1,e2⟩:=h.mem hx;exact kd.is I e2 e1
def DP.look (h:DP fa X μ H kd kvs xs)(hk:kd.dec k=some kk):(cK (kvs.map iF) k=none/\atKey xs kk=none)\/∃d b v u,cK (kvs.map iF) k=some d/\atKey xs kk=some (b,u)/\RelV v u/\Rep fa X.K μ H d v:=by
 induction h with
 |nil=>exact .inl ⟨rfl,rfl⟩
 | @cons p x ps xs' r t ih =>
   obtain⟨h1,h2,v,h3,h4⟩:=r;have b:=(kd.beq h1 hk).1;unfold cK atKey at ih ⊢;rw[RU,List.find?_cons,List.find?_cons];rw[show bO (c8 (iF p)) k=decide (x.1=kk) from b];by_cases z:x.1=kk
   ·rw[decide_eq_true z];exact .inr ⟨p.2,x.2.1,v,x.2.2,rfl,rfl,h3,h4⟩
   ·rw[decide_eq_false z];exact ih
noncomputable def ki (kvs:List (D×D))(k d:D):List (D×D):=if (cK (kvs.map iF) k).isSome then kvs.map (λp=>if bO p.1 k then(p.1,d) else p) else kvs++[(k,d)]
def JJ (kvs:List (D×D))(k d:D):(ki kvs k d).map iF=putD (kvs.map iF) k d:=by
 unfold ki putD;split
 ·rw[Rx,Rx];refine SR λp _=>?_;show iF (if bO p.1 k then(p.1,d) else p)=if bO p.1 k then _ else _;split<;>rfl
 ·rw[Q0];rfl
def Af (kvs:List (D×D))(k d:D):(ki kvs k d).map (·.1)=if (cK (kvs.map iF) k).isSome then kvs.map (·.1) else kvs.map (·.1)++[k]:=by
 unfold ki;split
 ·rw[Rx];refine SR λp _=>?_;show(if bO p.1 k then(p.1,d) else p).1=p.1;split<;>rfl
 ·rw[Q0];rfl
def DP.put (h:DP fa X μ H kd kvs xs)(hk:kd.dec k=some kk)(rk:Rep fa X.K μ H k (.ref b))(ru:RelV v u)(rd:Rep fa X.K μ H d v):DP fa X μ H kd (ki kvs k d) (storedH xs kk b u):=by
 have e:(cK (kvs.map iF) k).isSome=(atKey xs kk).isSome:=by
  rcases h.look hk with⟨h1,h2⟩|⟨_,_,_,_,h1,h2,_⟩<;>rw[h1,h2]<;>rfl
 unfold ki storedH;rw[e];split
 ·next hs=>
  clear e hs;induction h with
  |nil=>exact .nil
  | @cons p x ps xs' r t ih =>
    refine .cons ?_ ih;have b2:=(kd.beq r.1 hk).1;unfold putAt;dsimp only;rw[b2];by_cases z:x.1=kk
    ·rw[decide_eq_true z,if_pos z,if_pos rfl];exact⟨r.1,r.2.1,v,ru,rd⟩
    ·rw[decide_eq_false z,if_neg z,if_neg QR];exact r
 ·exact Paired.snoc h ⟨hk,rk,v,ru,rd⟩
def DP.keys (h:DP fa X μ H kd kvs xs)(n:(kvs.map (·.1)).Nodup)(hk:kd.dec k=some kk):((ki kvs k d).map (·.1)).Nodup:=by
 rw[Af];split
 ·exact n
 ·next z=>
  refine List.nodup_append.mpr {n,`s,λa ha b hb q=>z ?_}
  obtain rfl:=QF.mp hb;subst q;obtain⟨p,mp,ep⟩:=QE.mp ha;rw[cK,Sx,List.find?_isSome];refine{iF p,QE.mpr ⟨p,mp,rfl⟩,?_};show bO p.1 a=true;rw[ep,(kd.beq hk hk).1];exact decide_eq_true rfl
end
noncomputable def dX (a b:GE):GE:=λZ M=>(a Z M).bind λx M=>(b Z M).bind λk M=>match x with
 |.fn o=>cm M (getD M o k)
 |_=>.bad
noncomputable def gZ (n:Bool)(a b:GE):GE:=λZ M=>(a Z M).bind λk M=>(b Z M).bind λx M=>match x with
 | .fn o => (match inD M o k with
   |some r=>.ok (.bl (n != r)) M
   |none=>.bad)
 |_=>.bad
noncomputable def fL (a b d:GE):GS:=λZ M=>(d Z M).bind λz M=>(a Z M).bind λx M=>(b Z M).bind λk M=>match x with
 | .fn o => (match bC M o with
   |some q=>if isKey q.1 k=true/\q.2.length<1000000 then .ok (.next Z) (M.set (o-5000) (.int q.1::putD q.2 k z)) else .bad
   |none=>.bad)
 |_=>.bad
noncomputable def nV (c:Int):GE:=λ_ M=>.ok (.fn (aC M.length)) (M++[[.int c]])
structure eT (fa:Fa):Prop where
 of:∀o,5000<=o->fa o=none
 n77:fa (jO 77)=none
 n78:fa (jO 78)=none
section
variable{fa:Fa}{K:Qp}{μ:Mu}{H:Hp}{M:Mem}
def Ext.dic (h:RelM fa K μ H M)(hH:H a=some (.dn es)):Ext μ H μ (upd H a (.dn es')):=by
 have ne:∀{b o},H b=some o->(∀es,o≠.dn es)->b≠a:=λg n z=>by rw[z,hH] at g;cases g;exact n _ rfl
 refine{{λ_ _ q=>q,λb vs g=>?_,λb vs g n=>{by rw[aG (ne g (λ_ z=>by cases z))];exact g,n},λb ob u g=>by rw[aG (ne g (λ_ z=>by cases z))];exact g,λb o i g=>?_,λ_ _ q=>q},rfl,λb hb=>?_}
 ·rcases g with g|⟨ob,g⟩
  ·exact .inl (by rw[aG (ne g (λ_ z=>by cases z))];exact g)
  ·exact .inr {ob,by rw[aG (ne g (λ_ z=>by cases z))];exact g}
 ·rw[aG (ne g (λ_ z=>by rcases i with⟨_,i⟩|⟨_,i⟩<;>(rw[i] at z;cases z)))];exact g
 ·obtain⟨⟨vs,g⟩,_⟩:=h.pv b hb;rw[aG (ne g (λ_ z=>by cases z))]
def RelM.dicW (h:RelM fa K μ H M)(e:M[k]?=some ds)(ha:μ.ob (aC k)=some a)(hH:H a=some (.dn es))(new:jI fa K μ (upd H a (.dn es')) a ds'):RelM fa K μ (upd H a (.dn es')) (M.set k ds'):=by
 have x:Ext μ H μ (upd H a (.dn es')):=Ext.dic h hH;refine{λj es2 q=>?_,λj hj=>h.out j (by simpa using hj),λj hj=>h.oout j (by simpa using hj),h.inj,h.oinj,h.sep,λb hb=>{let{⟨vs,g⟩,_}:=h.pv b hb;{vs,by rw[x.pk b hb];exact g},(h.pv b hb).2}}
 by_cases hj:j=k
 ·subst hj;rw[Q5 (Qo.mp e).1] at q;cases q;refine .inr {a,ha,?_,new};cases z:μ.pub j with
  |none=>rfl
  |some b=>rw[h.sep j b z] at ha;cases ha
 ·rw[Qx (RC hj)] at q;rcases h.at' j es2 q with⟨b,vs,h1,h2,h3⟩|⟨b,h1,h2,h3⟩
  ·exact .inl {b,vs,h1,by rw[aG (λz=>by rw[z,hH] at h2;cases h2)];exact h2,h3.ext x}
  ·exact .inr {b,h1,h2,h3.extW x.toExtW (aG λz=>hj (h.oinj _ _ a (z ▸ h1) ha))}
def Ext.dicNew (h:RelM fa K μ H M)(hx:H x=none):Ext μ H (nP μ M.length x) (upd H x (.dn [])):=by
 have e:Ext μ H μ (upd H x (.dn [])):=Ext.alloc h hx;refine{{e.mu,e.tups,λb vs g n=>{(e.lsts b vs g n).1,n},e.frzs,e.exts,λj b z=>?_},rfl,e.pk};show(if j=aC M.length then some x else μ.ob j)=some b;split
 ·next q=>rw[q,h.oout _ (Qw _)] at z;cases z
 ·exact z
def RelM.dicNew {c:Int}(h:RelM fa K μ H M)(hx:H x=none)(hc:c=77\/c=78):RelM fa K (nP μ M.length x) (upd H x (.dn [])) (M++[[.int c]]):=by
 have X:=Ext.dicNew h hx;have old:∀{b o},H b=some o->(upd H x (.dn [])) b=some o:=λg=>by rw[aG (aX g hx)];exact g
 have pc:∀{k b},(nP μ M.length x).ob (aC k)=some b->(k=M.length/\b=x)\/μ.ob (aC k)=some b:=λ{k b} z=>by
  have z:(if aC k=aC M.length then some x else μ.ob (aC k))=some b:=z;split at z
  ·next q=>cases z;exact .inl {Nat.add_left_cancel q,rfl}
  ·exact .inr z
 refine{λk ds q=>?_,λk hk=>h.out k (by simp at hk;omega),λk hk=>?_,h.inj,λj k b e1 e2=>?_,λk b z=>?_,λb hb=>{?_,(h.pv b hb).2}}
 ·by_cases hk:k<M.length
  ·rw[Qv hk] at q;rcases h.at' k ds q with⟨b,vs,h1,h2,h3⟩|⟨b,h1,h2,h3⟩
   ·exact .inl {b,vs,h1,old h2,h3.ext X}
   ·exact .inr {b,X.obs _ _ h1,h2,h3.extW X.toExtW (by obtain⟨o,e,_⟩:=h3.hold;rw[old e,e])}
  ·have hk':k=M.length:=by
    have:=(Qo.mp q).1;simp at this;omega
   subst hk';rw[Ro (Qw _)] at q;simp at q;subst q;exact .inr {x,by show(if aC M.length=aC M.length then some x else _)=some x;rw[if_pos rfl],h.out _ (Qw _),.inr {c,[],[],cD,hc,rfl,.nil,List.nodup_nil}}
 ·show(if aC k=aC M.length then some x else μ.ob (aC k))=none;simp at hk;rw[if_neg (λz=>by have:=Nat.add_left_cancel z;omega)]
  exact h.oout k `a
 ·rcases pc e1 with⟨a1,a2⟩|a1<;>rcases pc e2 with⟨b1,b2⟩|b1
  ·omega
  ·subst a2;obtain⟨_,z⟩:=h.ob_ins b1;rw[hx] at z;cases z
  ·subst b2;obtain⟨_,z⟩:=h.ob_ins a1;rw[hx] at z;cases z
  ·exact h.oinj j k b a1 b1
 ·show(if aC k=aC M.length then some x else μ.ob (aC k))=none;have z:μ.pub k=some b:=z;rw[if_neg (λq=>by rw[Nat.add_left_cancel q,h.out _ (Qw _)] at z;cases z)]
  exact h.sep k b z
 ·obtain⟨⟨vs,g⟩,_⟩:=h.pv b hb;exact{vs,old g}
end
section
variable{fa:Fa}{X:Cx}{pins:List (Addr×Obj)}{σ:L2.St}{H:Hp}{s:Qu}{μ:Mu}{M:Mem}
def lM {c:Int}(h:isKey c d=true)(kd:KD X c):∃kk,kd.dec d=some kk:=by
 have e:(nR c d).isSome=true:=by
  unfold isKey at h;unfold nR;split at h
  ·next z=>rw[if_pos z,Sx];exact h
  ·next z=>
   rw[if_neg z];split at h
   ·next y=>rw[if_pos y,Sx];exact h
   ·cases h
 rw[kd.hash,Sx] at e;exact Option.isSome_iff_exists.mp e
def MY {c:Int}(X:Cx)(h:c=77\/c=78):Nonempty (KD X c):=by
 rcases h with rfl|rfl
 ·exact{KD.f X}
 ·exact{KD.n X}
def kY (hd:eT fa)(I:Inv X pins σ H s)(hM:RelM fa X.K μ H M)(r:Rep fa X.K μ H (.fn o) v)(e:bC M o=some q) :
 ∃(a:Addr) (kd:KD X q.1) (kvs:List (D×D)) (xs:List (kd.K×Addr×Qr)),v=.ref a/\5000<=o/\μ.ob o=some a/\M[o-5000]?=some (.int q.1::q.2)/\H a=some (.dn (xs.map (entryOfKey kd.knd)))/\(q.1=77\/q.1=78)/\q.2=kvs.map iF/\DP fa X μ H kd kvs xs/\(kvs.map (·.1)).Nodup:=by
 unfold bC at e;split at e
 ·next ho=>
  split at e
  ·next c es em=>
   split at e
   ·next hc=>
    cases e;obtain⟨a,rfl,ha⟩:=r;rcases ha with ha|⟨_,ha⟩
    ·rw[hd.of o ho] at ha;cases ha
    have eo:aC (o-5000)=o:=Nat.add_sub_cancel' ho;rcases hM.at' _ _ em with⟨b,vs,h1,_⟩|⟨b,h1,h2,⟨n,C,dx,fs,es',h3,h4,h5,h6,h7⟩|⟨c',es',kvs,h3,h4,h5,h6,h7⟩⟩
    ·have:=hM.sep _ _ h1;rw[eo,ha] at this;cases this
    ·have h6:=(List.cons.inj h6).1;have h6:=D.int.inj h6;rcases hc with rfl|rfl
     ·have:n=77:=`a
      rw[this,hd.n77] at h3;cases h3
     ·have:n=78:=`a
      rw[this,hd.n78] at h3;cases h3
    ·rw[eo,ha] at h1;cases h1;obtain⟨e1,e2⟩:=List.cons.inj h5;cases D.int.inj e1;obtain⟨kd⟩:=MY X hc;obtain⟨xs,rfl,dp⟩:=kd.xs h6;exact⟨a,kd,kvs,xs,rfl,ho,ha,em,h3,hc,e2,dp,h7⟩
   ·cases e
  ·cases e
 ·cases e
noncomputable def rDG (fa:Fa)(K:Qp):R2:=λx y H Q=>∃μ M o dy d,RelM fa K μ H M/\Rep fa K μ H (.fn o) x/\Rep fa K μ H dy y/\getD M o dy=some d/\aW fa K μ H Q d M
def MZ (hu:Rm X)(hd:eT fa):j8 X (rDG fa X.K):=by
 intro value slice pins s σ H x y v u Q I rx ry h hs;obtain⟨μ,M,o,dy,d,hM,r1,r2,e,q⟩:=h;obtain⟨qq,e1,e2⟩:=Ru.mp e;split at e2
 ·next hk=>
  obtain⟨a,kd,kvs,xs,rfl,ho,ha,em,hH,hc,e3,dp,nd⟩:=kY hd I hM r1 e1;obtain⟨kk,ek⟩:=lM hk kd;obtain⟨b,rfl⟩:=kd.ref r2 ek;obtain⟨ys,hz,dd⟩:=KD.dict I hH dp nd;obtain rfl:v=Value.ref a:=rx;obtain rfl:u=Value.ref b:=ry;rw[e3] at e2;rcases dp.look ek with⟨z,_⟩|⟨d',b',v',u',z,g,ru,rd⟩
  ·rw[z] at e2;cases e2
  ·rw[z] at e2;cases e2;have hT:=dd.of.typeIs;have h2:wpAny (model X.prog X.w) X.A (getItem (.ref a) (.ref b)) (EP X pins σ Q) X.xe s:=wpAny_getItem_heap (kd.room hu) (kd.is I r2 ek) dd.of g {v',H,I.tok _,ru,aQ hM q rd};refine tqa ?_;rw[getitemInPython_of_ne hT.not_modules];refine tqa (wpAny_specialOf hT PySem.F.slot_dict_getitem.lookup ?_);have fin:wpAny (model X.prog X.w) X.A (subscripted slice false (.ref a) (.ref b)) (λr s3=>wpAny (model X.prog X.w) X.A (letTemporaryGo value (.ref a) r >>= λ_=>pure r) (EP X pins σ Q) X.xe s3) X.xe s:=by
    rw[hs];exact wpAny_operating (wpAny_mono h2 (λr s3 h3=>tqa (wpAny_letTemporaryGo (tqb h3))) λ_ _ x=>x)
   first
    |exact tqb (tqa fin)
    |exact tqa (tqb (tqa fin))
    |exact tqa fin
 ·cases e2
noncomputable def rDI (fa:Fa)(K:Qp)(n:Bool):R2:=λx y H Q=>∃μ M o dx b,RelM fa K μ H M/\Rep fa K μ H dx x/\Rep fa K μ H (.fn o) y/\inD M o dx=some b/\Q (.bl (n != b)) H
def Fj (hu:Rm X)(hd:eT fa)(n:Bool):bQ X (compareOp (if n then .NotIn else .In)) (rDI fa X.K n):=by
 intro pins s σ H x y v u Q I rx ry h;obtain⟨μ,M,o,dx,b,hM,r1,r2,e,q⟩:=h;obtain⟨qq,e1,e2⟩:=Ru.mp e;split at e2
 ·next hk=>
  obtain⟨a,kd,kvs,xs,rfl,ho,ha,em,hH,hc,e3,dp,nd⟩:=kY hd I hM r2 e1;obtain⟨kk,ek⟩:=lM hk kd;obtain⟨c,rfl⟩:=kd.ref r1 ek;obtain⟨ys,hz,dd⟩:=KD.dict I hH dp nd;obtain rfl:v=Value.ref c:=rx;obtain rfl:u=Value.ref a:=ry;rw[e3] at e2;cases e2;have eq:(cK (kvs.map iF) dx).isSome=(atKey xs kk).isSome:=by
   rcases dp.look ek with⟨h1,h2⟩|⟨_,_,_,_,h1,h2,_⟩<;>rw[h1,h2]<;>rfl
  rw[eq] at q;cases n with
  |false=>exact wpAny_in_heap (kd.room hu) (kd.is I r1 ek) ys dd.of {.bl _,H,I.tok _,rfl,by simpa using q}
  |true=>exact wpAny_notIn_heap (kd.room hu) (kd.is I r1 ek) ys dd.of {.bl _,H,I.tok _,rfl,by simpa using q}
 ·cases e2
noncomputable def rDS (fa:Fa)(K:Qp):yz:=λx y v H Q=>∃μ M o dy d q,RelM fa K μ H M/\Rep fa K μ H (.fn o) x/\Rep fa K μ H dy y/\Rep fa K μ H d v/\bC M o=some q/\isKey q.1 dy=true/\q.2.length<1000000/\∀H',Ext μ H μ H'->RelM fa K μ H' (M.set (o-5000) (.int q.1::putD q.2 dy d))->Q H'
def q9 (hd:eT fa)(I:Inv X pins σ H s)(hM:RelM fa X.K μ H M)(r1:Rep fa X.K μ H (.fn o) x)(r2:Rep fa X.K μ H dy y)(ry:RelV y iv)(rv:RelV v u)(r3:Rep fa X.K μ H d v)(e1:bC M o=some q)(hk:isKey q.1 dy=true)(hl:q.2.length<1000000) :
 ∃(a b:Addr) (kd:KD X q.1) (kk:kd.K) (xs:List (kd.K×Addr×Qr)),x=.ref a/\iv=.ref b/\kd.knd.is s.heap kk b/\xs.length<=sizeLine/\jb kd.knd s.heap a xs/\∀h' t,jb kd.knd h' a (storedH xs kk b u)->Sh a s.heap h'->∃H',Inv X pins σ H' {s with heap:=h',toks:=t}/\Ext μ H μ H'/\RelM fa X.K μ H' (M.set (o-5000) (.int q.1::putD q.2 dy d)):=by
 obtain⟨a,kd,kvs,xs,rfl,ho,ha,em,hH,hc,e3,dp,nd⟩:=kY hd I hM r1 e1;obtain⟨kk,ek⟩:=lM hk kd;obtain⟨b,rfl⟩:=kd.ref r2 ek;obtain⟨ys,hz,dd⟩:=KD.dict I hH dp nd;obtain rfl:iv=Value.ref b:=ry;have dp2:=dp.put ek r2 rv r3;refine{a,b,kd,kk,xs,rfl,rfl,kd.is I r2 ek,hz,dd,λh' t dd' hs=>?_};obtain⟨o',es',h1,h2,h3,h4,_,_⟩:=dd';have lx:(storedH xs kk b u).length<=sizeLine:=by
  have l1:=Paired.length dp2;have l2:(ki kvs dy d).length<=kvs.length+1:=by
   unfold ki;split<;>simp
  have l3:kvs.length<1000000:=by rw[e3,Qq] at hl;exact hl
  rw[<- l1,sizeLine_eq];omega
 have eo:aC (o-5000)=o:=Nat.add_sub_cancel' ho;have x:=Ext.dic (es':=(storedH xs kk b u).map (entryOfKey kd.knd)) hM hH;refine{upd H a (.dn ((storedH xs kk b u).map (entryOfKey kd.knd))),I.write (by rw[hH];exact True.intro) (.inl rfl) (λb q hb z=>(hs.2 b hb).trans z) ⟨o',h1⟩ {by simpa using lx,ys,o',h1,h2,?_},x,?_}
 ·have hl2:=congrArg List.length h4;rw[Qq] at hl2;rw[h3,<- h4,hl2]
 ·refine hM.dicW em (by rw[eo];exact ha) hH (.inr {q.1,_,ki kvs dy d,cD,hc,?_,Sf.mapP (KD.back dp2) λp e ⟨b,v,e1,e2,e3,e4,e5⟩=>{b,v,e1,e2,e3.ext x,e4,e5.ext x},dp.keys nd ek})
  rw[e3,<- JJ];rfl
def Gs (hu:Rm X)(hd:eT fa):DQ X (rDS fa X.K):=by
 intro pins s σ H x y v ov iv u Q I rx ry rv h;obtain⟨μ,M,o,dy,d,q,hM,r1,r2,r3,e1,hk,hl,k⟩:=h;obtain⟨a,b,kd,kk,xs,rfl,rfl,hi,hz,dd,fin⟩:=q9 hd I hM r1 r2 ry rv r3 e1 hk hl;obtain rfl:ov=Value.ref a:=rx;refine xq (hsz:=hz) (kd.room hu) hi dd λh' dd' hs=>?_;obtain⟨H',I',x',m'⟩:=fin h' _ dd' hs;exact{H',I',k H' x' m'}
end
section
variable{fa:Fa}{X:Cx}{a b d:Expr}{ga gb gd:GE}{pos:Pos}
def LL (hu:Rm X)(hd:eT fa)(ha:DE fa X a ga)(hb:DE fa X b gb)(hs:iq b):DE fa X (.Subscript a b pos) (dX ga gb):=
 bB (xA (MZ hu hd) ha hb hs) λσ H Q ⟨μ,Z,M,hE,hM,h⟩=>t2 hE hM h λx y M2 v u H2 μ2 x2 hE2 hM2 r1 r2 h2=>by
  cases x with
  | fn o =>
    obtain⟨d,e,q⟩:=kJ h2;exact{μ2,M2,o,y,d,hM2,r1,r2,e,aW.ext q x2}
  |_=>exact h2.elim
def wN {x y:D}(h:ae (match y with|.fn o=>(match inD M o x with|some r=>Res.ok (D.bl (n != r)) M|none=>.bad)|_=>.bad) k):∃o r,y=.fn o/\inD M o x=some r/\k (.bl (n != r)) M:=by
 cases y with
 | fn o =>
   dsimp only at h;cases e:inD M o x with
   |none=>rw[e] at h;exact h.elim
   |some r=>rw[e] at h;exact⟨o,r,rfl,e,h⟩
 |_=>exact h.elim
def ND (n:Bool)(hu:Rm X)(hd:eT fa)(ha:DE fa X a ga)(hb:DE fa X b gb)(hm:behindInMarks (if n then .NotIn else .In) b=false):DE fa X (.Compare a [if n then .NotIn else .In] [b] pos) (gZ n ga gb):=
 bB (qG (Fj hu hd n) ha hb hm) λσ H Q ⟨μ,Z,M,hE,hM,h⟩=>t2 hE hM h λx y M2 v u H2 μ2 x2 hE2 hM2 r1 r2 h2=>by
  obtain⟨o,r,rfl,e,q⟩:=wN h2;exact{μ2,M2,o,x,r,hM2,r1,r2,e,aQ hM2 (q.ext x2) rfl}
def Lm (n:Bool)(hu:Rm X)(hd:eT fa)(ha:DE fa X a ga)(hb:DE fa X b gb)(hm:behindInMarks (if n then .NotIn else .In) b=false):DT fa X (.Compare a [if n then .NotIn else .In] [b] pos) (aj (gZ n ga gb)):=
 kF (qD (Fj hu hd n) ha hb hm) λσ H Q ⟨μ,Z,M,hE,hM,h⟩=>by
  obtain⟨z,M3,e,q⟩:=aE h;have h':ae (gZ n ga gb Z M) (λd M=>d=z/\M=M3):=by rw[e];exact⟨rfl,rfl⟩
  refine t2 hE hM h' λx y M2 v u H2 μ2 x2 hE2 hM2 r1 r2 h2=>?_;obtain⟨o,r,rfl,e1,e2,e3⟩:=wN h2;subst e2 e3;exact{μ2,M2,o,x,r,hM2,r1,r2,e1,n != r,rfl,q H2 μ2 x2 hM2}
def Jh (hu:Rm X)(hk:eT fa)(ha:DE fa X a ga)(hb:DE fa X b gb)(hd:DE fa X d gd)
 (h0:∀v,assign (.Subscript a b p2) X.env v=(do
  let ov <- holding [v] (eval a X.env)
  let iv <- holding [v,ov] (eval b X.env)
  standAt p2
  holding [v,ov,iv] (setItem ov iv v)
  release [v,ov,iv] [])) (hs:swapsWithSole [.Subscript a b p2] d pos.line X.env=pure false) (hw:swappedStores [.Subscript a b p2] d X.env=pure none) :
 DS fa X (.Assign [.Subscript a b p2] d pos) (fL ga gb gd):=
 dR (pO hd (Am ha hb (Gs hu hk) h0) hs hw) λD' σ H ⟨μ,Z,M,hE,hM,h⟩=>t1 hE hM h λz M1 v H1 μ1 x1 hE1 hM1 r1 h1=>t2 hE1 hM1 h1 λx y M2 vx vy H2 μ2 x2 hE2 hM2 rx ry h2=>by
  cases x with
  | fn o =>
    dsimp only at h2;cases e:bC M2 o with
    |none=>rw[e] at h2;exact h2.elim
    | some q =>
      rw[e] at h2;dsimp only at h2;split at h2
      ·next c=>
       have w:=h2;exact{μ2,M2,o,y,z,q,hM2,rx,ry,r1.ext x2,e,c.1,c.2,λH' x' m'=>w σ H' μ2 ((x1.trans x2).trans x') (hE2.ext x') m'}
      ·exact h2.elim
  |_=>exact h2.elim
def LJ (c:Int)(hc:c=77\/c=78)(hd:eT fa):DE fa X (.Dict [] [] pos) (nV c):=by
 intro pins s σ H Q I ⟨μ,Z,M,hE,hM,h⟩;have hb:sysModules<s.heap.objs.size:=Nat.lt_trans `d (I.mod.glob.keeps I.bk).lt
 have hp:=I.hok.fresh (Qw _);refine wpAny_Dict_empty {.ref s.heap.objs.size,_,I.laid (o:=.dn []) (λ_ _ q=>Qt _ q) (Qw _) {RB _,RZ.mpr (RC (QY hb)),_,QM _ rfl,⟨rfl,rfl,rfl⟩,rfl},rfl,?_};refine h _ _ (nP μ M.length s.heap.objs.size) (Ext.dicNew hM hp) (hM.dicNew hp hc) {_,rfl,.inr {hd.of _ (Sr _ _),?_}};show(if aC M.length=aC M.length then some s.heap.objs.size else _)=_;rw[if_pos rfl]
end
def ur (hd:(d==sysModules)=false) :
 MeetsIn prog w (Builtin.«dict.__len__» {[.ref d],[]}) (λ_ R s=>∃o es ep,s.heap.get? d=some o/\o.data=.dict es ep/\R (.ok (.ret (.int es.size s.toks))) {s with toks:=s.toks+1}):=
 .of_wp λA R s ⟨o,es,ep,ho,hdat,h⟩=>by
  show wpAny _ _ (dictSize d >>= _) _ _ s;refine tqa (tqa (wpAny_dictEntries ho hdat (tqb ?_)));refine tqa (wpAny_pendingCount_other hd (wpAny_ret_mkInt ?_));rw[Nat.add_zero];exact h
def Kx (hd:(d==sysModules)=false)(ho:s.heap.get? d=some o)(hc:o.cls=.type "dict")(hdat:o.data=.dict es ep)(hfit:es.size<2^62)
 (h:∀t t',Q (.int es.size t) {s with toks:=t'}):wpAny (model prog w) A (call (.builtin "len") [.ref d]) Q E s:=by
 have hT:s.TypeIs (.ref d) "dict":=⟨o,ho,hc⟩;refine Calls.call_function_entry kind_len plain_len entry_len (args_len1 _) ?_;refine tqa (tqb ?_);refine tqa (wpAny_callSpecial?_slot hT F.slot_dict_len (call_meetsIn F.slot_dict_len hT F.entry_dict_len (F.args_dict_len_1 _) (ur hd) {o,es,ep,ho,hdat,?_}));refine tqa (tqo (tqb (tqa (wpAny_letGo ?_))));rw[if_neg `a]
 rw[if_neg `a]
 exact tqa (wpAny_mkInt (tqb {_,rfl,h _ _}))
noncomputable def jX (a:GE):GE:=λZ M=>(a Z M).bind λx M=>match x with
 | .fn o => (match bC M o with
   |some q=>.ok (.int q.2.length) M
   |none=>.bad)
 |_=>.bad
section
variable{fa:Fa}{X:Cx}{a:Expr}{ga:GE}{p pos:Pos}
def Lc (hd:eT fa):b9 X (.builtin "len") (λxs H Q=>∃μ M o q v,xs=[v]/\RelM fa X.K μ H M/\Rep fa X.K μ H (.fn o) v/\bC M o=some q/\Q (.int q.2.length) H):=by
 intro pins s σ H xs us Q I r h;obtain⟨μ,M,o,q,v,rfl,hM,rv,e,k⟩:=h;obtain⟨b,kd,kvs,ys,rfl,ho,ha,em,hH,hc,e3,dp,nd⟩:=kY hd I hM rv e;cases r with
 | cons r rr =>
   cases rr;obtain rfl:=(r);obtain⟨z,y,ob,h1,h2,h3⟩:=(I.hok b _ hH);have el:(ys.map (entryOfKey kd.knd)).toArray.size=q.2.length:=by
    rw[e3,QI,Qq,Qq];exact(Paired.length dp).symm
   refine Kx y h1 h2.1 h3 ?_ λt t'=>{.int q.2.length,H,I.tok _,{t,by rw[el]},k}
   rw[QI];rw[sizeLine_eq] at z;omega
def LK (hd:eT fa)(hg:Gl X "len")(hm:X.mg "len"=none)(ha:DE fa X a ga)(he:notStar a=true):DE fa X (.Call (.Name "len" p) [a] [] pos) (jX ga):=
 bB (ie (Lc hd) hg hm PySem.boot_len (cf ha dI (by rw[a9 he])) `d `d (by rw[a9 he]) `r) λσ H Q ⟨μ,Z,M,hE,hM,h⟩=>t1 hE hM h λx M1 v H1 μ1 x1 hE1 hM1 r1 h1=>by
  cases x with
  | fn o =>
    dsimp only at h1;cases e:bC M1 o with
    |none=>rw[e] at h1;exact h1.elim
    |some q=>rw[e] at h1;exact{μ1,M1,o,q,v,rfl,hM1,r1,e,aQ hM1 (aW.ext h1 x1) rfl}
  |_=>exact h1.elim
end
noncomputable def jY (gk gv:GE):Env->List D->Mem->Res (List D):=λZ acc M=>(gk Z M).bind λk M=>(gv Z M).bind λv M=>match acc with
 | [.fn o] => (match bC M o with
   |some q=>if isKey q.1 k=true/\q.2.length<1000000 then .ok acc (M.set (o-5000) (.int q.1::putD q.2 k v)) else .bad
   |none=>.bad)
 |_=>.bad
noncomputable def kU (c:Int)(n:Nat)(t:fW)(gw:GW)(g:GB):GE:=λZ M=>(gw Z M).bind λw M=>(cL (cw t g (List.replicate n none++Z)) w [.fn (aC M.length)] (M++[[.int c]])).bind λacc M=>match acc with
 |[d]=>.ok d M
 |_=>.bad
noncomputable def xa (a:Addr):PA:=λμ _ acc=>∃o,acc=[.fn o]/\5000<=o/\μ.ob o=some a
def xa.stab:yA (xa a):=λ_ _ _ _ _ x ⟨o,h1,h2,h3⟩=>{o,h1,h2,x.obs _ _ h3}
def B7 (kx vx target iter:Expr)(scope:Scope)(pos:Pos)(it:Qr)(d:Addr)(env:R6) :
 compTurn (.DictComp kx vx [{target,iter,[],0}] scope pos) 0 it (.ref d) env=(standAt iter.pos >>= λ_=>pyNext it >>= λr=>match r with
  |none=>pure (.done .next)
  |some v=>letOwnedTupleGo target it v >>= λ_=>assign target env v >>= λ_=>(eval kx env >>= λkv=>holding [kv] (eval vx env) >>= λvv=>standAt {kx.pos with endLine:=vx.pos.endLine,endCol:=vx.pos.endCol} >>= λ_=>holding [kv,vv] (dictSet d kv vv)) >>= λ_=>again (.compLoop (.DictComp kx vx [{target,iter,[],0}] scope pos) 0 it (.ref d) env)):=`r
section
variable{fa:Fa}{X:Cx}{a:Addr}
def HL (hu:Rm X)(hd:eT fa)(hk:DE fa X kx gk)(hv:DE fa X vx gv):DB fa X (xa a) a [] (eval kx X.env >>= λkv=>holding [kv] (eval vx X.env) >>= λvv=>standAt {kx.pos with endLine:=vx.pos.endLine,endCol:=vx.pos.endCol} >>= λ_=>holding [kv,vv] (dictSet a kv vv)) (jY gk gv):=by
 rintro pins s σ H Q μ Z M _ I hE hM hc ⟨o,rfl,ho,hob⟩ h;obtain⟨k,M1,e,h⟩:=aE h;obtain⟨v,M2,e2,h⟩:=aE h;dsimp only at h;cases e3:bC M2 o with
 |none=>rw[e3] at h;exact h.elim
 | some q =>
   rw[e3] at h;dsimp only at h;split at h
   ·next c=>
    refine tqa (aT (hk pins s σ H (λv H1=>∃μ1,Ext μ H μ1 H1/\RelM fa X.K μ1 H1 M1/\Rep fa X.K μ1 H1 k v) I {μ,Z,M,hE,hM,?_}) λuk s1 ⟨wk,H1,I1,rk,μ1,x1,m1,r1⟩=>?_)
    ·rw[e];exact λv H1 μ1 x1 m1 r1=>⟨μ1,x1,m1,r1⟩
    refine tqa (tqo (aT (hv pins s1 σ H1 (λw H2=>∃μ2,Ext μ1 H1 μ2 H2/\RelM fa X.K μ2 H2 M2/\Rep fa X.K μ2 H2 v w) I1 {μ1,Z,M1,hE.ext x1,m1,?_}) λuv s2 ⟨wv,H2,I2,rv,μ2,x2,m2,r2⟩=>?_))
    ·rw[e2];exact λv H1 μ1 x1 m1 r1=>⟨μ1,x1,m1,r1⟩
    have ob2:=x2.obs _ _ (x1.obs _ _ hob);obtain⟨a',b,kd,kk,xs,ea,rfl,hi,hz,dd,fin⟩:=q9 hd I2 m2 {a,rfl,.inr {hd.of _ ho,ob2}} (r1.ext x2) rk rv r2 e3 c.1 c.2;cases ea;refine tqa (wpAny_standAt (tqo (lU (hsz:=hz) (kd.room0 hu) hi dd λh' dd' hs=>?_)));obtain⟨H',I',x',m'⟩:=fin h' _ dd' hs;exact{σ,H',I',h σ H' μ2 ((x1.trans x2).trans x').toD (((hE.ext x1).ext x2).ext x') m' {o,rfl,ho,x'.obs _ _ ob2}}
   ·exact h.elim
def vI {c:Int}{rest:List SF}(hc:c=77\/c=78)(hd:eT fa)
 (S:fK X own bn scope) (hcalm:X.calm=true) (hi:DI fa X tg iter gw) (B:Block fa X xa own bn scope tg t W body g) (hT:∀(it a:Addr) (env:R6),compTurn (.DictComp kx vx ({tg,iter,ifs,0}::rest) scope pos) 0 (.ref it) (.ref a) env=(standAt iter.pos >>= λ_=>pyNext (.ref it) >>= λr=>match r with
  |none=>pure (.done .next)
  |some v=>letOwnedTupleGo tg (.ref it) v >>= λ_=>assign tg env v >>= λ_=>body a env >>= λ_=>again (.compLoop (.DictComp kx vx ({tg,iter,ifs,0}::rest) scope pos) 0 (.ref it) (.ref a) env))) (hW:∀i∈W,i∉slots t) (hn:∀i∈slots t++W,i<own.length)
 (hs:∀x,foldedSetIterable iter X.env x=pure x)
 (I:Inv X pins σ H s) (hE:bu fa X.K μ H σ Z) (hM:RelM fa X.K μ H M) (h:ae (kU c own.length t gw g Z M) (aW fa X.K μ H Q))
 (post:∀(a C:Addr) (s':Qu) (H':Hp),Inv X pins σ H' s'->Q (.ref a) H'->(∃m,s'.heap.Ns C m)->(∀σ2 H2 s2,Inv X pins σ2 H2 s2->(H' C=none->H2 C=none)->H2 C=none/\∀h'',Sh C s2.heap h''->Inv X pins σ2 H2 {s2 with heap:=h''})->H' C=none->(C≠X.env.locals/\∀x c,X.env.cells.lookup x=some c->c≠C)->compPost (model X.prog X.w) X.A X.xe use QQ (.ref a) C (.ok .next) s') :
 wpAny (model X.prog X.w) X.A (comprehension (.DictComp kx vx ({tg,iter,ifs,0}::rest) scope pos) scope X.env p0 newDict false (eval iter X.env) use) QQ X.xe s:=by
 obtain⟨w,M1,ew,q⟩:=aE h;obtain⟨acc,M2,ea,q2⟩:=aE q;obtain⟨cl,hcl,hsub,hhas⟩:=qf λy hy hf=>I.ok.has y.1 (S.free y hy hf);refine wpAny_comprehension_free rfl hs hcl S.kind S.loc ?_;refine aT (hi pins s σ H (λJ H1=>∃μ1,Ext μ H μ1 H1/\RelM fa X.K μ1 H1 M1/\dN fa X.K μ1 H1 w J) I {μ,Z,M,hE,hM,?_}) λv s1 h1=>aT h1 λitv s2 h2=>?_
 ·rw[ew];exact λJ H1 μ1 x1 m1 wk=>⟨μ1,x1,m1,wk⟩
 obtain⟨it,fp,tn,J,H2,ei,I2,T,st2,f2,μ2,x2,m2,wk⟩:=h2;subst ei;refine tqa (wpAny_alloc (tqb ?_));have hb:sysModules<s2.heap.objs.size:=Nat.lt_trans `d (I2.mod.glob.keeps I2.bk).lt
 have ha:=I2.hok.fresh (Qw _);have I3:Inv X pins σ (upd H2 s2.heap.objs.size (.dn [])) {s2 with heap:=s2.heap.push {cls:=.type "dict",data:=.dict #[]}}:=
  I2.laid (λb o e=>Qt _ e) (Qw _) {RB _,RZ.mpr (RC (QY hb)),_,QM _ rfl,⟨rfl,rfl,rfl⟩,rfl}
 generalize hs3:({s2 with heap:=s2.heap.push {cls:=.type "dict",data:=.dict #[]}}:Qu)=s3 at I3 ⊢
 have k3:∀b o,s2.heap.get? b=some o->s3.heap.get? b=some o:=λb o e=>by rw[<- hs3];exact Qt _ e
 have fo2:=T.obj _ _ st2;have f3:∀b∈fp,fH X pins (upd H2 s2.heap.objs.size (.dn [])) b:=λb hb=>by
  obtain⟨o,e,_⟩:=fo2 b hb;exact{by rw[aG (QY (QK e))];exact(f2 b hb).1,(f2 b hb).2}
 have fo3:∀b∈fp,∃o,s3.heap.get? b=some o:=λb hb=>let{o,e,_}:=fo2 b hb;{o,k3 b o e}
 obtain⟨CL,hce⟩:=Fi S hsub hhas (s3.heap.push {cls:=.type "dict",data:=.dict #[]}) (Sg ..);generalize hcl':cellsFrom (s3.heap.objs.size+1) scope.names cl=cl' at CL hce;refine r8 ?_;rw[hcl'];have hns₁:(pushCells (s3.heap.push {cls:=.type "dict",data:=.dict #[]}) scope.names).Ns s3.heap.objs.size (λ_=>none):=(Heap.Ns.new s3.heap (.type "dict")).keeps (pushCells_keeps _ _);have k4:∀b o,s3.heap.get? b=some o->(pushCells (s3.heap.push {cls:=.type "dict",data:=.dict #[]}) scope.names).get? b=some o:=λb o e=>pushCells_keeps _ _ b o (Qt _ e);generalize pushCells (s3.heap.push {cls:=.type "dict",data:=.dict #[]}) scope.names=h₁ at hns₁ k4 hce ⊢;clear hcl hcl' hsub hhas cl
 rename List (Str×Addr)=>cl
 have I4:=u3 (t':=s3.toks) I3 S CL f3 fo3 hns₁ k4 hce;have ok4:=I4.ok;have f4:∀b∈fp,fH (gi X own bn scope cl s3.heap.objs.size fp s3 (upd H2 s2.heap.objs.size (.dn []))) [] (upd H2 s2.heap.objs.size (.dn [])) b:=λb hb=>
  {(f3 b hb).1,(ok4.exf b hb).1,ok4.exfs b hb,.inl hb,(ok4.exf b hb).2,λp hp=>nomatch hp}
 have st4:=T.keep _ _ _ st2 λb hb o e=>k4 b o (k3 b o e);have x3:=Ext.dicNew m2 ha;have m3:=m2.dicNew ha hc;have go:=rh xa.stab (X:=gi X own bn scope cl s3.heap.objs.size fp s3 (upd H2 s2.heap.objs.size (.dn []))) (acc:=[.fn (aC M1.length)]) (Q:=λ_ H'=>Q (.ref s2.heap.objs.size) H') (hT it s2.heap.objs.size _) ⟨rfl,rfl⟩ rfl hcalm T (B.pg _ _ _ _ _) (B.db _ _ _ _ _ _) hW I4 st4 f4
  (tX own.length ((hE.ext x2).ext x3)) m3 (sh hn) {_,rfl,Sr _ _,if_pos rfl} (rK wk x3.toExtW) (by
   rw[ea];rintro σ' H' μ' z1 z2 z3 ⟨o,rfl,ho,hob⟩;have z:Ext _ _ μ' H':={z1.toExtW,z1.pr,λb hb=>z1.pk b hb λe=>by
    obtain⟨⟨vs,q⟩,_⟩:=m2.pv b hb;rw[e,ha] at q;cases q}
   exact q2 (.ref s2.heap.objs.size) H' μ' ((x2.trans x3).trans z) z3 {_,rfl,.inr {hd.of _ ho,hob}})
 have go':codeAny (model X.prog X.w) X.A (.compLoop (.DictComp kx vx ({tg,iter,ifs,0}::rest) scope pos) 0 (.ref it) (.ref s2.heap.objs.size) (compEnvC scope cl s3.heap.objs.size X.env)) (compPost (model X.prog X.w) X.A X.xe use QQ (.ref s2.heap.objs.size) s3.heap.objs.size) {s3 with heap:=h₁}:=
  codeAny_mono go λr s' ⟨er,σ',H',I',z⟩=>by
   subst er;refine post _ _ s' H' (comp_back I3 f3 I') z (let{m,hn,_}:=I'.loc;⟨m,hn⟩) (λσ2 H2 s2' I2' hf=>{hf I'.free,λh'' hs''=>se I3 (hf I'.free) I2' hs''}) I'.free {Rz I3.lt,λx c e z=>by
    obtain⟨v,q⟩:=I3.cell x c e;exact absurd q.lt (by rw[z];exact RL _)}
 exact codeAny_compStart_dict go' (T.self _ 0 _ _ _ st4 go')
def HP {c:Int}{kx vx tg iter:Expr}{pos:Pos}(hc:c=77\/c=78)(hd:eT fa)
 (S:fK X own bn scope) (hcalm:X.calm=true) (hi:DI fa X tg iter gw) (B:Block fa X xa own bn scope tg t [] (λa env=>eval kx env >>= λkv=>holding [kv] (eval vx env) >>= λvv=>standAt {kx.pos with endLine:=vx.pos.endLine,endCol:=vx.pos.endCol} >>= λ_=>holding [kv,vv] (dictSet a kv vv)) (jY gk gv)) (hn:∀i∈slots t++[],i<own.length)
 (hs:∀x,foldedSetIterable iter X.env x=pure x):DE fa X (.DictComp kx vx [{tg,iter,[],0}] scope pos) (kU c own.length t gw (jY gk gv)):=by
 intro pins s σ H Q I ⟨μ,Z,M,hE,hM,h⟩;refine vI hc hd S hcalm hi B (λit a env=>B7 kx vx tg iter scope pos (.ref it) a env) (λ_ h=>nomatch h) hn hs I hE hM h ?_;intro a C s' H' I' q ⟨m,hn⟩ gone hf _;exact{m,hn,λh' hs'=>{.ref a,H',(gone σ H' s' I' id).2 h' hs',rfl,q}}
end
def DJ (hh:A.in1.handled=none)(hne:p≠I)(tr:Nat->Bool)(G:Heap->Prop)(hG:∀h h',G h->(∀b o,b∉[I]->h.get? b=some o->h'.get? b=some o)->G h')
 (htr:∀i v (s:Qu) (Q:Bool->Qu->Prop) (E:Qr->Qu->Prop),items[i]?=some v->G s.heap->(∀t,Q (tr i) {s with toks:=t})->wpAny (model prog w) A.in1 (truthy v) Q E s):∀(k i:Nat) (s:Qu),items.size-i=k->i<=items.size->(s.heap.IsListIter I p i/\s.heap.IsList p items)->G s.heap->
 (∀h' tk,G h'->R (.ok (.ret (.bool (((List.range items.size).drop i).any tr)))) {s with heap:=h',toks:=tk})->codeAny (model prog w) A (.builtin "any.loop" {[.ref I],[]}) R s:=by
 have W:=Walks.list (prog:=prog) (w:=w) hh I p hne items;intro k;induction k with
 | zero =>
   intro i s hk hi hst g hR;have hin:i=items.size:=`a
   subst hin;refine codeAny_builtin F.entry_any_loop ?_;rw[So F.plain_any_loop _];refine tqa (W.done s _ _ hst λh' tk hk'=>?_);refine tqa (wpAny_rule (tqb ?_));have:=hR h' tk (hG _ _ g hk');rw[List.drop_of_length_le `s] at this
   exact this
 | succ k ih =>
   intro i s hk hi hst g hR;have hlt:i<items.size:=`a
   have hd:(List.range items.size).drop i=i::(List.range items.size).drop (i+1):=by
    rw[List.drop_eq_getElem_cons (by simpa using hlt)];simp
   refine codeAny_builtin F.entry_any_loop ?_;rw[So F.plain_any_loop _];refine tqa (W.item i s _ _ hlt hst λv h' tk hP hst' hk'=>?_);refine tqa (tqo (htr i v _ _ _ hP (hG _ _ g hk') λt=>?_));refine tqa (wpAny_letGo ?_);cases hb:tr i with
   | false =>
     refine tqb {plainId_quiet F.plain_any_loop _,ih (i+1) _ `a hlt hst' (hG _ _ g hk') λh'' tk'' g''=>?_}
     have:=hR h'' tk'' g'';rw[hd,List.any_cons,hb,Bool.false_or] at this;exact this
   | true =>
     refine tqa (wpAny_rule (tqb ?_));have:=hR h' t (hG _ _ g hk');rw[hd,List.any_cons,hb,Bool.true_or] at this;exact this
def range_any (bs:List Bool):((List.range bs.length).any λi=>(bs[i]?).getD false)=bs.any id:=by
 rw[RV,R7,R7];constructor
 ·rintro⟨i,_,e⟩;cases z:bs[i]? with
  |none=>rw[z] at e;cases e
  |some b=>rw[z] at e;exact{b,QT z,e}
 ·rintro⟨b,hb,e⟩;obtain⟨i,hi⟩:=List.getElem?_of_mem hb;exact{i,Su.mpr (Qo.mp hi).1,by rw[hi];exact e}
noncomputable def oG (M:Mem):D->Option Bool
 |.bl b=>some b
 |d=>(eB M d).map λxs=>!xs.isEmpty
def B8 (h:oG M d=some b):d=.bl b\/∃xs,eB M d=some xs/\b=!xs.isEmpty:=by
 cases d with
 |bl c=>cases h;exact .inl rfl
 | _ =>
   simp only[oG] at h;obtain⟨xs,e1,e2⟩:=QA.mp h;exact .inr ⟨xs,e1,e2.symm⟩
noncomputable def jL (M:Mem):List D->Option (List Bool)
 |[]=>some []
 |d::r=>(oG M d).bind λb=>(jL M r).map (b::·)
def tv:∀{ds:List D}{bs:List Bool},jL M ds=some bs->bs.length=ds.length/\∀(i:Nat) d,ds[i]?=some d->∃b,bs[i]?=some b/\oG M d=some b
 |[],_,h=>by cases h;exact{rfl,λ_ _ e=>by simp at e}
 | d :: ds, _, h => by
   obtain⟨b,e,h⟩:=Ru.mp h;obtain⟨bs,e2,rfl⟩:=QA.mp h;obtain⟨h1,h2⟩:=tv e2;refine{by simp[h1],λi d' z=>?_}
   cases i with
   |zero=>cases z;exact⟨b,rfl,e⟩
   |succ i=>exact h2 i d' z
noncomputable def qT (a:GE):GE:=λZ M=>(a Z M).bind λx M=>match eB M x with
 | some ds => (match jL M ds with
   |some bs=>.ok (.bl (bs.any id)) M
   |none=>.bad)
 |none=>.bad
section
variable{fa:Fa}{X:Cx}{a:Expr}{ga:GE}{p pos:Pos}
def Nk:b9 X (.builtin "any") (λxs H Q=>∃μ M ds bs p vs,xs=[.ref p]/\X.calm=true/\RelM fa X.K μ H M/\c7 X.K H p vs/\aK fa X.K μ H ds vs/\jL M ds=some bs/\Q (.bl (bs.any id)) H):=by
 intro pins s σ H xs us Q I r h;obtain⟨μ,M,ds,bs,p,vs,rfl,hc,hM,hq,rl,eb,q⟩:=h;obtain⟨u,rfl,rx⟩:=vals1 r;cases rx;obtain⟨its,rv,pl,hz⟩:=I.list hq;obtain⟨hl,hb⟩:=tv eb;have hlt:=pl.lt;refine call_function_tree F.kind_any F.plain_any F.entry_any (F.args_any1 _) ?_;refine tqa (tqb ?_);refine tqa (wpAny_pyIter_list pl.isList ?_);refine tqb {plainId_quiet F.plain_any_loop _,DJ (I.ok.hd hc) (QY hlt) (λi=>(bs[i]?).getD false) (λh=>∀b o,s.heap.get? b=some o->h.get? b=some o) (λh h' g k b o e=>k b o (λz=>by rw[QF.mp z] at e;exact absurd (QK e) (RL _)) (g b o e)) ?_ its.toArray.size 0 _ rfl (RB _) {{_,QM _ rfl,rfl,rfl},pl.isList.push _} (λb o e=>Qt _ e) λh' tk g=>?_}
 ·intro i v s' Q' E' e g hQ;have e:its[i]?=some v:=by simpa using e
  have hi:i<vs.length:=by rw[rv.length];exact(Qo.mp e).1
  obtain⟨d,ed,rd⟩:=rl.getV (QG hi);obtain⟨u,eu,ru⟩:=rv.get (QG hi);rw[e] at eu;cases eu;obtain⟨b,e1,e2⟩:=hb i d ed;rw[e1] at hQ;have list:∀xs,eB M d=some xs->b=!xs.isEmpty->wpAny (model X.prog X.w) X.A.in1 (truthy v) Q' E' s':=λxs e3 e4=>by
   obtain⟨a,ws,ev,hw,rw'⟩:=bG hM rd e3;rw[ev] at ru;obtain rfl:=(ru);have I':Inv X pins σ H {s with heap:=s'.heap,toks:=s.toks}:=I.kept g
   obtain⟨its',rv',pl',hz'⟩:=I'.list hw;have hlen:=rv'.length;have hs:=sizeLine_eq;refine wpAny_truthy_list pl'.isList (by simp only[QI];omega) ?_
   rw[lN rv',show ws.isEmpty=xs.isEmpty by rw[RV,List.isEmpty_iff_length_eq_zero,List.isEmpty_iff_length_eq_zero,rw'.length],<- e4]
   exact hQ _
  rcases B8 e2 with rfl|⟨xs,e3,e4⟩
  ·rw[show vs[i]=V.bl b from rd] at ru;obtain rfl:=(ru);exact tqp (hQ _)
  ·exact list xs e3 e4
 ·rw[List.drop_zero,QI,<- rv.length,rl.length,<- hl,range_any];exact{.bl _,H,I.kept g,rfl,q}
def NL (hc:X.calm=true)(hg:Gl X "any")(hm:X.mg "any"=none)(ha:DE fa X a ga)(he:notStar a=true):DE fa X (.Call (.Name "any" p) [a] [] pos) (qT ga):=
 bB (ie (Nk) hg hm `k (cf ha dI (by rw[a9 he])) `d `d (by rw[a9 he]) `r) λσ H Q ⟨μ,Z,M,hE,hM,h⟩=>t1 hE hM h λx M1 v H1 μ1 x1 hE1 hM1 r1 h1=>by
  cases e:eB M1 x with
  |none=>rw[e] at h1;exact h1.elim
  | some ds =>
    rw[e] at h1;dsimp only at h1;cases e2:jL M1 ds with
    |none=>rw[e2] at h1;exact h1.elim
    | some bs =>
      rw[e2] at h1;obtain⟨a,vs,rfl,hq,r⟩:=bG hM1 r1 e;exact{μ1,M1,ds,bs,a,vs,rfl,hc,hM1,hq,r,e2,aQ hM1 (aW.ext h1 x1) rfl}
noncomputable def qR (a:GE):GE:=λZ M=>(a Z M).bind λx M=>match x with
 | .cell k => match M[k]? with
   |some _=>.ok .non (M.set k [])
   |none=>.bad
 |_=>.bad
def NH (ha:DE fa X a ga)(hbase:attributeBase a "clear" X.env (eval a X.env)=eval a X.env)(hline:(apos.endLine==cpos.line)=true) :
 DE fa X (.Call (.Attribute a "clear" apos) [] [] cpos) (qR ga):=
 bB (JX PySem.F.plainAttrs_list PySem.F.slot_list_clear PySem.F.type_list_clear CV ha hbase hline) λσ H Q ⟨μ,Z,M,hE,hM,h⟩=>
  t1 hE hM h λx M1 v H1 μ1 x1 hE1 hM1 r1 h1=>by
   cases x with
   | cell k =>
     dsimp only at h1;cases e:M1[k]? with
     |none=>rw[e] at h1;exact h1.elim
     | some ds =>
       rw[e] at h1;obtain⟨ad,rfl,hk⟩:=r1;obtain⟨ws,h4,h5⟩:=hM1.at_ e hk;refine{.inl {rfl,ws,c7.of h4},ad,ws,rfl,rfl,h4,?_};have x2:=Ext.write (vs:=ws) (ws:=[]) hM1 hk;exact h1 .non _ μ1 (x1.trans x2) (hM1.write hk rfl) rfl
   |_=>exact h1.elim
end
noncomputable def wF (c:Int)(gk gv:GE):GE:=λZ M=>(gk Z (M++[[.int c]])).bind λk M1=>(gv Z M1).bind λv M2=>match bC M2 (aC M.length) with
 |some q=>if isKey q.1 k=true/\q.2.length<1000000 then .ok (.fn (aC M.length)) (M2.set (aC M.length-5000) (.int q.1::putD q.2 k v)) else .bad
 |none=>.bad
section
variable{fa:Fa}{X:Cx}{kx vx:Expr}{gk gv:GE}{pos:Pos}
def HN (c:Int)(hc:c=77\/c=78)(hu:Rm X)(hd:eT fa)(hk:DE fa X kx gk)(hv:DE fa X vx gv):DE fa X (.Dict [some kx] [vx] pos) (wF c gk gv):=by
 intro pins s σ H Q I ⟨μ,Z,M,hE,hM,h⟩;obtain⟨k,M1,e1,h⟩:=aE h;obtain⟨v,M2,e2,h⟩:=aE h;cases e3:bC M2 (aC M.length) with
 |none=>rw[e3] at h;exact h.elim
 | some q =>
   rw[e3] at h;dsimp only at h;split at h
   ·next cc=>
    have hb:sysModules<s.heap.objs.size:=Nat.lt_trans `d (I.mod.glob.keeps I.bk).lt
    have ha:=I.hok.fresh (Qw _);have I0:Inv X pins σ (upd H s.heap.objs.size (.dn [])) {s with heap:=s.heap.push {cls:=.type "dict",data:=.dict #[]}}:=
     I.laid (λb o e=>Qt _ e) (Qw _) {RB _,RZ.mpr (RC (QY hb)),_,QM _ rfl,⟨rfl,rfl,rfl⟩,rfl}
    have x0:=Ext.dicNew hM ha;have m0:=hM.dicNew ha hc;have hob:(nP μ M.length s.heap.objs.size).ob (aC M.length)=some s.heap.objs.size:=if_pos rfl;refine wpAny_Dict_any rfl rfl `s (QZ rfl) ?_
    refine tqa (aT (hk pins _ σ _ (λv H1=>∃μ1,Ext (nP μ M.length s.heap.objs.size) (upd H s.heap.objs.size (.dn [])) μ1 H1/\RelM fa X.K μ1 H1 M1/\Rep fa X.K μ1 H1 k v) I0 {_,Z,_,hE.ext x0,m0,?_}) λuk s1 ⟨wk,H1,I1,rk,μ1,x1,n1,r1⟩=>?_)
    ·rw[e1];exact λv H1 μ1 x1 m1 r1=>⟨μ1,x1,m1,r1⟩
    refine tqa (tqo (tqa (aT (hv pins s1 σ H1 (λw H2=>∃μ2,Ext μ1 H1 μ2 H2/\RelM fa X.K μ2 H2 M2/\Rep fa X.K μ2 H2 v w) I1 {μ1,Z,M1,(hE.ext x0).ext x1,n1,?_}) λuv s2 ⟨wv,H2,I2,rv,μ2,x2,m2,r2⟩=>?_)))
    ·rw[e2];exact λv H1 μ1 x1 m1 r1=>⟨μ1,x1,m1,r1⟩
    refine tqa (wpAny_standAt (tqb ?_));refine tqa (tqo (tqb (tqb ?_)));have ob2:=x2.obs _ _ (x1.obs _ _ hob);obtain⟨a',b,kd,kk,xs,ea,rfl,hi,hz,dd,fin⟩:=q9 hd I2 m2 {_,rfl,.inr {hd.of _ (Sr _ _),ob2}} (r1.ext x2) rk rv r2 e3 cc.1 cc.2;cases ea;unfold storeAll;rw[List.forIn_cons];refine tqa (tqa (lU (hsz:=hz) (kd.room0 hu) hi dd λh' dd' hs=>tqb ?_));obtain⟨H',I',x',m'⟩:=fin h' _ dd' hs;refine tqb {.ref s.heap.objs.size,H',I',rfl,h _ H' μ2 (((x0.trans x1).trans x2).trans x') m' {_,rfl,.inr {hd.of _ (Sr _ _),x'.obs _ _ ob2}}}
   ·exact h.elim
end
section
variable{prog:Rp}{w:Rr}{A:RW}{E:Qr->Qu->Prop}{s:Qu}{it d:Addr}{i ep:Nat}{od:Obj}{es:Array RO}{e:RO}{Q:Option Qr->Qu->Prop}{QV:Qr->Qu->Prop}
def AN (hd:(d==sysModules)=false)(ho:s.heap.get? d=some od)(hc:od.ExactDict)(hdat:od.data=.dict es ep)
 (hQ:QV (.ref s.heap.objs.size) {s with heap:=s.heap.push {cls:=.type "dict_keyiterator",data:=.fields #[.ref d,.int 0 0,.int es.size 0,.int ep 0]}}) :
 wpAny (model prog w) A (pyIter (.ref d)) QV E s:=by
 have hT:s.TypeIs (.ref d) "dict":=⟨od,ho,hc.1⟩;refine wpAny_pyIter_slot hT F.slot_dict_iter (wpAny_call_entry F.slot_dict_iter hT F.entry_dict_iter ?_ (F.args_dict_iter_1 _));refine tqa ?_;refine tqa (wpAny_notOrdered_dict hT ?_);refine tqb ?_;show wpAny _ _ (Builtin.Dict.showsAll d >>= _) _ _ s;unfold Builtin.Dict.showsAll;rw[if_neg (by rw[hd];exact QR)]
 refine tqa (tqb ?_);refine tqa (wpAny_dictEntries ho hdat ?_);refine tqa (wpAny_dictEpoch ho hdat ?_);refine tqa (wpAny_newObj_type (tqb {_,rfl,"dict_keyiterator",_,{_,QM _ rfl,rfl},F.slot_dict_keyiterator_next.lookup,?_}));simpa[rawInt] using hQ
def uB (hit:s.heap.IsKeyIter it d i es.size ep)(hod:s.heap.get? d=some od)(hdd:od.data=.dict es ep)(hx:es[i]?=some e)
 (hQ:∀h',h'.IsKeyIter it d (i+1) es.size ep->Sh it s.heap h'->Q (some e.key) {s with heap:=h'}):wpAny (model prog w) A (pyNext (.ref it)) Q E s:=by
 obtain⟨o,ho,hc,hd⟩:=id hit;refine tqa (wpAny_attempt (wpAny_callSpecial?_slot hit.typeIs SM
  (wpAny_call_entry SM hit.typeIs F.entry_dict_keyiterator_next ?_ (F.args_dict_keyiterator_next_1 _))))
 refine tqa (tqb ?_);refine tqa ?_;refine tqa ?_;first|refine tqa (wpAny_typeNameOfWhole_keyiter hit.typeIs (tqb ?_))|refine tqa (wpAny_typeNameOf_keyiter hit.typeIs (tqb ?_))
 refine tqa (wpAny_fieldsOf ho hd ?_);show wpAny _ _ (if (Value.ref d==Value.none)=true then _ else _) _ _ s;rw[if_neg (show ¬ ((Value.ref d==Value.none)=true) from QR)];refine tqa (tqb ?_);refine tqa (wpAny_dictEntries hod hdd ?_);rw[if_neg `s]
 refine tqa (tqb ?_);refine tqa (wpAny_dictEpoch hod hdd ?_);rw[if_neg `s]
 refine tqb ?_;simp only[show ¬ ((i:Int)<0) from by omega,if_false,R1,hx]
 refine tqa ?_;first|refine tqa (wpAny_typeNameOfWhole_keyiter hit.typeIs (tqb ?_))|refine tqa (wpAny_typeNameOf_keyiter hit.typeIs (tqb ?_))
 refine tqa (wpAny_isOneOf_keyiter hit.typeIs ?_);show wpAny _ _ (setField (.ref it) 1 (rawInt ((i:Int)+1)) >>= _) _ _ s;refine tqa (wpAny_setField ho hd `s ?_)
 have hit':(s.heap.update it (Obj.mapFields (·.setIfInBounds 1 (rawInt ((i:Int)+1))))).IsKeyIter it d (i+1) es.size ep:=
  {_,Ry _ ho (SN (R9 hd _)),(Obj.cls_mapFields ..).trans hc,by rw[R9 hd];simp[rawInt]}
 refine tqa (tqo ?_);refine tqa (wpAny_isOneOf_keyiter hit'.typeIs ?_);exact tqb (tqb {_,rfl,tqb (hQ _ hit' (RQ ..))})
def wu (hh:A.handled=none)(hit:s.heap.IsKeyIter it d i es.size ep)(hod:s.heap.get? d=some od)(hdd:od.data=.dict es ep)(hge:es.size<=i)
 (hQ:∀h',Heap.ExtBut it s.heap h'->Q none {s with heap:=h'}):wpAny (model prog w) A (pyNext (.ref it)) Q E s:=by
 obtain⟨o,ho,hc,hd⟩:=id hit;refine tqa (wpAny_attempt (wpAny_callSpecial?_slot hit.typeIs SM
  (wpAny_call_entry SM hit.typeIs F.entry_dict_keyiterator_next ?_ (F.args_dict_keyiterator_next_1 _))))
 refine tqa (tqb ?_);refine tqa ?_;refine tqa ?_;first|refine tqa (wpAny_typeNameOfWhole_keyiter hit.typeIs (tqb ?_))|refine tqa (wpAny_typeNameOf_keyiter hit.typeIs (tqb ?_))
 refine tqa (wpAny_fieldsOf ho hd ?_);have hown:Builtin.Dict_items.ownsTuple "dict_keyiterator"=false:=`d
 show wpAny _ _ (if (Value.ref d==Value.none)=true then _ else _) _ _ s;rw[if_neg (show ¬ ((Value.ref d==Value.none)=true) from QR)];refine tqa (tqb ?_);refine tqa (wpAny_dictEntries hod hdd ?_);rw[if_neg `s]
 refine tqa (tqb ?_);refine tqa (wpAny_dictEpoch hod hdd ?_);rw[if_neg `s]
 refine tqb ?_;simp only[show ¬ ((i:Int)<0) from by omega,if_false,R1,Array.getElem?_eq_none hge]
 refine tqa ?_;first|refine tqa (wpAny_typeNameOfWhole_keyiter hit.typeIs (tqb ?_))|refine tqa (wpAny_typeNameOf_keyiter hit.typeIs (tqb ?_))
 show wpAny _ _ (setField (.ref it) 0 .none >>= _) _ _ s;refine tqa (wpAny_setField ho hd `s ?_)
 refine tqa ?_;refine tqa (wpAny_newObj_type ?_ (by size_fits))
 refine tqa (wpAny_of_eq (by first|rfl|(simp only[firstArgMember];rfl)) ?_)
 refine wpAny_newObj_type ?_ (by size_fits)
 refine tqa (wpAny_handled ?_);rw[show A.in1.handled=none from hh];refine tqa (tqb (wpAny_throw ?_));refine tqa (wpAny_isInstance {_,QM _ rfl,rfl} isSubtype_stop ?_);exact tqb (hQ _ (((RQ ..).extBut.push _).push _))
end
noncomputable def Mf (a:Addr)(n:Nat)(f:RO->Qr):It:=
 {λi H=>∃es e x,H a=some (.dn es)/\es.length=n/\es[i]?=some e/\RelV x (f e),λi H x H'=>H'=H/\∀es e,H a=some (.dn es)->es[i]?=some e->RelV x (f e),λi H=>∃es,H a=some (.dn es)/\es.length=n/\n<=i}
def zr {K:Qp}(a it:Addr)(n:Nat):Turn P w K tg (Mf a n (·.key)) [it] it (λi h=>h.IsKeyIter it a i n n) where
 mem:=`s
 obj:=λi h st b hb=>by
  have e:b=it:=by simpa using hb
  subst e;obtain⟨o,e,c,d⟩:=st;exact{o,e,λv z=>by rw[d] at z;cases z}
 keep:=λi h h' st k=>st.at λo e=>k it `s o e
 item:=by
  intro X hP hw hK hc i pins s σ H E I hf st hg;subst hP hw hK;obtain⟨es,e,x,hH,rfl,he,rx⟩:=hg;obtain⟨z,y,o,h1,h2,h3⟩:=(I.hok a _ hH);obtain⟨f0,f1,f2,f3,f4,f5⟩:=hf it `s
  refine uB (by simpa using st) h1 h3 (by simpa using he) λh' st' sb=>?_
  have I1:=I.turned (t':=s.toks) (λb o hb e=>(sb.2 b hb).trans e) f0 f1 f3 f4 f5;obtain⟨o',e',c',d'⟩:=id st';exact{e.key,rfl,sU e' c' d' `d {x,H,I1,rx,{rfl,λes' e2 q1 q2=>by rw[hH] at q1;cases q1;rw[he] at q2;cases q2;exact rx},by simpa using st',λb hb=>(hf b hb).1}}
 done:=by
  intro X hP hw hK hc i pins s σ H E I hf st hg;subst hP hw hK;obtain⟨es,hH,rfl,hl⟩:=hg;obtain⟨z,y,o,h1,h2,h3⟩:=(I.hok a _ hH);obtain⟨f0,f1,f2,f3,f4,f5⟩:=hf it `s
  exact wu (I.ok.hd hc) (by simpa using st) h1 h3 (by simpa using hl) λh' eb=>{rfl,I.turned (λb o hb e=>eb b o hb e) f0 f1 f3 f4 f5}
 self:=λ_ _ _ _ _ st h=>wpAny_pyIter_keyiter st h
noncomputable def dW (o n:Nat)(f:D->D):Walk:=λM=>match bC M o with
 |some q=>if q.2.length=n then some (q.2.map f) else none
 |none=>none
noncomputable def fg (f:D->D)(ga:GE):GW:=λZ M=>(ga Z M).bind λx M=>match x with
 | .fn o => (match bC M o with
   |some q=>.ok (dW o q.2.length f) M
   |none=>.bad)
 |_=>.bad
def Sf.get {α β:Type}{F:α->β->Prop}:∀{l:List α}{r:List β}{i:Nat}{a:α},Sf F l r->l[i]?=some a->∃b,r[i]?=some b/\F a b
 |_,_,0,_,.cons h t,e=>by cases e;exact{_,rfl,h}
 |_,_,i+1,_,.cons h t,e=>Sf.get t (i:=i) e
section
variable{fa:Fa}{X:Cx}{K:Qp}{μ:Mu}{H:Hp}{M:Mem}
def nZ (hd:eT fa)(hM:RelM fa K μ H M)(ha:μ.ob o=some a)(e:bC M o=some q):∃(es:List RO) (kvs:List (D×D)),H a=some (.dn es)/\q.2=kvs.map iF/\Sf (nA fa K μ H q.1) kvs es:=by
 unfold bC at e;split at e
 ·next ho=>
  split at e
  ·next c es em=>
   split at e
   ·next hc=>
    cases e;have eo:aC (o-5000)=o:=Nat.add_sub_cancel' ho;rcases hM.at' _ _ em with⟨b,vs,h1,_⟩|⟨b,h1,h2,⟨n,C,dx,fs,es',h3,h4,h5,h6,h7⟩|⟨c',es',kvs,h3,h4,h5,h6,h7⟩⟩
    ·have:=hM.sep _ _ h1;rw[eo,ha] at this;cases this
    ·have h6:=(List.cons.inj h6).1;have h6:=D.int.inj h6;rcases hc with rfl|rfl
     ·have:n=77:=`a
      rw[this,hd.n77] at h3;cases h3
     ·have:n=78:=`a
      rw[this,hd.n78] at h3;cases h3
    ·rw[eo,ha] at h1;cases h1;obtain⟨e1,e2⟩:=List.cons.inj h5;cases D.int.inj e1;exact⟨es',kvs,h3,e2,h6⟩
   ·cases e
  ·cases e
 ·cases e
def BJ (hd:eT fa)(hg:∀{μ:Mu}{H:Hp}{c:Int}{p:D×D}{e:RO},nA fa K μ H c p e->∃v,RelV v (g e)/\Rep fa K μ H (f (iF p)) v)(ha:μ.ob o=some a):dN fa K μ H (dW o n f) (Mf a n g):=λμ' H' M' ds x hM' e=>by
 unfold dW at e;cases eq:bC M' o with
 |none=>rw[eq] at e;cases e
 | some q =>
   rw[eq] at e;dsimp only at e;split at e
   ·next hl=>
    cases e;obtain⟨es,kvs,hH,eqs,pr⟩:=nZ hd hM' (x.obs _ _ ha) eq;have hlen:es.length=n:=by rw[<- hl,eqs,Qq];exact(Paired.length pr).symm
    refine{λi d hi=>?_,λi hi=>{es,hH,hlen,by rw[Qq,hl] at hi;exact hi}}
    rw[QL,eqs,QL] at hi;cases ep:kvs[i]? with
    |none=>rw[ep] at hi;cases hi
    | some p =>
      rw[ep] at hi;cases hi;obtain⟨en,hen,r⟩:=Sf.get pr ep;obtain⟨v,rv,rd⟩:=hg r;refine{⟨es,en,v,hH,hlen,hen,rv⟩,λy H2 ⟨e2,hy⟩=>?_};subst e2;rw[(hy es en hH hen).inj rv];exact{.refl,hM',rd}
   ·cases e
def Hq {c:Int}(h:nA fa K μ H c p e):∃v,RelV v e.key/\Rep fa K μ H (c8 (iF p)) v:=let{b,_,h1,_,h2,_}:=h;{.ref b,h1,h2}
variable{a tg:Expr}{ga:GE}{apos cpos:Pos}
abbrev Mh (fa:Fa)(X:Cx)(f:D->D)(pins:List (Addr×Obj))(σ:L2.St)(R:It->Hp->Prop)(v:Qr)(s1:Qu):Prop:=∃(b:Addr) (es:List RO) (H1:Hp),v=.ref b/\Inv X pins σ H1 s1/\H1 b=some (.dn es)/\∀g,(∀{μ:Mu}{H:Hp}{c:Int}{p:D×D}{e:RO},nA fa X.K μ H c p e->∃v,RelV v (g e)/\Rep fa X.K μ H (f (iF p)) v)->R (Mf b es.length g) H1
def HF (hd:eT fa)(q:ae (match x with|.fn o=>(match bC M1 o with|some q=>Res.ok (dW o q.2.length f) M1|none=>.bad)|_=>.bad) λw M'=>∀J H' μ',Ext μ H μ' H'->RelM fa X.K μ' H' M'->dN fa X.K μ' H' w J->R J H')(I1:Inv X pins σ H1 s1)(rv:RelV v u)(x1:Ext μ H μ1 H1)(m1:RelM fa X.K μ1 H1 M1)(r1:Rep fa X.K μ1 H1 x v):Mh fa X f pins σ R u s1:=by
 cases x with
 | fn o =>
   dsimp only at q;cases ed:bC M1 o with
   |none=>rw[ed] at q;exact q.elim
   | some qq =>
     rw[ed] at q;obtain⟨b,rfl,hb⟩:=r1;have ho:5000<=o:=by
      unfold bC at ed;split at ed
      ·assumption
      ·cases ed
     rcases hb with hb|⟨_,hb⟩
     ·rw[hd.of o ho] at hb;cases hb
     obtain⟨es,kvs,hH,e3,pr⟩:=nZ hd m1 hb ed;have hl:es.length=qq.2.length:=by rw[e3,Qq];exact(Paired.length pr).symm
     exact{b,es,H1,rv,I1,hH,λg hg=>q _ H1 μ1 x1 m1 (hl ▸ BJ hd hg hb)}
 |_=>exact q.elim
def Dw (hd:eT fa)(ha:DE fa X a ga)(I:Inv X pins σ H s)(h:tI fa X.K (fg f ga) σ H R):wpAny (model X.prog X.w) X.A (eval a X.env) (Mh fa X f pins σ R) X.xe s:=by
 obtain⟨μ,Z,M,hE,hM,h⟩:=h;obtain⟨x,M1,e,q⟩:=aE h;refine aT (ha pins s σ H (λv H1=>∃μ1,Ext μ H μ1 H1/\RelM fa X.K μ1 H1 M1/\Rep fa X.K μ1 H1 x v) I {μ,Z,M,hE,hM,?_}) λu s1 ⟨v,H1,I1,rv,μ1,x1,m1,r1⟩=>HF hd q I1 rv x1 m1 r1;rw[e];exact λv H1 μ1 x1 m1 r1=>⟨μ1,x1,m1,r1⟩
def HI (hd:eT fa)(ha:DE fa X a ga):DI fa X tg a (fg c8 ga):=λpins s σ H R I h=>by
 refine aT (Dw hd ha I h) λv s1 ⟨b,es,H1,ev,I1,hH,q⟩=>?_;subst ev;obtain⟨z,y,o,h1,h2,h3⟩:=(I1.hok b _ hH);refine AN y h1 h2 h3 ?_;refine{s1.heap.objs.size,[s1.heap.objs.size],_,_,H1,rfl,I1.kept λb o e=>Qt _ e,zr b _ es.length,{_,QM _ rfl,rfl,rfl},λb hb=>?_,q _ Hq};have e:b=s1.heap.objs.size:=by simpa using hb
 subst e;exact I1.fpOk (Qw _) (I1.hok.fresh (Qw _))
end
section
variable{fa:Fa}{X:Cx}{a tg iter:Expr}{ga:GE}{gw:GW}{apos cpos:Pos}
noncomputable def nH (a d:GE):GS:=λZ M=>(a Z M).bind λx M=>match x with
 | .cell k => tq (λz M => match M[k]? with
   |some ds=>if ds.length<sz then .ok (.next Z) (M.set k (ds++[z])) else .bad
   |none=>.bad) Z (d Z M)
 |_=>.bad
def Hy (ha:DE fa X a ga)(hd:DX fa X d gd)(hbase:attributeBase a "append" X.env (eval a X.env)=eval a X.env)(hline:(apos.endLine==cpos.line)=true)(hs:starEach [d] X.env=[(false,eval d X.env)])
 (hsw:swapsWith (.Call (.Attribute a "append" apos) [d] [] cpos) none pos.line X.env=pure false) :
 DS fa X (.Expr (.Call (.Attribute a "append" apos) [d] [] cpos) pos) (nH ga gd):=
 dR (nI (xB PySem.F.plainAttrs_list PySem.F.slot_list_append PySem.F.type_list_append mH ha (cf hd dI hs) hbase (by rw[hs];rfl) hline hs `r) hsw) λD' σ H ⟨μ,Z,M,hE,hM,h⟩=>by
  obtain⟨x,M1,e1,h1⟩:=aE h;cases x with
  | cell k =>
    refine{μ,Z,M,hE,hM,?_};rw[e1];intro vx H1 μ1 x1 hM1 rx;obtain⟨ad,rfl,hk⟩:=rx;obtain⟨ds1,ws1,_,hH1,_⟩:=hM1.mu_lt hk;refine{.inl {rfl,ws1,c7.of hH1},μ1,Z,M1,hE.ext x1,hM1,?_};cases e2:gd Z M1 with
    |bad=>rw[e2] at h1;exact h1.elim
    | err y M2 =>
      rw[e2] at h1;exact XW.ext h1 x1
    | ok z M2 =>
      rw[e2] at h1;have h2:ae (match M2[k]? with|some ds=>if ds.length<sz then Res.ok (Fl.next Z) (M2.set k (ds++[z])) else .bad|none=>.bad) (nz fa X μ H D'):=h1
      cases e:M2[k]? with
      |none=>rw[e] at h2;exact h2.elim
      | some ds =>
        rw[e] at h2;dsimp only at h2;split at h2
        ·next hz=>
         have q:=h2;intro vz H2 μ2 x2 hM2 rz;obtain⟨ws,h4,h5⟩:=hM2.at_ e (x2.mu k ad hk);refine{ad,ws,vz,rfl,rfl,h4,by rw[h5.length,<- dU];exact hz,?_}
         exact mv ((hE.ext x1).ext x2) hM2 (x2.mu k ad hk) (h5.append (.one rz)) λσ' H' μ' x' e' m'=>q σ' H' μ' ((x1.trans x2).trans x') e' m'
        ·exact h2.elim
  |_=>exact h1.elim
end
noncomputable def g4 (a b c:GE):GE:=λZ M=>(a Z M).bind λx M=>match x with
 | .fn o => if (bC M o).isSome = true then(b Z M).bind λy M => (c Z M).bind λz M => (match bC M o with
   |some q=>if isKey q.1 y=true then .ok ((cK q.2 y).getD z) M else .bad
   |none=>.bad) else .bad
 |_=>.bad
section
variable{fa:Fa}{X:Cx}{a b c:Expr}{ga gb gc:GE}
def Ks (hu:Rm X)(hd:eT fa):Mb X "dict.get" (λx vs H Q=>∃μ M o q y z y' z',RelM fa X.K μ H M/\Rep fa X.K μ H (.fn o) x/\vs=[y',z']/\Rep fa X.K μ H y y'/\Rep fa X.K μ H z z'/\bC M o=some q/\isKey q.1 y=true/\aW fa X.K μ H Q ((cK q.2 y).getD z) M):=by
 intro pins s σ H x vs v us Q I rx rv h;obtain⟨μ,M,o,q,y,z,y',z',hM,r1,rfl,r2,r3,e1,hk,wq⟩:=h;obtain⟨a,kd,kvs,xs,rfl,ho,ha,em,hH,hc,e3,dp,nd⟩:=kY hd I hM r1 e1;obtain⟨kk,ek⟩:=lM hk kd;obtain⟨b,rfl⟩:=kd.ref r2 ek;obtain⟨ys,hz,dd⟩:=KD.dict I hH dp nd;obtain rfl:v=Value.ref a:=rx;cases rv with
 |cons ry rv=>
 cases rv with
 |cons rz rv=>
 cases rv;obtain rfl:=ry;rw[e3] at wq;refine call_meetsIn PySem.F.slot_dict_get dd.of.typeIs PySem.F.entry_dict_get (PySem.F.args_dict_get_3 _ _ _) (meetsH_dict_get_default kd.knd a b ys _) {kd.room hu,kk,xs,kd.is I r2 ek,dd.of,?_};rcases dp.look ek with⟨l,g⟩|⟨d',b',v',u',l,g,ru,rd⟩
 ·rw[l] at wq;rw[g];exact{_,H,I.tok _,rz,aQ hM wq r3}
 ·rw[l] at wq;rw[g];exact{_,H,I.tok _,ru,aQ hM wq rd}
def NF (hu:Rm X)(hd:eT fa)(ha:DE fa X a ga)(hb:DE fa X b gb)(hc:DE fa X c gc)(hbase:attributeBase a "get" X.env (eval a X.env)=eval a X.env)(hline:(apos.endLine==cpos.line)=true)(hs:starEach [b,c] X.env=[(false,eval b X.env),(false,eval c X.env)])(hs1:starEach [c] X.env=[(false,eval c X.env)]):DE fa X (.Call (.Attribute a "get" apos) [b,c] [] cpos) (g4 ga gb gc):=
 bB (xB PySem.F.plainAttrs_dict PySem.F.slot_dict_get PySem.F.type_dict_get (Ks hu hd) ha (cf hb (cf hc dI hs1) (by rw[hs,hs1])) hbase (by rw[hs];rfl) hline (by rw[hs,hs1]) (by rw[hs1];rfl)) λσ H Q ⟨μ,Z,M,hE,hM,h⟩=>by
  obtain⟨x,M1,e1,h1⟩:=aE h;cases x with
  | fn o =>
    dsimp only at h1;split at h1
    ·next hz=>
     obtain⟨q0,e0⟩:=Option.isSome_iff_exists.mp hz;obtain⟨y,M2,e2,h2⟩:=aE h1;obtain⟨z,M3,e3,h3⟩:=aE h2;refine{μ,Z,M,hE,hM,?_};rw[e1];intro v H1 μ1 x1 hM1 r1;have ho:5000<=o:=by
      unfold bC at e0;split at e0
      ·assumption
      ·cases e0
     obtain⟨p,rfl,hp⟩:=id r1;have hp:μ1.ob o=some p:=by
      rcases hp with hp|⟨_,hp⟩
      ·rw[hd.of o ho] at hp;cases hp
      ·exact hp
     obtain⟨es,_,hH,_⟩:=nZ hd hM1 hp e0;refine{.inr (.inr (.inl {rfl,.inr (.inr ⟨es,hH⟩)})),μ1,Z,M1,hE.ext x1,hM1,?_};rw[e2];intro y' H2 μ2 x2 hM2 r2;refine{μ2,Z,M2,(hE.ext x1).ext x2,hM2,?_};rw[e3];intro z' H3 μ3 x3 hM3 r3;cases e4:bC M3 o with
     |none=>rw[e4] at h3;exact h3.elim
     | some q =>
       rw[e4] at h3;dsimp only at h3;split at h3
       ·next hk=>exact{μ3,M3,o,q,y,z,_,z',hM3,(r1.ext x2).ext x3,rfl,r2.ext x3,r3,e4,hk,aW.ext (aW.ext (aW.ext h3 x1) x2) x3}
       ·exact h3.elim
    ·exact h1.elim
  |_=>exact h1.elim
end
noncomputable def jQ:List Int->List Int->Bool
 |[],[]=>false
 |[],_::_=>true
 |_::_,[]=>false
 |a::x,b::y=>if (a==b)=true then jQ x y else decide (a<b)
noncomputable def rH (A:RW)(s:Qu)(x y:Qr)(k:Bool):Prop:=∀(prog:Rp) (w:Rr) (E:Qr->Qu->Prop) (Q:Qr->Qu->Prop),Q (.bool k) s->wpAny (model prog w) A (richCompare .Lt x y) Q E s
def ints_get (h:SH us is)(i:Nat)(hi:i<us.length):∃a t,us[i]?=some (.int a t)/\is.drop i=a::is.drop (i+1):=by
 induction h generalizing i with
 |nil=>exact absurd hi (R4 _)
 | cons a t _ ih =>
   cases i with
   |zero=>exact⟨a,t,rfl,rfl⟩
   |succ i=>exact ih i (Nat.lt_of_succ_lt_succ hi)
def Hd (l b:Addr)(us vs:List Qr)(is js:List Int)(n n2:Nat)(dd dd2:Option Addr)(sl sl2:Array (Option Qr))(hu:SH us is)(hv:SH vs js):∀(k i:Nat),us.length-i=k->i<=us.length->i<=vs.length->
 Meets (Builtin.«list.__eq__.loop» {[.ref l,.ref b,rawInt i,rawInt 0],[]}) (λ_ R s=>s.heap.get? l=some {.type "list",dd,.seq us.toArray n,sl}/\s.heap.get? b=some {.type "list",dd2,.seq vs.toArray n2,sl2}/\R (.ok (.ret (.bool (jQ (is.drop i) (js.drop i))))) s):=by
 intro k;induction k with
 | zero =>
   intro i hk h1 h2 prog w A R s h;obtain⟨hp,g,d,tk,os⟩:=s;obtain⟨hl,hb,h⟩:=h;wp_walk using Q1 hl,Q1 hb
   have e1:us.toArray[((i:Nat):Int).toNat]?=none:=by simp;omega
   rw[e1];wp_walk using Q1 hl,Q1 hb
   have el:=hv.length;rw[List.drop_of_length_le (show is.length<=i by rw[<- hu.length];omega)] at h
   refine cast (congrArg (λz=>R (.ok (.ret (.bool z))) _) ?_) h;cases e:js.drop i with
   | nil =>
     have:=List.drop_eq_nil_iff.mp e;simp[jQ];omega
   | cons c r =>
     have:i<js.length:=by
      rcases R5 i js.length with z|z
      ·exact z
      ·rw[List.drop_of_length_le z] at e;cases e
     simp[jQ];omega
 | succ k ih =>
   intro i hk h1 h2 prog w A R s h;obtain⟨hp,g,d,tk,os⟩:=s;obtain⟨hl,hb,h⟩:=h;obtain⟨a,t,ea,da⟩:=ints_get hu i `a
   wp_walk using Q1 hl,Q1 hb
   have e1:us.toArray[((i:Nat):Int).toNat]?=some (.int a t):=by simpa using ea
   rw[da] at h;rcases R5 i vs.length with z|z
   ·obtain⟨c,u,ec,dc⟩:=ints_get hv i z;have e2:vs.toArray[((i:Nat):Int).toNat]?=some (.int c u):=by simpa using ec
    rw[e1,e2];rw[dc] at h;refine tqa (PySem.SeqAt.EqAt.int_int a t c u prog w _ _ ?_);cases hb':(a==c) with
    | true =>
      rw[show jQ (a::is.drop (i+1)) (c::js.drop (i+1))=jQ (is.drop (i+1)) (js.drop (i+1)) from if_pos hb'] at h;wp_walk
      rw[show((i:Int)+1)=((i+1:Nat):Int) from rfl];exact{plainId_quiet MeetsSeq3.plain_eq_loop _,codeAny_builtin MeetsSeq3.entry_eq_loop (by
       rw[So MeetsSeq3.plain_eq_loop _];exact ih (i+1) `a `a z prog w A R _ ⟨hl,hb,h⟩)}
    | false =>
      rw[show jQ (a::is.drop (i+1)) (c::js.drop (i+1))=decide (a<c) from if_neg (by rw[hb'];exact QR)] at h
      wp_walk using Q1 hl,Q1 hb
      rw[e1,e2];refine tqa (wpAny_lt_int ?_);exact tqb h
   ·have e2:vs.toArray[((i:Nat):Int).toNat]?=none:=by simp;omega
    rw[e1,e2];wp_walk using Q1 hl,Q1 hb
    rw[List.drop_of_length_le (show js.length<=i by rw[<- hv.length];omega)] at h
    refine cast (congrArg (λz=>R (.ok (.ret (.bool z))) _) ?_) h;simp[jQ];omega
def rH.lists (hl:s.heap.IsList l us.toArray)(hb:s.heap.IsList b vs.toArray)(hu:SH us is)(hv:SH vs js)(hr:A.units<cLine):rH A s (.ref l) (.ref b) (jQ is js):=λprog w E Q h=>by
 obtain⟨⟨cls,dd,data,sl⟩,ho,hc,n,hd⟩:=id hl;obtain⟨⟨cls2,dd2,data2,sl2⟩,ho2,hc2,n2,hd2⟩:=id hb;cases hc;cases hd;cases hc2;cases hd2;have ml:Meets (Builtin.«list.__lt__» {[.ref l,.ref b],[]}) (λ_ R s=>s.heap.get? l=some {.type "list",dd,.seq us.toArray n,sl}/\s.heap.get? b=some {.type "list",dd2,.seq vs.toArray n2,sl2}/\R (.ok (.ret (.bool (jQ is js)))) s):=by
  intro prog w A R s h;obtain⟨hp,g,d,tk,os⟩:=s;obtain⟨h1,h2,h⟩:=h;have f3:=AutoSeq1.sub_list_list;wp_walk using Q1 h1,Q1 h2
  exact{plainId_quiet MeetsSeq3.plain_eq_loop _,codeAny_builtin MeetsSeq3.entry_eq_loop (by
   rw[So MeetsSeq3.plain_eq_loop _];exact Hd l b us vs is js n n2 dd dd2 sl sl2 hu hv _ 0 rfl (RB _) (RB _) prog w A R _ ⟨h1,h2,h⟩)}
 exact richCompare_meets_room {_,ho,rfl} {_,ho2,rfl} F.slot_list_lt F.entry_list_lt (F.args_list_lt_2 _ _) ml {ho,ho2,show Value.bool (jQ is js)≠Value.notImplemented/\Q (.bool (jQ is js)) s from{(λx=>nomatch x),h}} hr
def Dj (h:SH us is)(h':SH us js):is=js:=by
 induction h generalizing js with
 |nil=>cases h';rfl
 |cons a t _ ih=>cases h' with|cons _ _ r=>rw[ih r]
def mQ (h:SH us is)(hj:j<us.length):∃t,us[j]=.int (is.getD j 0) t:=by
 induction h generalizing j with
 |nil=>exact absurd hj (R4 _)
 | cons a t _ ih =>
   cases j with
   |zero=>exact⟨t,rfl⟩
   |succ j=>exact ih (Nat.lt_of_succ_lt_succ hj)
def wY:∀(is js:List Int),is.length=js.length->((List.range is.length).all λj=>is.getD j 0==js.getD j 0)=(is==js)
 |[],[],_=>rfl
 | a :: is, b :: js, h => by
   rw[RY,List.range_succ_eq_map,RN,List.all_map];have:=wY is js (Nat.succ.inj h);show((a==b)&&_)=((a==b)&&(is==js));rw[<- this];rfl
def EqAt.intLists (hl:s.heap.IsList l us.toArray)(hb:s.heap.IsList b vs.toArray)(hu:SH us is)(hv:SH vs js)(hr:A.units<cLine):PySem.SeqAt.EqAt A s (.ref l) (.ref b) (is==js):=by
 by_cases e:l=b
 ·subst e;obtain⟨o,e1,_,n,d1⟩:=hl;obtain⟨o',e2,_,n',d2⟩:=hb;rw[e1] at e2;cases e2;rw[d1] at d2;have:=(Data.seq.inj d2).1;have:us=vs:=by simpa using this
  subst this;rw[Dj hu hv,beq_self_eq_true];exact PySem.SeqAt.EqAt.same _
 ·refine PySem.SeqAt.EqAt.of_refs e ?_;have l1:=hu.length;have l2:=hv.length;by_cases z:us.length=vs.length
  ·have r:=PySem.SeqAt.RcAt.lists hl hb (by simpa using z) hr λj h1 h2=>by
    obtain⟨t,x1⟩:=mQ hu (by simpa using h1)
    obtain⟨t',x2⟩:=mQ hv (by simpa using h2)
    have y1:us.toArray[j]=.int (is.getD j 0) t:=by simpa using x1
    have y2:vs.toArray[j]=.int (js.getD j 0) t':=by simpa using x2
    rw[y1,y2];exact PySem.SeqAt.EqAt.int_int _ t _ t'
   rw[show us.toArray.size=is.length by simp[l1],wY is js `a] at r
   exact r
  ·have r:=PySem.SeqAt.RcAt.lists_lengths hl hb (by simpa using z) hr
   rw[show(is==js)=false from RZ.mpr λy=>z (by rw[l1,l2,y])]
   exact r
noncomputable def mJ (a:Int)(is:List Int)(b:Int)(js:List Int):Bool:=if (a==b)=true then(if (is==js)=true then false else jQ is js) else decide (a<b)
def rH.pairs {a c:Int}(hp:s.heap.IsTuple p #[.int a t,.ref l])(hq:s.heap.IsTuple q #[.int c u,.ref b])(hl:s.heap.IsList l us.toArray)(hb:s.heap.IsList b vs.toArray)(hu:SH us is)(hv:SH vs js)(hr:A.units<cLine)(hr2:A.in1.units<cLine):rH A s (.ref p) (.ref q) (mJ a is c js):=λprog w E Q h=>by
 obtain⟨⟨cls,dd,data,sl⟩,ho,hc,n,hd⟩:=id hp;obtain⟨⟨cls2,dd2,data2,sl2⟩,ho2,hc2,n2,hd2⟩:=id hq;cases hc;cases hd;cases hc2;cases hd2;have ml:Meets (Builtin.«tuple.__lt__» {[.ref p,.ref q],[]}) (λA R s=>s.heap.get? p=some {.type "tuple",dd,.seq #[.int a t,.ref l] n,sl}/\s.heap.get? q=some {.type "tuple",dd2,.seq #[.int c u,.ref b] n2,sl2}/\s.heap.IsList l us.toArray/\s.heap.IsList b vs.toArray/\A.in1.units<cLine/\R (.ok (.ret (.bool (mJ a is c js)))) s):=.of_wp λprog w A R s h=>by
  obtain⟨hp,g,d,tk,os⟩:=s;obtain⟨h1,h2,k1,k2,k3,h⟩:=h;have f2:=AutoSeq1.sub_tuple_tuple;wp_walk using Q1 h1,Q1 h2
  refine PySem.SeqAt.EqAt.int_int a t c u prog w _ _ ?_;cases hb':(a==c) with
  | false =>
    rw[show mJ a is c js=decide (a<c) from if_neg (by rw[hb'];exact QR)] at h
    exact tqa (wpAny_rule (tqa (wpAny_lt_int (tqa (tqb (tqb (tqb (tqb {_,rfl,h}))))))))
  | true =>
    rw[show mJ a is c js=(if (is==js)=true then false else jQ is js) from if_pos hb'] at h;refine tqb (tqa (tqa (EqAt.intLists k1 k2 hu hv k3 prog w _ _ ?_)));cases hj:(is==js) with
    | false =>
      rw[hj,if_neg QR] at h;exact tqa (wpAny_rule (tqa (rH.lists k1 k2 hu hv k3 prog w _ _ (tqa (tqb (tqb (tqb (tqb {_,rfl,h}))))))))
    | true =>
      rw[hj,if_pos rfl] at h;exact tqb (tqb (tqb {_,rfl,h}))
 exact richCompare_meets_room {_,ho,rfl} {_,ho2,rfl} F.slot_tuple_lt F.entry_tuple_lt (F.args_tuple_lt_2 _ _) ml {ho,ho2,hl,hb,hr2,show Value.bool (mJ a is c js)≠Value.notImplemented/\Q (.bool (mJ a is c js)) s from{(λx=>nomatch x),h}} hr
section
variable{prog:Rp}{w:Rr}{A:RW}{I p S:Addr}{items:Array Qr}{R:Result->Qu->Prop}{kw:List (Str×Qr)}
def nM:(toString "min"++toString ".loop":String)="min.loop":=`d
noncomputable def l7 (I S:Addr)(h h':Heap):Prop:=∀(b:Addr) o,b≠I->b≠S->h.get? b=some o->h'.get? b=some o
def CW (hh:A.in1.handled=none)(hne:p≠I)(hSI:S≠I)(hSp:S≠p)(bt:Nat->Nat->Bool)(G:Heap->Prop)(hG:∀h h',G h->l7 I S h h'->G h')
 (hcmp:∀i j vi vj (s:Qu) (Q:Qr->Qu->Prop) (E:Qr->Qu->Prop),items[i]?=some vi->items[j]?=some vj->G s.heap->Q (.bool (bt i j)) s->wpAny (model prog w) A.in1 (richCompare .Lt vi vj) Q E s) :
 ∀(k j:Nat) (s:Qu) (vb:Qr) (c:Nat),items.size-(j+1)=k->j+1<=items.size->s.heap.IsListIter I p (j+1)->s.heap.IsList p items->items[argBest bt j]?=some vb->s.heap.get? S=some {.type "list",none,.seq #[vb,vb] c,#[]}->G s.heap->
 (∀v h' tk,items[argBest bt (items.size-1)]?=some v->l7 I S s.heap h'->R (.ok (.ret v)) {s with heap:=h',toks:=tk})->codeAny (model prog w) A (.builtin "min.loop" {[.ref I,.none,.ref S],kw}) R s:=by
 have W:=Walks.list (prog:=prog) (w:=w) hh I p hne items;intro k;induction k with
 | zero =>
   intro j s vb c hk hj hi hl hb hS g hR;have hin:j+1=items.size:=`a
   refine codeAny_builtin F.entry_min_loop ?_;rw[So SG _];refine tqa (wpAny_seqItems hS rfl ?_);refine tqa (wpAny_tryCatch (W.done s _ _ {hin ▸ hi,hl} λh' tk hk'=>?_));have hS':=hk' S _ (by simpa using hSI) hS
   refine tqa (wpAny_updateSeq hS' rfl (tqa (wpAny_letGo (tqb ?_))));exact hR vb _ tk (by rw[<- hin];exact hb) λb o n1 n2 e=>(Rn _ _ (RC n2)).trans (hk' b o (by simpa using n1) e)
 | succ k ih =>
   intro j s vb c hk hj hi hl hb hS g hR;have hlt:j+1<items.size:=`a
   refine codeAny_builtin F.entry_min_loop ?_;rw[So SG _];refine tqa (wpAny_seqItems hS rfl ?_);refine tqa (wpAny_tryCatch (W.item (j+1) s _ _ hlt ⟨hi,hl⟩ λv h' tk hP hst' hk'=>?_));have hS':=hk' S _ (by simpa using hSI) hS
   have st1:l7 I S s.heap h':=λb o n1 _ e=>hk' b o (by simpa using n1) e
   show wpAny _ A.in1 (tryCatch (holding [v,v] (richCompare .Lt v vb >>= _)) _ >>= _) _ _ _;refine tqa (wpAny_tryCatch (tqo (tqa (hcmp (j+1) (argBest bt j) v vb _ _ _ hP hb (hG _ _ g st1) ?_))));refine tqa (tqo (tqp ?_));refine tqa (wpAny_letGo (tqb ?_));cases hbb:bt (j+1) (argBest bt j) with
   | true =>
     refine tqa (wpAny_updateSeq hS' rfl (tqa (wpAny_letGo ?_)));rw[nM];have st2:l7 I S s.heap (h'.update S (Obj.mapSeq λ_=>#[v,v])):=λb o n1 n2 e=>(Rn _ _ (RC n2)).trans (st1 b o n1 n2 e);refine tqb {plainId_quiet SG _,ih (j+1) _ v _ `a hlt (hst'.1.at λo e=>(Rn _ _ hSI).trans e) (hst'.2.at λo e=>(Rn _ _ hSp).trans e) (by simp only[argBest,hbb,if_true];exact hP) (Ry _ hS' rfl) (hG _ _ g st2) λv' h'' tk'' hP' hk''=>?_}
     exact hR v' h'' tk'' hP' λb o n1 n2 e=>hk'' b o n1 n2 (st2 b o n1 n2 e)
   | false =>
     refine tqa (wpAny_letGo ?_);rw[nM];refine tqb {plainId_quiet SG _,ih (j+1) _ vb c `a hlt hst'.1 hst'.2 (by simp only[argBest,hbb,Bool.false_eq_true,if_false];exact hb) hS' (hG _ _ g st1) λv' h'' tk'' hP' hk''=>?_}
     exact hR v' h'' tk'' hP' λb o n1 n2 e=>hk'' b o n1 n2 (st1 b o n1 n2 e)
def AA (hh:A.in1.handled=none)(hne:p≠I)(hSI:S≠I)(hSp:S≠p)(bt:Nat->Nat->Bool)(G:Heap->Prop)(hG:∀h h',G h->l7 I S h h'->G h')
 (hcmp:∀i j vi vj (s:Qu) (Q:Qr->Qu->Prop) (E:Qr->Qu->Prop),items[i]?=some vi->items[j]?=some vj->G s.heap->Q (.bool (bt i j)) s->wpAny (model prog w) A.in1 (richCompare .Lt vi vj) Q E s)
 (hi:s.heap.IsListIter I p 0) (hl:s.heap.IsList p items) (hS:s.heap.get? S=some {.type "list",none,.seq #[] c,#[]}) (g:G s.heap)
 (hR:∀v h' tk,(items.size=0/\v=dv\/items[argBest bt (items.size-1)]?=some v)->l7 I S s.heap h'->R (.ok (.ret v)) {s with heap:=h',toks:=tk}):codeAny (model prog w) A (.builtin "min.loop" {[.ref I,.none,.ref S],[(kn,dv)]}) R s:=by
 have W:=Walks.list (prog:=prog) (w:=w) hh I p hne items;refine codeAny_builtin F.entry_min_loop ?_;rw[So SG _];refine tqa (wpAny_seqItems hS rfl ?_);rcases Nat.eq_zero_or_pos items.size with hz|hn
 ·refine tqa (wpAny_tryCatch (W.done s _ _ {hz ▸ hi,hl} λh' tk hk'=>?_));refine tqa (wpAny_rule (tqb ?_));exact hR dv h' tk (.inl ⟨hz,rfl⟩) λb o n1 _ e=>hk' b o (by simpa using n1) e
 ·refine tqa (wpAny_tryCatch (W.item 0 s _ _ hn ⟨hi,hl⟩ λv h' tk hP hst' hk'=>?_));have hS':=hk' S _ (by simpa using hSI) hS
  have st2:l7 I S s.heap (h'.update S (Obj.mapSeq λ_=>#[v,v])):=λb o n1 n2 e=>(Rn _ _ (RC n2)).trans (hk' b o (by simpa using n1) e)
  show wpAny _ A.in1 (updateSeq S (λ_=>#[v,v]) >>= _) _ _ _;refine tqa (wpAny_updateSeq hS' rfl ?_);rw[nM];refine tqb {plainId_quiet SG _,CW hh hne hSI hSp bt G hG hcmp _ 0 _ v _ rfl hn (hst'.1.at λo e=>(Rn _ _ hSI).trans e) (hst'.2.at λo e=>(Rn _ _ hSp).trans e) hP (Ry _ hS' rfl) (hG _ _ g st2) λv' h'' tk'' hP' hk''=>?_};exact hR v' h'' tk'' (.inr hP') λb o n1 n2 e=>hk'' b o n1 n2 (st2 b o n1 n2 e)
end
def Br (a v:Qr):argsOk "min" {[a],[(Str.ofString "default",v)]}:=by unfold argsOk;kernel_rfl
def Bi (hh:A.in1.handled=none)(hl:s.heap.IsList p items)(hp:p<s.heap.objs.size)(bt:Nat->Nat->Bool)
 (hcmp:∀i j vi vj (s':Qu) (Q:Qr->Qu->Prop) (E:Qr->Qu->Prop),items[i]?=some vi->items[j]?=some vj->(∀b o,s.heap.get? b=some o->s'.heap.get? b=some o)->Q (.bool (bt i j)) s'->wpAny (model prog w) A.in1 (richCompare .Lt vi vj) Q E s')
 (hQ:∀v h' tk,(items.size=0/\v=dv\/items[argBest bt (items.size-1)]?=some v)->(∀b o,s.heap.get? b=some o->h'.get? b=some o)->Q v {s with heap:=h',toks:=tk}):wpAny (model prog w) A (call (.builtin "min") [.ref p] [(Str.ofString "default",dv)]) Q E s:=by
 refine kmk_tree F.kind_min F.plain_min F.entry_min (Br _ _) ?_;refine tqa (wpAny_of_eq (rfl) ?_);refine tqa (tqb ?_);refine tqa (wpAny_pyIter_list hl ?_);refine tqa (wpAny_newObj_type ?_);rw[nM];have lt:∀{b:Addr}{o:Obj},s.heap.get? b=some o->b≠s.heap.objs.size/\b≠s.heap.objs.size+1:=λe=>{QY (QK e),QY (RP (QK e))};have hz:(s.heap.push {cls:=.type "list_iterator",data:=.fields #[.ref p,.int 0 0]}).objs.size=s.heap.objs.size+1:=Sg ..;refine tqb {plainId_quiet SG _,?_};rw[hz];have up:∀{b:Addr}{o:Obj},s.heap.get? b=some o->((s.heap.push {cls:=.type "list_iterator",data:=.fields #[.ref p,.int 0 0]}).push {cls:=.type "list",data:=.seq #[]}).get? b=some o:=λe=>Qt _ (Qt _ e);refine AA hh (QY hp) (Nat.succ_ne_self _) (Rz (RP hp)) bt (λh=>∀b o,s.heap.get? b=some o->h.get? b=some o) (λh h' g st b o e=>st b o (lt e).1 (lt e).2 (g b o e)) hcmp (c:=0) {_,Qt _ (QM _ rfl),rfl,rfl} (hl.at λo e=>up e) ?_ (λb o e=>up e) λv h' tk hv st=>hQ v h' tk hv λb o e=>st b o (lt e).1 (lt e).2 (up e);have:=QM (s.heap.push {cls:=.type "list_iterator",data:=.fields #[.ref p,.int 0 0]}) (o:={cls:=.type "list",data:=.seq #[]}) rfl;rw[hz] at this;exact this
noncomputable def rT (M:Mem):D->Option (Int×List Int)
 |.tup [.int q,r]=>((eB M r).bind intsOf).map λis=>(q,is)
 |_=>none
noncomputable def qE (M:Mem):List D->Option (List (Int×List Int))
 |[]=>some []
 |d::ds=>(rT M d).bind λk=>(qE M ds).map (k::·)
noncomputable def mK (ks:List (Int×List Int))(i j:Nat):Bool:=mJ (ks.getD i (0,[])).1 (ks.getD i (0,[])).2 (ks.getD j (0,[])).1 (ks.getD j (0,[])).2
noncomputable def lP (a:GE):GE:=λZ M=>(a Z M).bind λx M=>match eB M x with
 | some ds => (match qE M ds with
   |some ks=>.ok (ds.getD (argBest (mK ks) (ds.length-1)) .non) M
   |none=>.bad)
 |none=>.bad
def Ai:∀{ds:List D}{ks:List (Int×List Int)},qE M ds=some ks->∀(i:Nat) (d:D),ds[i]?=some d->rT M d=some (ks.getD i (0,[]))
 |[],_,_,_,_,h=>by simp at h
 | d :: ds, ks, e, i, d', h => by
   obtain⟨k,e1,e2⟩:=Ru.mp e;obtain⟨ks',e3,rfl⟩:=QA.mp e2;cases i with
   |zero=>cases h;exact e1
   |succ i=>exact Ai e3 i d' h
def JO (e:rT M d=some k):∃r ds,d=.tup [.int k.1,r]/\eB M r=some ds/\intsOf ds=some k.2:=by
 unfold rT at e;split at e
 ·next q r=>
  obtain⟨is,e1,rfl⟩:=QA.mp e;obtain⟨ds,e2,e3⟩:=Ru.mp e1;exact⟨r,ds,rfl,e2,e3⟩
 ·cases e
section
variable{fa:Fa}{X:Cx}{a:Expr}{ga:GE}{pos p kp cp:Pos}{ci:Nat}
def Js (hu:Rm X)(hc:X.calm=true)(hg:Gl X "min")(hm:X.mg "min"=none)(ha:DE fa X a ga)(hs:starEach [a] X.env=[(false,eval a X.env)]):DE fa X (.Call (.Name "min" p) [a] [{some "default",.Constant .none ci cp,kp}] pos) (lP ga):=by
 intro pins s σ H Q I ⟨μ,Z,M,hE,hM,h⟩;obtain⟨x,M1,e,q⟩:=aE h;have hA:=cf ha dI hs pos pins s σ H (λvs H1=>∃v μ1,vs=[v]/\Ext μ H μ1 H1/\RelM fa X.K μ1 H1 M1/\Rep fa X.K μ1 H1 x v) I {μ,Z,M,hE,hM,by rw[e];exact λv H1 μ1 x1 m1 r1=>⟨v,μ1,rfl,x1,m1,r1⟩}
 refine wpAny_Call_Name_kw (gU I hg hm boot_min ?_);refine callWith_kw (aT hA λus s1 ⟨vs,H1,I1,r1,v,μ1,ev,x1,m1,rv⟩=>?_) (by rw[hs];rfl) (by rw[hs];rfl)
 subst ev;cases r1 with
 |cons r1 rr=>
 cases rr;refine kws_cons ?_;refine aT (Fh pins s1 σ H1 (λv' H2=>∃μ2,Ext μ1 H1 μ2 H2/\RelM fa X.K μ2 H2 M1/\v'=.non) I1 {μ1,Z,M1,hE.ext x1,m1,λv' H2 μ2 x2 m2 r2=>⟨μ2,x2,m2,r2⟩}) λnv s2 ⟨nx,H2,I2,r2,μ2,x2,m2,en⟩=>?_;subst en;obtain rfl:=(r2);refine kws_nil ?_;cases e0:eB M1 x with
 |none=>rw[e0] at q;exact q.elim
 | some ds =>
   rw[e0] at q;cases ek:qE M1 ds with
   |none=>dsimp only at q;rw[ek] at q;exact q.elim
   | some ks =>
     dsimp only at q;rw[ek] at q;have rv2:=rv.ext x2;obtain⟨ad,vs,rfl,sq,rl⟩:=bG m2 rv2 e0;obtain rfl:=r1;obtain⟨its,rvs,pl,hz⟩:=I2.list sq;have hlen:its.length=ds.length:=by rw[<- rvs.length,rl.length]
     have hAt:∀(i:Nat) (v:Qr),its.toArray[i]?=some v->∃d v',ds[i]?=some d/\Rep fa X.K μ2 H2 d v'/\RelV v' v:=λi v hv=>by
      have hv:its[i]?=some v:=by simpa using hv
      have hi:i<vs.length:=by rw[rvs.length];exact(Qo.mp hv).1
      obtain⟨d,ed,rd⟩:=rl.getV (QG hi);obtain⟨u,eu,ru⟩:=rvs.get (QG hi);rw[hv] at eu;cases eu;exact{d,_,ed,rd,ru}
     have pair:∀(i:Nat) (v:Qr) (s':Qu),its.toArray[i]?=some v->(∀b o,s2.heap.get? b=some o->s'.heap.get? b=some o)->∃(p l:Addr) (t:Tok) (us:List Qr),v=.ref p/\s'.heap.IsTuple p #[.int (ks.getD i (0,[])).1 t,.ref l]/\s'.heap.IsList l us.toArray/\SH us (ks.getD i (0,[])).2:=λi v s' hv g=>by
      obtain⟨d,v',ed,rd,ru⟩:=hAt i v hv;obtain⟨r,rs,rfl,e2,e3⟩:=JO (Ai ek i d ed);obtain⟨tp,tvs,rfl,tsq,trl⟩:=rd;obtain rfl:=(ru);have I':Inv X pins σ H2 {s2 with heap:=s'.heap,toks:=s2.toks}:=I2.kept g
      obtain⟨tits,trv,tpl,_⟩:=I'.tuple tsq;obtain⟨w1,ws1,rfl,q1,trl⟩:=trl;obtain⟨w2,ws2,rfl,q2,trl⟩:=trl;cases trl;obtain rfl:=(q1);obtain⟨l,lvs,rfl,lsq,lrl⟩:=bG m2 q2 e2;cases trv with
      |cons t1 trv=>
      cases trv with
      |cons t2 trv=>
      cases trv;obtain⟨t,rfl⟩:=t1;obtain rfl:=t2;obtain⟨lits,lrv,lpl,_⟩:=I'.list lsq;exact{tp,l,t,lits,rfl,tpl,lpl.isList,oM e3 lrl lrv}
     refine Bi (I2.ok.hd hc) pl.isList pl.lt (mK ks) (λi j vi vj s' Q' E' hi hj g hQ=>?_) λv h' tk hv g=>?_
     ·obtain⟨p1,l1,t1,N4,rfl,a1,a2,a3⟩:=pair i vi s' hi g;obtain⟨p2,l2,t2,N3,rfl,b1,b2,b3⟩:=pair j vj s' hj g;exact rH.pairs a1 b1 a2 b2 a3 b3 (by show X.A.units+1<cLine;omega) (by show X.A.units+1+1<cLine;omega) _ _ _ _ hQ
     ·rcases hv with⟨hz0,rfl⟩|hv
      ·have:ds=[]:=Sl.mp (by rw[<- hlen];simpa using hz0)
       subst this;exact{.non,H2,I2.kept g,rfl,aQ m2 (aW.ext (aW.ext q x1) x2) rfl}
      ·obtain⟨d,v',ed,rd,ru⟩:=hAt _ v hv;have es:its.toArray.size=ds.length:=by simpa using hlen
       rw[es] at ed;have q:aW fa X.K μ H Q (ds.getD (argBest (mK ks) (ds.length-1)) .non) M1:=q;rw[Rw,ed] at q;exact{v',H2,I2.kept g,ru,aQ m2 (aW.ext (aW.ext q x1) x2) rd}
end
section
variable{prog:Rp}{w:Rr}{A:RW}{E:Qr->Qu->Prop}{s:Qu}{d:Addr}{od:Obj}{es:Array RO}{ep:Nat}
def Iu (hh:A.handled=none){I:Addr}(hne:d≠I)(hdd:od.data=.dict es ep):Walks prog w A I [I,d] [I] es.size (λi v=>∃e,es[i]?=some e/\v=e.key) (λi h=>h.IsKeyIter I d i es.size ep/\h.get? d=some od) where
 sub:=λb hb=>by rw[QF.mp hb];simp
 frame:=λi h h' st k=>{st.1.at λo e=>k I `s o e,k d `s _ st.2}
 item:=λi s Q E hi st hQ=>uB st.1 st.2 hdd (Se hi) λh' hit hs=>hQ _ h' s.toks {_,Se hi,rfl} {hit,(hs.2 d hne).trans st.2} λb o hb e=>hs.extBut b o (λz=>hb (by rw[z];simp)) e
 done:=λs Q E st hQ=>wu hh st.1 st.2 hdd (Qw _) λh' x=>hQ h' s.toks λb o hb e=>x b o (λz=>hb (by rw[z];simp)) e
 self:=λi s Q E st hQ=>wpAny_pyIter_keyiter st.1 hQ
def vH {R:Result->Qu->Prop}(hh:A.handled=none)(hsm:(d==sysModules)=false)(ho:s.heap.get? d=some od)(hc:od.ExactDict)(hdd:od.data=.dict es ep)(hn:es.size<=sizeLine)(S:Addr)(hSd:S≠d)(res:Qr)(c₀:Nat)(hS:s.heap.get? S=some {cls:=.type "list",data:=.seq #[] c₀})
 (hR:∀h' tk acc c',(∀b o,b≠S->s.heap.get? b=some o->h'.get? b=some o)->h'.get? S=some {.type "list",none,.seq acc c',#[]}->ItemsOf (λi v=>∃e,es[i]?=some e/\v=e.key) acc es.size->R (.ok (.ret res)) {s with heap:=h',toks:=tk}) :
 wpAny (model prog w) A.in1 (Builtin.List.listExtendWith (.ref S) (.ref d) res) (λfin s'=>match fin with|.done f=>R (.ok f) s'|.again c'=>c'.quiet=true/\codeAny (model prog w) A c' R s') (λe s'=>R (.error e) s') s:=by
 have hT:s.TypeIs (.ref d) "dict":=⟨od,ho,hc.1⟩;have hSI:=QY (QK hS);have hdI:=QY (QK ho);unfold Builtin.List.listExtendWith;refine tqa (wpAny_typeOf hT ?_);have h1:Builtin.List.listSameRef (.ref S) (.ref d)=false:=by simp[Builtin.List.listSameRef,hSd]
 have h2:(Value.type "dict"==Value.type "list")=false:=`d
 have h3:(Value.type "dict"==Value.type "tuple")=false:=`d
 simp only[h1,h2,h3,Bool.or_false,Bool.false_eq_true,if_false];refine tqa (AN hsm ho hc hdd ?_);have hT2:Shared.TypeIs {s with heap:=s.heap.push {cls:=.type "dict_keyiterator",data:=.fields #[.ref d,.int 0 0,.int es.size 0,.int ep 0]}} (.ref d) "dict":={od,Qt _ ho,hc.1}
 refine tqa (tqo ?_);unfold Builtin.List.listLengthHint;refine tqa (wpAny_specialOf hT2 PySem.F.slot_dict_len.lookup ?_)
 wp_delta
 refine tqa (wpAny_isInstance (b:=true) hT2 (by rw[isSubtype_type];kernel_rfl) ?_)
 show wpAny _ _ (typeOf (Value.ref d) >>= _) _ _ _;refine tqa (wpAny_typeOf hT2 ?_);refine tqb ?_;rw[if_pos `d]
 have hSf:S∉[s.heap.objs.size,d]:=λz=>by
  rcases Rf.mp z with z|z
  ·exact hSI z
  ·exact hSd (QF.mp z)
 generalize hh1:s.heap.push {cls:=.type "dict_keyiterator",data:=.fields #[.ref d,.int 0 0,.int es.size 0,.int ep 0]}=h1;have up:∀{b:Addr}{o:Obj},s.heap.get? b=some o->h1.get? b=some o:=λe=>by rw[<- hh1];exact Qt _ e
 have hit:h1.get? s.heap.objs.size=some {cls:=.type "dict_keyiterator",data:=.fields #[.ref d,.int 0 0,.int es.size 0,.int ep 0]}:=by rw[<- hh1];exact QM _ rfl
 refine tqa (wpAny_rule (tqa ?_));show wpAny _ _ (updateSeq S (·.push .none) >>= λ_=>updateSeq S (·.pop)) _ _ {s with heap:=h1}
 refine tqa (wpAny_updateSeq (up hS) rfl ?_);have hS2:=Ry (Obj.mapSeq (·.push Value.none)) (up hS) rfl;refine wpAny_updateSeq hS2 rfl ?_;have hS3:=Ry (Obj.mapSeq (·.pop)) hS2 rfl;have oth:∀{b:Addr}{o:Obj},b≠S->h1.get? b=some o->((h1.update S (Obj.mapSeq (·.push Value.none))).update S (Obj.mapSeq (·.pop))).get? b=some o:=λhb e=>(Rn _ _ (RC hb)).trans ((Rn _ _ (RC hb)).trans e);refine tqb {plainId_quiet PySem.F.plain_extend_loop _,codeAny_extend_loopS (Iu (A:=A.in1) hh hdI hdd).toS hn _ hSf _ es.size 0 _ _ _ rfl (RB _) {{_,oth (RC hSI) hit,rfl,rfl},oth (RC hSd) (up ho)} hS3 (ItemsOf.nil _) λs' acc' c' hm hS' hacc=>?_};rw[Moved.eq_with hm];refine hR s'.heap s'.toks acc' c' (λb ob hb e=>hm.heap b ob (λhmem=>?_) (oth hb (up e))) hS' hacc;rcases Rf.mp hmem with e'|hmem
 ·exact hb e'
 ·exact absurd (QK e) (by rw[QF.mp hmem];exact RL _)
def yq {Q:Qr->Qu->Prop}(hh:A.handled=none)(hsm:(d==sysModules)=false)(ho:s.heap.get? d=some od)(hc:od.ExactDict)(hdd:od.data=.dict es ep)(hn:es.size<=sizeLine)
 (hQ:∀h' tk acc c',(∀b o,s.heap.get? b=some o->h'.get? b=some o)->h'.get? s.heap.objs.size=some {.type "list",none,.seq acc c',#[]}->ItemsOf (λi v=>∃e,es[i]?=some e/\v=e.key) acc es.size->Q (.ref s.heap.objs.size) {s with heap:=h',toks:=tk}) :
 wpAny (model prog w) A (call (.type "list") [.ref d]) Q E s:=by
 refine callType_codes (Q₁:=λobj s₁=>obj=.ref s.heap.objs.size/\s₁={s with heap:=s.heap.push {cls:=.type "list",data:=.seq #[]}}) PySem.F.called_list (PySem.F.typeCall_list_1 _) PySem.F.entry_list_init (code_list_new _ ⟨rfl,rfl⟩) λobj s₁ h₁=>?_
 obtain⟨rfl,rfl⟩:=h₁;have hlt:=QK ho;have hS:(s.heap.push {cls:=.type "list",data:=.seq #[]}).get? s.heap.objs.size=some {cls:=.type "list",data:=.seq #[]}:=QM _ rfl;refine{{_,hS,rfl},PySem.F.args_list_init_2 _ _,?_};show wpAny _ _ (do let old <- Builtin.List.listItems (.ref s.heap.objs.size);Builtin.List.listUpdate (.ref s.heap.objs.size) (λ_=>#[]);letGo old.toList.reverse;Builtin.List.listExtendWith (.ref s.heap.objs.size) (.ref d) .none) _ _ _
 refine tqa ?_;unfold Builtin.List.listItems;refine tqa (wpAny_seqItems hS rfl (tqb ?_));show wpAny _ _ (updateSeq s.heap.objs.size (λ_=>#[]) >>= λ_=>letGo (#[]:Array Qr).toList.reverse >>= λ_=>Builtin.List.listExtendWith (.ref s.heap.objs.size) (.ref d) .none) _ _ _;refine tqa (wpAny_updateSeq hS rfl ?_);have oth:∀b o,b≠s.heap.objs.size->s.heap.get? b=some o->((s.heap.push {cls:=.type "list",data:=.seq #[]}).update s.heap.objs.size (Obj.mapSeq (λ_=>(#[]:Array Qr)))).get? b=some o:=λb o hb e=>(Rn _ _ (RC hb)).trans (Qt _ e);refine tqa (wpAny_letGo ?_);refine vH (A:=A.in1) hh hsm (oth d od (QY hlt) ho) hc hdd hn _ (Rz hlt) .none _ (Ry (Obj.mapSeq (λ_=>(#[]:Array Qr))) hS rfl) λh' tk acc c' hk hS' hacc=>?_;exact{rfl,hQ h' tk acc c' (λb o e=>hk b o (QY (QK e)) (oth b o (QY (QK e)) e)) hS' hacc}
end
noncomputable def kT (m:Bool)(a:GE):GE:=λZ M=>(a Z M).bind λx M=>match x with
 | .fn o => (match bC M o with
   |some q=>bh m (q.2.map c8) M
   |none=>.bad)
 |_=>.bad
def C9 {fa:Fa}{K:Qp}{μ:Mu}{H:Hp}{c:Int}{kvs:List (D×D)}{es:List RO}(h:Sf (nA fa K μ H c) kvs es):∃vs,aK fa K μ H ((kvs.map iF).map c8) vs/\Vals vs (es.map (·.key)):=by
 induction h with
 |nil=>exact{[],rfl,.nil}
 | cons h t ih =>
   obtain⟨vs,r,v⟩:=ih;obtain⟨b,_,ek,_,rb,_⟩:=h;exact{.ref b::vs,{.ref b,vs,rfl,rb,r},.cons (ek.trans rfl) v}
section
variable{fa:Fa}{X:Cx}{a:Expr}{ga:GE}{pos p:Pos}
def Hn (hc:X.calm=true)(hd:eT fa)(m:Bool):b9 X (.type "list") (λxs H Q=>∃μ M o q x,RelM fa X.K μ H M/\xs=[x]/\Rep fa X.K μ H (.fn o) x/\bC M o=some q/\ae (bh m (q.2.map c8) M) (aW fa X.K μ H Q)):=by
 intro pins s σ H xs us Q I r h;obtain⟨μ,M,o,q,x,hM,rfl,rx,e,w⟩:=h;obtain⟨u,rfl,ru⟩:=vals1 r;obtain⟨ad,_,_,_,rfl,_,ha,_⟩:=kY hd I hM rx e;obtain rfl:=(ru);obtain⟨es,kvs,hH,eqs,pr⟩:=nZ hd hM ha e;obtain⟨vs,rl,vv⟩:=C9 pr;rw[eqs] at w;obtain⟨_,k⟩:=gz hM rl w;obtain⟨z,y,ob,h1,h2,h3⟩:=(I.hok ad _ hH);refine yq (I.ok.hd hc) y h1 h2 h3 (by simpa using z) λh' tk acc c' kp en hacc=>?_
 have ea:acc=(es.map (·.key)).toArray:=by
  refine Array.ext_getElem? λi=>?_;have hs:acc.size=es.length:=by have:=hacc.1;simpa using this
  rcases R5 i acc.size with hi|hi
  ·rw[Se hi];obtain⟨e',he,ev⟩:=hacc.2 i _ (Se hi);rw[ev];have he:es[i]?=some e':=by simpa using he
   simp[he]
  ·rw[Array.getElem?_eq_none hi];exact(Array.getElem?_eq_none (by rw[QI,Qq,<- hs];exact hi)).symm
 rw[ea] at en;have hl:vs.length<=sizeLine:=by rw[vv.length,Qq];exact z
 exact{.ref s.heap.objs.size,_,I.laid kp (Qw _) (show cX X.prog X.w _ h' _ (.lst vs) from{hl,_,c',vv,en}),rfl,k _ (I.hok.fresh (Qw _))}
def GD (hc:X.calm=true)(hd:eT fa)(m:Bool)(hg:Gl X "list")(hm:X.mg "list"=none)(ha:DE fa X a ga)(hs:starEach [a] X.env=[(false,eval a X.env)]):DE fa X (.Call (.Name "list" p) [a] [] pos) (kT m ga):=
 bB (mE (Hn hc hd m) hg hm boot_list (cf ha dI hs) (he:=by rw[hs];rfl)) λσ H Q ⟨μ,Z,M,hE,hM,h⟩=>by
  obtain⟨x,M1,e1,h1⟩:=aE h;refine{μ,Z,M,hE,hM,?_};rw[e1];intro v H1 μ1 x1 hM1 r1;cases x with
  | fn o =>
    dsimp only at h1;cases eq:bC M1 o with
    |none=>rw[eq] at h1;exact h1.elim
    |some q=>rw[eq] at h1;exact{μ1,M1,o,q,v,hM1,rfl,r1,eq,aH h1 λd M2 h2=>aW.ext h2 x1}
  |_=>exact h1.elim
end
noncomputable def ltI (is:List Int)(i j:Nat):Bool:=decide (is.getD i 0<is.getD j 0)
noncomputable def nS (a:GE):GE:=λZ M=>(a Z M).bind λx M=>match (eB M x).bind intsOf with
 |some is=>if is.length=0 then .bad else .ok (.int (is.getD (argBest (ltI is) (is.length-1)) 0)) M
 |none=>.bad
section
variable{fa:Fa}{X:Cx}{a:Expr}{ga:GE}{pos p:Pos}
def K9 (hc:X.calm=true):b9 X (.builtin "min") (λxs H Q=>∃μ ds is p vs,xs=[.ref p]/\c7 X.K H p vs/\aK fa X.K μ H ds vs/\intsOf ds=some is/\is.length≠0/\Q (.int (is.getD (argBest (ltI is) (is.length-1)) 0)) H):=by
 intro pins s σ H xs us Q I r h;obtain⟨μ,ds,is,p,vs,rfl,hq,rl,ei,hn,q⟩:=h;obtain⟨u,rfl,rx⟩:=vals1 r;cases rx;obtain⟨its,rv,pl,hz⟩:=I.list hq;have hi:=oM ei rl rv;have hlen:=hi.length;have hlt:=pl.lt;have at':∀{i:Nat}{v:Qr},its.toArray[i]?=some v->∃t,v=.int (is.getD i 0) t:=λ{i v} e=>by
  have e:its[i]?=some v:=by simpa using e
  obtain⟨hj,rfl⟩:=Qo.mp e;exact mQ hi hj
 refine call_min_walk (wpAny_pyIter_list pl.isList {_,[s.heap.objs.size,p],[s.heap.objs.size],its.toArray.size,(λi v=>its.toArray[i]?=some v),_,ltI is,rfl,Walks.list (A:=X.A.in1) (I.ok.hd hc) _ p (QY hlt) its.toArray,{{_,QM _ rfl,rfl,rfl},pl.isList.at λo e=>Qt _ e},?_,by simp;omega,?_,?_})
 ·intro b hb;simp only[List.mem_cons,List.not_mem_nil,or_false] at hb;rw[Sg];rcases hb with rfl|rfl
  ·exact Nat.lt_succ_self _
  ·exact RP hlt
 ·intro i j vi vj s' Q' E' h1 h2 hQ;obtain⟨t,rfl⟩:=at' h1;obtain⟨t',rfl⟩:=at' h2;exact wpAny_lt_int hQ
 ·intro v h' tk hv kp;obtain⟨t,rfl⟩:=at' hv;rw[show its.toArray.size=is.length by simpa using hlen]
  exact{.int _,H,I.kept λb o e=>kp b o (λz=>by rw[QF.mp z] at e;exact absurd (QK e) (RL _)) (Qt _ e),⟨t,rfl⟩,q}
def Jt (hc:X.calm=true)(hg:Gl X "min")(hm:X.mg "min"=none)(ha:DE fa X a ga)(hs:starEach [a] X.env=[(false,eval a X.env)]):DE fa X (.Call (.Name "min" p) [a] [] pos) (nS ga):=
 bB (ie (K9 hc) hg hm boot_min (cf ha dI hs) (he:=by rw[hs];rfl)) λσ H Q ⟨μ,Z,M,hE,hM,h⟩=>by
  obtain⟨x,M1,e1,h1⟩:=aE h;refine{μ,Z,M,hE,hM,?_};rw[e1];intro v H1 μ1 x1 hM1 r1;cases e:(eB M1 x).bind intsOf with
  |none=>rw[e] at h1;exact h1.elim
  | some is =>
    rw[e] at h1;dsimp only at h1;split at h1
    ·exact h1.elim
    ·next hn=>
     obtain⟨ds,e2,e3⟩:=Ru.mp e;obtain⟨ad,vs,rfl,sq,rl⟩:=bG hM1 r1 e2;exact{μ1,ds,is,ad,vs,rfl,sq,rl,e3,hn,aQ hM1 (aW.ext h1 x1) rfl}
end
end LD
namespace LD
open PySem
def ob {α β:Type}{a:Option α}{f:α->Option β}{r:β}(h:a.bind f=some r):∃x,a=some x/\f x=some r:=Ru.mp h
def oi {α:Type}{c:Prop}[Decidable c]{a:Option α}{r:α}(h:(if c then a else none)=some r):c/\a=some r:=by
 split at h
 ·exact{by assumption,h}
 ·cases h
section
variable{β:Type}{r:β}{e:Expr}{st:Stmt}
def od {c:Prop}[Decidable c]{f:c->Option β}(h:(if x:c then f x else none)=some r):∃x,f x=some r:=by
 by_cases z:c
 ·rw[dif_pos z] at h;exact⟨z,h⟩
 ·rw[dif_neg z] at h;cases h
local macro_rules|`(command|#check $n:ident $a*)=>do
 let m:=a[0]!.raw;let c:Lean.TSyntax `ident:=⟨a[1]!.raw⟩;let v:Array (Lean.TSyntax `ident):=(a.extract 3 a.size).map λx=>⟨x.raw⟩;let f:=Lean.mkIdentFrom c (c.getId++`elim)
 `(noncomputable def $n {β:Type} e:=λg=>if h:e.ctorIdx=$(⟨a[2]!.raw⟩) then @$f (λ_=>Option β) e h g else none
 theorem $(⟨m⟩) {β:Type}{e}{g}{y:β}(h:$n e g=some y):∃$[$v:ident]*,e=$c $v*∧g $v*=some y:=(od h).elim λz h=>@$f (λe=>∀z,@$f (λ_=>Option β) e z g=some y→∃$[$v:ident]*,e=$c $v*∧g $v*=some y) e z (λ$v* _ h=>by exact⟨$v,*,rfl,h⟩) z h)
#check Oe Au Expr.UnaryOp 3 a b c
#check EH uq Expr.BoolOp 0 a b c
#check Of Av Expr.ListComp 8 a b c d
#check Ki wc Expr.IfExp 5 a b c d
#check Kl qK Expr.Compare 15 a b c d
#check pW jw Expr.Call 16 a b c d
#check O4 G8 Expr.FormattedValue 17 a b c d
#check O3 G6 Expr.JoinedStr 18 a b
#check xM nO Expr.Constant 19 a b c
#check xN oV Expr.Attribute 20 a b c
#check qI je Expr.Subscript 21 a b c
#check nName cS Expr.Name 23 a b
#check uo ig Expr.Tuple 25 a b c
#check O1 G4 Expr.Slice 26 a b c d
#check xt nF Stmt.Assign 5 a b c
#check OT Gw Stmt.Raise 16 a b c
#check sTr Jl Stmt.Try 17 a b c d f
#check CA qz Stmt.Expr 24 a b
#check O5 G9 Expr.BinOp 2 a b c d
#check O2 G5 Expr.List 24 a b
#check sRt Jm Stmt.Return 3 a b
#check sFr Jq Stmt.For 9 a b c d f
#check sIf Jp Stmt.If 12 a b c d
#check sPs Jn Stmt.Pass 25 a
variable{α:Type}{l:List α}
noncomputable def n0 (l:List α)(v:Option β):Option β:=if l.isEmpty=true then v else none
def eK {v:Option β}(h:n0 l v=some r):l=[]/\v=some r:=(oi h).elim λc h=>{List.isEmpty_iff.mp c,h}
noncomputable def nC (l:List α)(k:α->List α->Option β):Option β:=match l with
 |[]=>none
 |a::s=>k a s
def jP {k:α->List α->Option β}(h:nC l k=some r):∃a s,l=a::s/\k a s=some r:=by
 cases l with
 |nil=>cases h
 |cons a s=>exact⟨a,s,rfl,h⟩
noncomputable def n1 (l:List α)(k:α->Option β):Option β:=nC l λa s=>n0 s (k a)
def cU {k:α->Option β}(h:n1 l k=some r):∃a,l=[a]/\k a=some r:=by
 obtain⟨a,s,rfl,h⟩:=jP h;obtain⟨rfl,h⟩:=eK h;exact⟨a,rfl,h⟩
noncomputable def n2 (l:List α)(k:α->α->Option β):Option β:=nC l λa s=>n1 s (k a)
def iz {k:α->α->Option β}(h:n2 l k=some r):∃a b,l=[a,b]/\k a b=some r:=by
 obtain⟨a,s,rfl,h⟩:=jP h;obtain⟨b,rfl,h⟩:=cU h;exact⟨a,b,rfl,h⟩
noncomputable def xK (e:Expr)(k:Str->Option β):Option β:=xM e λc _ _=>match c with
 |.str z=>k z
 |_=>none
def qJ {k:Str->Option β}(h:xK e k=some r):∃z i p,e=.Constant (.str z) i p/\k z=some r:=by
 obtain⟨c,i,p,rfl,h⟩:=nO h;cases c with
 |str z=>exact⟨z,i,p,rfl,h⟩
 |_=>cases h
noncomputable def Kh (e:Expr)(k:Int->Option β):Option β:=xM e λc _ _=>match c with
 |.int z=>k z
 |_=>none
def G7 {k:Int->Option β}(h:Kh e k=some r):∃z i p,e=.Constant (.int z) i p/\k z=some r:=by
 obtain⟨c,i,p,rfl,h⟩:=nO h;cases c with
 |int z=>exact⟨z,i,p,rfl,h⟩
 |_=>cases h
noncomputable def Og (e:Expr)(k:Expr->Option β):Option β:=O4 e λa i s _=>if i=-1/\s.isNone=true then k a else none
def Kj {k:Expr->Option β}(h:Og e k=some r):∃a p,e=.FormattedValue a (-1) none p/\k a=some r:=by
 obtain⟨a,i,s,p,rfl,h⟩:=G8 h;obtain⟨⟨rfl,c⟩,k⟩:=oi h;rw[SO.mp c];exact⟨a,p,rfl,k⟩
noncomputable def nG (c:SF)(k:Expr->Expr->List Expr->Option β):Option β:=if c.is_async=0 then k c.target c.iter c.ifs else none
def sQ {c:SF}{k:Expr->Expr->List Expr->Option β}(h:nG c k=some r):∃t i f,c={t,i,f,0}/\k t i f=some r:=by
 obtain⟨z,h⟩:=oi h;cases c;cases z;exact{_,_,_,rfl,h}
noncomputable def ow (e:Expr)(k:Str->List Expr->Pos->Option β):Option β:=pW e λf es ks p=>nName f λx _=>n0 ks (k x es p)
def gQ {k:Str->List Expr->Pos->Option β}(h:ow e k=some r):∃x q es p,e=.Call (.Name x q) es [] p/\k x es p=some r:=by
 obtain⟨f,es,ks,p,rfl,h⟩:=jw h;obtain⟨x,q,rfl,h⟩:=cS h;obtain⟨rfl,h⟩:=eK h;exact⟨x,q,es,p,rfl,h⟩
noncomputable def Km (e:Expr)(k:Expr->Str->Expr->Bool->Option β):Option β:=pW e λf es ks p=>xN f λa m q=>n0 ks (n1 es λd=>k a m d (q.endLine==p.line))
def Aw {k:Expr->Str->Expr->Bool->Option β}(h:Km e k=some r):∃a m q d p,e=.Call (.Attribute a m q) [d] [] p/\k a m d (q.endLine==p.line)=some r:=by
 obtain⟨f,es,ks,p,rfl,h⟩:=jw h;obtain⟨a,m,q,rfl,h⟩:=oV h;obtain⟨rfl,h⟩:=eK h;obtain⟨d,rfl,h⟩:=cU h;exact⟨a,m,q,d,p,rfl,h⟩
def b7 {a b:Option β}(h:a.or b=some r):a=some r\/b=some r:=by
 cases a with
 |none=>exact .inr h
 |some x=>exact .inl h
end
end LD
namespace LD
open PySem PySem.Spec PyProof.Rows L2
noncomputable def nU (kvs:List (Str×Int))(b:GE):GE:=λZ M=>(b Z M).bind λy M=>match y with
 |.str t=>(match kvs.lookup t with|some i=>.ok (.int i) M|none=>.bad)
 |_=>.bad
noncomputable def pq:List (Option Expr)->List Expr->Option (List (Str×Int))
 |[],[]=>some []
 |k::ks,v::vs=>k.bind λk=>xK k λx=>Kh v λi=>(pq ks vs).map ((x,i)::·)
 |_,_=>none
def A4 {k:Option Expr}{ks:List (Option Expr)}{v:Expr}{vs:List Expr}{kvs:List (Str×Int)}(h:pq (k::ks) (v::vs)=some kvs):∃x a b i c d r,k=some (.Constant (.str x) a b)/\v=.Constant (.int i) c d/\pq ks vs=some r/\kvs=(x,i)::r:=by
 obtain⟨k',rfl,g⟩:=ob h;obtain⟨x,a,b,rfl,g⟩:=qJ g;obtain⟨i,c,d,rfl,g⟩:=G7 g;obtain⟨r,h3,rfl⟩:=QA.mp g;exact⟨x,a,b,i,c,d,r,rfl,rfl,h3,rfl⟩
structure P4 (kvs:List (Str×Int)) (ws:List (Qr×Qr)):Prop where
 al:allStrKeys ws=true
 ks:(strPairs ws).map (·.1)=kvs.map (·.1)
 at':∀t i,kvs.lookup t=some i->∃k,valueAt (strPairs ws) t=some (.int i k)
section
variable{fa:Fa}{X:Cx}{b:Expr}{gb:GE}{P:Rp}{w:Rr}{A:RW}{E:Qr->Qu->Prop}{env:R6}
def A3:∀{keys:List (Option Expr)}{values:List Expr}{kvs:List (Str×Int)} (h:pq keys values=some kvs) {s:Qu}{Q:List (Qr×Qr)->Qu->Prop} (k:∀ws t,P4 kvs ws->Q ws {s with toks:=t}),
 wpAny (model P w) A (evalPairs (pairTrees keys values env pos)) Q E s
 | [], [], kvs, h, s, Q, k => by
   cases h;exact pairTrees_nil_walk (k [] s.toks {rfl,rfl,λt i h=>by cases h})
 |[],_::_,_,h,_,_,_=>nomatch h
 |_::_,[],_,h,_,_,_=>nomatch h
 | _ :: ks, _ :: vs, kvs, h, s, Q, k => by
   obtain⟨x,_,_,i,_,_,r,rfl,rfl,e,rfl⟩:=A4 h;refine pairTrees_cons_walk (Calls.Constant_str (wpAny_Constant_int (A3 e λws t d=>?_)));refine k _ t {d.al,?_,λy j hj=>?_}
   ·show _::(strPairs ws).map (·.1)=_::_;rw[d.ks]
   ·rw[RA] at hj;show ∃k,valueAt ((x,_)::strPairs ws) y=_;unfold valueAt;rw[List.find?_cons];by_cases hy:x=y
    ·subst hy;rw[beq_self_eq_true] at hj;cases hj;exact{_,by rw[decide_eq_true rfl];rfl}
    ·rw[show(y==x)=false from RZ.mpr (RC hy)] at hj;rw[decide_eq_false hy];exact d.at' y j hj
def wK:∀{keys:List (Option Expr)}{values:List Expr}{kvs:List (Str×Int)},pq keys values=some kvs->keys.all (·.isSome)=true/\keys.length=values.length/\keys.length=kvs.length
 |[],[],kvs,h=>by cases h;exact⟨rfl,rfl,rfl⟩
 |[],_::_,_,h=>nomatch h
 |_::_,[],_,h=>nomatch h
 | _ :: _, _ :: _, kvs, h => by
   obtain⟨x,_,_,i,_,_,r,rfl,rfl,e,rfl⟩:=A4 h;obtain⟨a,b,c⟩:=wK e;exact{by simpa using a,by simpa using b,by simpa using c}
def Jx (hk:pq keys values=some kvs)(hn:(kvs.map (·.1)).Nodup)(h0:kvs.length≠0)(h15:kvs.length<=15)(hb:DE fa X b gb)(hs:iq b) :
 DE fa X (.Subscript (.Dict keys values p1) b pos) (nU kvs gb):=by
 intro pins s σ H Q I ⟨μ,Z,M,hE,hM,h⟩;obtain⟨l1,l2,l3⟩:=wK hk;have hf:=I.hok.fresh (Qw s.heap.objs.size);refine Subscript_ ?_;refine wpAny_Dict_walk (knd:=strKind X.prog X.w) l1 l2 (λe=>h0 (by rw[<- l3,e];rfl)) `a (A3 hk λws t d=>?_)
 refine display_done_str d.al (by rw[d.ks];exact hn) (.new _) λh' dd hs'=>?_
 obtain⟨o,es,ep,ho,hx,hdat,hr⟩:=id dd;have kp:∀c u,s.heap.get? c=some u->h'.get? c=some u:=λc u e=>(hs'.2 c (QY (QK e))).trans (Qt _ e);have I1:Inv X pins σ H {s with heap:=h',toks:=t+ws.length}:=I.kept kp
 have I2:Inv X (pins++[(s.heap.objs.size,o)]) σ H {s with heap:=h',toks:=t+ws.length}:=I1.pins_of λp hp=>by
  rcases Rq.mp hp with hp|hp
  ·exact I1.pin p (Q4 _ hp)
  ·obtain rfl:=QF.mp hp;exact{ho,hf,Rz I.lt,I.nofs (Qw _),λv e=>by rw[hdat] at e;cases e}
 obtain⟨y,M1,e1,h1⟩:=aE h;refine aT (hb _ _ σ H (λv H1=>∃μ1,Ext μ H μ1 H1/\RelM fa X.K μ1 H1 M1/\Rep fa X.K μ1 H1 y v) I2 {μ,Z,M,hE,hM,?_}) λu s1 ⟨v,H1,I3,rv,μ1,x1,m1,r1⟩=>?_
 ·rw[e1];exact λv H1 μ1 x1 m1 r1=>⟨μ1,x1,m1,r1⟩
 cases y with
 | str z =>
   dsimp only at h1;cases e2:kvs.lookup z with
   |none=>rw[e2] at h1;exact h1.elim
   | some i =>
     rw[e2] at h1;obtain⟨tk,e3⟩:=d.at' z i e2;have dd1:=dd.at λo' e'=>by
      rw[ho] at e';cases e';exact(I3.pin _ (Q4 _ (Q4 _ QN))).1
     have hT:=dd1.typeIs;obtain rfl:v=V.str z:=r1;obtain⟨tt,rfl⟩:∃t,u=Value.str z t:=rv;have h2:wpAny (model X.prog X.w) X.A (getItem (.ref s.heap.objs.size) (.str z tt)) (EP X pins σ Q) X.xe s1:=
      wpAny_getItem_of (by simp[PySem.strKind,Value.isStrOf]) dd1.mapOf e3 {.int i,H1,I3.unpinned.tok _,{_,rfl},aQ m1 (aW.ext h1 x1) rfl}
     refine tqa ?_;rw[getitemInPython_of_ne hT.not_modules];refine tqa (wpAny_specialOf hT PySem.F.slot_dict_getitem.lookup ?_);have fin:wpAny (model X.prog X.w) X.A (subscripted b false (.ref s.heap.objs.size) (.str z tt)) (λr s3=>wpAny (model X.prog X.w) X.A (letTemporaryGo (.Dict keys values p1) (.ref s.heap.objs.size) r >>= λ_=>pure r) (EP X pins σ Q) X.xe s3) X.xe s1:=by
      rw[hs];exact wpAny_operating (wpAny_mono h2 (λr s3 h3=>tqa (wpAny_letTemporaryGo (tqb h3))) λ_ _ x=>x)
     first
      |exact tqb (tqa fin)
      |exact tqa (tqb (tqa fin))
      |exact tqa fin
 |_=>exact h1.elim
end
noncomputable def maxD:List D->Mem->Res D
 |[.int a,.int b],M=>.ok (.int (if b > a then b else a)) M
 |_,_=>.bad
noncomputable def uL (s:GA):GE:=λZ M=>(s Z M).bind λds M=>maxD ds M
noncomputable def OY (fa:Fa)(K:Qp):List V->Hp->VK->Prop:=λvs H Q=>∃μ M ds,RelM fa K μ H M/\aK fa K μ H ds vs/\ae (maxD ds M) (aW fa K μ H Q)
section
variable{fa:Fa}{X:Cx}{a:Expr}{es:List Expr}{gs:GA}{p pos:Pos}
def Ni (hc:X.calm=true):b9 X (.builtin "max") (OY fa X.K):=by
 intro pins s σ H xs us Q I r h;obtain⟨μ,M,ds,hM,rl,h⟩:=h;unfold maxD at h;split at h
 ·next i j=>
  obtain⟨v1,r1,rfl,h1,h2⟩:=rl;obtain⟨v2,r2,rfl,h3,h4⟩:=h2;obtain rfl:r2=[]:=h4;obtain rfl:v1=.int i:=h1;obtain rfl:v2=.int j:=h3;cases r with
  | cons ra rb =>
    cases rb with
    | cons rb rc =>
      cases rc;obtain⟨t,rfl⟩:=ra;obtain⟨u,rfl⟩:=rb;refine max_two_ints (I.ok.hd hc) λh' tk hk=>?_;refine{.int (if j > i then j else i),H,I.kept hk,?_,aQ hM h rfl};split
      ·exact⟨u,rfl⟩
      ·exact⟨t,rfl⟩
 ·exact h.elim
def MB (hc:X.calm=true)(hg:Gl X "max")(hm:X.mg "max"=none)(hs:DA fa X (a::es) gs)(he:notStar a=true)(hpl:es.all notStar=true) :
 DE fa X (.Call (.Name "max" p) (a::es) [] pos) (uL gs):=
 bB (ie (Ni hc) hg hm `k hs `d `d (a9 he) (dE hpl)) λσ H Q ⟨μ,Z,M,hE,hM,h⟩=>tJ hE hM h λds M1 vs H1 μ1 x1 hE1 hM1 r1 h1=>{μ1,M1,ds,hM1,r1,kI h1 x1}
end
inductive En where
 |fn (i:Nat) (r:Bool)|fnD (i:Nat)|int (i:Int)|str (z:Str)|dct (fs:List (Str×Nat))|xc (k:Nat)|xi (k:Nat)|xk (k:Nat)|de|bl|cls (c f:Nat)
structure Fu (fa:Fa) (P:Rp) (w:Rr) (K:Qp) (mg:Str->Option Qr) (base:Heap) (T:List (Str×En)):Prop where
 fn:∀{x:Str}{i:Nat}{r:Bool},T.lookup x=some (.fn i r)->∀ad,fa i=some ad->mg x=some (.ref ad)
 fnD:∀{x:Str}{i:Nat},T.lookup x=some (.fnD i)->(∀ad,fa i=some ad->mg x=some (.ref ad))/\(fa (500+i)).isSome=true
 int:∀{x:Str}{i:Int},T.lookup x=some (.int i)->∃t,mg x=some (.int i t)
 str:∀{x:Str}{z:Str},T.lookup x=some (.str z)->∃t,mg x=some (.str z t)
 dct:∀{x:Str}{fs:List (Str×Nat)},T.lookup x=some (.dct fs)->∃ad kvs,mg x=some (.ref ad)/\fV K w.params ad kvs/\eL fa kvs fs
 xc:∀{x:Str}{k:Nat},T.lookup x=some (.xc k)->∃C,mg x=some (.ref C)/\fa (gj k)=some C/\PySem.W.excIn K C Bl "ValueError.__new__"=true/\PySem.W.keepIn K (.ref C)=true
 xi:∀{x:Str}{k:Nat},T.lookup x=some (.xi k)->Bz fa P w K mg base k x/\∃D,mg x=some (.ref D)/\fa (gj k)=some D
 xk:∀{x:Str}{k:Nat},T.lookup x=some (.xk k)->∃D,mg x=some (.ref D)/\fa (gj k)=some D
 de:∀{x:Str},T.lookup x=some .de->∃D,mg x=some (.ref D)/\fa 999=some D
 bl:∀{x:Str},T.lookup x=some .bl->mg x=none
 xcs:L4 fa K
 ob:L9 fa K
 of:∀o,5000<=o->fa o=none
 od:fa (jO 77)=none/\fa (jO 78)=none
 cls:∀{x:Str}{c f:Nat},T.lookup x=some (.cls c f)->∃C,mg x=some (.ref C)/\fa (jO c)=some C/\∀ad,fa f=some ad->Mk K C ad
structure G where
 T:List (Str×En)
 tw:List (Str×Str×Nat×Nat)
 xf:List Str
 cel:List (Nat×Nat×Nat)
 txt:List (Nat×Nat×Nat)
 ms:List (Str×Nat×Nat)
 c:Call
 N:List Str
 sc:Scope
 lv:Nat
 oc:List Str:=[]
structure dZ (fa:Fa) (n:Nat) (g:G) (X:Cx):Prop where
 N:X.N=g.N
 nd:g.N.Nodup
 sc:X.env.scope=g.sc
 T:Fu fa X.prog X.w X.K X.mg X.base g.T
 tw:∀q∈g.tw,w8 fa X.K X.mg q.1 q.2.1 q.2.2.1 q.2.2.2
 xf:∀f∈g.xf,Fs fa X.K f
 ms:∀q∈g.ms,qp fa X.K q.1 q.2.1 q.2.2
 fn:g.lv≠1->∀x,X.fn x=true
 oc:∀x∈g.oc,X.fn x=true
 calm:0<g.lv->X.calm=true
 C:0<g.lv->∀f,h9 fa X.prog X.w X.K X.mg X.base n f (g.c f)
 hr:0<g.lv->dA (2*n+4+1) X.A
 top:2<=g.lv->X.ex=[]/\X.stack=X.env::X.outer/\X.env.frame=some X.env.locals/\X.env.scope.kind=.function
 po:g.lv=2->PassesOwn (model X.prog X.w) X.A X.env X.xe
structure Rc where
 e:G->Expr->Option GE
 t:G->Expr->Option GT
 x:G->Expr->Option GE
 w:G->Expr->Expr->Option GW
 s:G->Stmt->Option GS
abbrev dr:=Rc->G->Expr->Option GE
abbrev Fv:=Rc->G->Expr->Option GT
abbrev vw:=Rc->G->Expr->Expr->Option GW
abbrev mi:=Rc->G->Stmt->Option GS
structure iW (fa:Fa) (n:Nat) (R:Rc):Prop where
 e:∀{g:G}{X:Cx}{a:Expr}{ga:GE},dZ fa n g X->R.e g a=some ga->DE fa X a ga
 t:∀{g:G}{X:Cx}{a:Expr}{ga:GT},dZ fa n g X->R.t g a=some ga->DT fa X a ga
 x:∀{g:G}{X:Cx}{a:Expr}{ga:GE},dZ fa n g X->R.x g a=some ga->DX fa X a ga
 w:∀{g:G}{X:Cx}{t a:Expr}{ga:GW},dZ fa n g X->R.w g t a=some ga->DI fa X t a ga
 s:∀{g:G}{X:Cx}{a:Stmt}{ga:GS},dZ fa n g X->R.s g a=some ga->DS fa X a ga
noncomputable def SE (r:dr):Prop:=∀{fa:Fa}{n:Nat}{R:Rc},iW fa n R->∀{g:G}{X:Cx},dZ fa n g X->∀{a:Expr}{ga:GE},r R g a=some ga->DE fa X a ga
noncomputable def ST (r:Fv):Prop:=∀{fa:Fa}{n:Nat}{R:Rc},iW fa n R->∀{g:G}{X:Cx},dZ fa n g X->∀{a:Expr}{ga:GT},r R g a=some ga->DT fa X a ga
noncomputable def SX (r:dr):Prop:=∀{fa:Fa}{n:Nat}{R:Rc},iW fa n R->∀{g:G}{X:Cx},dZ fa n g X->∀{a:Expr}{ga:GE},r R g a=some ga->DX fa X a ga
noncomputable def SW (r:vw):Prop:=∀{fa:Fa}{n:Nat}{R:Rc},iW fa n R->∀{g:G}{X:Cx},dZ fa n g X->∀{t a:Expr}{ga:GW},r R g t a=some ga->DI fa X t a ga
noncomputable def SS (r:mi):Prop:=∀{fa:Fa}{n:Nat}{R:Rc},iW fa n R->∀{g:G}{X:Cx},dZ fa n g X->∀{a:Stmt}{ga:GS},r R g a=some ga->DS fa X a ga
structure Rs where
 e:List dr
 t:List Fv
 x:List dr
 w:List vw
 s:List mi
noncomputable def It (rs:Rs):Nat->Rc
 |0=>{λ_ _=>none,λ_ _=>none,λ_ _=>none,λ_ _ _=>none,λ_ _=>none}
 |n+1=>{λg a=>rs.e.findSome? λr=>r (It rs n) g a,λg a=>rs.t.findSome? λr=>r (It rs n) g a,λg a=>rs.x.findSome? λr=>r (It rs n) g a,λg t a=>rs.w.findSome? λr=>r (It rs n) g t a,λg a=>rs.s.findSome? λr=>r (It rs n) g a}
noncomputable def AllP {α:Type}(p:α->Prop):List α->Prop
 |[]=>True
 |a::l=>p a/\AllP p l
def AllP.mem {α:Type}{p:α->Prop}:∀{l:List α},AllP p l->∀a∈l,p a
 |_::_,h,a,m=>(Rf.mp m).elim (λe=>e ▸ h.1) (AllP.mem h.2 a)
structure DM (rs:Rs):Prop where
 e:AllP SE rs.e
 t:AllP ST rs.t
 x:AllP SX rs.x
 w:AllP SW rs.w
 s:AllP SS rs.s
def Fy (h:DM rs):∀k,iW fa n (It rs k)
 |0=>{(λ_ z=>nomatch z),(λ_ z=>nomatch z),(λ_ z=>nomatch z),(λ_ z=>nomatch z),(λ_ z=>nomatch z)}
 | k + 1 => by
   have ih:=Fy (n:=n) (fa:=fa) h k;refine{λo z=>?_,λo z=>?_,λo z=>?_,λo z=>?_,λo z=>?_}
   ·obtain⟨r,m,e⟩:=Sb z;exact h.e.mem r m ih o e
   ·obtain⟨r,m,e⟩:=Sb z;exact h.t.mem r m ih o e
   ·obtain⟨r,m,e⟩:=Sb z;exact h.x.mem r m ih o e
   ·obtain⟨r,m,e⟩:=Sb z;exact h.w.mem r m ih o e
   ·obtain⟨r,m,e⟩:=Sb z;exact h.s.mem r m ih o e
noncomputable def Ow:Str:="__debug__"
noncomputable def iX (g:G)(x:Str):Bool:=g.sc.names.lookup x==some .globalImplicit&&!(x==Ow)
noncomputable def vr (g:G)(x:Str):Option Nat:=if (g.sc.names.lookup x==some .local||g.sc.names.lookup x==some .cell||g.sc.names.lookup x==some .free)&&!(x==Ow)&&!(x==("__classdict__":Str)) then g.N.findIdx? (·==x) else none
section
variable{fa:Fa}{n:Nat}{g:G}{X:Cx}{R:Rc}(o:dZ fa n g X)
include o
theorem dC (h:iX g x=true):Gl X x/\(x==("__debug__":Str))=false:=by
 unfold iX at h;rw[Qy,Bool.not_eq_true'] at h;exact{by show X.env.scope.names.lookup x=_;rw[o.sc];exact eq_of_beq h.1,h.2}
theorem xY (h:g.N.findIdx? (·==x)=some i):X.N[i]?=some x:=by
 obtain⟨hi,h1,_⟩:=List.findIdx?_eq_some_iff_getElem.mp h;rw[o.N,QG hi,eq_of_beq h1]
theorem Ec (h:vr g x=some i):X.N[i]?=some x/\Bx X.env.scope x/\(x==("__debug__":Str))=false/\(x==("__classdict__":Str))=false:=by
 obtain⟨c,h⟩:=oi h;simp only[Qy,Sm,Bool.not_eq_true'] at c;refine{xY o h,?_,c.1.2,c.2};rw[o.sc];rcases c.1.1 with(z|z)|z
 ·exact .inl (eq_of_beq z)
 ·exact .inr (.inl (eq_of_beq z))
 ·exact .inr (.inr (eq_of_beq z))
omit o
theorem dZ.rm (o:dZ fa n g X)(h:0<g.lv):Rm X:=Gx (o.hr h)
end
noncomputable def cA (f:Expr->Option GE):List Expr->Option GA
 |[]=>some bY
 |a::r=>if notStar a=true then(f a).bind λx=>(cA f r).bind λy=>some (dP x y) else none
def j5 (hf:∀{a:Expr}{ga:GE},f a=some ga->DE fa X a ga):∀{es:List Expr}{gs:GA},cA f es=some gs->DA fa X es gs/\es.all notStar=true
 |[],_,h=>by cases h;exact⟨LH,rfl⟩
 | a :: r, _, h => by
   obtain⟨c,h⟩:=oi h;obtain⟨x,hx,h⟩:=ob h;obtain⟨y,hy,h⟩:=ob h;cases h;obtain⟨h1,h2⟩:=j5 hf hy;exact{HM (hf hx) h1 (a9 c),by rw[RN,c,h2];rfl}
noncomputable def vn (f:Expr->Option GE)(k:GE->GE->GE):List Expr->Option GE
 |[]=>none
 |[a]=>f a
 |a::b::r=>(f a).bind λx=>(vn f k (b::r)).bind λy=>some (k x y)
def wZ (hf:∀{a:Expr}{ga:GE},f a=some ga->DE fa X a ga):∀{es:List Expr}{ge:GE},vn f dF es=some ge->DE fa X (.BoolOp .And es pos) ge
 |[a],_,h=>Fg (hf h)
 | a :: b :: r, _, h => by
   obtain⟨x,hx,h⟩:=ob h;obtain⟨y,hy,h⟩:=ob h;cases h;exact NM (hf hx) (wZ hf hy)
def Bq (hf:∀{a:Expr}{ga:GE},f a=some ga->DE fa X a ga):∀{es:List Expr}{ge:GE},vn f uK es=some ge->DE fa X (.BoolOp .Or es pos) ge
 |[a],_,h=>Fg (hf h)
 | a :: b :: r, _, h => by
   obtain⟨x,hx,h⟩:=ob h;obtain⟨y,hy,h⟩:=ob h;cases h;exact PH (hf hx) (Bq hf hy)
noncomputable def tH (f:Expr->Option GT)(k:GT->GT->GT):List Expr->Option GT
 |[]=>none
 |[a]=>f a
 |a::b::r=>(f a).bind λx=>(tH f k (b::r)).bind λy=>some (k x y)
def vQ (hf:∀{a:Expr}{ga:GT},f a=some ga->DT fa X a ga):∀{es:List Expr}{ge:GT},tH f eV es=some ge->DW fa X (.BoolOp .And es pos) ge
 |[a],_,h=>Hu (hf h)
 | a :: b :: r, _, h => by
   obtain⟨x,hx,h⟩:=ob h;obtain⟨y,hy,h⟩:=ob h;cases h;exact Lk (hf hx) (vQ hf hy)
def zy (hf:∀{a:Expr}{ga:GT},f a=some ga->DT fa X a ga):∀{es:List Expr}{ge:GT},tH f dY es=some ge->DW fa X (.BoolOp .Or es pos) ge
 |[a],_,h=>Lj (hf h)
 | a :: b :: r, _, h => by
   obtain⟨x,hx,h⟩:=ob h;obtain⟨y,hy,h⟩:=ob h;cases h;exact Nn (hf hx) (zy hf hy)
noncomputable def Ee:dr:=λ_ g e=>nName e λx _=>((vr g x).bind λi=>some (aa i)).or (if iX g x=true then(g.T.lookup x).bind fun
 |.int i=>some (gC (.int i))
 |.str i=>some (gC (.str i))
 |_=>none else none)
def BN:SE Ee:=by
 intro fa n R rc g X o a ga h;replace h:=cS h;obtain⟨x,p,rfl,h⟩:=h;rcases b7 h with h|h
 ·obtain⟨i,e,h⟩:=ob h;cases h;obtain⟨a,b,c,d⟩:=Ec o e;exact Nt a b c d
 ·obtain⟨c,h⟩:=oi h;obtain⟨hg,hd⟩:=dC o c;obtain⟨t,e,h⟩:=ob h;cases t with
  |int i=>cases h;exact Gz hg (o.T.int e) hd
  |str i=>cases h;obtain⟨t,e⟩:=o.T.str e;exact ji (v:=.str _) (kG hg e ⟨t,rfl⟩ hd) λ_ _=>rfl
  |_=>cases h
noncomputable def zm:dr:=λ_ _ e=>xM e fun
 |.int i,_,_=>some (gC (.int i))
 |.bool i,_,_=>some (gC (.bl i))
 |.str i,_,_=>some (gC (.str i))
 |.none,_,_=>some (gC .non)
 |_,_,_=>none
def zl:SE zm:=by
 intro fa n R rc g X o a ga h;replace h:=nO h;obtain⟨c,i,p,rfl,h⟩:=h;cases c with
 |int i=>cases h;exact NB
 |bool i=>cases h;exact PJ
 |str i=>cases h;exact Nv
 |none=>cases h;exact Fh
 |_=>cases h
noncomputable def G.cl (g:G)(p:Pos):Bool:=g.cel.contains (p.line,p.col,p.endCol)
noncomputable def G.tx (g:G)(p:Pos):Bool:=g.txt.contains (p.line,p.col,p.endCol)
noncomputable def Fo:Operator->Option oF
 |.Add=>some .add|.Sub=>some .sub|.Mult=>some .mul|.FloorDiv=>some .fdiv|.Mod=>some .mod|.Pow=>some .pow|_=>none
def DG (h:Fo q=some b):q=binOp b:=by cases q<;>cases h<;>rfl
noncomputable def gu:CmpOp->kc
 |.Eq=>.eq|.NotEq=>.ne|.Lt=>.lt|.LtE=>.le|.Gt=>.gt|.GtE=>.ge|.Is=>.isN|.IsNot=>.notN|.In=>.isin|.NotIn=>.notin
def di (q:CmpOp):eZ (gu q)=q:=by cases q<;>rfl
noncomputable def IF:dr:=λR g e=>(O5 e λa q b p=>(Fo q).bind λq=>(R.e g a).bind λx=>(R.e g b).bind λy=>some (au (g.cl p) q x y)).or
 ((Oe e λq a _ => match q with
   |.USub=>(R.e g a).bind λx=>some (d3 x)
   |.Not=>(R.e g a).bind λx=>some (KY x)
   |_=>none).or
 ((EH e λq es _ => match q with
   |.And=>vn (R.e g) dF es
   |.Or=>vn (R.e g) uK es).or
 ((Ki e λc a b _=>(R.t g c).bind λt=>(R.e g a).bind λx=>(R.e g b).bind λy=>some (fX t x y)).or
 ((uo e λes _ _=>(cA (R.e g) es).bind λs=>some (bH s)).or (O2 e λes p=>(cA (R.e g) es).bind λs=>some (bA (g.cl p) s))))))
def FQ:SE IF:=by
 intro fa n R rc g X o a ga h;replace h:=b7 h;rcases h with h|h
 ·obtain⟨a,q,b,p,rfl,h⟩:=G9 h;obtain⟨q,hq,h⟩:=ob h;obtain⟨x,hx,h⟩:=ob h;obtain⟨y,hy,h⟩:=ob h;cases h;rw[DG hq];exact NJ _ _ (rc.e o hx) (rc.e o hy)
 replace h:=b7 h;rcases h with h|h
 ·obtain⟨q,a,p,rfl,h⟩:=Au h;cases q with
  |USub=>obtain⟨x,hx,h⟩:=ob h;cases h;exact Ny (rc.e o hx)
  |Not=>obtain⟨x,hx,h⟩:=ob h;cases h;exact Nx (rc.e o hx)
  |_=>cases h
 replace h:=b7 h;rcases h with h|h
 ·obtain⟨q,es,p,rfl,h⟩:=uq h;cases q with
  |And=>exact wZ (rc.e o) h
  |Or=>exact Bq (rc.e o) h
 replace h:=b7 h;rcases h with h|h
 ·obtain⟨c,a,b,p,rfl,h⟩:=wc h;obtain⟨t,ht,h⟩:=ob h;obtain⟨x,hx,h⟩:=ob h;obtain⟨y,hy,h⟩:=ob h;cases h;exact NA (rc.t o ht) (rc.e o hx) (rc.e o hy)
 replace h:=b7 h;rcases h with h|h
 ·obtain⟨es,k,p,rfl,h⟩:=ig h;obtain⟨s,hs,h⟩:=ob h;cases h;exact Nu (j5 (rc.e o) hs).1
 ·obtain⟨es,p,rfl,h⟩:=G5 h;obtain⟨s,hs,h⟩:=ob h;cases h;exact Nz _ (j5 (rc.e o) hs).1
noncomputable def Dy (g:G)(x:Str):Option (List (Str×Nat)):=if iX g x=true then(match g.T.lookup x with|some (.dct fs)=>some fs|_=>none) else none
def uX (o:dZ fa n g X)(h:Dy g x=some fs):(∃ad kvs,X.mg x=some (.ref ad)/\fV X.K X.w.params ad kvs/\eL fa kvs fs)/\Gl X x/\(x==("__debug__":Str))=false:=by
 obtain⟨c,h⟩:=oi h;split at h
 ·next e=>cases h;exact{o.T.dct e,dC o c}
 ·cases h
noncomputable def DD (R:Rc)(g:G)(e:Expr):Option GE:=Kl e λa qs bs _=>
 (n2 qs λq r=>n2 bs λb c=>if 0<g.lv/\behindInMarks r c=false then(R.e g a).bind λy=>(R.e g b).bind λz=>(R.e g c).bind λu=>some (qS (gu q) (gu r) y z u) else none).or
 (n1 qs λq=>n1 bs λb=>(if gu q=.notin then nName b λx _=>(Dy g x).bind λfs=>(R.e g a).bind λy=>some (i5 fs y) else none).or
  (if 0<g.lv/\behindInMarks q b=false then(R.e g a).bind λy=>(R.e g b).bind λz=>some (ax (gu q) y z) else none))
noncomputable def IM:dr:=DD
def uh (h:gu q=.notin):q=.NotIn:=(di q).symm.trans (congrArg eZ h)
def FW:SE IM:=by
 intro fa n R rc g X o a ga h;replace h:=qK h;obtain⟨a,qs,bs,p,rfl,h⟩:=h;replace h:=b7 h;rcases h with h|h
 ·replace h:=iz h;obtain⟨q,r,rfl,h⟩:=h;obtain⟨b,d,rfl,h⟩:=iz h;obtain⟨c,h⟩:=oi h;replace h:=ob h;obtain⟨y,hy,h⟩:=h;replace h:=ob h;obtain⟨z,hz,h⟩:=h;replace h:=ob h;obtain⟨u,hu,h⟩:=h;cases h;have:=NI (o.rm c.1) (gu q) (gu r) (rc.e o hy) (rc.e o hz) (rc.e o hu) (by rw[di,di];exact c.2) (pos:=p)
  rw[di,di] at this;exact this
 replace h:=cU h;obtain⟨q,rfl,h⟩:=h;replace h:=cU h;obtain⟨b,rfl,h⟩:=h;replace h:=b7 h;rcases h with h|h
 ·replace h:=oi h;obtain⟨c,h⟩:=h;obtain⟨x,_,rfl,h⟩:=cS h;obtain⟨fs,e,h⟩:=ob h;obtain⟨y,hy,h⟩:=ob h;cases h;obtain⟨d,e1,e2⟩:=uX o e;rw[uh c];exact GC d e1 e2 (rc.e o hy) rfl
 ·obtain⟨c,h⟩:=oi h;obtain⟨y,hy,h⟩:=ob h;obtain⟨z,hz,h⟩:=ob h;cases h;have:=NG (o.rm c.1) (gu q) (rc.e o hy) (rc.e o hz) (by rw[di];exact c.2) (pos:=p)
  rw[di] at this;exact this
noncomputable def OE:Expr->Bool
 |.Compare ..=>false
 |.BoolOp ..=>false
 |.UnaryOp ..=>false
 |.IfExp ..=>false
 |_=>true
noncomputable def vT:Fv:=λR g e=>((DD R g e).bind λx=>some (aj x)).or
 ((EH e λq es _ => match q with
   |.And=>tH (R.t g) eV es
   |.Or=>tH (R.t g) dY es).or
 ((Oe e λq a _ => match q with
   |.Not=>(R.t g a).bind λx=>some (bL x)
   |_=>none).or (if OE e=true then(R.e g e).bind λx=>some (aj x) else none)))
def FN (rc:iW fa n R)(o:dZ fa n g X)(h:DD R g a=some ga):DT fa X a (aj ga):=by
 replace h:=qK h;obtain⟨a,qs,bs,p,rfl,h⟩:=h;replace h:=b7 h;rcases h with h|h
 ·replace h:=iz h;obtain⟨q,r,rfl,h⟩:=h;obtain⟨b,d,rfl,h⟩:=iz h;obtain⟨c,h⟩:=oi h;replace h:=ob h;obtain⟨y,hy,h⟩:=h;replace h:=ob h;obtain⟨z,hz,h⟩:=h;replace h:=ob h;obtain⟨u,hu,h⟩:=h;cases h;have:=Lo (o.rm c.1) (gu q) (gu r) (rc.e o hy) (rc.e o hz) (rc.e o hu) (by rw[di,di];exact c.2) (pos:=p)
  rw[di,di] at this;exact this
 replace h:=cU h;obtain⟨q,rfl,h⟩:=h;replace h:=cU h;obtain⟨b,rfl,h⟩:=h;replace h:=b7 h;rcases h with h|h
 ·replace h:=oi h;obtain⟨c,h⟩:=h;obtain⟨x,_,rfl,h⟩:=cS h;obtain⟨fs,e,h⟩:=ob h;obtain⟨y,hy,h⟩:=ob h;cases h;obtain⟨d,e1,e2⟩:=uX o e;rw[uh c];exact GH d e1 e2 (rc.e o hy) rfl
 ·obtain⟨c,h⟩:=oi h;obtain⟨y,hy,h⟩:=ob h;obtain⟨z,hz,h⟩:=ob h;cases h;have:=Ln (o.rm c.1) (gu q) (rc.e o hy) (rc.e o hz) (by rw[di];exact c.2) (pos:=p)
  rw[di] at this;exact this
def Mn:ST vT:=by
 intro fa n R rc g X o a ga h;replace h:=b7 h;rcases h with h|h
 ·obtain⟨x,hx,h⟩:=ob h;cases h;exact FN rc o hx
 replace h:=b7 h;rcases h with h|h
 ·obtain⟨q,es,p,rfl,h⟩:=uq h;cases q with
  |And=>exact PW.pt (vQ (rc.t o) h)
  |Or=>exact PW.pt (zy (rc.t o) h)
 replace h:=b7 h;rcases h with h|h
 ·obtain⟨q,a,p,rfl,h⟩:=Au h;cases q with
  |Not=>obtain⟨x,hx,h⟩:=ob h;cases h;exact Ll (rc.t o hx)
  |_=>cases h
 ·obtain⟨c,h⟩:=oi h;obtain⟨x,hx,h⟩:=ob h;cases h;exact Ds (rc.e o hx) λ_=>by cases a<;>first|rfl|cases c
noncomputable def jv:Expr->Bool
 |.Slice ..=>false
 |_=>true
def lF (h:jv b=true):iq b:=by
 intro x i;cases b<;>first|rfl|cases h
noncomputable def cO (f:Expr->Option GE):Option Expr->Option GE
 |none=>some (gC .non)
 |some a=>f a
def Fm (hf:∀{a:Expr}{ga:GE},f a=some ga->DE fa X a ga)(h:cO f q=some ge):DO fa X q q.isSome ge:=by
 cases q with
 |none=>cases h;exact HC
 |some a=>exact HB (hf h)
noncomputable def IE:dr:=λR g e=>qI e λa b _=>nName a λx _=>(Dy g x).bind λfs=>if jv b=true then(R.e g b).bind λy=>some (lQ fs y) else none
def FP:SE IE:=by
 intro fa n R rc g X o a ga h;replace h:=je h;obtain⟨a,b,p,rfl,h⟩:=h;replace h:=cS h;obtain⟨x,q,rfl,h⟩:=h;obtain⟨fs,e,h⟩:=ob h;obtain⟨c,h⟩:=oi h;obtain⟨y,hy,h⟩:=ob h;cases h;obtain⟨d,e1,e2⟩:=uX o e;exact GF d e1 e2 (rc.e o hy) (lF c)
noncomputable def IJ:dr:=λR g e=>qI e λa b p=>(O1 b λlo hi st _=>if st.isNone=true/\g.tx p=false then(R.e g a).bind λx=>(cO (R.e g) lo).bind λy=>(cO (R.e g) hi).bind λz=>some (fq (g.cl p) lo.isSome hi.isSome x y z) else none).or
 (if jv b=true then(R.e g a).bind λx=>(R.e g b).bind λy=>some (aq x y) else none)
def FV:SE IJ:=by
 intro fa n R rc g X o a ga h;replace h:=je h;obtain⟨a,b,p,rfl,h⟩:=h;replace h:=b7 h;rcases h with h|h
 ·obtain⟨lo,hi,st,p2,rfl,h⟩:=G4 h;obtain⟨⟨c,_⟩,h⟩:=oi h;replace h:=ob h;obtain⟨x,hx,h⟩:=h;replace h:=ob h;obtain⟨y,hy,h⟩:=h;replace h:=ob h;obtain⟨z,hz,h⟩:=h;cases h;rw[SO.mp c];exact Nw _ _ _ (rc.e o hx) (Fm (rc.e o) hy) (Fm (rc.e o) hz)
 ·obtain⟨c,h⟩:=oi h;obtain⟨x,hx,h⟩:=ob h;obtain⟨y,hy,h⟩:=ob h;cases h;exact NC (rc.e o hx) (rc.e o hy) (lF c)
noncomputable def lx (g:G)(x:Str):Option Nat:=if (g.sc.names.lookup x==some .local||(g.sc.names.lookup x==some .cell&&(g.lv != 1||g.oc.contains x)))=true then g.N.findIdx? (·==x) else none
noncomputable def EI (g:G):List Expr->Option (List Nat)
 |[]=>some []
 |e::r=>nName e λx _=>(lx g x).bind λi=>(EI g r).bind λl=>some (i::l)
noncomputable def cG (g:G)(e:Expr):Option fW:=(nName e λx _=>(lx g x).bind λi=>some (.one i)).or (uo e λes _ _=>if 0<g.lv then((EI g es).bind λl=>some (.tup l)).or (n2 es λa b=>nName a λx _=>uo b λbs _ _=>(lx g x).bind λi=>(EI g bs).bind λl=>some (.two i l)) else none)
section
variable{fa:Fa}{n:Nat}{g:G}{X:Cx}{R:Rc}(o:dZ fa n g X)
include o
theorem xQ (h:lx g x=some i):X.N[i]?=some x/\L2.Loc X.env.scope x/\(X.fn x=true\/X.env.scope.names.lookup x=some .local):=by
 obtain⟨c,h⟩:=oi h;rw[Sm,Qy] at c;refine{xY o h,?_,?_}
 ·unfold L2.Loc;rw[o.sc];rcases c with z|z
  ·exact .inl (eq_of_beq z)
  ·exact .inr (eq_of_beq z.1)
 ·rcases c with z|z
  ·right;rw[o.sc];exact eq_of_beq z
  ·rcases Bool.or_eq_true_iff.mp z.2 with q|q
   ·exact .inl (o.fn (by simpa using q) x)
   ·exact .inl (o.oc x (List.contains_iff_mem.mp q))
theorem uw:∀{es:List Expr}{l:List Nat},EI g es=some l->ja X l es
 |[],_,h=>by cases h;exact .nil
 | e :: r, _, h => by
   replace h:=cS h;obtain⟨x,p,rfl,h⟩:=h;obtain⟨i,hi,h⟩:=ob h;obtain⟨l,hl,h⟩:=ob h;cases h;obtain⟨a,b,c⟩:=xQ o hi;exact .cons a b c (uw hl)
theorem j4 (h:cG g t=some tt):PG X t (gT fa X.K tt):=by
 replace h:=b7 h;rcases h with h|h
 ·obtain⟨x,p,rfl,h⟩:=cS h;replace h:=ob h;obtain⟨i,hi,h⟩:=h;cases h;obtain⟨a,b,c⟩:=xQ o hi;exact HK (o.N ▸ o.nd) a b c
 ·replace h:=ig h;obtain⟨es,k,p,rfl,h⟩:=h;replace h:=oi h;obtain⟨c,h⟩:=h;replace h:=b7 h;rcases h with h|h
  ·obtain⟨l,hl,h⟩:=ob h;cases h;exact LF (o.calm c) (o.N ▸ o.nd) (uw o hl)
  ·obtain⟨a,b,rfl,h⟩:=iz h;replace h:=cS h;obtain⟨x,px,rfl,h⟩:=h;replace h:=ig h;obtain⟨bs,k2,p2,rfl,h⟩:=h;obtain⟨i,hi,h⟩:=ob h;obtain⟨l,hl,h⟩:=ob h;cases h;obtain⟨e1,e2,e3⟩:=xQ o hi;exact LC (o.calm c) (o.N ▸ o.nd) e1 e2 e3 (uw o hl)
end
noncomputable def cB (nm:Str)(R:Rc)(g:G)(e:Expr):Option (List Expr×GA):=ow e λx es _=>nC es λa es=>if x=nm/\iX g x=true/\(match g.T.lookup x with|some .bl=>true|_=>false)=true/\0<g.lv then(cA (R.e g) (a::es)).bind λgs=>some (a::es,gs) else none
def lW {g:G}(h:(match g.T.lookup x with|some .bl=>true|_=>false)=true):g.T.lookup x=some .bl:=by
 split at h
 ·assumption
 ·cases h
def n9 (rc:iW fa n R)(o:dZ fa n g X)(h:cB nm R g e=some (as,gs)):∃p pos a es,as=a::es/\e=.Call (.Name nm p) (a::es) [] pos/\Gl X nm/\X.mg nm=none/\0<g.lv/\DA fa X (a::es) gs/\notStar a=true/\es.all notStar=true:=by
 replace h:=gQ h;obtain⟨x,q,es,p,rfl,h⟩:=h;replace h:=jP h;obtain⟨a,es,rfl,h⟩:=h;replace h:=oi h;obtain⟨⟨rfl,c1,c2,c3⟩,h⟩:=h;obtain⟨gs,hgs,h⟩:=ob h;cases h;obtain⟨d,ns⟩:=j5 (rc.e o) hgs;rw[RN,Qy] at ns;exact{_,_,_,_,rfl,rfl,(dC o c1).1,o.T.bl (lW c2),c3,d,ns.1,ns.2}
noncomputable def IH:dr:=λR g e=>(cB "len" R g e).bind λq=>some (aJ .len q.2)
def FT:SE IH:=λ{fa n R} rc {g X} o {a ga} h=>by
 obtain⟨⟨as,gs⟩,hq,h⟩:=ob h;cases h;obtain⟨_,_,_,_,_,rfl,hg,hm,_,d,n1,n2⟩:=n9 rc o hq;exact yk .len Nj hg hm PySem.boot_len d `d `d (a9 n1) (dE n2)
noncomputable def IS:dr:=λR g e=>(cB "all" R g e).bind λq=>some (aJ .all q.2)
def FZ:SE IS:=λ{fa n R} rc {g X} o {a ga} h=>by
 obtain⟨⟨as,gs⟩,hq,h⟩:=ob h;cases h;obtain⟨_,_,_,_,_,rfl,hg,hm,lv,d,n1,n2⟩:=n9 rc o hq;exact yk .all (Nl (o.calm lv)) hg hm `k d `d `d (a9 n1) (dE n2)
noncomputable def ID:dr:=λR g e=>(cB "sum" R g e).bind λq=>some (aJ .sum q.2)
def FO:SE ID:=λ{fa n R} rc {g X} o {a ga} h=>by
 obtain⟨⟨as,gs⟩,hq,h⟩:=ob h;cases h;obtain⟨_,_,_,_,_,rfl,hg,hm,lv,d,n1,n2⟩:=n9 rc o hq;exact yk .sum (Nh (o.calm lv)) hg hm `k d `d `d (a9 n1) (dE n2)
noncomputable def IG:dr:=λR g e=>(cB "max" R g e).bind λq=>some (uL q.2)
def FR:SE IG:=λ{fa n R} rc {g X} o {a ga} h=>by
 obtain⟨⟨as,gs⟩,hq,h⟩:=ob h;cases h;obtain⟨_,_,_,_,_,rfl,hg,hm,lv,d,n1,n2⟩:=n9 rc o hq;exact MB (o.calm lv) hg hm d n1 n2
noncomputable def zb:dr:=λR g e=>(cB "tuple" R g e).bind λq=>some (aJ .tuple q.2)
def yZ:SE zb:=λ{fa n R} rc {g X} o {a ga} h=>by
 obtain⟨⟨as,gs⟩,hq,h⟩:=ob h;cases h;obtain⟨_,_,_,_,_,rfl,hg,hm,_,d,n1,n2⟩:=n9 rc o hq;exact A8 .tuple Hm hg hm `k d `d `d (a9 n1) (dE n2)
noncomputable def Eh:dr:=λR g e=>(cB "list" R g e).bind λq=>some (aJ (.list (g.cl e.pos)) q.2)
def BQ:SE Eh:=λ{fa n R} rc {g X} o {a ga} h=>by
 obtain⟨⟨as,gs⟩,hq,h⟩:=ob h;cases h;obtain⟨_,_,_,_,_,rfl,hg,hm,_,d,n1,n2⟩:=n9 rc o hq;exact A8 (.list _) (La _) hg hm `k d `d `d (a9 n1) (dE n2)
noncomputable def cR (R:Rc)(g:G)(nm:Str)(e:Expr):Option (Expr×GE):=ow e λx es _=>n1 es λa=>if x=nm/\iX g x=true/\(match g.T.lookup x with|some .bl=>true|_=>false)=true/\0<g.lv/\notStar a=true then(R.e g a).bind λy=>some (a,y) else none
def j3 (rc:iW fa n R)(o:dZ fa n g X)(h:cR R g nm e=some (a,ga)):∃p pos,e=.Call (.Name nm p) [a] [] pos/\Gl X nm/\X.mg nm=none/\0<g.lv/\DE fa X a ga/\starEach [a] X.env=[(false,eval a X.env)]:=by
 replace h:=gQ h;obtain⟨x,q,es,p,rfl,h⟩:=h;replace h:=cU h;obtain⟨a,rfl,h⟩:=h;replace h:=oi h;obtain⟨⟨rfl,c1,c2,c3,c4⟩,h⟩:=h;obtain⟨y,hy,h⟩:=ob h;cases h;exact{_,_,rfl,(dC o c1).1,o.T.bl (lW c2),c3,rc.e o hy,a9 c4}
noncomputable def ze:dr:=λR g e=>ow e λx es p=>n1 es λb=>if x="list"/\iX g x=true/\(match g.T.lookup x with|some .bl=>true|_=>false)=true then(cR R g "range" b).bind λq=>some (mU (g.cl p) q.2) else none
def zd:SE ze:=λ{fa n R} rc {g X} o {a ga} h=>by
 replace h:=gQ h;obtain⟨x,q,es,p,rfl,h⟩:=h;replace h:=cU h;obtain⟨b,rfl,h⟩:=h;replace h:=oi h;obtain⟨⟨rfl,c1,c2⟩,h⟩:=h;obtain⟨⟨b,y⟩,hq,h⟩:=ob h;cases h;obtain⟨_,_,rfl,hg,hm,lv,d,hs⟩:=j3 rc o hq;exact Gy _ (o.calm lv) d (dC o c1).1 (o.T.bl (lW c2)) hg hm hs rfl
noncomputable def II:dr:=λR g e=>(cR R g "int" e).bind λq=>some (uM q.2)
def FU:SE II:=λ{fa n R} rc {g X} o {a ga} h=>by
 obtain⟨⟨b,y⟩,hq,h⟩:=ob h;cases h;obtain⟨_,_,rfl,hg,hm,lv,d,hs⟩:=j3 rc o hq;exact Ju d hg hm hs
noncomputable def B2 (x:Str):Option Ty:=if x="int" then some .int else if x="bool" then some .bool else if x="str" then some .str else if x="tuple" then some .tuple else if x="list" then some .list else none
def F0 (h:B2 x=some t):bootBuiltins x=some (.type (tyName t))/\(∀c,t≠.own c)/\x≠"__name__"/\(x==("__debug__":Str))=false:=by
 unfold B2 at h;split at h
 ·subst x;cases h;exact{`k,(λ_ z=>nomatch z),`d,`d}
 split at h
 ·subst x;cases h;exact{`k,(λ_ z=>nomatch z),`d,`d}
 split at h
 ·subst x;cases h;exact{`k,(λ_ z=>nomatch z),`d,`d}
 split at h
 ·subst x;cases h;exact{`k,(λ_ z=>nomatch z),`d,`d}
 split at h
 ·subst x;cases h;exact{`k,(λ_ z=>nomatch z),`d,`d}
 ·cases h
noncomputable def cI (R:Rc)(g:G)(e:Expr):Option (Str×GE):=ow e λy es _=>n2 es λa b=>nName b λx _=>if y="isinstance"/\iX g y=true/\(match g.T.lookup y with|some .bl=>true|_=>false)=true/\iX g x=true/\notStar a=true then(R.e g a).bind λz=>some (x,z) else none
def NQ (rc:iW fa n R)(o:dZ fa n g X)(h:cI R g e=some (x,ga)):∃p q a pos,e=.Call (.Name "isinstance" p) [a,.Name x q] [] pos/\Gl X "isinstance"/\X.mg "isinstance"=none/\Gl X x/\(x==("__debug__":Str))=false/\DE fa X a ga/\starEach [a,.Name x q] X.env=(false,eval a X.env)::starEach [.Name x q] X.env:=by
 replace h:=gQ h;obtain⟨y,q,es,p,rfl,h⟩:=h;replace h:=iz h;obtain⟨a,b,rfl,h⟩:=h;replace h:=cS h;obtain⟨x,q2,rfl,h⟩:=h;replace h:=oi h;obtain⟨⟨rfl,c1,c2,c3,c4⟩,h⟩:=h;obtain⟨z,hz,h⟩:=ob h;cases h;exact{_,_,_,_,rfl,(dC o c1).1,o.T.bl (lW c2),(dC o c3).1,(dC o c3).2,rc.e o hz,a9 c4}
noncomputable def Ei:dr:=λR g e=>(cI R g e).bind λq=>if (match g.T.lookup q.1 with|some .bl=>true|_=>false)=true then(B2 q.1).bind λt=>some (bI t q.2) else none
def BR:SE Ei:=λ{fa n R} rc {g X} o {a ga} h=>by
 obtain⟨⟨x,z⟩,hq,h⟩:=ob h;obtain⟨c,h⟩:=oi h;obtain⟨t,ht,h⟩:=ob h;cases h;obtain⟨_,_,_,_,rfl,hg,hm,hx,hd,d,hs⟩:=NQ rc o hq;obtain⟨b1,b2,b3,b4⟩:=F0 ht;exact LI t b2 d hg hm `k hx (o.T.bl (lW c)) b1 b3 b4 hs
noncomputable def Ep:dr:=λR g e=>ow e λx es _=>nC es λa es=>if 0<g.lv then(match vr g x with
 |some i=>(cA (R.e g) (a::es)).bind λgs=>some (mV i g.c gs)
 | none => if iX g x = true then(match g.T.lookup x with
   |some (.fn i _)=>(cA (R.e g) (a::es)).bind λgs=>some (ai i g.c gs)
   |_=>none) else none) else none
def BY:SE Ep:=λ{fa n R} rc {g X} o {a ga} h=>by
 replace h:=gQ h;obtain⟨x,q,es,p,rfl,h⟩:=h;replace h:=jP h;obtain⟨a,es,rfl,h⟩:=h
 ·obtain⟨lv,h⟩:=oi h;split at h
  ·next e=>
   obtain⟨gs,hgs,h⟩:=ob h;cases h;obtain⟨d,ns⟩:=j5 (rc.e o) hgs;rw[RN,Qy] at ns;obtain⟨a,b,c1,c2⟩:=Ec o e;exact HQ (o.C lv) ((o.hr lv).mono (Nat.le_succ _)) a b d c1 c2 (a9 ns.1) (dE ns.2)
  ·obtain⟨c,h⟩:=oi h;split at h
   ·next e=>
    obtain⟨gs,hgs,h⟩:=ob h;cases h;obtain⟨d,ns⟩:=j5 (rc.e o) hgs;rw[RN,Qy] at ns;exact LN (o.C lv _) ((o.hr lv).mono (Nat.le_succ _)) (dC o c).1 (o.T.fn e) d (dC o c).2 (a9 ns.1) (dE ns.2)
   ·cases h
noncomputable def D6:dr:=λR g e=>(ow e λx es _=>nC es λa es=>if 2<=g.lv/\iX g x=true then(match g.T.lookup x with
 |some (.fn i true)=>(cA (R.e g) (a::es)).bind λgs=>some (cb i g.c gs)
 |_=>none) else none).or (Ki e λc a b _=>(R.x g a).bind λx=>(R.x g b).bind λy=>(R.t g c).bind λt=>some (yb t x y))
def BD:SX D6:=λ{fa n R} rc {g X} o {a ga} h=>by
 replace h:=b7 h;rcases h with h|h
 ·obtain⟨x,q,es,p,rfl,h⟩:=gQ h;obtain⟨a,es,rfl,h⟩:=jP h;replace h:=oi h;obtain⟨⟨lv,c⟩,h⟩:=h;split at h
  ·next e=>
   replace h:=ob h;obtain⟨gs,hgs,h⟩:=h;cases h;obtain⟨d,ns⟩:=j5 (rc.e o) hgs;rw[RN,Qy] at ns;exact x_call _ (o.C `a) ((o.hr `a).mono (Nat.le_succ _)) (o.top lv).1 (dC o c).1 (o.T.fn e) d (dC o c).2 ns.1 ns.2
  ·cases h
 ·obtain⟨c,a,b,p,rfl,h⟩:=wc h;obtain⟨x,hx,h⟩:=ob h;obtain⟨y,hy,h⟩:=ob h;obtain⟨t,ht,h⟩:=ob h;cases h;exact Mm (rc.t o ht) (rc.x o hx) (rc.x o hy)
noncomputable def yO:dr:=λR g e=>ow e λx es _=>n1 es λa=>if 2<=g.lv/\iX g x=true/\notStar a=true then(match g.T.lookup x with
 |some (.fnD i)=>(R.e g a).bind λy=>some (cb i g.c (dP y (dP (gC .non) bY)))
 |_=>none) else none
def yN:SX yO:=λ{fa n R} rc {g X} o {a ga} h=>by
 replace h:=gQ h;obtain⟨x,q,es,p,rfl,h⟩:=h;replace h:=cU h;obtain⟨a,rfl,h⟩:=h;replace h:=oi h;obtain⟨⟨lv,c,st⟩,h⟩:=h;split at h
 ·next e=>
  replace h:=ob h;obtain⟨y,hy,h⟩:=h;cases h;exact FG _ (o.C `a) ((o.hr `a).mono (Nat.le_succ _)) (o.top lv).1 (dC o c).1 (o.T.fnD e).1 (o.T.fnD e).2 (rc.e o hy) (dC o c).2 st
 ·cases h
noncomputable def kM:Expr->Bool
 |.Call ..=>false
 |_=>true
def ik (h:kM a=true):attributeBase a m env w=w:=by
 cases a<;>first|rfl|cases h
noncomputable def N5:dr:=λR g e=>O3 e λl _=>nC l λa l=>n2 l λb c=>xK a λz=>Og b λb=>xK c λy=>(R.e g b).bind λx=>some (uO z y x)
def IK:SE N5:=λ{fa n R} rc {g X} o {a ga} h=>by
 replace h:=G6 h;obtain⟨l,p,rfl,h⟩:=h;replace h:=jP h;obtain⟨a,l,rfl,h⟩:=h;replace h:=iz h;obtain⟨b,c,rfl,h⟩:=h;replace h:=qJ h;obtain⟨z,_,_,rfl,h⟩:=h;replace h:=Kj h;obtain⟨b,_,rfl,h⟩:=h;replace h:=qJ h;obtain⟨y,_,_,rfl,h⟩:=h;obtain⟨x,hx,h⟩:=ob h;cases h;exact OV (rc.e o hx)
noncomputable def Ea:vw:=λR g _ e=>(cR R g "range" e).bind λq=>some (cZ q.2)
def BL:SW Ea:=λ{fa n R} rc {g X} o {t a ga} h=>by
 obtain⟨⟨b,y⟩,hq,h⟩:=ob h;cases h;obtain⟨_,_,rfl,hg,hm,_,d,hs⟩:=j3 rc o hq;exact HH d hg hm hs
noncomputable def Eb:vw:=λR g t e=>uo t λ_ _ _=>(cR R g "enumerate" e).bind λq=>some (gr q.2)
def BM:SW Eb:=λ{fa n R} rc {g X} o {t a ga} h=>by
 replace h:=ig h;obtain⟨_,_,_,rfl,h⟩:=h;obtain⟨⟨b,y⟩,hq,h⟩:=ob h;cases h;obtain⟨_,_,rfl,hg,hm,_,d,hs⟩:=j3 rc o hq;exact HJ d hg hm hs
noncomputable def cN (R:Rc)(g:G)(nm:Str)(e:Expr):Option (List Expr):=ow e λx es _=>if x=nm/\iX g x=true/\(match g.T.lookup x with|some .bl=>true|_=>false)=true/\0<g.lv/\es.all notStar=true then some es else none
def NP (o:dZ fa n g X)(h:cN R g nm e=some es):∃p pos,e=.Call (.Name nm p) es [] pos/\Gl X nm/\X.mg nm=none/\es.all notStar=true:=by
 replace h:=gQ h;obtain⟨x,q,es,p,rfl,h⟩:=h;replace h:=oi h;obtain⟨⟨rfl,c1,c2,c3,c4⟩,h⟩:=h;cases h;exact{_,_,rfl,(dC o c1).1,o.T.bl (lW c2),c4}
def xn:∀{es:List Expr},es.all notStar=true->starEach es env=es.map λa=>(false,eval a env)
 |[],_=>rfl
 | a :: es, h => by
   rw[RN,Qy] at h;rw[a9 h.1,xn h.2];rfl
noncomputable def D9:vw:=λR g t e=>uo t λ_ _ _=>(cN R g "zip" e).bind λes=>n2 es λa b=>(R.e g a).bind λx=>(R.e g b).bind λy=>some (jW x y)
def BK:SW D9:=λ{fa n R} rc {g X} o {t a ga} h=>by
 replace h:=ig h;obtain⟨_,_,_,rfl,h⟩:=h;obtain⟨es,hq,k⟩:=ob h;clear h;obtain⟨_,_,rfl,hg,hm,ns⟩:=NP o hq;replace k:=iz k;obtain⟨a,b,rfl,k⟩:=k;obtain⟨x,hx,k⟩:=ob k;obtain⟨y,hy,k⟩:=ob k;cases k;exact HG (rc.e o hx) (rc.e o hy) hg hm (xn ns) (xn (Sj.mp (RN ▸ ns)).2)
noncomputable def Iw:vw:=λR g _ e=>if g.tx e.pos=false then(R.e g e).bind λx=>some (bR x) else none
def FJ:SW Iw:=λ{fa n R} rc {g X} o {t a ga} h=>by
 obtain⟨_,h⟩:=oi h;obtain⟨x,hx,h⟩:=ob h;cases h;exact LB (rc.e o hx)
noncomputable def kL:Expr->Bool
 |.Set ..=>false
 |_=>true
def wH (h:kL a=true)(x:Qr):foldedSetIterable a env x=pure x:=by
 cases a<;>first|rfl|cases h
noncomputable def xC:Expr->List Str
 |.Name x _=>[x]
 |.Tuple es _ _=>(es.map fun|.Name x _=>[x]|.Tuple bs _ _=>bs.filterMap (fun|.Name x _=>some x|_=>none)|_=>[]).flatten
 |_=>[]
noncomputable def vd (g:G)(own:List Str):List Str:=g.N.map λx=>if own.contains x then x++("%":Str) else x
noncomputable def CC (scope sc:Scope):Scope:={scope with names:=scope.names.map λ(n,k)=>if (k==.free&&sc.kind==.function&&sc.names.lookup n==some .cell) then(n,.cell) else(n,k)}
noncomputable def G.inC (g:G)(own:List Str)(scope:Scope):G:={g with N:=own++vd g own,sc:=CC scope g.sc,lv:=1,oc:=(scope.names.filter λy=>scope.names.lookup y.1==some .cell).map (·.1)}
noncomputable def vZ (g:G)(own:List Str)(scope:Scope):Prop:=0<g.lv/\scope.kind=.function/\rj (vd g own) g.N g.sc scope=true/\(own++vd g own).Nodup
instance (g:G) (own:List Str) (scope:Scope):Decidable (vZ g own scope):=by unfold vZ;infer_instance
def ym (o:dZ fa n g X)(c:vZ g own scope):fK X own (vd g own) scope/\∀cl C fp s H,dZ fa n (g.inC own scope) (gi X own (vd g own) scope cl C fp s H):=by
 obtain⟨c1,c2,c3,c4⟩:=c;refine{Bc c2 o.sc o.N c3,λcl C fp s H=>{rfl,c4,?_,o.T,o.tw,o.xf,o.ms,(λz=>absurd rfl z),(λx hx=>by obtain⟨y,hy,e⟩:=QE.mp hx;subst e;exact(RG.mp hy).2),λ_=>o.calm c1,λ_=>o.C c1,λ_=>o.hr c1,(λz=>absurd (show 2<=1 from z) `d),(λz=>nomatch z)}}
 show relabel scope X.env=CC scope g.sc;unfold relabel CC Env.kindOf;rw[o.sc]
structure Mi (fa:Fa) (X:Cx) (e:Expr) (k:Nat) (t:fW) (gw:GW) (gb:GB):Prop where
 ex:∃elt tg iter ifs rest scope pos own bn W body,e=.ListComp elt ({tg,iter,ifs,0}::rest) scope pos/\k=own.length/\fK X own bn scope/\DI fa X tg iter gw/\Block fa X (LA fa X.K) own bn scope tg t W body gb/\qm X elt tg iter ifs rest scope pos body/\(∀i∈W,i∉slots t)/\(∀i∈slots t++W,i<own.length)/\∀x,foldedSetIterable iter X.env x=pure x
noncomputable def cC (R:Rc)(g:G)(e:Expr):Option (Nat×fW×GW×GB):=Of e λelt gens scope _=>(n1 gens λc=>nG c λtg iter ifs=>let own:=xC tg
 if vZ g own scope/\kL iter=true then(R.w g tg iter).bind λw=>(cG (g.inC own scope) tg).bind λt=>(R.e (g.inC own scope) elt).bind λx=>if (slots t).all (· < own.length)=true then(n0 ifs (some (own.length,t,w,bp x))).or (n1 ifs λc=>(R.t (g.inC own scope) c).bind λq=>some (own.length,t,w,gY q (bp x))) else none else none).or
 (n2 gens λc d=>nG c λtg iter ifs=>nG d λt2 i2 ifs2=>let own:=xC tg++xC t2
  n0 ifs (n0 ifs2 (if vZ g own scope/\kL iter=true/\kL i2=true then(R.w g tg iter).bind λw=>(cG (g.inC own scope) tg).bind λt=>(R.w (g.inC own scope) t2 i2).bind λw2=>(cG (g.inC own scope) t2).bind λu=>(R.e (g.inC own scope) elt).bind λx=>if (slots t++slots u).all (· < own.length)=true/\(slots u).all (λi=>!(slots t).contains i)=true then some (own.length,t,w,uN u w2 (bp x)) else none else none)))
def Fn (rc:iW fa n R)(o:dZ fa n g X)(h:cC R g e=some (k,t,gw,gb)):Mi fa X e k t gw gb:=by
 replace h:=Av h;obtain⟨elt,gens,scope,p,rfl,h⟩:=h;replace h:=b7 h;rcases h with h|h
 ·replace h:=cU h;obtain⟨c,rfl,h⟩:=h;replace h:=sQ h;obtain⟨tg,iter,ifs,rfl,h⟩:=h;replace h:=oi h;obtain⟨⟨c,cs⟩,h⟩:=h;replace h:=ob h;obtain⟨w,hw,h⟩:=h;replace h:=ob h;obtain⟨t,ht,h⟩:=h;replace h:=ob h;obtain⟨x,hx,h⟩:=h;replace h:=oi h;obtain⟨c2,h⟩:=h;obtain⟨S,O⟩:=ym o c;replace h:=b7 h;rcases h with h|h
  ·obtain⟨rfl,h⟩:=eK h;cases h;exact{_,_,_,_,_,_,_,_,_,[],(λa env=>eval elt env >>= λx=>call (.builtin "list.append") [.ref a,x] >>= λ_=>pure ()),rfl,rfl,S,rc.w o hw,{λcl C fp s H=>j4 (O cl C fp s H) ht,λcl C fp s H a=>uY (rc.e (O cl C fp s H) hx)},(λit a env=>B6 _ _ _ [] _ _ (.ref it) (.ref a) env),(λi h=>nomatch h),(by simpa using lu c2),wH cs}
  ·obtain⟨d,rfl,h⟩:=cU h;obtain⟨q,hq,h⟩:=ob h;cases h;exact{_,_,_,_,_,_,_,_,_,[],(λa env=>PySem.isTrue d env (eval d env) >>= λok=>if ok=true then(eval elt env >>= λx=>call (.builtin "list.append") [.ref a,x] >>= λ_=>pure ()) else pure ()),rfl,rfl,S,rc.w o hw,{λcl C fp s H=>j4 (O cl C fp s H) ht,λcl C fp s H a=>Nr LA.stab (rc.t (O cl C fp s H) hq) (uY (rc.e (O cl C fp s H) hx))},(λit a env=>turn_if _ _ _ _ _ _ (.ref it) (.ref a) env),(λi h=>nomatch h),(by simpa using lu c2),wH cs}
 ·replace h:=iz h;obtain⟨c,d,rfl,h⟩:=h;replace h:=sQ h;obtain⟨tg,iter,ifs,rfl,h⟩:=h;replace h:=sQ h;obtain⟨t2,i2,ifs2,rfl,h⟩:=h;replace h:=eK h;obtain⟨rfl,h⟩:=h;replace h:=eK h;obtain⟨rfl,h⟩:=h;obtain⟨⟨c,cs,cs2⟩,h⟩:=oi h;obtain⟨w,hw,h⟩:=ob h;obtain⟨t,ht,h⟩:=ob h;obtain⟨w2,hw2,h⟩:=ob h;obtain⟨u,hu,h⟩:=ob h;obtain⟨x,hx,h⟩:=ob h;obtain⟨⟨c2,c3⟩,h⟩:=oi h;cases h;obtain⟨S,O⟩:=ym o c;exact{_,_,_,_,_,_,_,_,_,slots u,(λa env=>eval i2 env >>= λx=>standAt i2.pos >>= λ_=>foldedSetIterable i2 env x >>= λx=>holding [x] (pyIter x) >>= λj=>runOwn (.compStart (.ListComp elt [{tg,iter,[],0},{t2,i2,[],0}] scope p) 1 j (.ref a) env) env >>= λ_=>pure ()),rfl,rfl,S,rc.w o hw,{λcl C fp s H=>j4 (O cl C fp s H) ht,λcl C fp s H a=>LG rfl (o.calm c.1) (rc.w (O cl C fp s H) hw2) (j4 (O cl C fp s H) hu) (rc.e (O cl C fp s H) hx) (wH cs2)},(λit a env=>B4 _ _ _ _ _ _ _ (.ref it) (.ref a) env),zS c3,lu c2,wH cs}
noncomputable def Eo:dr:=λR g e=>if 0<g.lv then(cC R g e).bind λq=>some (bj (g.cl e.pos) q.1 q.2.1 q.2.2.1 q.2.2.2) else none
def BX:SE Eo:=λ{fa n R} rc {g X} o {a ga} h=>by
 obtain⟨lv,h⟩:=oi h;obtain⟨⟨k,t,w,b⟩,hq,h⟩:=ob h;cases h;obtain⟨elt,tg,iter,ifs,rest,scope,pos,own,bn,W,body,rfl,rfl,S,hi,B,T,h1,h2,h3⟩:=(Fn rc o hq).ex;exact LM _ S (o.calm lv) hi B T h1 h2 h3
noncomputable def qh (f:Stmt->Option GS):List Stmt->Option GS
 |[]=>some aD
 |a::r=>(f a).bind λx=>(qh f r).bind λy=>some (bw x y)
def iL (hf:∀{a:Stmt}{ga:GS},f a=some ga->DS fa X a ga):∀{ss:List Stmt}{gs:GS},qh f ss=some gs->la fa X ss gs
 |[],_,h=>by cases h;exact Hv
 | a :: r, _, h => by
   obtain⟨x,hx,h⟩:=ob h;obtain⟨y,hy,h⟩:=ob h;cases h;exact Dt (hf hx) (iL hf hy)
noncomputable def v8:Expr->Bool
 |.ListComp ..=>false
 |.SetComp ..=>false
 |.DictComp ..=>false
 |_=>true
def v9 (h:v8 a=true):swapsWith a t l env=pure false:=by
 cases a<;>first|rfl|cases h
noncomputable def LX (g:G)(tg a:Expr):Bool:=match a with
 |.ListComp ..=>(match tg with|.Name y _=>g.sc.names.lookup y==some .cell|_=>false)
 |.Tuple ..=>(match tg with|.Name ..=>true|_=>false)
 |.SetComp ..=>false
 |.DictComp ..=>false
 |_=>true
def LW (o:dZ fa n g X)(c:LX g tg a=true)(ht:cG g tg=some t):swapsWithSole [tg] a l X.env=pure false/\swappedStores [tg] a X.env=pure none/\(assignEach [tg] X.env).map (·.2)=[assign tg X.env]:=by
 refine{?_,?_,?_}
 ·cases a<;>first|rfl|cases c|skip
  cases tg<;>first|cases c|skip
  next y p=>
  have e:=eq_of_beq c;have hk:(X.env.kindOf y==some .local)=false:=by unfold Env.kindOf;rw[o.sc,e];rfl
  show(pure (X.env.blockKind==.function&&X.env.kindOf y==some .local&&_&&_):Sem Bool)=pure false;rw[hk,Bool.and_false,Bool.false_and,Bool.false_and]
 ·replace ht:=b7 ht;rcases ht with h|h
  ·obtain⟨_,_,rfl,_⟩:=cS h;cases a<;>first|rfl|cases c
  ·obtain⟨_,_,_,rfl,_⟩:=ig h;cases a<;>first|rfl|cases c
 ·replace ht:=b7 ht;rcases ht with h|h
  ·obtain⟨_,_,rfl,_⟩:=cS h;rfl
  ·obtain⟨_,_,_,rfl,_⟩:=ig h;rfl
noncomputable def Ik:mi:=λR g st=>xt st λts a _=>n1 ts λtg=>if LX g tg a=true then(cG g tg).bind λt=>((R.x g a).bind λx=>some (fw t x)).or ((R.e g a).bind λx=>some (ay t x)) else none
def FD:SS Ik:=λ{fa n R} rc {g X} o {a ga} h=>by
 replace h:=nF h;obtain⟨ts,a,p,rfl,h⟩:=h;replace h:=cU h;obtain⟨tg,rfl,h⟩:=h;obtain⟨c,h⟩:=oi h;obtain⟨t,ht,h⟩:=ob h;obtain⟨a1,a2,a3⟩:=LW o c ht;replace h:=b7 h;rcases h with h|h
 ·obtain⟨x,e,h⟩:=ob h;cases h;exact Ji (rc.x o e) (j4 o ht) a1 a2 a3
 ·obtain⟨x,hx,h⟩:=ob h;cases h;exact Lv (rc.e o hx) (j4 o ht) a1 a2 a3
noncomputable def D4:mi:=λR g st=>xt st λts d _=>n1 ts λt=>nName t λy py=>Of d λelt gens scope p=>if 2<=g.lv/\g.sc.names.lookup y=some .local/\(py.line==p.line)=true/\(scope.names.any λ(n,k)=>n==y&&(k==.local||k==.cell))=false then(cC R g (.ListComp elt gens scope p)).bind λq=>(g.N.findIdx? (·==y)).bind λi=>some (ay (.one i) (bj (g.cl p) q.1 q.2.1 q.2.2.1 q.2.2.2)) else none
def BB:SS D4:=λ{fa n R} rc {g X} o {a ga} h=>by
 replace h:=nF h;obtain⟨ts,d,_,rfl,h⟩:=h;replace h:=cU h;obtain⟨t,rfl,h⟩:=h;replace h:=cS h;obtain⟨y,py,rfl,h⟩:=h;replace h:=Av h;obtain⟨_,_,sc0,p,rfl,h⟩:=h
 ·next=>
  obtain⟨⟨lv,c1,c2,c3⟩,h⟩:=oi h;obtain⟨⟨k,t,w,b⟩,hq,h⟩:=ob h;obtain⟨i,hi,h⟩:=ob h;cases h;obtain⟨elt,tg,iter,ifs,rest,scope,pos,own,bn,W,body,e0,rfl,S,hi',B,T,h1,h2,h3⟩:=(Fn rc o hq).ex;cases e0;have hl:X.env.scope.names.lookup y=some .local:=by rw[o.sc];exact c1
  refine yh _ S (o.calm `a) hi' B T h1 h2 h3 (o.N ▸ o.nd) (xY o hi) hl ?_
  have hk:=(o.top lv).2.2.2;have hb:(X.env.blockKind==.function)=true:=by unfold Env.blockKind;rw[hk];rfl
  have hkd:(X.env.kindOf y==some .local)=true:=by unfold Env.kindOf;rw[hl];rfl
  show(pure (X.env.blockKind==.function&&X.env.kindOf y==some .local&&(py.line==p.line)&&!(sc0.names.any λ(n,k)=>n==y&&(k==.local||k==.cell))):Sem Bool)=pure true;rw[hb,hkd,c2,c3];rfl
noncomputable def Ij:mi:=λR g st=>xt st λts d _=>n1 ts λt=>qI t λa b _=>if jv b=true then(R.e g a).bind λx=>(R.e g b).bind λy=>(R.e g d).bind λz=>some (eG x y z) else none
def FC:SS Ij:=λ{fa n R} rc {g X} o {a ga} h=>by
 replace h:=nF h;obtain⟨ts,d,_,rfl,h⟩:=h;replace h:=cU h;obtain⟨t,rfl,h⟩:=h;replace h:=je h;obtain⟨a,b,p2,rfl,h⟩:=h
 ·next=>
  obtain⟨c,h⟩:=oi h;obtain⟨x,hx,h⟩:=ob h;obtain⟨y,hy,h⟩:=ob h;obtain⟨z,hz,h⟩:=ob h;cases h;refine Lq (rc.e o hx) (rc.e o hy) (rc.e o hz) (λv=>?_) ?_ ?_ rfl
  ·cases b<;>first|rfl|cases c
  ·cases d<;>rfl
  ·cases d<;>rfl
noncomputable def Il:mi:=λR g st=>CA st λe _=>Km e λa m d q=>if m="append"/\kM a=true/\q=true/\notStar d=true then(R.e g a).bind λx=>(R.e g d).bind λy=>some (fo x y) else none
def FE:SS Il:=λ{fa n R} rc {g X} o {a ga} h=>by
 replace h:=qz h;obtain⟨e,_,rfl,h⟩:=h;replace h:=Aw h;obtain⟨a,m,q,d,p,rfl,h⟩:=h;replace h:=oi h;obtain⟨⟨rfl,c1,c2,c3⟩,h⟩:=h;obtain⟨x,hx,h⟩:=ob h;obtain⟨y,hy,h⟩:=ob h;cases h;exact Lw (rc.e o hx) (rc.e o hy) (ik c1) c2 (a9 c3) rfl
noncomputable def Ii:mi:=λR g st=>(CA st λa _=>if v8 a=true then((R.x g a).bind λx=>some (iR x)).or ((R.e g a).bind λx=>some (zY x)) else none).or
 ((sRt st λq _ => match q with
   |none=>some Ez
   |some a=>((R.x g a).bind λx=>some (xr x)).or ((R.e g a).bind λx=>some (aM x))).or
 ((sPs st λ_=>some EA).or
 ((sIf st λc st sf _=>(R.t g c).bind λt=>(qh (R.s g) st).bind λx=>(qh (R.s g) sf).bind λy=>some (aN t x y)).or
 (sFr st λtg a body el _=>n0 el (if g.lv=2/\kL a=true then(R.w g tg a).bind λw=>(cG g tg).bind λt=>(qh (R.s g) body).bind λx=>some (bU t w x) else none)))))
def FA:SS Ii:=λ{fa n R} rc {g X} o {a ga} h=>by
 replace h:=b7 h;rcases h with h|h
 ·obtain⟨a,p,rfl,h⟩:=qz h;obtain⟨c,h⟩:=oi h;rcases b7 h with h|h
  ·obtain⟨x,e,h⟩:=ob h;cases h;exact My (rc.x o e) (v9 c)
  ·obtain⟨x,hx,h⟩:=ob h;cases h;exact Np (rc.e o hx) (v9 c)
 replace h:=b7 h;rcases h with h|h
 ·obtain⟨q,p,rfl,h⟩:=Jm h;cases q with
  |none=>cases h;exact Hw
  | some a =>
    rcases b7 h with h|h
    ·obtain⟨x,e,h⟩:=ob h;cases h;exact Jf (rc.x o e)
    ·obtain⟨x,hx,h⟩:=ob h;cases h;exact Lp (rc.e o hx)
 replace h:=b7 h;rcases h with h|h
 ·obtain⟨p,rfl,h⟩:=Jn h;cases h;exact Hx
 replace h:=b7 h;rcases h with h|h
 ·obtain⟨c,st,sf,p,rfl,h⟩:=Jp h;obtain⟨t,ht,h⟩:=ob h;obtain⟨x,hx,h⟩:=ob h;obtain⟨y,hy,h⟩:=ob h;cases h;exact Lr (rc.t o ht) (iL (rc.s o) hx) (iL (rc.s o) hy)
 ·obtain⟨tg,a,body,el,p,rfl,h⟩:=Jq h;obtain⟨rfl,h⟩:=eK h;obtain⟨⟨lv,c⟩,h⟩:=oi h;obtain⟨w,hw,h⟩:=ob h;obtain⟨t,ht,h⟩:=ob h;obtain⟨x,hx,h⟩:=ob h;cases h;exact Lu (o.po lv) (o.calm `a) (rc.w o hw) (j4 o ht) (Nq (iL (rc.s o) hx)) (wH c)
noncomputable def yM:mi:=λR g st=>OT st λe c _=>if c.isNone=true then e.bind λe=>ow e λx es _=>nC es λa es=>if 2<=g.lv/\iX g x=true then(match g.T.lookup x with
 |some (.xc k)=>(cA (R.e g) (a::es)).bind λgs=>some (f9 k gs)
 |_=>none) else none else none
def yL:SS yM:=λ{fa n R} rc {g X} o {a ga} h=>by
 replace h:=Gw h;obtain⟨e,c,_,rfl,h⟩:=h;replace h:=oi h;obtain⟨c,h⟩:=h;rw[SO.mp c];replace h:=ob h;obtain⟨e,rfl,h⟩:=h;replace h:=gQ h;obtain⟨x,q,es,p,rfl,h⟩:=h;replace h:=jP h;obtain⟨a,es,rfl,h⟩:=h
 ·obtain⟨⟨lv,c⟩,k⟩:=oi h;clear h;split at k
  ·next e=>
   obtain⟨gs,hgs,k⟩:=ob k;cases k;obtain⟨d,ns⟩:=j5 (rc.e o) hgs;rw[RN,Qy] at ns;obtain⟨C,h1,h2,h3,_⟩:=o.T.xc e;exact Gv _ ⟨C,h1,h2,h3⟩ (o.top lv).1 (dC o c).1 (o.calm `a) d (dC o c).2 ns.1 ns.2
  ·cases k
def Dk (o:dZ fa n g X)(lv:2<=g.lv)(pn:List (Addr×Obj))(E:Qr->Qu->Prop):dZ fa n {g with lv:=3} (sS X pn E):={o.N,o.nd,o.sc,o.T,o.tw,o.xf,o.ms,λ_=>o.fn `a,o.oc,λ_=>o.calm `a,λ_=>o.C `a,λ_=>o.hr `a,λ_=>o.top lv,(λz=>nomatch z)}
def Dl (o:dZ fa n g X)(lv:2<=g.lv)(v:Qr)(E:Qr->Qu->Prop):dZ fa n {g with lv:=0} (sT X v E):={o.N,o.nd,o.sc,o.T,o.tw,o.xf,o.ms,λ_=>o.fn `a,o.oc,(λz=>absurd (show 0<0 from z) `d),(λz=>absurd (show 0<0 from z) `d),(λz=>absurd (show 0<0 from z) `d),(λz=>absurd (show 2<=0 from z) `d),(λz=>nomatch z)}
noncomputable def vJ:mi:=λR g st=>sTr st λbody hs el fi _=>n0 el (n0 fi (n1 hs fun
 |.ExceptHandler t nm su _=>t.bind λt=>nName t λx _=>nC su λb suite=>if nm.isNone=true/\2<=g.lv/\iX g x=true then(g.tw.find? λq=>q.1==x&&q.2.1==x&&q.2.2.1==q.2.2.2).bind λq=>(qh (R.s {g with lv:=3}) body).bind λu=>(qh (R.s {g with lv:=0}) (b::suite)).bind λv=>some (mB u q.2.2.1 q.2.2.1 v) else none))
def xh:SS vJ:=λ{fa n R} rc {g X} o {a ga} h=>by
 replace h:=Jl h;obtain⟨body,hs,el,fi,_,rfl,h⟩:=h;replace h:=eK h;obtain⟨rfl,h⟩:=h;replace h:=eK h;obtain⟨rfl,h⟩:=h;replace h:=cU h;obtain⟨hd,rfl,h⟩:=h;obtain⟨t,nm,su,_⟩:=hd;replace h:=ob h;obtain⟨t,rfl,h⟩:=h;replace h:=cS h;obtain⟨x,_,rfl,h⟩:=h;replace h:=jP h;obtain⟨b,suite,rfl,h⟩:=h;obtain⟨⟨cn,lv,c⟩,k⟩:=oi h;clear h;rw[SO.mp cn];obtain⟨q,hq,k⟩:=ob k;obtain⟨u,hu,k⟩:=ob k;obtain⟨v,hv,k⟩:=ob k;cases k;have tw:=o.tw q (List.mem_of_find?_eq_some hq);have e:=List.find?_some hq;rw[Qy,Qy] at e;rw[eq_of_beq e.1.1,eq_of_beq e.1.2,<- eq_of_beq e.2] at tw;have tp:=o.top lv;exact Cz tw tp.1 tp.2.1 tp.2.2.1 (dC o c).1 (dC o c).2 (λpn E=>iL (rc.s (Dk o lv pn E)) hu) (λv E=>iL (rc.s (Dl o lv v E)) hv)
section
variable{β:Type}{e:Expr}{st:Stmt}{r:β}
noncomputable def CU (e:Expr)(k:List (Option Expr)->List Expr->Pos->Option β):Option β:=if h:e.ctorIdx=6 then @Expr.Dict.elim (λ_=>Option β) e h k else none
def wd (h:CU e k=some r):∃a b c,e=.Dict a b c/\k a b c=some r:=(od h).elim λz h=>@Expr.Dict.elim (λe=>∀z,@Expr.Dict.elim (λ_=>Option β) e z k=some r->∃a b c,e=.Dict a b c/\k a b c=some r) e z (λa b c _ h=>⟨a,b,c,rfl,h⟩) z h
noncomputable def Ob (e:Stmt)(k:Expr->List Stmt->List Stmt->Pos->Option β):Option β:=if h:e.ctorIdx=11 then @Stmt.While.elim (λ_=>Option β) e h k else none
def Jk (h:Ob st k=some r):∃a b c d,st=.While a b c d/\k a b c d=some r:=(od h).elim λz h=>@Stmt.While.elim (λe=>∀z,@Stmt.While.elim (λ_=>Option β) e z k=some r->∃a b c d,e=.While a b c d/\k a b c d=some r) st z (λa b c d _ h=>⟨a,b,c,d,rfl,h⟩) z h
noncomputable def Oh (e:Expr)(k:Expr->Expr->List SF->Scope->Pos->Option β):Option β:=if h:e.ctorIdx=10 then @Expr.DictComp.elim (λ_=>Option β) e h k else none
def Kk (h:Oh e k=some r):∃a b c d p,e=.DictComp a b c d p/\k a b c d p=some r:=(od h).elim λz h=>@Expr.DictComp.elim (λe=>∀z,@Expr.DictComp.elim (λ_=>Option β) e z k=some r->∃a b c d p,e=.DictComp a b c d p/\k a b c d p=some r) e z (λa b c d p _ h=>⟨a,b,c,d,p,rfl,h⟩) z h
end
def mf (o:dZ fa n g X):eT fa:=⟨o.T.of,o.T.od.1,o.T.od.2⟩
noncomputable def Em:dr:=λR g e=>qI e λa b p=>if g.tx p=true/\jv b=true/\0<g.lv then(R.e g a).bind λx=>(R.e g b).bind λy=>some (dX x y) else none
def BW:SE Em:=λ{fa n R} rc {g X} o {a ga} h=>by
 replace h:=je h;obtain⟨a,b,p,rfl,h⟩:=h;replace h:=oi h;obtain⟨⟨_,c,lv⟩,h⟩:=h;obtain⟨x,hx,h⟩:=ob h;obtain⟨y,hy,h⟩:=ob h;cases h;exact LL (o.rm lv) (mf o) (rc.e o hx) (rc.e o hy) (lF c)
noncomputable def isIn (q:CmpOp):Option Bool:=match q with
 |.In=>some false
 |.NotIn=>some true
 |_=>none
def Hj (h:isIn q=some n):q=if n then .NotIn else .In:=by
 cases q<;>first|(cases h;rfl)|cases h
noncomputable def LR (R:Rc)(g:G)(e:Expr):Option GE:=Kl e λa qs bs p=>n1 qs λq=>n1 bs λb=>if g.tx p=true/\behindInMarks q b=false/\0<g.lv then(isIn q).bind λn=>(R.e g a).bind λx=>(R.e g b).bind λy=>some (gZ n x y) else none
def HZ (rc:iW fa n R)(o:dZ fa n g X)(h:LR R g e=some ge):DE fa X e ge/\DT fa X e (aj ge):=by
 replace h:=qK h;obtain⟨a,qs,bs,p,rfl,h⟩:=h;replace h:=cU h;obtain⟨q,rfl,h⟩:=h;replace h:=cU h;obtain⟨b,rfl,h⟩:=h;replace h:=oi h;obtain⟨⟨_,c,lv⟩,h⟩:=h;obtain⟨m,hm,h⟩:=ob h;obtain⟨x,hx,h⟩:=ob h;obtain⟨y,hy,h⟩:=ob h;cases h;have e:=Hj hm;subst e;exact{ND m (o.rm lv) (mf o) (rc.e o hx) (rc.e o hy) c,Lm m (o.rm lv) (mf o) (rc.e o hx) (rc.e o hy) c}
noncomputable def Iy:Fv:=λR g e=>(LR R g e).bind λx=>some (aj x)
def FL:ST Iy:=λ{fa n R} rc {g X} o {a ga} h=>by
 obtain⟨x,hx,h⟩:=ob h;cases h;exact(HZ rc o hx).2
noncomputable def D3:mi:=λR g st=>xt st λts d _=>n1 ts λt=>qI t λa b p=>if g.tx p=true/\jv b=true/\0<g.lv then(R.e g a).bind λx=>(R.e g b).bind λy=>(R.e g d).bind λz=>some (fL x y z) else none
def BA:SS D3:=λ{fa n R} rc {g X} o {a ga} h=>by
 replace h:=nF h;obtain⟨ts,d,_,rfl,h⟩:=h;replace h:=cU h;obtain⟨t,rfl,h⟩:=h;replace h:=je h;obtain⟨a,b,p2,rfl,h⟩:=h;replace h:=oi h;obtain⟨⟨_,c,lv⟩,h⟩:=h;obtain⟨x,hx,h⟩:=ob h;obtain⟨y,hy,h⟩:=ob h;obtain⟨z,hz,h⟩:=ob h;cases h;refine Jh (o.rm lv) (mf o) (rc.e o hx) (rc.e o hy) (rc.e o hz) (λv=>?_) ?_ ?_
 ·cases b<;>first|rfl|cases c
 ·cases d<;>rfl
 ·cases d<;>rfl
noncomputable def Ek:dr:=λR g e=>CU e λks vs p=>n0 ks (n0 vs (some (nV (if g.tx p=true then 78 else 77))))
def BU:SE Ek:=λ{fa n R} rc {g X} o {a ga} h=>by
 replace h:=wd h;obtain⟨ks,vs,p,rfl,h⟩:=h;replace h:=eK h;obtain⟨rfl,h⟩:=h;replace h:=eK h;obtain⟨rfl,h⟩:=h;cases h;exact LJ _ (by split<;>simp) (mf o)
noncomputable def El:dr:=λR g e=>if g.tx e.pos=true then(cR R g "len" e).bind λq=>if notStar q.1=true then some (jX q.2) else none else none
def BV:SE El:=λ{fa n R} rc {g X} o {a ga} h=>by
 obtain⟨_,h⟩:=oi h;obtain⟨⟨b,y⟩,hq,h⟩:=ob h;obtain⟨c,h⟩:=oi h;cases h;obtain⟨_,_,rfl,hg,hm,_,d,hs⟩:=j3 rc o hq;exact LK (mf o) hg hm d c
noncomputable def zk:dr:=λR g e=>Oh e λkx vx gens scope p=>n1 gens λc=>nG c λtg iter ifs=>let own:=xC tg
 n0 ifs (if vZ g own scope/\kL iter=true then(R.w g tg iter).bind λw=>(cG (g.inC own scope) tg).bind λt=>(R.e (g.inC own scope) kx).bind λx=>(R.e (g.inC own scope) vx).bind λy=>if (slots t).all (· < own.length)=true then some (kU (if g.tx p=true then 78 else 77) own.length t w (jY x y)) else none else none)
def zj:SE zk:=λ{fa n R} rc {g X} o {a ga} h=>by
 replace h:=Kk h;obtain⟨kx,vx,gens,scope,p,rfl,h⟩:=h;replace h:=cU h;obtain⟨c,rfl,h⟩:=h;replace h:=sQ h;obtain⟨tg,iter,ifs,rfl,h⟩:=h;replace h:=eK h;obtain⟨rfl,h⟩:=h;replace h:=oi h;obtain⟨⟨c,cs⟩,h⟩:=h;obtain⟨w,hw,h⟩:=ob h;obtain⟨t,ht,h⟩:=ob h;obtain⟨x,hx,h⟩:=ob h;obtain⟨y,hy,h⟩:=ob h;obtain⟨c2,h⟩:=oi h;cases h;obtain⟨S,O⟩:=ym o c;exact HP (by split<;>simp) (mf o) S (o.calm c.1) (rc.w o hw) {λcl C fp s H=>j4 (O cl C fp s H) ht,λcl C fp s H a=>HL ((O cl C fp s H).rm Nat.zero_lt_one) (mf o) (rc.e (O cl C fp s H) hx) (rc.e (O cl C fp s H) hy)} (by simpa using lu c2) (wH cs)
noncomputable def yK:mi:=λR g st=>Ob st λc body el _=>n0 el (if g.lv=2 then(R.t g c).bind λt=>(qh (R.s g) body).bind λb=>some (f7 t b) else none)
def yJ:SS yK:=λ{fa n R} rc {g X} o {a ga} h=>by
 replace h:=Jk h;obtain⟨c,body,el,p,rfl,h⟩:=h;replace h:=eK h;obtain⟨rfl,h⟩:=h;replace h:=oi h;obtain⟨lv,h⟩:=h;obtain⟨t,ht,h⟩:=ob h;obtain⟨b,hb,h⟩:=ob h;cases h;exact Gu (o.po lv) (rc.t o ht) (iL (rc.s o) hb)
noncomputable def IQ:dr:=λR g e=>(cR R g "any" e).bind λq=>if notStar q.1=true then some (qT q.2) else none
def FY:SE IQ:=λ{fa n R} rc {g X} o {a ga} h=>by
 obtain⟨⟨b,y⟩,hq,h⟩:=ob h;obtain⟨c,h⟩:=oi h;cases h;obtain⟨_,_,rfl,hg,hm,lv,d,hs⟩:=j3 rc o hq;exact NL (o.calm lv) hg hm d c
noncomputable def IP:dr:=λR g e=>pW e λh es ks p=>xN h λa m ap=>n0 ks (n0 es (if m="clear"/\kM a=true/\(ap.endLine==p.line)=true then(R.e g a).bind λx=>some (qR x) else none))
def FX:SE IP:=λ{fa n R} rc {g X} o {a ga} h=>by
 replace h:=jw h;obtain⟨hd,es,ks,p,rfl,h⟩:=h;replace h:=oV h;obtain⟨a,m,ap,rfl,h⟩:=h;replace h:=eK h;obtain⟨rfl,h⟩:=h;replace h:=eK h;obtain⟨rfl,h⟩:=h;replace h:=oi h;obtain⟨⟨rfl,c1,c2⟩,h⟩:=h;obtain⟨x,hx,h⟩:=ob h;cases h;exact NH (rc.e o hx) (ik c1) c2
noncomputable def N6:dr:=λR g e=>CU e λks vs p=>n1 ks λk=>k.bind λk=>n1 vs λv=>if 0<g.lv then(R.e g k).bind λx=>(R.e g v).bind λy=>some (wF (if g.tx p=true then 78 else 77) x y) else none
def IL:SE N6:=λ{fa n R} rc {g X} o {a ga} h=>by
 replace h:=wd h;obtain⟨ks,vs,p,rfl,h⟩:=h;replace h:=cU h;obtain⟨k,rfl,h⟩:=h;obtain⟨k,rfl,h⟩:=Ru.mp h;replace h:=cU h;obtain⟨v,rfl,h⟩:=h;replace h:=oi h;obtain⟨lv,h⟩:=h;obtain⟨x,hx,h⟩:=ob h;obtain⟨y,hy,h⟩:=ob h;cases h;exact HN _ (by split<;>simp) (o.rm lv) (mf o) (rc.e o hx) (rc.e o hy)
noncomputable def yX:vw:=λR g _ e=>if g.cl e.pos=true then(R.e g e).bind λx=>some (fg c8 x) else none
def yW:SW yX:=λ{fa n R} rc {g X} o {t a ga} h=>by
 obtain⟨_,h⟩:=oi h;obtain⟨x,hx,h⟩:=ob h;cases h;exact HI (mf o) (rc.e o hx)
noncomputable def D5:mi:=λR g st=>CA st λe _=>Km e λa m d q=>if m="append"/\kM a=true/\q=true/\notStar d=true then(R.e g a).bind λx=>(R.x g d).bind λy=>some (nH x y) else none
def BC:SS D5:=λ{fa n R} rc {g X} o {a ga} h=>by
 replace h:=qz h;obtain⟨e,_,rfl,h⟩:=h;replace h:=Aw h;obtain⟨a,m,q,d,p,rfl,h⟩:=h;replace h:=oi h;obtain⟨⟨rfl,c1,c2,c3⟩,h⟩:=h;obtain⟨x,hx,h⟩:=ob h;obtain⟨y,hy,h⟩:=ob h;cases h;exact Hy (rc.e o hx) (rc.x o hy) (ik c1) c2 (a9 c3) rfl
noncomputable def zi:dr:=λR g e=>pW e λh es ks p=>xN h λa m ap=>n0 ks (n2 es λb c=>if m="get"/\kM a=true/\(ap.endLine==p.line)=true/\notStar b=true/\notStar c=true/\0<g.lv then(R.e g a).bind λx=>(R.e g b).bind λy=>(R.e g c).bind λz=>some (g4 x y z) else none)
def zh:SE zi:=λ{fa n R} rc {g X} o {a ga} h=>by
 replace h:=jw h;obtain⟨hd,es,ks,p,rfl,h⟩:=h;replace h:=oV h;obtain⟨a,m,ap,rfl,h⟩:=h;replace h:=eK h;obtain⟨rfl,h⟩:=h;replace h:=iz h;obtain⟨b,c,rfl,h⟩:=h;replace h:=oi h;obtain⟨⟨rfl,c1,c2,c3,c4,lv⟩,h⟩:=h;obtain⟨x,hx,h⟩:=ob h;obtain⟨y,hy,h⟩:=ob h;obtain⟨z,hz,h⟩:=ob h;cases h;exact NF (o.rm lv) (mf o) (rc.e o hx) (rc.e o hy) (rc.e o hz) (ik c1) c2 (by rw[a9 c3,a9 c4];rfl) (a9 c4)
noncomputable def Eg:dr:=λR g e=>(cR R g "min" e).bind λq=>some (nS q.2)
def BP:SE Eg:=λ{fa n R} rc {g X} o {a ga} h=>by
 obtain⟨⟨b,y⟩,hq,h⟩:=ob h;cases h;obtain⟨_,_,rfl,hg,hm,lv,d,hs⟩:=j3 rc o hq;exact Jt (o.calm lv) hg hm d hs
noncomputable def Ef:dr:=λR g e=>pW e λh es ks p=>nName h λx _=>n1 es λa=>n1 ks λk=>xM k.value λc _ _=>if x="min"/\iX g x=true/\(match g.T.lookup x with|some .bl=>true|_=>false)=true/\0<g.lv/\notStar a=true/\k.arg=some "default"/\(match c with|.none=>true|_=>false)=true then(R.e g a).bind λy=>some (lP y) else none
def BO:SE Ef:=λ{fa n R} rc {g X} o {a ga} h=>by
 replace h:=jw h;obtain⟨hd,es,ks,p,rfl,h⟩:=h;replace h:=cS h;obtain⟨x,q,rfl,h⟩:=h;replace h:=cU h;obtain⟨a,rfl,h⟩:=h;replace h:=cU h;obtain⟨⟨ka,kv,kp⟩,rfl,h⟩:=h;replace h:=nO h;obtain⟨c,i,cp,rfl,h⟩:=h;replace h:=oi h;obtain⟨⟨rfl,c1,c2,lv,c3,rfl,c4⟩,h⟩:=h;have ec:c=.none:=by revert c4;cases c<;>simp
 subst ec;obtain⟨y,hy,h⟩:=ob h;cases h;exact Js (o.rm lv) (o.calm lv) (dC o c1).1 (o.T.bl (lW c2)) (rc.e o hy) (a9 c3)
noncomputable def zg:dr:=λR g e=>if g.tx e.pos=true then(cR R g "list" e).bind λq=>some (kT (g.cl e.pos) q.2) else none
def zf:SE zg:=λ{fa n R} rc {g X} o {a ga} h=>by
 obtain⟨_,h⟩:=oi h;obtain⟨⟨b,y⟩,hq,h⟩:=ob h;cases h;obtain⟨_,_,rfl,hg,hm,lv,d,hs⟩:=j3 rc o hq;exact GD (o.calm lv) (mf o) _ hg hm d hs
noncomputable def Ej:dr:=λR g e=>qI e λa b p=>if jv b=true/\0<g.lv then(match a with
 |.Dict ks vs _=>(pq ks vs).bind λkvs=>if decide ((kvs.map (·.1)).Nodup)=true/\kvs.length≠0/\kvs.length<=15 then(R.e g b).bind λy=>some (nU kvs y) else none
 |_=>none) else none
def BS:SE Ej:=λ{fa n R} rc {g X} o {a ga} h=>by
 replace h:=je h;obtain⟨a,b,p,rfl,h⟩:=h;obtain⟨⟨c1,lv⟩,h⟩:=oi h;split at h
 ·obtain⟨kvs,hk,h⟩:=ob h;obtain⟨⟨c2,c3,c4⟩,h⟩:=oi h;obtain⟨y,hy,h⟩:=ob h;cases h;exact Jx hk (of_decide_eq_true c2) c3 c4 (rc.e o hy) (lF c1)
 ·cases h
structure Ent where
 i:Nat
 x:Str
 st:Stmt
 ps:Nat
 N:List Str
 f:Addr
 pm:Str×Tok
 b:Call->GS
 r:Bool:=false
 q:Option Str:=none
 df:Addr:=0
noncomputable def Ent.qn (e:Ent):Str:=e.q.getD e.x
structure nr where
 T:List (Str×En)
 tw:List (Str×Str×Nat×Nat)
 xf:List Str
 dl:List (Str×List (Str×Nat))
 il:List (Str×Nat)
 cel:List (Nat×Nat×Nat)
 txt:List (Nat×Nat×Nat)
 ms:List (Str×Nat×Nat)
 rs:Rs
 tb:List Ent
noncomputable def nr.g (t:nr)(e:Ent)(c:Call):G:={t.T,t.tw,t.xf,t.cel,t.txt,t.ms,c,e.N,bc e.st,2,[]}
noncomputable def nr.Pg (t:nr)(i:Nat):Option Df:=(t.tb.find? (·.i==i)).map λe=>⟨e.ps,e.N.length,e.b⟩
noncomputable def nr.rd (t:nr)(c:Call)(e:Ent):Option GS:=qh ((It t.rs 60).s (t.g e c)) (dg e.st)
noncomputable def Dq (e:Ent):Bool:=decide ((bc e.st).kind=.function)&&!(bc e.st).isCoroutine&&!(bc e.st).isGenerator&&decide e.N.Nodup&&((e.N.take e.ps).length==e.ps)&&((e.N.take e.ps).all λx=>(bc e.st).names.lookup x==some .local||(bc e.st).names.lookup x==some .cell)&&((bc e.st).names.all (·.2 != .free))
def p9 (h:Dq e=true):jl e.N (e.N.take e.ps) (bc e.st)/\(e.N.take e.ps).length=e.ps:=by
 unfold Dq at h;simp only[Qy,decide_eq_true_eq,Bool.not_eq_true',QX,Sm,beq_iff_eq,bne_iff_ne] at h;obtain⟨⟨⟨⟨⟨⟨h1,h2⟩,h3⟩,h4⟩,h5⟩,h6⟩,h7⟩:=h;exact{{h1,h2,h3,h4,by rw[h5],h6,h7},h5}
noncomputable def Ent.dV (e:Ent):Qr:=if e.df=0 then .none else .ref e.df
noncomputable def Le (e:Ent):Option Obj:=some {.type "function",none,.func (PySem.W.fnOf e.x e.qn (fj e.st) (dg e.st) (bc e.st) e.dV .none .none (.str e.pm.1 e.pm.2) none (.ref (e.f-1)) .none),#[]}
def mI {α β:Type}{f g:α->β}{l:List α}(h:l.map f=l.map g){a:α}(m:a∈l):f a=g a:=List.map_inj_left.mp h a m
noncomputable def ph (e:Ent)(us:List Qr)(kV doc pm:Qr)(an:Option Addr)(cdv ct:Qr):Sem (List (Str×Qr)):=bindArgs (PySem.W.fnOf e.x e.qn (fj e.st) (dg e.st) (bc e.st) e.dV kV doc pm an cdv ct) {us,[]}
noncomputable def pG (tb:List Ent)(k:Nat)(us:List Qr):Prop:=∀(kV doc pm:Qr) (an:Option Addr) (cdv ct:Qr),(tb.filter λe=>e.ps==k&&e.df==0).map (λe=>ph e us kV doc pm an cdv ct)=(tb.filter λe=>e.ps==k&&e.df==0).map λe=>pure ((e.N.take e.ps).zip us)
structure yy (t:nr):Prop where
 rs:DM t.rs
 rd:∀c,t.tb.map (t.rd c)=t.tb.map λe=>some (e.b c)
 sc:t.tb.all Dq=true
 ar:t.tb.all (λe=>e.ps==0||e.ps==1||e.ps==2||e.ps==3||e.ps==4||e.ps==6)=true
 a0:pG t.tb 0 []
 a1:∀a,pG t.tb 1 [a]
 a2:∀a b,pG t.tb 2 [a,b]
 a3:∀a b c,pG t.tb 3 [a,b,c]
 a4:∀a b c d,pG t.tb 4 [a,b,c,d]
 a6:∀a b c d e f,pG t.tb 6 [a,b,c,d,e,f]
 ad:AllP (λe=>e.ps=2/\∀(a b kV doc pm:Qr) (an:Option Addr) (cdv ct:Qr),∃k k1,ph e [a,b] kV doc pm an cdv ct=seqItems? (.ref e.df) >>= k/\k (some #[.none])=pure ((e.N.take e.ps).zip [a,b])/\ph e [a] kV doc pm an cdv ct=seqItems? (.ref e.df) >>= k1/\k1 (some #[.none])=pure ((e.N.take e.ps).zip [a,.none])) (t.tb.filter λe=>!(e.df==0))
structure By (K:Qp) (tb:List Ent):Prop where
 ns:(tb.filter (·.q.isNone)).map (λe=>PySem.W.nsIn K mainGlobals e.x)=(tb.filter (·.q.isNone)).map λe=>some (some (.ref e.f))
 lk:tb.map (λe=>K.lookup e.f)=tb.map Le
 dk:tb.all (λe=>e.df==0||(match K.lookup e.df with|some {_,_,.seq its _,_}=>its==#[.none]|_=>false))=true
 ck:tb.all (λe=>PySem.W.codeIn K (.ref (e.f-1)) e.qn&&PySem.W.keepIn K (.ref e.f))=true
def IW {K:Qp}{tb:List Ent}(k:By K tb)(m:e∈tb):yF K e.x e.qn e.st e.f (PySem.W.fnOf e.x e.qn (fj e.st) (dg e.st) (bc e.st) e.dV .none .none (.str e.pm.1 e.pm.2) none (.ref (e.f-1)) .none):=by
 have c:=QX.mp k.ck e m;rw[Qy] at c;exact{{_,_,_,_,_,_,_,_,_,_,rfl,mI k.lk m,c.1},c.2}
def F4 {K:Qp}{h:Heap}(k:By K tb)(X:K.In h)(G:h.Ns mainGlobals mg)(m:e∈tb)(hq:e.q.isNone=true)(hd:e.df=0):mg e.x=some (.ref e.f)/\∃fd,w9 K e.x e.qn e.st e.f fd:=by
 have c:=QX.mp k.ck e m;rw[Qy] at c;have l:=mI k.lk m;unfold Le Ent.dV at l;rw[if_pos hd] at l;exact{Sa X G (mI k.ns (RG.mpr ⟨m,hq⟩)),_,K1 l c.1 c.2}
def us6 {α:Type}{p:List α->Prop}(h:∀a b c d e f,p [a,b,c,d,e,f]):∀(us:List α) (hl:us.length=6),p us
 |[a,b,c,d,e,f],_=>h a b c d e f
def Cb {t:nr}(T:yy t){e:Ent}(m:e∈t.tb)(h0:e.df=0)(kV doc pm:Qr)(an:Option Addr)(cdv ct:Qr):∀us:List Qr,us.length=(e.N.take e.ps).length->ph e us kV doc pm an cdv ct=pure ((e.N.take e.ps).zip us):=by
 have hl:=(p9 (QX.mp T.sc e m)).2;have a:=QX.mp T.ar e m;have f:∀{k:Nat}{us:List Qr},e.ps=k->pG t.tb k us->ph e us kV doc pm an cdv ct=pure ((e.N.take e.ps).zip us):=λ{k us} hk ao=>mI (ao kV doc pm an cdv ct) (RG.mpr {m,by rw[hk,h0];simp})
 rw[hl];simp only[Sm,beq_iff_eq] at a;rcases a with((((a|a)|a)|a)|a)|a
 ·rw[a];exact λus h=>by rw[Sl.mp h];exact a ▸ f a T.a0
 ·rw[a];exact N4 λx=>a ▸ f a (T.a1 x)
 ·rw[a];exact N3 λx y=>a ▸ f a (T.a2 x y)
 ·rw[a];exact us3 λx y z=>a ▸ f a (T.a3 x y z)
 ·rw[a];exact us4 λx y z u=>a ▸ f a (T.a4 x y z u)
 ·rw[a];exact us6 λx y z u v w=>a ▸ f a (T.a6 x y z u v w)
section
variable{fa:Fa}{P:Rp}{w:Rr}{K:Qp}{mg:Str->Option Qr}{base:Heap}{t:nr}
def tD (T:yy t)(TO:Fu fa P w K mg base t.T)(tw:∀q∈t.tw,w8 fa K mg q.1 q.2.1 q.2.2.1 q.2.2.2)(xf:∀f∈t.xf,Fs fa K f)(ms:∀q∈t.ms,qp fa K q.1 q.2.1 q.2.2){e:Ent}(m:e∈t.tb){ad:Addr}(call:Call)(n:Nat)(cdv:Qr)(A:RW)(outer:List R6)(s:Qu)(H:Hp)(E:XK)
 (C:∀f,h9 fa P w K mg base n f (call f)) (hr:dA (2*n+5) (A.deeper (envOfC e.qn (bc e.st) s.heap.objs.size ad cdv))):la fa (gD (iY P w) P w K mg base e.N e.qn (bc e.st) ad cdv A outer s H E) (dg e.st) (e.b call):=by
 have S:=(p9 (QX.mp T.sc e m)).1;exact iL ((Fy T.rs 60).s (g:=t.g e call) (X:=gD (iY P w) P w K mg base e.N e.qn (bc e.st) ad cdv A outer s H E) {rfl,S.nd,rfl,TO,tw,xf,ms,λ_ _=>rfl,(λ_ h=>nomatch h),λ_=>rfl,λ_=>C,λ_=>hr,λ_=>⟨rfl,rfl,rfl,S.kind⟩,λ_=>PassesOwn.leaving}) (mI (T.rd call) m)
def zw (k:By K tb)(m:en∈tb)(h0:en.df≠0)(X:K.In s.heap)(e1:ph en us .none .none (.str en.pm.1 en.pm.2) none (.ref (en.f-1)) .none=seqItems? (.ref en.df) >>= kk)(e2:kk (some #[.none])=pure out) :
 BindsTo s (PySem.W.fnOf en.x en.qn (fj en.st) (dg en.st) (bc en.st) en.dV .none .none (.str en.pm.1 en.pm.2) none (.ref (en.f-1)) .none) {us,[]} out:=by
 have dk:=QX.mp k.dk en m;rw[Sm] at dk;rcases dk with dk|dk
 ·exact absurd (eq_of_beq dk) h0
 split at dk
 ·next lk=>
  have q:=eq_of_beq dk;subst q;exact BindsTo.of_defaults (by show en.dV=_;unfold Ent.dV;rw[if_neg h0]) (X _ _ lk) rfl (by show ph en us _ _ _ _ _ _=seqItems? en.dV >>= _;unfold Ent.dV;rw[if_neg h0];exact e1) e2
 ·cases dk
def Ca (T:yy t)(k:By K t.tb)(X:K.In h)(G:h.Ns mainGlobals mg)(TO:Fu fa P w K mg base t.T)(tw:∀q∈t.tw,w8 fa K mg q.1 q.2.1 q.2.2.1 q.2.2.2)(xf:∀f∈t.xf,Fs fa K f)(ms:∀q∈t.ms,qp fa K q.1 q.2.1 q.2.2)(hf:t.tb.all (λe=>fa e.i==some e.f&&(!(fa (500+e.i)).isSome||!(e.df==0)))=true) :
 ∀f d,t.Pg f=some d->yH fa P w K mg base f d:=by
 intro f d e;obtain⟨en,he,rfl⟩:=QA.mp e;have m:=List.mem_of_find?_eq_some he;have ei:en.i=f:=by have:=List.find?_some he;simpa using this
 have F:=IW k m;obtain⟨S,hl⟩:=p9 (QX.mp T.sc en m);have hf2:=QX.mp hf en m;rw[Qy,Sm] at hf2;have fe:fa f=some en.f:=by rw[<- ei];exact eq_of_beq hf2.1
 have B:Binds K (PySem.W.fnOf en.x en.qn (fj en.st) (dg en.st) (bc en.st) en.dV .none .none (.str en.pm.1 en.pm.2) none (.ref (en.f-1)) .none) (en.N.take en.ps) []:=by
  by_cases h0:en.df=0
  ·exact .all (Cb T m h0 _ _ _ _ _ _)
  ·intro s us X hl2;obtain⟨h2,hk⟩:=T.ad.mem en (RG.mpr {m,by simpa using h0})
   rw[Rv] at hl2 ⊢;rw[hl,h2] at hl2
   match us,hl2 with
   | [a, b], _ =>
     obtain⟨kk,_,e1,e2,_⟩:=hk a b .none .none (.str en.pm.1 en.pm.2) none (.ref (en.f-1)) .none;exact zw k m h0 X e1 e2
 have B1:(fa (500+f)).isSome=true->Binds K (PySem.W.fnOf en.x en.qn (fj en.st) (dg en.st) (bc en.st) en.dV .none .none (.str en.pm.1 en.pm.2) none (.ref (en.f-1)) .none) (en.N.take en.ps) [.none]:=λhs s us X hl2=>by
  have h0:en.df≠0:=by
   rcases hf2.2 with z|z
   ·rw[ei,hs] at z;cases z
   ·simpa using z
  obtain⟨h2,hk⟩:=T.ad.mem en (RG.mpr {m,by simpa using h0})
  rw[hl,h2,Rb] at hl2
  match us,hl2 with
  | [a], _ =>
    obtain⟨_,kk,_,_,e1,e2⟩:=hk a .none .none .none (.str en.pm.1 en.pm.2) none (.ref (en.f-1)) .none;exact zw k m h0 X e1 e2
 exact{en.f,_,en.N.take en.ps,en.N,en.st,en.x,en.qn,fe,F,B,B1,S,hl.symm,rfl,λcall n cdv A outer s H E C hr=>tD T TO tw xf ms m call n cdv A outer s H E C hr}
noncomputable def Lf (K:Qp)(fa:Fa)(t:nr)(p:Str×En):Bool:=match p.2 with
 |.fn i _=>(match PySem.W.nsIn K mainGlobals p.1 with|some (some (.ref a))=>fa i==some a|_=>false)
 |.fnD i=>(match PySem.W.nsIn K mainGlobals p.1 with|some (some (.ref a))=>fa i==some a&&(fa (500+i)).isSome|_=>false)
 |.int i=>(match PySem.W.nsIn K mainGlobals p.1 with|some (some (.int j _))=>i==j|_=>false)
 |.str i=>(match PySem.W.nsIn K mainGlobals p.1 with|some (some (.str j _))=>i==j|_=>false)
 |.xc k=>(match PySem.W.nsIn K mainGlobals p.1 with|some (some (.ref a))=>fa (gj k)==some a&&PySem.W.excIn K a Bl "ValueError.__new__"&&PySem.W.keepIn K (.ref a)|_=>false)
 |.xi k=>(match PySem.W.nsIn K mainGlobals p.1 with|some (some (.ref a))=>fa (gj k)==some a&&t.il.contains (p.1,k)|_=>false)
 |.xk k=>(match PySem.W.nsIn K mainGlobals p.1 with|some (some (.ref a))=>fa (gj k)==some a|_=>false)
 |.de=>(match PySem.W.nsIn K mainGlobals p.1 with|some (some (.ref a))=>fa 999==some a|_=>false)
 |.bl=>(match PySem.W.nsIn K mainGlobals p.1 with|some none=>true|_=>false)
 |.dct fs=>t.dl.contains (p.1,fs)
 |.cls c f=>(match PySem.W.nsIn K mainGlobals p.1 with|some (some (.ref a))=>fa (jO c)==some a&&PySem.W.makesIn K a&&PySem.W.keepIn K (.ref a)&&(match fa f with|some ad=>PySem.W.findIn K (.ref a) "__init__"==some (some (.ref ad))&&PySem.W.isFn K (.ref ad)|none=>true)|_=>false)
def F2 (X:K.In h)(G:h.Ns mainGlobals mg)(hT:t.T.all (Lf K fa t)=true)(hx:L4 fa K)(hob:L9 fa K)(hof:∀o,5000<=o->fa o=none)(hod:fa (jO 77)=none/\fa (jO 78)=none)(hd:AllP (λq=>∃ad kvs,mg q.1=some (.ref ad)/\fV K w.params ad kvs/\eL fa kvs q.2) t.dl)(hi:AllP (λq=>Bz fa P w K mg base q.2 q.1) t.il):Fu fa P w K mg base t.T:=by
 have key:∀{x:Str}{e:En},t.T.lookup x=some e->Lf K fa t (x,e)=true:=λ{x e} l=>QX.mp hT _ (mem_of_lookup l);refine{λ{x i r} l ad ha=>?_,λ{x i} l=>?_,λ{x i} l=>?_,λ{x i} l=>?_,λ{x fs} l=>?_,λ{x k} l=>?_,λ{x k} l=>?_,λ{x k} l=>?_,λ{x} l=>?_,λ{x} l=>?_,hx,hob,hof,hod,λ{x c f} l=>?_};all_goals have b:=key l;unfold Lf at b;dsimp only at b
 ·split at b
  ·next e=>have b:=eq_of_beq b;rw[ha] at b;cases b;exact Sa X G e
  ·cases b
 ·split at b
  ·next e=>rw[Qy] at b;exact{λad ha=>by have b1:=eq_of_beq b.1;rw[ha] at b1;cases b1;exact Sa X G e,b.2}
  ·cases b
 ·split at b
  ·next e=>have b:=eq_of_beq b;subst b;exact{_,Sa X G e}
  ·cases b
 ·split at b
  ·next e=>have b:=eq_of_beq b;subst b;exact{_,Sa X G e}
  ·cases b
 ·exact hd.mem (x,fs) (List.contains_iff_mem.mp b)
 ·split at b
  ·next e=>simp only[Qy] at b;exact{_,Sa X G e,eq_of_beq b.1.1,b.1.2,b.2}
  ·cases b
 ·split at b
  ·next e=>rw[Qy] at b;exact{hi.mem (x,k) (List.contains_iff_mem.mp b.2),_,Sa X G e,eq_of_beq b.1}
  ·cases b
 ·split at b
  ·next e=>exact{_,Sa X G e,eq_of_beq b}
  ·cases b
 ·split at b
  ·next e=>exact{_,Sa X G e,eq_of_beq b}
  ·cases b
 ·split at b
  ·next e=>exact PySem.W.mg_none_of X G e
  ·cases b
 ·split at b
  ·next a e=>
   simp only[Qy] at b;refine{a,Sa X G e,eq_of_beq b.1.1.1,λad had=>?_};have b2:=b.2;rw[had] at b2;simp only[Qy] at b2;exact{b.1.1.2,eq_of_beq b2.1,b2.2,b.1.2}
  ·cases b
end
noncomputable def yp (K:Qp)(C:Addr):Bool:=PySem.W.plainGet K C Str.empty&&PySem.W.hasDictIn K C&&PySem.W.plainOver K C&&PySem.W.findIn K (.ref C) "__setattr__"==some (some (.builtin "object.__setattr__"))
def Bd {K:Qp}(h:yp K C=true):xb K C:=by
 unfold yp at h;simp only[Qy] at h;exact{h.1.1.1,h.1.1.2,h.1.2,eq_of_beq h.2}
noncomputable def Kb (K:Qp)(fa:Fa):Bool:=match fa (jO 40) with
 |some C=>yp K C&&(lR 40).all λf=>PySem.W.findIn K (.ref C) f==some none
 |none=>true
def Ka {K:Qp}(h:Kb K fa=true):L9 fa K:=λc C e ne=>by
 have hc:c=40:=by
  unfold lR at ne;split at ne
  ·rfl
  ·exact absurd rfl ne
 subst hc;unfold Kb at h;rw[e] at h;simp only[Qy,QX] at h;exact{Bd h.1,λf m=>eq_of_beq (h.2 f m)}
noncomputable def Kr (K:Qp)(fa:Fa)(q:Str×Nat×Nat):Bool:=match fa (jO q.2.1) with
 | some C => yp K C && (match fa q.2.2 with
   |some ad=>PySem.W.findIn K (.ref C) q.1==some (some (.ref ad))&&PySem.W.isFn K (.ref ad)&&PySem.W.keepIn K (.ref ad)
   |none=>true)&&!(lR q.2.1).contains q.1&&!(lR q.2.1).isEmpty
 |none=>false
def Kq {K:Qp}{l:List (Str×Nat×Nat)}(h:l.all (Kr K fa)=true):∀q∈l,qp fa K q.1 q.2.1 q.2.2:=λq m=>by
 have h:=QX.mp h q m;unfold Kr at h;cases e:fa (jO q.2.1) with
 |none=>rw[e] at h;cases h
 | some C =>
   rw[e] at h;simp only[Qy,Bool.not_eq_true'] at h;refine{C,e,Bd h.1.1.1,λad ea=>?_,λz=>?_,λz=>?_}
   ·have b:=h.1.1.2;rw[ea] at b;simp only[Qy] at b;exact{eq_of_beq b.1.1,b.1.2,b.2}
   ·have:=List.contains_iff_mem.mpr z;rw[h.1.2] at this;cases this
   ·rw[z] at h;exact absurd h.2 `d
def Dn {D:Addr}(h:cl.all (λq=>decide (q.1<4000))=true):∀o,5000<=o->uP l cl D o=none:=λo ho=>by
 unfold uP;rw[if_neg `a,if_neg `a]
 cases e:cl.lookup (o-1000) with
 |none=>rfl
 | some C =>
   have:=of_decide_eq_true (QX.mp h _ (lookup_mem e));omega
end LD
section
local macro_rules|`(#[$a,*])=>do return<-a.getElems.foldrM (β:=Lean.Term) (λx r=>`(LD.dP $x $r)) (<-`(LD.bY))
local macro_rules|`(#v[$a,*])=>do return<-a.getElems.foldrM (β:=Lean.Term) (λx r=>`(LD.bw $x $r)) (<-`(LD.aD))
namespace LD
open PySem
abbrev gI (n:Int):GE:=gC (.int n)
abbrev gS (x:Str):GE:=gC (.str x)
abbrev gN:GE:=gC .non
abbrev wD:GE:=gC (.bl true)
abbrev K0:GE:=gC (.bl false)
abbrev rF:GS:=bw (aM K0) aD
noncomputable def eI:List (Str×Nat):=[("turn",7),("join",8),("move",9),("put",10)]
noncomputable def cV:List (Str×Nat):=[("turn",20),("join",21),("move",22),("put",23)]
noncomputable def jG (c:Call):GS:=#v[aN (dY (aj (bI .bool (aa 0))) (bL (aj (bI .int (aa 0))))) rF aD,aM (qS .le .le (aa 1) (aa 0) (aa 2))]
noncomputable def m8 (c:Call):GS:=#v[aM (ai 0 c #[aa 1,gI 0,au false .sub (aa 0) (gI 1)])]
noncomputable def l5 (c:Call):GS:=#v[aM (ai 0 c #[aa 1,gI 0,au false .sub (aa 0) (gI 1)])]
noncomputable def nj (c:Call):GS:=#v[aM (ai 0 c #[aa 0,gI 1,gI 3])]
noncomputable def iS (c:Call):GS:=#v[aM (dF (bI .tuple (aa 1)) (ax .eq (aJ .len #[aa 1]) (aa 0)))]
noncomputable def l4 (c:Call):GS:=#v[aM (dF (ai 4 c #[aa 0,aa 1]) (aJ .all #[bj false 1 (.one 0) (bR (aa 1)) (bp (ai 1 c #[aa 1,aa 0]))]))]
noncomputable def fZ (c:Call):GS:=#v[aM (dF (ai 4 c #[aa 0,aa 1]) (aJ .all #[bj false 1 (.one 0) (bR (aa 1)) (bp (ai 5 c #[aa 1,aa 0]))]))]
noncomputable def m9 (c:Call):GS:=#v[aN (aj (ax .ne (aJ .len #[aa 2]) (gI 3))) rF aD,ay (.tup [3,4,5]) (aa 2),aM (dF (ai 2 c #[aa 1,aa 3]) (dF (ai 5 c #[aa 0,aa 4]) (ai 3 c #[aa 5])))]
noncomputable def nh (c:Call):GS:=#v[aN (aj (ax .ne (aJ .len #[aa 2]) (gI 4))) rF aD,ay (.tup [3,4,5,6]) (aa 2),aN (dY (bL (aj (ai 2 c #[aa 1,aa 3]))) (bL (aj (ai 2 c #[aa 1,aa 4])))) rF aD,aM (dF (ai 6 c #[aa 0,aa 5]) (ai 3 c #[aa 6]))]
noncomputable def ng (c:Call):GS:=#v[aN (aj (ax .ne (aJ .len #[aa 2]) (gI 3))) rF aD,ay (.tup [3,4,5]) (aa 2),aM (dF (ai 2 c #[aa 1,aa 3]) (dF (ai 2 c #[aa 1,aa 4]) (ai 3 c #[aa 5])))]
noncomputable def pC (c:Call):GS:=#v[aN (aj (ax .ne (aJ .len #[aa 2]) (gI 3))) rF aD,ay (.tup [3,4,5]) (aa 2),aM (dF (ai 2 c #[aa 1,aa 3]) (dF (ai 1 c #[aa 0,aa 4]) (ai 3 c #[aa 5])))]
noncomputable def ni (c:Call):GS:=#v[aN (dY (bL (aj (bI .tuple (aa 2)))) (bL (aj (aa 2)))) rF aD,ay (.one 3) (aq (aa 2) (gI 0)),aN (dY (bL (aj (bI .str (aa 3)))) (aj (i5 eI (aa 3)))) rF aD,ay (.one 4) (lQ eI (aa 3)),aM (mV 4 c #[aa 0,aa 1,fq false true false (aa 2) (gI 1) gN])]
noncomputable def jF (c:Call):GS:=#v[aN (bL (aj (ai 4 c #[gI 3,aa 0]))) rF aD,ay (.tup [1,2,3]) (aa 0),aN (dY (bL (aj (ai 0 c #[aa 1,gI 2,gI 4]))) (bL (aj (ai 0 c #[aa 2,gI 1,gI 2])))) rF aD,aN (dY (bL (aj (bI .tuple (aa 3)))) (bL (aj (qS .le .le (gI 1) (aJ .len #[aa 3]) (gI 6))))) rF aD,aM (aJ .all #[bj false 1 (.one 0) (bR (aa 3)) (bp (ai 11 c #[aa 2,aa 3,aa 0]))])]
noncomputable def ip (c:Call):GS:=#v[aN (bL (aj (ai 12 c #[aa 0]))) #v[f9 3 #[gS "this is no machine"]] aD]
noncomputable def cW (c:Call):GS:=#v[iR (cb 13 c #[aa 0]),ay (.tup [1,2,3]) (aa 0),ay (.one 4) (bA false #[bH bY]),bU (.one 5) (cZ (aa 2)) #v[ay (.one 4) (bj false 2 (.one 0) (bR (aa 4)) (uN (.one 1) (cZ (aa 3)) (bp (au false .add (aa 0) (bH #[aa 1])))))],aM (aa 4)]
noncomputable def pD (c:Call):GS:=#v[aM (ai 0 c #[aa 1,gI 0,au false .sub (aJ .len #[aq (aa 0) (gI 2)]) (gI 1)])]
noncomputable def rq (c:Call):GS:=#v[aN (bL (aj (bI .list (aa 1)))) #v[vS 0 (gI 0)] aD,bU (.tup [2,3]) (gr (aa 1)) #v[aN (bL (aj (ai 16 c #[aa 0,aa 3]))) #v[vS 0 (aa 2)] aD]]
noncomputable def yt (c:Call):GS:=#v[iR (cb 13 c #[aa 0]),iR (cb 17 c #[aa 0,aa 1]),aN (aj (ax .gt (aJ .len #[aa 1]) (gI 40))) #v[f9 4 #[uO "a row has at most " " deeds" (gI 40)]] aD]
noncomputable def lX (c:Call):GS:=#v[ay (.tup [2,3,4,5]) (aa 0),aM (aq (aa 4) (aq (aa 1) (aa 3)))]
noncomputable def lZ (c:Call):GS:=#v[ay (.tup [2,3,4,5,6]) (aa 0),aM (aq (aq (aa 5) (aq (aa 1) (aa 3))) (aq (aa 1) (aa 4)))]
noncomputable def oj (c:Call):GS:=#v[ay (.tup [2,3,4,5]) (aa 0),aM (aq (aa 1) (aa 4))]
noncomputable def lY (c:Call):GS:=#v[ay (.tup [2,3,4,5]) (aa 0),aM (aa 4)]
noncomputable def qk (c:Call):GS:=#v[ay (.one 2) (lQ cV (aq (aa 0) (gI 0))),ay (.one 3) (aq (aa 0) (gI 1)),aM (au false .add (au false .add (fq false false true (aa 1) gN (aa 3)) (bH #[mV 2 c #[aa 0,aa 1]])) (fq false true false (aa 1) (au false .add (aa 3) (gI 1)) gN))]
noncomputable def rA (c:Call):GS:=#v[ay (.one 3) (bA true #[aa 2]),bU (.one 4) (bR (aa 1)) #v[fo (aa 3) (ai 24 c #[aq (aq (aa 0) (gI 2)) (aa 4),aq (aa 3) (d3 (gI 1))])],aM (aa 3)]
noncomputable def mh (c:Call):GS:=#v[aN (aj (ax .ge (aa 0) (au false .pow (gI 10) (gI 18)))) #v[aM (aa 0)] aD,ay (.one 2) (bA false #[gI 2147483629,gI 2147483587,gI 2147483579,gI 2147483563,gI 2147483549,gI 2147483543,gI 2147483497,gI 2147483489]),ay (.one 2) (au false .add (aa 2) (bA false #[gI 2147483477,gI 2147483423,gI 2147483399,gI 2147483353,gI 2147483323])),ay (.one 3) (au false .mod (au false .pow (au false .add (au false .add (au false .mul (au false .mod (aa 0) (gI 1000000007)) (au false .add (au false .mul (gI 2) (aa 1)) (gI 69069))) (au false .mul (aa 1) (gI 40503))) (gI 977)) (gI 3)) (aq (aa 2) (au false .mod (aa 1) (gI 13)))),ay (.one 4) (au false .mod (au false .pow (au false .add (au false .add (au false .mul (aa 3) (au false .add (aa 1) (gI 3))) (au false .mod (aa 0) (gI 65537))) (gI 5)) (gI 5)) (aq (aa 2) (au false .mod (au false .add (aa 1) (gI 5)) (gI 13)))),ay (.one 5) (au false .mod (au false .pow (au false .add (au false .add (aa 4) (au false .mod (aa 3) (gI 1009))) (aa 1)) (gI 3)) (aq (aa 2) (au false .mod (au false .add (aa 1) (gI 7)) (gI 13)))),aM (au false .add (au false .mul (au false .add (au false .mul (aa 3) (gI 2147483647)) (aa 4)) (gI 2147483647)) (aa 5))]
noncomputable def ky (c:Call):GS:=#v[ay (.one 1) (aJ (.list true) #[fq false false true (aa 0) gN (gI 12)]),bU (.tup [2,3]) (gr (fq false true true (aa 0) (gI 12) (gI 63))) #v[eG (aa 1) (au false .mod (aa 2) (gI 12)) (au false .add (aq (aa 1) (au false .mod (aa 2) (gI 12))) (aa 3))],aM (bA true #[aa 1,gI 0,gI 0])]
noncomputable def kz (c:Call):GS:=#v[eG (aa 0) (gI 2) (gI 0),aM (aa 0)]
noncomputable def oD (c:Call):GS:=#v[aN (aj (ax .lt (aq (aa 0) (gI 2)) (aa 1))) #v[ay (.one 2) (aq (aa 0) (gI 1)),ay (.one 3) (gI 0),aN (aj (ax .lt (aa 2) (aJ .len #[aq (aa 0) (gI 0)]))) #v[ay (.one 3) (aq (aq (aa 0) (gI 0)) (aa 2))] #v[aN (aj (ax .gt (aJ .len #[aq (aa 0) (gI 0)]) (gI 0))) #v[ay (.one 3) (au false .mod (aq (aq (aa 0) (gI 0)) (au false .mod (au false .add (au false .mul (aa 2) (gI 5)) (gI 3)) (aJ .len #[aq (aa 0) (gI 0)]))) (au false .add (au false .pow (gI 10) (gI 17)) (aa 2)))] aD],eG (aa 0) (gI 1) (au false .add (aa 2) (gI 1)),eG (aa 0) (gI 2) (ai 28 c #[aa 3,aa 2])] aD,ay (.one 4) (au false .mod (aq (aa 0) (gI 2)) (aa 1)),eG (aa 0) (gI 2) (au false .fdiv (aq (aa 0) (gI 2)) (aa 1)),aM (aa 4)]
noncomputable def i7 (c:Call):GS:=#v[ay (.one 2) (ai 31 c #[aa 0,gI 6]),ay (.one 3) (ai 31 c #[aa 0,aa 1]),ay (.one 4) (ai 31 c #[aa 0,aa 1]),aN (aj (ax .lt (aa 2) (gI 2))) #v[aM (aJ .tuple #[bj false 1 (.one 0) (cZ (aa 1)) (bp (ai 31 c #[aa 1,aa 2]))])] aD,aN (aj (ax .eq (aa 2) (gI 2))) #v[aM (aJ .tuple #[bj false 1 (.one 0) (cZ (aa 1)) (bp (au false .mod (au false .add (au false .add (aa 0) (gI 1)) (aa 4)) (aa 2)))])] aD,aN (aj (ax .eq (aa 2) (gI 3))) #v[aM (aJ .tuple #[bj false 1 (.one 0) (cZ (aa 1)) (bp (fX (aj (ax .eq (aa 0) (aa 4))) (aa 5) (aa 0)))])] aD,aN (aj (ax .eq (aa 2) (gI 4))) #v[aM (au false .mul (bH #[aa 3]) (aa 1))] aD,ay (.one 5) (mU true (aa 1)),eG (aa 5) (aa 3) (aa 4),eG (aa 5) (aa 4) (aa 3),aM (aJ .tuple #[aa 5])]
noncomputable def iC (c:Call):GS:=#v[ay (.one 3) (ai 31 c #[aa 0,gI 8]),ay (.one 4) (au false .add (gI 1) (ai 31 c #[aa 0,gI 3])),ay (.one 5) (ai 31 c #[aa 0,aa 2]),ay (.one 6) (ai 31 c #[aa 0,aa 2]),aN (aj (ax .lt (aa 3) (gI 3))) #v[aM (bH #[gS "turn",aa 5,ai 32 c #[aa 0,aa 1],aa 4])] aD,aN (aj (ax .lt (aa 3) (gI 5))) #v[aM (bH #[gS "move",aa 5,fX (aj (ax .eq (aa 3) (gI 3))) (au false .mod (au false .add (aa 5) (gI 1)) (aa 2)) (aa 6),aa 4])] aD,aN (aj (ax .eq (aa 3) (gI 5))) #v[aM (bH #[gS "put",aa 5,ai 31 c #[aa 0,aa 1],aa 4])] aD,aM (bH #[gS "join",aa 5,aa 6,aJ .tuple #[bj false 1 (.one 0) (cZ (aa 1)) (bp (ai 32 c #[aa 1,aa 2]))],aa 4])]
noncomputable def fR (c:Call):GS:=#v[ay (.one 1) (au false .add (gI 2) (ai 31 c #[aa 0,au false .sub (aa 1) (gI 1)])),ay (.one 2) (au false .add (gI 1) (ai 31 c #[aa 0,aa 2])),ay (.one 4) (bA true bY),bU (.one 5) (cZ (au false .add (gI 1) (ai 31 c #[aa 0,aa 3]))) #v[ay (.one 6) (ai 31 c #[aa 0,gI 5]),ay (.one 7) (ai 33 c #[aa 0,aa 1,aa 2]),aN (eV (aj (ax .eq (aa 6) (gI 0))) (aj (ax .ne (aa 4) (bA false bY)))) #v[ay (.one 7) (au false .add (fq false false true (aq (aa 4) (ai 31 c #[aa 0,aJ .len #[aa 4]])) gN (d3 (gI 1))) (bH #[aq (aa 7) (d3 (gI 1))]))] aD,fo (aa 4) (aa 7)],aM (bH #[aa 1,aa 2,aJ .tuple #[aa 4]])]
noncomputable def fQ (c:Call):GS:=#v[ay (.one 3) (ai 31 c #[aa 0,gI 4]),ay (.one 4) (fX (aj (ax .eq (aa 3) (gI 0))) (aa 2) (ai 31 c #[aa 0,au false .add (aa 2) (gI 1)])),ay (.one 5) (bj false 1 (.one 0) (cZ (aa 4)) (bp (ai 31 c #[aa 1,aJ .len #[aq (aa 2) (gI 2)]]))),aN (aj (ax .eq (aa 3) (gI 1))) #v[ay (.one 5) (fq false false true (au false .mul (fq false false true (aa 5) gN (gI 2)) (aa 4)) gN (aa 4))] aD,aM (aa 5)]
noncomputable def gm (c:Call):GS:=#v[aN (aj (ax .isN (aa 1) gN)) #v[aM (ax .isN (aa 0) gN)] aD,aN (dY (aj (bI .bool (aa 1))) (aj (bI .bool (aa 0)))) #v[aM (dF (bI .bool (aa 1)) (dF (bI .bool (aa 0)) (ax .eq (aa 0) (aa 1))))] aD,aN (aj (bI .int (aa 1))) #v[aM (dF (bI .int (aa 0)) (ax .eq (aa 0) (aa 1)))] aD,aN (aj (bI .str (aa 1))) #v[aM (dF (bI .str (aa 0)) (ax .eq (aa 0) (aa 1)))] aD,aN (dY (aj (ax .ne (bI .tuple (aa 1)) (bI .tuple (aa 0)))) (aj (ax .ne (bI .list (aa 1)) (bI .list (aa 0))))) rF aD,aN (aj (ax .ne (aJ .len #[aa 0]) (aJ .len #[aa 1]))) rF aD,aM (ax .notin K0 (bj false 2 (.tup [0,1]) (jW (aa 0) (aa 1)) (bp (ai 40 c #[aa 0,aa 1]))))]
noncomputable def jH (c:Call):GS:=#v[ay (.one 2) (aJ (.list true) #[aa 1]),ay (.one 3) (aq (aa 1) (aq (aa 0) (gI 1))),aN (aj (ax .eq (aq (aa 0) (gI 0)) (gS "turn"))) #v[eG (aa 2) (aq (aa 0) (gI 1)) (aq (aq (aa 0) (gI 2)) (aa 3))] aD,aN (aj (ax .eq (aq (aa 0) (gI 0)) (gS "join"))) #v[eG (aa 2) (aq (aa 0) (gI 1)) (aq (aq (aq (aa 0) (gI 3)) (aa 3)) (aq (aa 1) (aq (aa 0) (gI 2))))] aD,aN (aj (ax .eq (aq (aa 0) (gI 0)) (gS "move"))) #v[eG (aa 2) (aq (aa 0) (gI 1)) (aq (aa 1) (aq (aa 0) (gI 2)))] aD,aN (aj (ax .eq (aq (aa 0) (gI 0)) (gS "put"))) #v[eG (aa 2) (aq (aa 0) (gI 1)) (aq (aa 0) (gI 2))] aD,aM (aJ .tuple #[aa 2])]
noncomputable def iU (c:Call):GS:=#v[aN (aj (ax .eq (aq (aa 0) (gI 1)) (gI 1))) #v[aM (bj false 1 (.one 0) (cZ (aq (aa 0) (gI 0))) (bp (bH #[aa 0])))] aD,aM (bj false 1 (.one 0) (cZ (au false .mul (aq (aa 0) (gI 0)) (aq (aa 0) (gI 0)))) (bp (bH #[au false .fdiv (aa 0) (aq (aa 1) (gI 0)),au false .mod (aa 0) (aq (aa 1) (gI 0))])))]
noncomputable def fm (c:Call):GS:=#v[ay (.one 2) (bA true bY),bU (.one 3) (bR (ai 42 c #[aa 0])) #v[bU (.one 4) (bR (aa 1)) #v[ay (.one 3) (ai 41 c #[aq (aq (aa 0) (gI 2)) (aa 4),aa 3])],fo (aa 2) (aa 3)],aM (aJ .tuple #[aa 2])]
noncomputable def hU (c:Call):GS:=#v[aM (dF (bI .int (aa 0)) (KY (bI .bool (aa 0))))]
noncomputable def nq (c:Call):GS:=#v[aM (dF (ai 67 c #[aa 0]) (qS .le .le (aa 1) (aa 0) (aa 2)))]
noncomputable def kZ (c:Call):GS:=#v[aN (dY (bL (aj (bI .tuple (aa 0)))) (aj (ax .ne (aJ .len #[aa 0]) (aa 1)))) rF aD,aM (ax .eq (bj false 1 (.one 0) (bR (aa 0)) (gY (bL (aj (ai 68 c #[aa 0,aa 3,aa 4]))) (bp (gI 1)))) (bA false bY))]
noncomputable def j7 (c:Call):GS:=#v[aN (bL (aj (ai 4 c #[aJ .len #[ai 15 c #[aa 0]],aa 1]))) rF aD,aM (aJ .all #[bj false 1 (.one 0) (bR (aa 1)) (bp (uK (ax .isN (aa 0) gN) (ai 1 c #[aq (aa 1) (gI 0),aa 0])))])]
noncomputable def ku (c:Call):GS:=#v[iR (cb 13 c #[aa 0]),aN (bL (aj (ai 79 c #[aa 0,aa 1]))) #v[f9 6 #[gS "this is no work of the machine"]] aD]
noncomputable def iM (c:Call):GS:=#v[aM (aJ .all #[bj false 2 (.tup [0,1]) (jW (aa 0) (aa 1)) (bp (uK (ax .isN (aa 1) gN) (ax .eq (aq (aa 0) (gI 0)) (aa 1))))])]
noncomputable def iT (c:Call):GS:=#v[ay (.one 2) (ai 31 c #[aa 0,gI 5]),ay (.one 3) (ai 31 c #[aa 0,gI 4]),ay (.one 4) (ai 42 c #[aa 1]),ay (.one 5) (ai 44 c #[aa 1,ai 35 c #[aa 0,aa 1,gI 6]]),ay (.one 6) (bj true 1 (.one 0) (bR (aa 5)) (bp (aq (aa 0) (gI 0)))),aN (aj (ax .eq (aa 2) (gI 0))) #v[ay (.one 6) (bj true 1 (.one 0) (bR (aa 4)) (bp (ai 31 c #[aa 1,aq (aa 2) (gI 0)])))] aD,ay (.one 7) (ai 31 c #[aa 0,aJ .len #[aa 6]]),aN (aj (ax .eq (aa 2) (gI 1))) #v[eG (aa 6) (aa 7) (ai 31 c #[aa 0,aq (aa 1) (gI 0)])] aD,aN (aj (ax .gt (aa 3) (gI 0))) #v[ay (.one 6) (bj true 1 (.one 0) (bR (aa 6)) (bp (fX (aj (ax .eq (ai 31 c #[aa 1,au false .add (gI 2) (aa 4)]) (gI 0))) gN (aa 0))))] aD,aM (aJ .tuple #[aa 6])]
noncomputable def gn (c:Call):GS:=#v[aM (ax .eq (bj false 2 (.tup [0,1]) (jW (aa 0) (aa 1)) (gY (eV (aj (ax .notN (aa 1) gN)) (aj (ax .ne (aq (aa 0) (gI 0)) (aa 1)))) (bp (gI 1)))) (bA false bY))]
noncomputable def hJ (c:Call):GS:=#v[aM (aJ .sum #[bj false 1 (.one 0) (bR (aa 1)) (bp (aq (aq (aq (aa 1) (gI 2)) (aa 0)) (d3 (gI 1))))])]
noncomputable def eQ (c:Call):GS:=#v[fw (.one 1) (cb 15 c #[aa 0]),aM (bj false 1 (.one 0) (bR (aq (aa 0) (gI 2))) (bp (bH #[aq (aa 0) (d3 (gI 1)),kU 77 1 (.one 0) (bR (aa 2)) (jY (aa 0) (ai 24 c #[aa 1,aa 0]))])))]
noncomputable def fb (c:Call):GS:=#v[aM (aJ .tuple #[bj false 1 (.one 0) (bR (aa 1)) (bp (dX (aa 1) (aa 0)))])]
noncomputable def cx (c:Call):GS:=#v[aM (aJ .tuple #[bj false 1 (.one 0) (bR (aa 1)) (bp (ai 41 c #[aq (aq (aa 1) (gI 2)) (aa 3),aa 0]))])]
noncomputable def fF (c:Call):GS:=#v[ay (.one 2) (nV 78),ay (.one 3) (bA true #[bA true #[aJ .tuple #[ai 42 c #[aa 0]]]]),ay (.one 4) (gI 0),f7 (eV (aj (ax .lt (aa 4) (aJ .len #[aa 3]))) (aj (ax .le (aa 4) (aa 1)))) #v[bU (.one 5) (bR (aq (aa 3) (aa 4))) #v[aN (aj (gZ true (aa 5) (aa 2))) #v[fL (aa 2) (aa 5) (aa 4),aN (aj (ax .gt (jX (aa 2)) (gI 255))) #v[aM gN] aD,bU (.tup [6,7]) (gr (aq (aa 0) (gI 2))) #v[f7 (aj (ax .le (aJ .len #[aa 3]) (au false .add (aa 4) (aq (aa 7) (d3 (gI 1)))))) #v[fo (aa 3) (bA true bY)],fo (aq (aa 3) (au false .add (aa 4) (aq (aa 7) (d3 (gI 1))))) (ai 158 c #[aa 0,aa 5,aa 6])]] aD],ay (.one 4) (au false .add (aa 4) (gI 1))],aM (aa 2)]
noncomputable def fu (c:Call):GS:=#v[ay (.one 2) (aq (bA false #[bH #[gI 3,gI 1,gI 6],bH #[gI 2,gI 2,gI 3],bH #[gI 3,gI 1,gI 4],bH #[gI 2,gI 2,gI 2],bH #[gI 4,gI 1,gI 2]]) (au false .mod (aa 1) (gI 5))),aM (ai 34 c #[aa 0,aq (aa 2) (gI 0),aq (aa 2) (gI 1),aq (aa 2) (gI 2)])]
noncomputable def g8 (c:Call):GS:=#v[ay (.one 3) (aJ .len #[aa 1]),ay (.one 4) (bA true bY),bU (.two 5 [6,7]) (gr (aa 0)) #v[ay (.one 8) (fX (aj (ax .le (aa 6) (aa 3))) (aq (aa 1) (au false .sub (aa 3) (aa 6))) (bA false bY)),bU (.one 9) (bR (aa 8)) #v[ay (.one 10) (ai 152 c #[aa 7,aa 9]),aN (aj (gZ true (aa 10) (aa 2))) #v[fL (aa 2) (aa 10) (bH #[aa 3,au true .add (aq (dX (aa 2) (aa 9)) (gI 1)) (bA false #[aa 5])]),fo (aa 4) (aa 10),aN (aj (ax .gt (jX (aa 2)) (gI 255))) #v[f9 8 #[uO "rows have more than " " behaviours" (gI 255)]] aD] aD]],aM (aa 4)]
noncomputable def jE (c:Call):GS:=#v[fw (.one 2) (cb 151 c #[aa 0]),ay (.one 3) (aJ .tuple #[ai 15 c #[aa 0]]),ay (.one 4) (wF 78 (aa 3) (bH #[gI 0,bA true bY])),ay (.one 5) (bA true #[bA false #[aa 3]]),f7 (eV (aj (qT (fq false true false (aa 5) (d3 (gI 3)) gN))) (dY (aj (ax .isN (aa 1) gN)) (aj (ax .le (aJ .len #[aa 5]) (aa 1))))) #v[nH (aa 5) (cb 165 c #[aa 2,aa 5,aa 4])],aM (aa 4)]
noncomputable def om (c:Call):GS:=#v[iR (cb 80 c #[aa 0,aa 1]),fw (.one 2) (cb 166 c #[aa 0,gN]),ay (.one 3) (lP (bj false 1 (.one 0) (fg c8 (aa 2)) (gY (aj (ai 81 c #[aa 0,aa 2])) (bp (dX (aa 3) (aa 0)))))),aN (aj (ax .isN (aa 3) gN)) #v[aM (bH #[gS "none",kT true (aa 2)])] aD,ay (.tup [4,5]) (aa 3),ay (.one 6) (bj true 1 (.one 0) (fg c8 (aa 2)) (gY (aj (ax .le (aq (dX (aa 3) (aa 0)) (gI 0)) (aa 5))) (bp (bH #[aa 0,au false .sub (aa 5) (aq (dX (aa 3) (aa 0)) (gI 0))])))),aM (bH #[gS "row",aa 4,aa 5,aa 6])]
noncomputable def fv (c:Call):GS:=#v[aN (dY (bL (aj (bI .tuple (aa 1)))) (aj (ax .ne (aJ .len #[aa 1]) (aJ .len #[ai 42 c #[aa 0]])))) rF aD,aM (ax .eq (bj false 1 (.one 0) (bR (aa 1)) (gY (bL (aj (ai 69 c #[aa 0,aq (aa 1) (gI 1),gI 0,au false .sub (aq (aa 1) (gI 0)) (gI 1)]))) (bp (gI 1)))) (bA false bY))]
noncomputable def g9 (c:Call):GS:=#v[ay (.one 4) (nV 78),bU (.tup [5,6]) (bR (aa 3)) #v[aN (bL (aj (ai 168 c #[aa 0,aa 5]))) rF aD,fL (aa 4) (aa 5) (uL #[aa 6,g4 (aa 4) (aa 5) (aa 6)])],aN (aj (ax .lt (g4 (aa 4) (aJ .tuple #[ai 42 c #[aa 0]]) (au false .sub (aa 2) (gI 1))) (aa 2))) rF aD,bU (.tup [5,6]) (bR (aa 3)) #v[aN (eV (aj (ax .gt (aa 6) (gI 0))) (aj (ai 84 c #[aa 5,aa 1]))) rF aD,bU (.one 7) (cZ (au false .mul (aJ .len #[aq (aa 0) (gI 2)]) (uM (ax .gt (aa 6) (gI 0))))) #v[ay (.one 8) (au false .sub (aa 6) (aq (aq (aq (aa 0) (gI 2)) (aa 7)) (d3 (gI 1)))),aN (eV (aj (ax .gt (aa 8) (gI 0))) (aj (ax .lt (g4 (aa 4) (ai 158 c #[aa 0,aa 5,aa 7]) (gI 0)) (aa 8)))) rF aD]],aM wD]
noncomputable def gy (c:Call):GS:=#v[ay (.one 3) (nV 78),bU (.one 4) (bR (aa 2)) #v[aN (dY (bL (aj (ai 168 c #[aa 0,aa 4]))) (aj (ai 84 c #[aa 4,aa 1]))) rF aD,fL (aa 3) (aa 4) wD],aN (aj (gZ true (aJ .tuple #[ai 42 c #[aa 0]]) (aa 3))) rF aD,bU (.one 4) (bR (aa 2)) #v[bU (.one 5) (cZ (aJ .len #[aq (aa 0) (gI 2)])) #v[aN (aj (gZ true (ai 158 c #[aa 0,aa 4,aa 5]) (aa 3))) rF aD]],aM wD]
noncomputable def gx (c:Call):GS:=#v[aN (bL (aj (bI .list (aa 1)))) rF aD,aM (ax .eq (bj false 1 (.one 0) (bR (aa 1)) (gY (bL (aj (ai 68 c #[aa 0,gI 0,au false .sub (aJ .len #[aq (aa 1) (gI 2)]) (gI 1)]))) (bp (gI 1)))) (bA false bY))]
noncomputable def fP (c:Call):GS:=#v[ay (.one 2) gN,mB #v[fw (.one 2) (cb 167 c #[aa 0,aa 1])] 8 8 #v[ay (.one 2) (bH #[gS "many"])],aM (aa 2)]
noncomputable def d9 (c:Call):GS:=#v[aN (aj (ax .isN (aa 2) gN)) #v[aM (bH #[gS "many"])] aD,ay (.one 3) (bj false 1 (.one 0) (fg c8 (aa 2)) (gY (aj (ai 84 c #[aa 0,aa 2])) (bp (dX (aa 3) (aa 0))))),aM (fX (aj (ax .eq (aa 3) (bA false bY))) (bH #[gS "none"]) (bH #[gS "row",nS (aa 3)]))]
noncomputable def eE (c:Call):GS:=#v[aN (dY (bL (aj (bI .tuple (aa 3)))) (bL (aj (ai 40 c #[fq false false true (aa 3) gN (aJ .len #[aa 2]),aa 2])))) rF aD,aN (aj (ax .ne (aJ .len #[aa 3]) (nU [("many",1),("none",2),("row",4)] (aq (aa 2) (gI 0))))) rF aD,aN (aj (ax .eq (aq (aa 2) (gI 0)) (gS "none"))) #v[aM (dF (bI .list (aq (aa 3) (gI 1))) (ai 170 c #[aa 0,aa 1,aq (aa 3) (gI 1)]))] aD,aN (aj (ax .eq (aq (aa 2) (gI 0)) (gS "many"))) #v[aM wD] aD,ay (.tup [4,5,6,7]) (aa 3),aN (dY (bL (aj (ai 171 c #[aa 0,aa 6]))) (aj (ax .ne (ai 89 c #[aa 0,aa 6]) (aa 5)))) rF aD,aN (dY (bL (aj (ai 84 c #[ai 44 c #[aa 0,aa 6],aa 1]))) (bL (aj (bI .list (aa 7))))) rF aD,bU (.one 8) (bR (aa 7)) #v[aN (dY (bL (aj (bI .tuple (aa 8)))) (dY (aj (ax .ne (aJ .len #[aa 8]) (gI 2))) (bL (aj (ai 67 c #[aq (aa 8) (gI 1)]))))) rF aD],aM (ai 169 c #[aa 0,aa 1,aa 5,aa 7])]
noncomputable def oo (c:Call):GS:=#v[ay (.one 1) (ai 29 c #[aa 0]),bU (.one 2) (cZ (gI 5)) #v[ay (.one 3) (ai 160 c #[ai 30 c #[aa 1],aa 2]),ay (.one 4) (ai 159 c #[aa 3,au false .pow (gI 10) (gI 9)]),bU (.one 5) (cZ (gI 2)) #v[ay (.one 6) (ai 83 c #[aa 1,aa 3]),ay (.one 7) (ai 173 c #[aa 3,aa 6,aa 4]),bU (.one 8) (cZ (gI 2)) #v[ay (.one 9) (ai 172 c #[aa 3,aa 6]),aN (bL (aj (ai 174 c #[aa 3,aa 6,aa 7,aa 9]))) rF aD,bU (.one 10) (bR (aa 9)) #v[aN (aj (bI .list (aa 10))) #v[zY (qR (aa 10))] aD]]]],aM wD]
@[simp] theorem ba {α β:Type}{r:Res α}{f:α->Mem->Res β}{k:β->Mem->Prop}:ae (r.bind f) k↔ae r λa M=>ae (f a M) k:=by cases r<;>rfl
@[simp] theorem aV {α:Type}{a:α}{k:α->Mem->Prop}:ae (.ok a M) k↔k a M:=RT
@[simp] theorem QO {α:Type}{k:α->Mem->Prop}:ae (.bad:Res α) k↔False:=RT
@[simp] theorem iH {α:Type}{M:Mem}{o:Option α}{k:α->Mem->Prop}:ae (cm M o) k↔∃a,o=some a/\k a M:=by cases o<;>simp[cm]
def dO {α:Type}{r:Res α}{k:α->Mem->Prop}:ae r k↔∃a M,r=.ok a M/\k a M:=by
 cases r with
 |ok a M=>exact{λh=>⟨a,M,rfl,h⟩,λ⟨_,_,e,h⟩=>by cases e;exact h}
 |err=>simp[ae]
 |bad=>simp[ae]
def jj (px:az 64 (view M x)=true)(py:az 64 (view M y)=true)(h:bO (view M x) (view M y)=v):bF .eq x y M=some v:=by
 have e:p8 (view M x) (view M y)=some v:=by unfold p8;rw[px,py,h];simp
 show mY M x y=_;unfold mY;rw[e]
def HY (px:az 64 (view M x)=true)(py:az 64 (view M y)=true)(h:bO (view M x) (view M y)=v):bF .ne x y M=some (!v):=by
 show(bF .eq x y M).map (!·)=_;rw[jj px py h];rfl
section
variable{Z:Env}{M:Mem}{a b d lo hi:GE}{s:GA}{t u:GT}{k:D->Mem->Prop}{c:Call}
@[simp] theorem bg {i:Nat}:ae (aa i Z M) k↔∃d,Z[i]?.getD none=some d/\k d M:=by simp[aa]
@[simp] theorem dm {d:D}:ae (gC d Z M) k↔k d M:=RT
@[simp] theorem jZ {m:Bool}{o:oF}:ae (au m o a b Z M) k↔ae (a Z M) λx M=>ae (b Z M) λy M=>ae (fY m o x y M) k:=by simp[au]
@[simp] theorem eD {o:kc}:ae (ax o a b Z M) k↔ae (a Z M) λx M=>ae (b Z M) λy M=>∃v,bF o x y M=some v/\k (.bl v) M:=by simp[ax]
@[simp] theorem Ri {o o':kc}:ae (qS o o' a b d Z M) k↔ae (a Z M) λx M=>ae (b Z M) λy M=>∃v,bF o x y M=some v/\if v=true then ae (d Z M) λz M=>∃v,bF o' y z M=some v/\k (.bl v) M else k (.bl false) M:=by
 simp only[qS,ba,iH];refine iff_of_eq ?_
 congr 1;funext x M;congr 1;funext y M;refine propext (exists_congr λv=>and_congr_right λ_=>?_)
 cases v<;>simp
@[simp] theorem qb:ae (d3 a Z M) k↔ae (a Z M) λx M=>∃i,x=.int i/\k (.int (-i)) M:=by
 simp only[d3,ba];refine iff_of_eq ?_;congr 1;funext x M;cases x<;>simp
@[simp] theorem Rj:ae (dF a b Z M) k↔ae (a Z M) λx M=>∃v,x=.bl v/\if v=true then ae (b Z M) k else k (.bl false) M:=by
 simp only[dF,ba];refine iff_of_eq ?_;congr 1;funext x M;cases x<;>simp;rename_i v;cases v<;>simp
@[simp] theorem Lg:ae (uK a b Z M) k↔ae (a Z M) λx M=>∃v,x=.bl v/\if v=true then k (.bl true) M else ae (b Z M) k:=by
 simp only[uK,ba];refine iff_of_eq ?_;congr 1;funext x M;cases x<;>simp;rename_i v;cases v<;>simp
@[simp] theorem sW:ae (fX t a b Z M) k↔ae (t Z M) λv M=>if v=true then ae (a Z M) k else ae (b Z M) k:=by
 simp only[fX,ba];refine iff_of_eq ?_;congr 1;funext v M;cases v<;>simp
@[simp] theorem eY:ae (aq a b Z M) k↔ae (a Z M) λx M=>ae (b Z M) λy M=>∃d,b6 x y M=some d/\k d M:=by simp[aq]
@[simp] theorem qa {m hl hh:Bool}:ae (fq m hl hh a lo hi Z M) k↔ae (a Z M) λx M=>ae (lo Z M) λl M=>ae (hi Z M) λh M=>eO hl l=true/\eO hh h=true/\ae (gM m x l h M) k:=by
 simp only[fq,ba];refine iff_of_eq ?_
 congr 1;funext x M;congr 1;funext l M;congr 1;funext h M
 cases eO hl l<;>cases eO hh h<;>simp
@[simp] theorem cq {k:List D->Mem->Prop}:ae (bY Z M) k↔k [] M:=RT
@[simp] theorem bV {k:List D->Mem->Prop}:ae (dP a s Z M) k↔ae (a Z M) λx M=>ae (s Z M) λxs M=>k (x::xs) M:=by simp[dP]
@[simp] theorem i6:ae (bH s Z M) k↔ae (s Z M) λxs M=>xs.length<=sz/\k (.tup xs) M:=by
 simp only[bH,ba];refine iff_of_eq ?_;congr 1;funext xs M;unfold lG;split<;>simp[*]
def uf {m:Bool}{xs:List D}:ae (bh m xs M) k↔xs.length<=sz/\if m=true then k (.cell M.length) (M++[xs]) else k (.lst xs) M:=by
 unfold bh;cases m<;>split<;>simp[*]
@[simp] theorem cu {xs:List D}:ae (bh false xs M) k↔xs.length<=sz/\k (.lst xs) M:=by simp[uf]
@[simp] theorem nK {xs:List D}:ae (bh true xs M) k↔xs.length<=sz/\k (.cell M.length) (M++[xs]):=by simp[uf]
@[simp] theorem yg {m:Bool}:ae (bA m s Z M) k↔ae (s Z M) λxs M=>ae (bh m xs M) k:=by simp[bA]
@[simp] theorem uS {f:Nat}:ae (ai f c s Z M) k↔ae (s Z M) λds M=>ae (c f ds M) k:=by simp[ai]
@[simp] theorem Ht {i:Nat}:ae (mV i c s Z M) k↔∃f,Z[i]?.getD none=some (.fn f)/\ae (s Z M) λds M=>ae (c f ds M) k:=by
 unfold mV;cases e:Z[i]?.getD none with
 |none=>simp
 |some d=>cases d<;>simp
@[simp] theorem b8 {f:xg}:ae (aJ f s Z M) k↔ae (s Z M) λds M=>ae (ft f ds M) k:=by simp[aJ]
@[simp] theorem Q8 {t:Ty}:ae (bI t a Z M) k↔ae (a Z M) λx M=>∃v,gV t x=some v/\k (.bl v) M:=by simp[bI]
@[simp] theorem Lh {fs:List (Str×Nat)}:ae (lQ fs a Z M) k↔ae (a Z M) λx M=>∃y f,x=.str y/\fs.lookup y=some f/\k (.fn f) M:=by
 simp only[lQ,ba];refine iff_of_eq ?_;congr 1;funext x M;cases x<;>simp;exact{λ⟨_,⟨f,h,e⟩,q⟩=>{f,h,e ▸ q},λ⟨f,h,q⟩=>{_,⟨f,h,rfl⟩,q}}
@[simp] theorem Q9 {fs:List (Str×Nat)}:ae (i5 fs a Z M) k↔ae (a Z M) λx M=>∃y,x=.str y/\k (.bl (!(fs.lookup y).isSome)) M:=by
 simp only[i5,ba];refine iff_of_eq ?_;congr 1;funext x M;cases x<;>simp
@[simp] theorem Hr {m:Bool}:ae (mU m a Z M) k↔ae (a Z M) λx M=>∃n,x=.int n/\(-(2^62)<=n/\n<2^20)/\ae (bh m ((List.range n.toNat).map λ(k:Nat)=>D.int (k:Int)) M) k:=by
 simp only[mU,ba];refine iff_of_eq ?_;congr 1;funext x M;cases x<;>simp;rename_i n;split<;>simp[*]
variable{kb:Bool->Mem->Prop}
@[simp] theorem iu:ae (aj a Z M) kb↔ae (a Z M) λx M=>∃v,kg M x=some v/\kb v M:=by simp[aj]
@[simp] theorem Mp:ae (eV t u Z M) kb↔ae (t Z M) λv M=>if v=true then ae (u Z M) kb else kb false M:=by
 simp only[eV,ba];refine iff_of_eq ?_;congr 1;funext v M;cases v<;>simp
@[simp] theorem t_or:ae (dY t u Z M) kb↔ae (t Z M) λv M=>if v=true then kb true M else ae (u Z M) kb:=by
 simp only[dY,ba];refine iff_of_eq ?_;congr 1;funext v M;cases v<;>simp
@[simp] theorem Rg:ae (bL t Z M) kb↔ae (t Z M) λv M=>kb (!v) M:=by simp[bL]
variable{kf:Fl->Mem->Prop}{sa sb:GS}
noncomputable def ir (b:GS)(k:Fl->Mem->Prop):Fl->Mem->Prop
 |.next Z,M=>ae (b Z M) k
 |.ret d,M=>k (.ret d) M
 |.exc x Z,M=>k (.exc x Z) M
@[simp] theorem OG {b:GS}{x:D}:ir b kf (.exc x Z) M↔kf (.exc x Z) M:=RT
@[simp] theorem bK {b:GS}:ir b kf (.next Z) M↔ae (b Z M) kf:=RT
@[simp] theorem OF {b:GS}{d:D}:ir b kf (.ret d) M↔kf (.ret d) M:=RT
@[simp] theorem av:ae (bw sa sb Z M) kf↔ae (sa Z M) (ir sb kf):=by
 simp only[bw,ba];refine iff_of_eq ?_;congr 1;funext fl M;cases fl<;>rfl
@[simp] theorem Jg:ae (aD Z M) kf↔kf (.next Z) M:=RT
@[simp] theorem mz {i:Nat}:ae (ay (.one i) a Z M) kf↔ae (a Z M) λx M=>kf (.next (Z.set i (some x))) M:=by simp[ay,bX]
@[simp] theorem QD {l:List Nat}:ae (ay (.tup l) a Z M) kf↔ae (a Z M) λx M=>∃ds ρ1,x=.tup ds/\c5 l ds Z=some ρ1/\kf (.next ρ1) M:=by
 simp only[ay,ba,iH,aV];refine iff_of_eq ?_;congr 1;funext x M;cases x<;>simp[bX]
@[simp] theorem kD:ae (eG a b d Z M) kf↔ae (d Z M) λz M=>ae (a Z M) λx M=>ae (b Z M) λy M=>∃j n ds i,x=.cell j/\y=.int n/\M[j]?=some ds/\cv ds.length n=some i/\kf (.next Z) (M.set j (ds.set i z)):=by
 simp only[eG,ba];refine iff_of_eq ?_
 congr 1;funext z M;congr 1;funext x M;congr 1;funext y M
 cases x with
 | cell j =>
   cases y with
   | int n =>
     cases e:M[j]? with
     |none=>simp[e]
     | some ds =>
       cases e2:cv ds.length n with
       |none=>simp[e,e2]
       |some i=>simp[e,e2]
   |_=>simp
 |_=>simp
@[simp] theorem Jj:ae (fo a d Z M) kf↔ae (a Z M) λx M=>ae (d Z M) λz M=>∃j ds,x=.cell j/\M[j]?=some ds/\ds.length<sz/\kf (.next Z) (M.set j (ds++[z])):=by
 simp only[fo,ba];refine iff_of_eq ?_
 congr 1;funext x M;congr 1;funext z M
 cases x<;>simp;rename_i j;cases e:M[j]? with
 |none=>simp
 |some ds=>by_cases h:ds.length<sz<;>simp[h]
@[simp] theorem bS:ae (aM a Z M) kf↔ae (a Z M) λx M=>kf (.ret x) M:=by simp[aM]
@[simp] theorem P9:ae (Ez Z M) kf↔kf (.ret .non) M:=RT
@[simp] theorem Qa:ae (EA Z M) kf↔kf (.next Z) M:=RT
@[simp] theorem QC:ae (OU Z M) kf↔False:=RT
@[simp] theorem mx:ae (aN t sa sb Z M) kf↔ae (t Z M) λv M=>if v=true then ae (sa Z M) kf else ae (sb Z M) kf:=by
 simp only[aN,ba];refine iff_of_eq ?_;congr 1;funext v M;cases v<;>simp
variable{kw:Walk->Mem->Prop}
@[simp] theorem fA:ae (cZ a Z M) kw↔ae (a Z M) λx M=>∃n,x=.int n/\(-(2^62)<=n/\n<2^62)/\kw (λ_=>some ((List.range n.toNat).map λ(k:Nat)=>D.int (k:Int))) M:=by
 simp only[cZ,ba];refine iff_of_eq ?_;congr 1;funext x M;cases x<;>simp;rename_i n;split<;>simp[*]
@[simp] theorem eU:ae (bR a Z M) kw↔ae (a Z M) λx M=>fx x=true/\kw (λM=>cj M x) M:=by
 simp only[bR,ba];refine iff_of_eq ?_;congr 1;funext x M;cases x<;>simp[fx]<;>rfl
@[simp] theorem yV:ae (gr a Z M) kw↔ae (a Z M) λx M=>fx x=true/\kw (λM=>(cj M x).map (fy 0)) M:=by
 simp only[gr,ba];refine iff_of_eq ?_;congr 1;funext x M;split<;>simp[*]
@[simp] theorem Iv:ae (jW a b Z M) kw↔ae (a Z M) λx M=>ae (b Z M) λy M=>(fx x&&fx y)=true/\kw (pH x y) M:=by
 simp only[jW,ba];refine iff_of_eq ?_;congr 1;funext x M;congr 1;funext y M;split<;>simp[*]
noncomputable def g5 (k:D->Mem->Prop):Fl->Mem->Prop
 |.ret d,M=>k d M
 |.next _,M=>k .non M
 |.exc _ _,_=>False
@[simp] theorem Qi {d:D}:g5 k (.ret d) M↔k d M:=RT
@[simp] theorem PB:g5 k (.next Z) M↔k .non M:=RT
def aF {d:Df}{ds:List D}(e:P f=some d)(hl:ds.length=d.params)(h:ae (d.body (ah P n) (ds.map some++List.replicate (d.slots-ds.length) none) M) (g5 k)):ae (ah P (n+1) f ds M) k:=by
 show ae (match P f with|none=>Res.bad|some d=>gA (ah P n) d ds M) k
 rw[e];show ae (gA (ah P n) d ds M) k;unfold gA;rw[if_pos hl];revert h;cases d.body (ah P n) (ds.map some++List.replicate (d.slots-ds.length) none) M with
 |ok fl M=>cases fl<;>exact id
 |err=>exact id
 |bad=>exact id
@[simp] theorem QP {α:Type}{a:α}{k:α->Mem->Prop}{kx:D->Mem->Prop}:fC (.ok a M) k kx↔k a M:=RT
@[simp] theorem Qd {α:Type}{x:D}{k:α->Mem->Prop}:fC (.err x M:Res α) k kx↔kx x M:=RT
noncomputable def yd (k kx:D->Mem->Prop):Fl->Mem->Prop
 |.ret d,M=>k d M
 |.next _,M=>k .non M
 |.exc x _,M=>kx x M
def pA {d:Df}{kx:D->Mem->Prop}(e:P f=some d)(hl:ds.length=d.params)(h:ae (d.body (ah P n) (ds.map some++List.replicate (d.slots-ds.length) none) M) (yd k kx)):fC (ah P (n+1) f ds M) k kx:=by
 show fC (match P f with|none=>Res.bad|some d=>gA (ah P n) d ds M) k kx
 rw[e];show fC (gA (ah P n) d ds M) k kx;unfold gA;rw[if_pos hl];revert h;cases d.body (ah P n) (ds.map some++List.replicate (d.slots-ds.length) none) M with
 |ok fl M=>cases fl<;>exact id
 |err=>exact id
 |bad=>exact id
@[simp] theorem Q6 {d:D}{kx:D->Mem->Prop}:yd k kx (.ret d) M↔k d M:=RT
@[simp] theorem Qh {kx:D->Mem->Prop}:yd k kx (.next Z) M↔k .non M:=RT
@[simp] theorem Q7:yd k kx (.exc x Z) M↔kx x M:=RT
@[simp] theorem P5 {f:Nat}:fC (cb f c s Z M) k kx↔ae (s Z M) λds M=>fC (c f ds M) k kx:=by
 unfold cb;cases s Z M<;>rfl
@[simp] theorem QB:ae (iR a Z M) kf↔fC (a Z M) (λ_ M=>kf (.next Z) M) (λx M=>kf (.exc x Z) M):=by
 unfold iR;cases a Z M<;>rfl
@[simp] theorem qy {i:Nat}:ae (fw (.one i) a Z M) kf↔fC (a Z M) (λx M=>kf (.next (Z.set i (some x))) M) (λx M=>kf (.exc x Z) M):=by
 unfold fw;cases a Z M<;>rfl
@[simp] theorem Cy {i:Nat}:ae (f9 i s Z M) kf↔ae (s Z M) λds M=>ds.length<=sz/\kf (.exc (.exc i none) Z) M:=by
 unfold f9;cases s Z M with
 |ok ds M1=>by_cases h:ds.length<=sz<;>simp[h]
 |err=>exact RT
 |bad=>exact RT
noncomputable def PK (k1 k2:Nat)(h:GS)(kf:Fl->Mem->Prop):Fl->Mem->Prop
 |.exc x Z,M=>∃c p,x=.exc c p/\(c=k1\/c=k2)/\ae (h Z M) (λfl M=>match fl with|.exc _ _=>False|fl=>kf fl M)
 |fl,M=>kf fl M
@[simp] theorem tU {k1 k2:Nat}{h:GS}:ae (mB sa k1 k2 h Z M) kf↔ae (sa Z M) (PK k1 k2 h kf):=by
 simp only[mB,ba];refine iff_of_eq ?_;congr 1;funext fl M;cases fl with
 | exc x Z =>
   cases x with
   | exc c p =>
     by_cases hc:c=k1\/c=k2
     ·have e:mr k1 k2 h (.exc (.exc c p) Z) M=(h Z M).bind λfl M=>match fl with|.exc _ _=>.bad|fl=>.ok fl M:=if_pos hc
      rw[e];simp only[ba];refine propext {λz=>{c,p,rfl,hc,aH z λfl M q=>?_},λ⟨_,_,e,_,z⟩=>?_}
      ·cases fl with
       |exc=>exact q.elim
       |next=>exact q
       |ret=>exact q
      ·refine aH z λfl M q=>?_;cases fl with
       |exc=>exact q.elim
       |next=>exact q
       |ret=>exact q
     ·have e:mr k1 k2 h (.exc (.exc c p) Z) M=.bad:=if_neg hc;rw[e];exact propext {λz=>z.elim,λ⟨_,_,e,z,_⟩=>by cases e;exact absurd z hc}
   |_=>exact propext {λz=>z.elim,λ⟨_,_,e,_⟩=>by cases e}
 |next Z=>rfl
 |ret d=>rfl
def fz {α:Type}{f:α->D->Mem->Res α}{w:Walk}{ds:List D}{a:α}{k:α->Mem->Prop}(I:Nat->α->Mem->Prop)(hw:∀i a M,I i a M->w M=some ds)(h0:I 0 a M)
 (hs:∀i d a M,ds[i]?=some d->I i a M->ae (f a d M) (I (i+1))) (hk:∀a M,I ds.length a M->k a M):ae (cL f w a M) k:=by
 have key:∀(m i:Nat) (a:α) (M:Mem),ds.length-i<m->i<=ds.length->I i a M->ae (gp f w m i a M) k:=by
  intro m;induction m with
  |zero=>intro i a M h;exact absurd h (R4 _)
  | succ m ih =>
    intro i a M h hi hI;show ae (match w M with|none=>Res.bad|some ds=>match ds[i]? with|none=>Res.ok a M|some d=>(f a d M).bind (gp f w m (i+1))) k
    rw[hw i a M hI];dsimp only;by_cases hlt:i<ds.length
    ·rw[QG hlt];simp only[ba];exact aH (hs i ds[i] a M (QG hlt) hI) λa' M' h'=>ih (i+1) a' M' `a hlt h'
    ·have e:i=ds.length:=`a
     subst e;rw[List.getElem?_eq_none (Qw _)];exact hk a M hI
 unfold cL;rw[hw 0 a M h0];exact key _ 0 a M `s (RB _) h0
def cF {t:fW}{w:Walk}{gb:GS}{ds:List D}(I:Nat->Env->Mem->Prop)(hw:∀i Z M,I i Z M->w M=some ds)(h0:I 0 Z M)
 (hs:∀i d Z M,ds[i]?=some d->I i Z M->∃ρ1,bX t d Z=some ρ1/\ae (gb ρ1 M) λfl M=>∃ρ',fl=.next ρ'/\I (i+1) ρ' M) (hk:∀Z M,I ds.length Z M->kf (.next Z) M):ae (cL (iw t gb) w (.next Z) M) kf:=by
 refine fz (λi fl M=>∃Z,fl=.next Z/\I i Z M) (λi fl M ⟨Z,_,h⟩=>hw i Z M h) ⟨Z,rfl,h0⟩ ?_ ?_
 ·rintro i d fl M hd ⟨Z,rfl,hI⟩;obtain⟨ρ1,e,h⟩:=hs i d Z M hd hI;simp only[iw,ba,iH,e];exact⟨ρ1,rfl,h⟩
 ·rintro fl M ⟨Z,rfl,hI⟩;exact hk Z M hI
@[simp] theorem dH {tg:fW}{w:GW}{gb:GS}:ae (bU tg w gb Z M) kf↔ae (w Z M) λw M=>ae (cL (iw tg gb) w (.next Z) M) kf:=by simp[bU]
@[simp] theorem eP {m:Bool}{n:Nat}{tg:fW}{w:GW}{g:GB}:ae (bj m n tg w g Z M) k↔ae (w Z M) λw M=>ae (cL (cw tg g (List.replicate n none++Z)) w [] M) λacc M=>ae (bh m acc M) k:=by simp[bj]
variable{kl:List D->Mem->Prop}
@[simp] theorem Fq {ge:GE}{acc:List D}:ae (bp ge Z acc M) kl↔ae (ge Z M) λx M=>acc.length<sz/\kl (acc++[x]) M:=by
 simp only[bp,ba];refine iff_of_eq ?_;congr 1;funext x M;split<;>simp[*]
def comp_map {tg:fW}{w:Walk}{ge:GE}{ds:List D}{ρ0:Env}(I:Nat->List D->Mem->Prop)(hz:ds.length<=sz)(hw:∀i acc M,I i acc M->w M=some ds)(h0:I 0 [] M)
 (hs:∀i d acc M,ds[i]?=some d->acc.length=i->I i acc M->∃ρ1,bX tg d ρ0=some ρ1/\ae (ge ρ1 M) λx M=>I (i+1) (acc++[x]) M) (hk:∀acc M,acc.length=ds.length->I ds.length acc M->kl acc M) :
 ae (cL (cw tg (bp ge) ρ0) w [] M) kl:=by
 refine fz (λi acc M=>acc.length=i/\I i acc M) (λi acc M h=>hw i acc M h.2) ⟨rfl,h0⟩ ?_ (λacc M h=>hk acc M h.1 h.2);rintro i d acc M hd ⟨hl,hI⟩;obtain⟨ρ1,e,h⟩:=hs i d acc M hd hl hI;have hi:i<ds.length:=(Qo.mp hd).1;simp only[cw,ba,iH,e,Fq];exact{ρ1,rfl,aH h λx M h=>{`a,by simp[hl],h}}
end
def aY {M:Mem}(ht:t Z M=.ok false M)(h:ae (rest Z M) k):ae (bw (aN t A aD) rest Z M) k:=by
 simp only[av,mx];rw[ht];exact h
def qQ {k:Fl->Mem->Prop}(ht:t Z M=.ok true M)(he:e Z M=.ok v M)(h:k (.ret v) M):ae (bw (aN t #v[aM e] aD) rest Z M) k:=by
 simp only[av,mx,bS];rw[ht];show ae (e Z M) _;rw[he];exact h
def c9 {v:D}(he:e Z M=.ok v M)(h:k (.ret v) M):ae (#v[aM e] Z M) k:=by
 simp only[av,bS];rw[he];exact h
structure HasB0 (P:Nat->Option Df):Prop where
 is_between:P 0=some {3,3,jG}
 is_word:P 1=some {2,2,m8}
 is_place:P 2=some {2,2,l5}
 is_cost:P 3=some {1,1,nj}
 is_tuple_of:P 4=some {2,2,iS}
 is_table:P 5=some {2,2,l4}
 is_double_table:P 6=some {2,2,fZ}
 is_turn:P 7=some {3,6,m9}
 is_join:P 8=some {3,7,nh}
 is_move:P 9=some {3,6,ng}
 is_put:P 10=some {3,6,pC}
 is_deed:P 11=some {3,5,ni}
 is_machine:P 12=some {1,4,jF}
 need_machine:P 13=some {1,1,ip}
structure HasM0 (P:Nat->Option Df):Prop extends HasB0 P where
 is_deed_number:P 16=some {2,2,pD}
 need_numbers:P 17=some {2,4,rq}
 need_row:P 18=some {2,2,yt}
structure HasM (P:Nat->Option Df):Prop extends HasM0 P where
 turned:P 20=some {2,6,lX}
 joined:P 21=some {2,7,lZ}
 moved:P 22=some {2,6,oj}
 put_in:P 23=some {2,6,lY}
 done:P 24=some {2,4,qk}
 all_standing:P 25=some {3,5,rA}
structure HasP0 (P:Nat->Option Df):Prop where
 law_spread:P 28=some {2,6,mh}
 law_open:P 29=some {1,4,ky}
 law_anew:P 30=some {1,1,kz}
 law_take:P 31=some {2,5,oD}
structure HasP (P:Nat->Option Df):Prop extends HasP0 P where
 law_tab:P 32=some {2,6,i7}
 law_deed:P 33=some {3,7,iC}
 law_machine:P 34=some {4,8,fR}
instance coeHasB0 {P:Nat->Option Df}:Coe (HasM0 P) (HasB0 P):=⟨HasM0.toHasB0⟩
instance coeHasBM {P:Nat->Option Df}:Coe (HasM P) (HasB0 P):={λh=>h.toHasM0.toHasB0}
structure j9 (P:Nat->Option Df):Prop where
 turned:P 20=some {2,6,lX}
 joined:P 21=some {2,7,lZ}
 moved:P 22=some {2,6,oj}
 put_in:P 23=some {2,6,lY}
 done:P 24=some {2,4,qk}
def HasM.r {P:Nat->Option Df}(h:HasM P):j9 P:=⟨h.turned,h.joined,h.moved,h.put_in,h.done⟩
instance coeHasR0 {P:Nat->Option Df}:Coe (HasM P) (j9 P):=⟨HasM.r⟩
instance coeHasM {P:Nat->Option Df}:Coe (HasM P) (HasM0 P):=⟨HasM.toHasM0⟩
instance coeHasP {P:Nat->Option Df}:Coe (HasP P) (HasP0 P):=⟨HasP.toHasP0⟩
@[simp] theorem Rh {d:Option D}{r:Env}:(d::r)[0]?.getD none=d:=rfl
section
variable{M:Mem}{k:D->Mem->Prop}
def kK {α:Type}{c:Prop}[Decidable c]{r:Res α}{k:α->Mem->Prop}:ae (if c then r else .bad) k↔c/\ae r k:=by split<;>simp[*]
@[simp] theorem vq {m:Bool}{i j:Int}:ae (fY m .add (.int i) (.int j) M) k↔k (.int (i+j)) M:=RT
@[simp] theorem IY {m:Bool}{i j:Int}:ae (fY m .sub (.int i) (.int j) M) k↔k (.int (i-j)) M:=RT
@[simp] theorem QU {m:Bool}{i j:Int}:ae (fY m .mul (.int i) (.int j) M) k↔((-(2^64)<i/\i<2^64)\/(-(2^64)<j/\j<2^64))/\k (.int (i*j)) M:=kK
@[simp] theorem QW {m:Bool}{i j:Int}:ae (fY m .mod (.int i) (.int j) M) k↔0<j/\k (.int (i % j)) M:=kK
@[simp] theorem Qj {m:Bool}{i j:Int}:ae (fY m .fdiv (.int i) (.int j) M) k↔(0<j/\j<1073741824)/\k (.int (i / j)) M:=kK
@[simp] theorem Bw {m:Bool}{x y:List D}:ae (fY m .add (.tup x) (.tup y) M) k↔(x++y).length<=sz/\k (.tup (x++y)) M:=by
 show ae (lG _ _) k↔_;unfold lG;exact kK
@[simp] theorem Ra {m:Bool}{x y:List D}:ae (fY m .add (.lst x) (.lst y) M) k↔ae (bh m (x++y) M) k:=RT
@[simp] theorem Qk {i j:Int}:bF .lt (.int i) (.int j) M=some (decide (i<j)):=rfl
@[simp] theorem Ql {i j:Int}:bF .le (.int i) (.int j) M=some (decide (i<=j)):=rfl
@[simp] theorem Qm {i j:Int}:bF .gt (.int i) (.int j) M=some (decide (j<i)):=rfl
@[simp] theorem Qn {i j:Int}:bF .ge (.int i) (.int j) M=some (decide (j<=i)):=rfl
@[simp] theorem Rl {i j:Int}:bF .eq (.int i) (.int j) M=some (i==j):=rfl
@[simp] theorem Rk {i j:Int}:bF .ne (.int i) (.int j) M=some (!(i==j)):=rfl
@[simp] theorem Qs {b:Bool}:kg M (.bl b)=some b:=rfl
@[simp] theorem P6 {ds:List D}:kg M (.tup ds)=some (!ds.isEmpty):=rfl
@[simp] theorem P7 {ds:List D}:kg M (.lst ds)=some (!ds.isEmpty):=rfl
@[simp] theorem Qe {ds:List D}:ae (ft .len [.tup ds] M) k↔k (.int ds.length) M:=RT
@[simp] theorem Qf {ds:List D}:ae (ft .len [.lst ds] M) k↔k (.int ds.length) M:=RT
@[simp] theorem w5 {ds:List D}:ae (ft .all [.lst ds] M) k↔∃bs,boolsOf ds=some bs/\k (.bl (bs.all id)) M:=by
 show ae (match boolsOf ds with|some bs=>_|none=>_) k↔_
 cases boolsOf ds<;>simp
@[simp] theorem P8 {ds:List D}:ae (ft .sum [.lst ds] M) k↔∃bs,intsOf ds=some bs/\k (.int bs.sum) M:=by
 show ae (match intsOf ds with|some bs=>_|none=>_) k↔_
 cases intsOf ds<;>simp
@[simp] theorem N8 {ds:List D}:ae (ft .tuple [.lst ds] M) k↔k (.tup ds) M:=RT
@[simp] theorem pI {j:Nat}:ae (ft .tuple [.cell j] M) k↔∃ds,M[j]?=some ds/\k (.tup ds) M:=by
 show ae (match M[j]? with|some xs=>_|none=>_) k↔_
 cases M[j]?<;>simp
@[simp] theorem CZ {m:Bool}{ds:List D}:ae (ft (.list m) [.lst ds] M) k↔ae (bh m ds M) k:=RT
@[simp] theorem ij {ds:List D}{i:Int}:b6 (.tup ds) (.int i) M=(cv ds.length i).bind λj=>ds[j]?:=rfl
@[simp] theorem Qg {ds:List D}{i:Int}:b6 (.lst ds) (.int i) M=(cv ds.length i).bind λj=>ds[j]?:=rfl
@[simp] theorem Px {j:Nat}{i:Int}:b6 (.cell j) (.int i) M=(M[j]?).bind λds=>(cv ds.length i).bind λj=>ds[j]?:=rfl
def dS {n i:Nat}(h:i<n):cv n (i:Int)=some i:=by
 unfold cv;rw[if_pos (Int.natCast_nonneg i),if_pos (by exact_mod_cast h)];rfl
end
def dw {α:Type}{r:Res α}{d:α}{M:Mem}(h:ae r λx M'=>x=d/\M'=M):r=.ok d M:=by
 obtain⟨a,M',e,rfl,rfl⟩:=dO.mp h;exact e
def ak {r:Res D}{d:D}{M:Mem}(h:ae r λx M'=>x=d/\M'=M):r=.ok d M:=by
 obtain⟨a,M',e,rfl,rfl⟩:=dO.mp h;exact e
section
variable{P:Nat->Option Df}(h:HasB0 P){M:Mem}
include h
theorem iZ (n:Nat)(t lo hi:Int):ah P (n+1) 0 [.int t,.int lo,.int hi] M=.ok (.bl (decide (lo<=t)&&decide (t<=hi))) M:=by
 refine ak (aF h.is_between rfl ?_);simp[jG,gV];by_cases h1:lo<=t<;>simp[h1]<;>omega
end
def eR {tg:fW}{w:Walk}{ge:GE}{ds:List D}{ρ0:Env}{M:Mem}{kl:List D->Mem->Prop}(f:D->D)(hz:ds.length<=sz)(hw:w M=some ds)(hs:∀d∈ds,∃ρ1,bX tg d ρ0=some ρ1/\ge ρ1 M=.ok (f d) M)(hk:kl (ds.map f) M) :
 ae (cL (cw tg (bp ge) ρ0) w [] M) kl:=by
 refine comp_map (λi acc M'=>M'=M/\acc=(ds.take i).map f) hz (λi acc M' h=>by rw[h.1];exact hw) ⟨rfl,rfl⟩ ?_ ?_
 ·rintro i d acc M' hd _ ⟨rfl,rfl⟩;obtain⟨ρ1,e1,e2⟩:=hs d (QT hd);refine{ρ1,e1,?_};rw[e2];refine{rfl,?_};have hi:i<ds.length:=(Qo.mp hd).1;rw[RM,hd];simp
 ·rintro acc M' _ ⟨rfl,rfl⟩;simpa using hk
def qi {ds:List D}(h:∀d∈ds,d=.bl true):∃bs,boolsOf ds=some bs/\bs.all id=true:=by
 induction ds with
 |nil=>exact{[],rfl,rfl}
 | cons d r ih =>
   obtain⟨bs,e,q⟩:=ih λd hd=>h d (QJ _ hd);obtain rfl:=h d QN;exact{true::bs,by simp[boolsOf,e],by simpa using q}
def all_true {w:GW}{ge:GE}{Z:Env}{M:Mem}{k:D->Mem->Prop}{ds:List D}(hw:ae (w Z M) λwk M'=>M'=M/\wk M=some ds)(hz:ds.length<=sz)(he:∀d∈ds,ge (some d::Z) M=.ok (.bl true) M)(hk:k (.bl true) M) :
 ae (aJ .all #[bj false 1 (.one 0) w (bp ge)] Z M) k:=by
 simp only[b8,bV,eP,cq];refine aH hw λwk M' ⟨e1,e2⟩=>?_;subst e1;refine eR (λ_=>.bl true) hz e2 (λd hd=>{some d::Z,rfl,he d hd}) ?_;obtain⟨bs,q1,q2⟩:=qi (ds:=ds.map λ_=>D.bl true) `s
 simp only[cu,Qq,w5];exact{hz,bs,q1,by rw[q2];exact hk}
def pE {tg:fW}{ge:GE}{w:Walk}{ds:List D}{ρ0:Env}{M:Mem}(hz:ds.length<=sz)(hw:w M=some ds)(he:∀d∈ds,∃ρ1,bX tg d ρ0=some ρ1/\ge ρ1 M=.ok (.bl true) M) :
 ae (cL (cw tg (bp ge) ρ0) w [] M) λacc M'=>acc.length<=sz/\∃bs,boolsOf acc=some bs/\¬ false∈bs/\M'=M:=by
 refine eR (λ_=>.bl true) hz hw he ?_;obtain⟨bs,q1,q2⟩:=qi (ds:=ds.map λ_=>D.bl true) `s
 refine{by simpa using hz,bs,q1,λz=>?_,rfl}
 have:=QX.mp q2 false z;cases this
abbrev nD (n:Nat):D:=.int (n:Int)
noncomputable def aw (l:List Nat):D:=.tup (l.map nD)
inductive a8 where
 |turn (at_:Nat) (tab:List Nat) (cost:Nat)
 |join (at_ other:Nat) (tab:List (List Nat)) (cost:Nat)
 |move (at_ other cost:Nat)
 |put (at_ word cost:Nat)
noncomputable def a8.d:a8->D
 |.turn a t c=>.tup [.str "turn",nD a,aw t,nD c]
 |.join a o t c=>.tup [.str "join",nD a,nD o,.tup (t.map aw),nD c]
 |.move a o c=>.tup [.str "move",nD a,nD o,nD c]
 |.put a w c=>.tup [.str "put",nD a,nD w,nD c]
noncomputable def a8.cost:a8->Nat
 |.turn _ _ c=>c
 |.join _ _ _ c=>c
 |.move _ _ c=>c
 |.put _ _ c=>c
structure aP where
 words:Nat
 places:Nat
 deeds:List a8
noncomputable def aP.d (m:aP):D:=.tup [nD m.words,nD m.places,.tup (m.deeds.map a8.d)]
noncomputable def i9 (w:Nat)(t:List Nat):Prop:=t.length=w/\∀x∈t,x<w
noncomputable def hZ (c:Nat):Prop:=1<=c/\c<=3
noncomputable def b5 (w p:Nat):a8->Prop
 |.turn a t c=>a<p/\i9 w t/\hZ c
 |.join a o t c=>a<p/\o<p/\(t.length=w/\∀x∈t,i9 w x)/\hZ c
 |.move a o c=>a<p/\o<p/\hZ c
 |.put a x c=>a<p/\x<w/\hZ c
structure aL (m:aP):Prop where
 w2:2<=m.words
 w4:m.words<=4
 p1:1<=m.places
 p2:m.places<=2
 d1:1<=m.deeds.length
 d6:m.deeds.length<=6
 ok:∀d∈m.deeds,b5 m.words m.places d
def aI {n:Nat}(h:n<=100000):n<=sz:=QH h `d
section
variable{P:Nat->Option Df}(h:HasB0 P){M:Mem}
include h
theorem qv (n:Nat){w t:Nat}(ht:t<w):ah P (n+2) 1 [nD w,nD t] M=.ok (.bl true) M:=by
 refine ak (aF h.is_word rfl ?_);simp[m8,iZ h];omega
theorem ic (n:Nat){w t:Nat}(ht:t<w):ah P (n+2) 2 [nD w,nD t] M=.ok (.bl true) M:=by
 refine ak (aF h.is_place rfl ?_);simp[l5,iZ h];omega
theorem lr (n:Nat){c:Nat}(hc:hZ c):ah P (n+2) 3 [nD c] M=.ok (.bl true) M:=by
 unfold hZ at hc;refine ak (aF h.is_cost rfl ?_);simp[nj,iZ h];omega
theorem lj (n:Nat){w:Nat}{ds:List D}(ht:ds.length=w):ah P (n+1) 4 [nD w,.tup ds] M=.ok (.bl true) M:=by
 refine ak (aF h.is_tuple_of rfl ?_);simp[iS,gV,ht]
theorem tM (n:Nat){w:Nat}{t:List Nat}(hw:w<=4)(ht:i9 w t):ah P (n+3) 5 [nD w,aw t] M=.ok (.bl true) M:=by
 refine ak (aF h.is_table rfl ?_);have e:ah P (n+2) 4 [nD w,aw t] M=.ok (.bl true) M:=lj h (n+1) (by simpa using ht.1)
 simp[l4,e];refine{rfl,pE (aI (by simp[ht.1];omega)) rfl λd hd=>?_}
 obtain⟨x,hx,rfl⟩:=QE.mp hd;refine{_,rfl,ak ?_};simp[qv h n (ht.2 x hx)]
theorem zP (n:Nat){w:Nat}{t:List (List Nat)}(hw:w<=4)(ht:t.length=w/\∀x∈t,i9 w x):ah P (n+4) 6 [nD w,.tup (t.map aw)] M=.ok (.bl true) M:=by
 refine ak (aF h.is_double_table rfl ?_);have e:ah P (n+3) 4 [nD w,.tup (t.map aw)] M=.ok (.bl true) M:=lj h (n+2) (by simpa using ht.1)
 simp[fZ,e];refine{rfl,pE (aI (by simp[ht.1];omega)) rfl λd hd=>?_}
 obtain⟨x,hx,rfl⟩:=QE.mp hd;refine{_,rfl,ak ?_};simp[tM h n hw (ht.2 x hx)]
theorem F7 (n:Nat){w p a c:Nat}{t:List Nat}(hw:w<=4)(hd:b5 w p (.turn a t c)):ah P (n+4) 7 [nD w,nD p,.tup [nD a,aw t,nD c]] M=.ok (.bl true) M:=by
 obtain⟨h1,h2,h3⟩:=hd;refine ak (aF h.is_turn rfl ?_);simp[m9,c5,ic h (n+1) h1,tM h n hw h2,lr h (n+1) h3]
theorem Gg (n:Nat){w p a o c:Nat}{t:List (List Nat)}(hw:w<=4)(hd:b5 w p (.join a o t c)):ah P (n+5) 8 [nD w,nD p,.tup [nD a,nD o,.tup (t.map aw),nD c]] M=.ok (.bl true) M:=by
 obtain⟨h1,h2,h3,h4⟩:=hd;refine ak (aF h.is_join rfl ?_);simp[nh,c5,ic h (n+2) h1,ic h (n+2) h2,zP h n hw h3,lr h (n+2) h4]
theorem Ge (n:Nat){w p a o c:Nat}(hd:b5 w p (.move a o c)):ah P (n+3) 9 [nD w,nD p,.tup [nD a,nD o,nD c]] M=.ok (.bl true) M:=by
 obtain⟨h1,h2,h3⟩:=hd;refine ak (aF h.is_move rfl ?_);simp[ng,c5,ic h n h1,ic h n h2,lr h n h3]
theorem Ga (n:Nat){w p a x c:Nat}(hd:b5 w p (.put a x c)):ah P (n+3) 10 [nD w,nD p,.tup [nD a,nD x,nD c]] M=.ok (.bl true) M:=by
 obtain⟨h1,h2,h3⟩:=hd;refine ak (aF h.is_put rfl ?_);simp[pC,c5,ic h n h1,qv h n h2,lr h n h3]
end
def O9:eI.lookup (Str.ofString "turn")=some 7:=`k
def O8:eI.lookup (Str.ofString "join")=some 8:=`k
def O7:eI.lookup (Str.ofString "move")=some 9:=`k
def O6:eI.lookup (Str.ofString "put")=some 10:=`k
section
variable{P:Nat->Option Df}(h:HasB0 P){M:Mem}
include h
theorem sY (n:Nat){w p f:Nat}{s:Str}{ds:List D}(lk:eI.lookup s=some f)(q:ah P (n+5) f [nD w,nD p,.tup ds] M=.ok (.bl true) M):ah P (n+6) 11 [nD w,nD p,.tup (.str s::ds)] M=.ok (.bl true) M:=by
 refine ak (aF h.is_deed rfl ?_);simp[-List.lookup_isSome_iff,ni,gV,cv,lk,gM,aU,eO,cut,q]
theorem Gj (n:Nat){w p:Nat}{d:a8}(hw:w<=4)(hd:b5 w p d):ah P (n+6) 11 [nD w,nD p,d.d] M=.ok (.bl true) M:=by
 cases d with
 |turn a t c=>exact sY h n O9 (F7 h (n+1) hw hd)
 |join a o t c=>exact sY h n O8 (Gg h n hw hd)
 |move a o c=>exact sY h n O7 (Ge h (n+2) hd)
 |put a x c=>exact sY h n O6 (Ga h (n+2) hd)
theorem Gf (n:Nat){m:aP}(hm:aL m):ah P (n+7) 12 [m.d] M=.ok (.bl true) M:=by
 refine ak (aF h.is_machine rfl ?_);have e:ah P (n+6) 4 [.int 3,.tup [nD m.words,nD m.places,.tup (m.deeds.map a8.d)]] M=.ok (.bl true) M:=lj h (n+5) rfl;have l1:=hm.d1;have l6:=hm.d6;have b1:(decide ((2:Int)<=(m.words:Int))&&decide ((m.words:Int)<=4))=true:=by have:=hm.w2;have:=hm.w4;simp;omega
 have b2:(decide ((1:Int)<=(m.places:Int))&&decide ((m.places:Int)<=2))=true:=by have:=hm.p1;have:=hm.p2;simp;omega
 simp only[Qy,decide_eq_true_eq] at b1 b2;simp[jF,aP.d,e,c5,iZ h,b1,b2,gV];refine{`a,`a,rfl,pE (aI `o) rfl λd hd=>?_}
 obtain⟨x,hx,rfl⟩:=QE.mp hd;refine{_,rfl,ak ?_};simp[Gj h n hm.w4 (hm.ok x hx)]
end
section
variable{Z:Env}{M:Mem}{a b:GE}{s:GA}{k:D->Mem->Prop}{kf:Fl->Mem->Prop}{t u:GT}{A rest:GS}
def bN {t rest:GS}{ρ':Env}(e:t Z M=.ok (.next ρ') M)(h:ae (rest ρ' M) kf):ae (bw t rest Z M) kf:=by
 simp only[av];rw[e];exact h
def ag {x:D}{xs:List D}(ea:a Z M=.ok x M)(es:s Z M=.ok xs M):dP a s Z M=.ok (x::xs) M:=by
 unfold dP;rw[ea];show(s Z M).bind _=_;rw[es];rfl
def ux {xs:List D}(es:s Z M=.ok xs M)(hl:xs.length<=100):bA false s Z M=.ok (.lst xs) M:=by
 unfold bA;rw[es];show(if xs.length<=sz then(if false=true then _ else Res.ok (D.lst xs) M) else .bad)=_;rw[if_pos (aI `a)]
 rfl
def bZ {i:Nat}{x:D}(e:a Z M=.ok x M):ay (.one i) a Z M=.ok (.next (Z.set i (some x))) M:=by
 unfold ay;rw[e];rfl
def aA {j:Nat}{x:D}(h:Z[j]?.getD none=some x):aa j Z M=.ok x M:=by
 unfold aa;rw[h];rfl
def aS {f:Nat}{c:Call}{xs:List D}(e:s Z M=.ok xs M):ai f c s Z M=c f xs M:=by
 unfold ai;rw[e];rfl
def NR {f i:Nat}{c:Call}{x:D}{r:Res D}(h:Z[i]?.getD none=some x)(e:c f [x] M=r):ai f c #[aa i] Z M=r:=(aS (ag (aA h) rfl)).trans e
def cQ {i:Nat}(h:ae (a Z M) k)(hk:∀x M',k x M'->ae (rest (Z.set i (some x)) M') kf):ae (bw (ay (.one i) a) rest Z M) kf:=by
 obtain⟨x,M',e,q⟩:=dO.mp h;simp only[av];unfold ay;rw[e];exact hk x M' q
def KS (ht:t Z M=.ok true M)(h:ae (A Z M) (ir rest kf)):ae (bw (aN t A aD) rest Z M) kf:=by
 simp only[av,mx];rw[ht];exact h
def bE {b:Bool}(ht:t Z M=.ok b M)(h1:b=true->ae (A Z M) (ir rest kf))(h2:b=false->ae (rest Z M) kf):ae (bw (aN t A aD) rest Z M) kf:=by
 cases b with
 |true=>exact KS ht (h1 rfl)
 |false=>exact aY ht (h2 rfl)
def dJ {b:Bool}(h:t Z M=.ok b M):bL t Z M=.ok (!b) M:=by
 unfold bL;rw[h];rfl
def bo {b:Bool}(h:a Z M=.ok (.bl b) M):aj a Z M=.ok b M:=by
 unfold aj;rw[h];rfl
def pU {x y:Bool}(h1:t Z M=.ok x M)(h2:u Z M=.ok y M):dY t u Z M=.ok (x||y) M:=by
 unfold dY;rw[h1];cases x with
 |true=>rfl
 |false=>exact h2
def Bv {b:Bool}(h1:t Z M=.ok b M)(h2:b=true->u Z M=.ok false M):eV t u Z M=.ok false M:=by
 unfold eV;rw[h1];cases b with
 |true=>exact h2 rfl
 |false=>rfl
def rC {x y:Bool}(h1:t Z M=.ok x M)(h2:u Z M=.ok y M):eV t u Z M=.ok (x&&y) M:=by
 unfold eV;rw[h1];cases x with
 |true=>exact h2
 |false=>rfl
def L3 {x y:Bool}(h1:a Z M=.ok (.bl x) M)(h2:x=true->b Z M=.ok (.bl y) M):dF a b Z M=.ok (.bl (x&&y)) M:=by
 unfold dF;rw[h1];cases x with
 |true=>exact h2 rfl
 |false=>rfl
def jg {k:Bool}{x:D}(ht:t Z M=.ok k M)(h1:k=true->a Z M=.ok x M)(h2:k=false->b Z M=.ok x M):fX t a b Z M=.ok x M:=by
 unfold fX;rw[ht];cases k with
 |true=>exact h1 rfl
 |false=>exact h2 rfl
end
structure Sub (M M':Mem):Prop where
 len:M.length<=M'.length
 at':∀k,k<M.length->M'[k]?=M[k]?
def Sub.refl:Sub M M:={Qw _,λ_ _=>rfl}
def Sub.trans (a:Sub M M1)(b:Sub M1 M2):Sub M M2:={QH a.len b.len,λk hk=>(b.at' k (QS hk a.len)).trans (a.at' k hk)}
def Sub.app:Sub M (M++X):={`s,λk hk=>Qv hk}
def Sub.get {k:Nat}(h:Sub M M')(e:M[k]?=some ds):M'[k]?=some ds:=by rw[h.at' k (Qo.mp e).1];exact e
def Sub.setq (h:Sub M M')(hq:M.length<=q):Sub M (M'.set q ds):={by simpa using h.len,λk hk=>by rw[Qx `a];exact h.at' k hk}
def yn (f:D->D)(hz:acc0.length+ds.length<=sz)(hw:w M=some ds)(hs:∀d∈ds,∃ρ1,bX tg d ρ0=some ρ1/\ge ρ1 M=.ok (f d) M)(hk:kl (acc0++ds.map f) M) :
 ae (cL (cw tg (bp ge) ρ0) w acc0 M) kl:=by
 refine fz (λi acc M'=>M'=M/\acc=acc0++(ds.take i).map f) (λi acc M' h=>by rw[h.1];exact hw) {rfl,`s} ?_ ?_
 ·rintro i d acc M' hd ⟨rfl,rfl⟩;obtain⟨ρ1,e1,e2⟩:=hs d (QT hd);have hi:i<ds.length:=(Qo.mp hd).1;simp only[cw,ba,iH,e1,Fq];refine{ρ1,rfl,?_};rw[e2];refine{by simp;omega,rfl,?_}
  rw[RM,hd];simp
 ·rintro acc M' ⟨rfl,rfl⟩;simpa using hk
def qV {α β:Type}(f:α->List β)(n:Nat):∀(ds:List α),(∀d∈ds,(f d).length<=n)->(ds.flatMap f).length<=ds.length*n
 |[],_=>`s
 | d :: r, h => by
   have h1:=h d QN;have h2:=qV f n r λd hd=>h d (QJ _ hd);simp only[List.flatMap_cons,Rb,RY,Nat.succ_mul];omega
def yo (its:D->List D)(f:D->D->D)(n:Nat)(hn:∀d∈ds,(its d).length<=n)(hz:ds.length*n<=sz)(hw:w M=some ds)
 (hs:∀d∈ds,∃ρ1,bX t d ρ0=some ρ1/\∃w2,gw2 ρ1 M=.ok w2 M/\w2 M=some (its d)/\∀e∈its d,∃ρ2,bX u e ρ1=some ρ2/\ge ρ2 M=.ok (f d e) M) (hk:kl (ds.flatMap λd=>(its d).map (f d)) M) :
 ae (cL (cw t (uN u gw2 (bp ge)) ρ0) w [] M) kl:=by
 refine fz (λi acc M'=>M'=M/\acc=(ds.take i).flatMap λd=>(its d).map (f d)) (λi acc M' h=>by rw[h.1];exact hw) {rfl,`s} ?_ ?_
 ·rintro i d acc M' hd ⟨rfl,rfl⟩;obtain⟨ρ1,e1,w2,e2,e3,e4⟩:=hs d (QT hd);simp only[cw,ba,iH,e1,uN];refine{ρ1,rfl,?_};rw[e2];have e5:(ds.take (i+1)).flatMap (λd=>(its d).map (f d))=(ds.take i).flatMap (λd=>(its d).map (f d))++(its d).map (f d):=by
   rw[RM,hd];simp
  have l1:=qV (λd=>(its d).map (f d)) n (ds.take (i+1)) (λd hd=>by simpa using hn d (Si hd))
  rw[e5] at l1;simp only[Rb,Qq,RX] at l1;refine yn (f d) ?_ e3 e4 ⟨rfl,e5.symm⟩;have:(min (i+1) ds.length)*n<=ds.length*n:=Nat.mul_le_mul_right _ (Nat.min_le_right _ _);omega
 ·rintro acc M' ⟨rfl,rfl⟩;simpa using hk
noncomputable def qX (w:Nat)(l:List (List Nat)):List (List Nat):=l.flatMap λs=>(List.range w).map λx=>s++[x]
noncomputable def dD (w:Nat):Nat->List (List Nat)
 |0=>[[]]
 |p+1=>qX w (dD w p)
noncomputable def bq (m:aP):List (List Nat):=dD m.words m.places
noncomputable def dG (m:aP)(s:List Nat):Prop:=s.length=m.places/\∀x∈s,x<m.words
def vk:∀s∈dD w p,s.length=p/\∀x∈s,x<w:=by
 induction p with
 |zero=>intro s hs;simp[dD] at hs;subst hs;simp
 | succ p ih =>
   intro s hs;simp only[dD,qX,List.mem_flatMap,QE,Su] at hs;obtain⟨t,ht,x,hx,rfl⟩:=hs;obtain⟨h1,h2⟩:=ih t ht;refine{by simp[h1],λy hy=>?_}
   rcases Rq.mp hy with z|z
   ·exact h2 y z
   ·simp at z;omega
def oh:∀s∈bq m,dG m s:=vk
def j6 (hw:w<=4):∀p≤2,(dD w p).length<=4^p
 |0,_=>by simp[dD]
 | p + 1, hp => by
   have:=j6 hw p `a
   have l:=qV (λs:List Nat=>(List.range w).map λx=>s++[x]) 4 (dD w p) (λd hd=>by simpa using hw)
   calc _<=(dD w p).length*4:=l
    _<=4^p*4:=Nat.mul_le_mul_right _ this
    _=4^(p+1):=by rw[Nat.pow_succ]
def dj (hm:aL m):(bq m).length<=16:=by
 have h:=j6 hm.w4 m.places hm.p2;have h1:=hm.p1;have h2:=hm.p2;have:m.places=1\/m.places=2:=`a
 rcases this with e|e<;>rw[e] at h<;>unfold bq<;>rw[e]<;>omega
def sE:∀(p:Nat) (s:List Nat),s.length=p->(∀x∈s,x<w)->s∈dD w p
 | 0, s, hl, _ => by
   obtain rfl:=Sl.mp hl;simp[dD]
 | p + 1, s, hl, hx => by
   have ne:s≠[]:=by intro e;subst e;cases hl
   have es:=List.dropLast_concat_getLast ne;show s∈qX w (dD w p);unfold qX;rw[List.mem_flatMap];refine{s.dropLast,sE p _ (by simp[hl]) (λx h=>hx x (List.dropLast_subset _ h)),?_}
   rw[QE];exact{s.getLast ne,Su.mpr (hx _ (List.getLast_mem ne)),es}
def vh (hm:aL m)(h:dG m s):s∈bq m:=sE _ s h.1 h.2
noncomputable def d7:a8->List Nat->Nat
 |.turn a t _,s=>t.getD (s.getD a 0) 0
 |.join a o t _,s=>(t.getD (s.getD a 0) []).getD (s.getD o 0) 0
 |.move _ o _,s=>s.getD o 0
 |.put _ x _,_=>x
noncomputable def a8.at':a8->Nat
 |.turn a _ _=>a
 |.join a _ _ _=>a
 |.move a _ _=>a
 |.put a _ _=>a
noncomputable def bW (d:a8)(s:List Nat):List Nat:=s.take d.at'++[d7 d s]++s.drop (d.at'+1)
def getD_mem {α:Type}{l:List α}{d:α}(h:i<l.length):l.getD i d∈l:=by
 rw[Rw,QG h];exact SA h
def xI {m:aP}(hd:b5 m.words m.places d)(hs:dG m s):d7 d s<m.words:=by
 obtain⟨hl,hx⟩:=hs;cases d with
 | turn a t c =>
   obtain⟨h1,h2,h3⟩:=hd;have:=hx _ (getD_mem (d:=0) (show a<s.length by omega))
   exact h2.2 _ (getD_mem (by rw[h2.1];exact this))
 | join a o t c =>
   obtain⟨h1,h2,h3,h4⟩:=hd;have a1:=hx _ (getD_mem (d:=0) (show a<s.length by omega))
   have a2:=hx _ (getD_mem (d:=0) (show o<s.length by omega))
   have a3:=h3.2 _ (getD_mem (d:=[]) (show s.getD a 0<t.length by rw[h3.1];exact a1))
   exact a3.2 _ (getD_mem (by rw[a3.1];exact a2))
 |move a o c=>exact hx _ (getD_mem (by obtain⟨h1,h2,h3⟩:=hd;omega))
 |put a x c=>exact hd.2.1
def s9 (hd:b5 w p d):d.at'<p:=by cases d<;>exact hd.1
def r9 (hd:b5 m.words m.places d)(hs:dG m s):dG m (bW d s):=by
 have h1:=s9 hd;have h2:=xI hd hs;obtain⟨hl,hx⟩:=hs;refine{by simp[bW];omega,λx hm=>?_}
 simp only[bW,Rq,QF] at hm;rcases hm with(z|z)|z
 ·exact hx x (Si z)
 ·omega
 ·exact hx x (List.mem_of_mem_drop z)
noncomputable def N1 (m:aP)(r:List Nat):Prop:=r.length<=40/\∀i∈r,i<m.deeds.length
noncomputable def cE (m:aP)(i:Nat):a8:=m.deeds.getD i (.put 0 0 1)
noncomputable def jz (m:aP):List Nat->List Nat->List Nat
 |[],s=>s
 |i::r,s=>jz m r (bW (cE m i) s)
def gL {m:aP}(hm:aL m){i:Nat}(hi:i<m.deeds.length):b5 m.words m.places (cE m i):=hm.ok _ (getD_mem hi)
def qZ (hm:aL m):∀{r:List Nat}{s:List Nat},(∀i∈r,i<m.deeds.length)->dG m s->dG m (jz m r s)
 |[],s,_,h=>h
 |i::r,s,hr,h=>qZ (r:=r) hm (λj hj=>hr j (QJ _ hj)) (r9 (gL hm (hr i QN)) h)
def pj:∀(a b s:List Nat),jz m (a++b) s=jz m b (jz m a s)
 |[],b,s=>rfl
 |i::a,b,s=>pj a b _
def Cc {s:List Nat}(hi:i<s.length):(cv (s.map nD).length (i:Int)).bind (λj=>(s.map nD)[j]?)=some (nD (s.getD i 0)):=by
 rw[dS (by simpa using hi)]
 simp[Rw,hi]
noncomputable def sZ (m:aP)(r:List Nat):Nat:=(r.map λi=>(cE m i).cost).sum
def uu {i:Nat}(hi:i<m.deeds.length):((cv (m.deeds.map a8.d).length (i:Int)).bind λj=>(m.deeds.map a8.d)[j]?)=some (cE m i).d:=by
 rw[dS (by simpa using hi)]
 simp[cE,Rw,hi]
def Kt {m:aP}:b6 m.d (.int 2) M=some (.tup (m.deeds.map a8.d)):=rfl
def pb (hi:i<m.deeds.length):b6 (.tup (m.deeds.map a8.d)) (nD i) M=some (cE m i).d:=uu hi
def iK {d:a8}:b6 d.d (.int (-1)) M=some (nD d.cost):=by cases d<;>rfl
def gX {s:List Nat}(hi:i<s.length):b6 (aw s) (nD i) M=some (nD (s.getD i 0)):=Cc hi
def AY {t:List (List Nat)}(hi:i<t.length):b6 (.tup (t.map aw)) (nD i) M=some (aw (t.getD i [])):=by
 show(cv (t.map aw).length (i:Int)).bind (λj=>(t.map aw)[j]?)=_;rw[dS (by simpa using hi)]
 simp[Rw,hi]
noncomputable def fU (M:Mem)(x:D)(r:List Nat):Prop:=x=.lst (r.map nD)\/∃q,x=.cell q/\M[q]?=some (r.map nD)
def fU.l:fU M (.lst (r.map nD)) r:=.inl rfl
def fU.c (h:M[q]?=some (r.map nD)):fU M (.cell q) r:=.inr ⟨q,rfl,h⟩
def fU.sub {M M':Mem}(h:fU M x r)(s:Sub M M'):fU M' x r:=h.elim .inl λ⟨q,e,g⟩=>.inr {q,e,s.get g}
def fU.seq (h:fU M x r):cj M x=some (r.map nD):=by
 rcases h with rfl|⟨q,rfl,e⟩
 ·rfl
 ·exact e
def fU.is (h:fU M x r):fx x=true/\iA x=true/\gV .list x=some true:=by
 rcases h with rfl|⟨q,rfl,e⟩<;>exact⟨rfl,rfl,rfl⟩
def uI (f:Nat->Nat):∀(r:List Nat),∃bs,intsOf (r.map λi=>nD (f i))=some bs/\bs.sum=(((r.map f).sum:Nat):Int)
 |[]=>{[],rfl,rfl}
 | i :: r => by
   obtain⟨bs,e1,e2⟩:=uI f r;exact{(f i:Int)::bs,by simp[intsOf,e1],by simp[e2]}
section
variable{P:Nat->Option Df}(h:HasB0 P){M:Mem}
include h
theorem tN (n:Nat)(hm:aL m):ah P (n+8) 13 [m.d] M=.ok .non M:=by
 refine ak (aF h.need_machine rfl ?_);simp[ip,Gf h n hm]
theorem qw (h15:P 15=some {1,6,cW})(n:Nat)(hm:aL m):ah P (n+9) 15 [m.d] M=.ok (.lst ((bq m).map aw)) M:=by
 refine ak (aF h15 rfl ?_);have w4:=hm.w4;have p2:=hm.p2;simp[cW,tN h n hm];simp[aP.d,c5];refine{`d,`a,?_}
 refine cF (λi Z M'=>M'=M/\∃a,Z=[some m.d,some (nD m.words),some (nD m.places),some (.tup (m.deeds.map a8.d)),some (.lst ((dD m.words i).map aw)),a]) (λ_ _ _ _=>rfl) {rfl,none,by simp[aP.d,dD,aw]} ?_ ?_
 ·rintro i d Z M' hd ⟨rfl,a,rfl⟩;have hi:i<m.places:=by
   have:=(Qo.mp hd).1;simpa using this
  refine{_,rfl,?_};simp[fx];refine yo (λ_=>(List.range m.words).map λ(k:Nat)=>D.int (k:Int)) (λd e=>match d,e with|.tup x,e=>.tup (x++[e])|_,_=>.non) 4 (by simpa using λ_ _=>w4) ?_ rfl ?_ ?_
  ·have:=j6 w4 i `a
   have:(4:Nat)^i<=4^2:=Nat.pow_le_pow_right `d `a
   simp only[Qq];exact aI `a
  ·intro d hd;obtain⟨s,hs,rfl⟩:=QE.mp hd;have{l1,_}:=vk s hs;refine{_,rfl,(λ_=>some ((List.range m.words).map λ(k:Nat)=>D.int (k:Int))),dw ?_,rfl,λe he=>{_,rfl,ak ?_}}
   ·simp;omega
   ·simp[aw,sz];omega
  ·have e0:((dD m.words i).map aw).flatMap (λd=>((List.range m.words).map λ(k:Nat)=>D.int (k:Int)).map (λe=>match d,e with|.tup x,e=>D.tup (x++[e])|_,_=>.non))=(dD m.words (i+1)).map aw:=by
    simp only[dD,qX,List.flatMap_map,List.map_flatMap,Rx]
    congr 1
    funext s
    simp[aw,SK]
   rw[e0];refine{?_,rfl,rfl};have:=j6 w4 (i+1) `a
   have:(4:Nat)^(i+1)<=4^2:=Nat.pow_le_pow_right `d `a
   simp only[Qq];exact aI `a
 ·rintro Z M' ⟨rfl,a,rfl⟩;simp[bq]
end
section
variable{P:Nat->Option Df}(h:j9 P){M:Mem}
include h
theorem zE (n:Nat){m:aP}(hd:b5 m.words m.places (.turn a t c))(hs:dG m s):ah P (n+1) 20 [(a8.turn a t c).d,aw s] M=.ok (nD (d7 (.turn a t c) s)) M:=by
 obtain⟨h1,h2,h3⟩:=hd;have a1:a<s.length:=by rw[hs.1];exact h1
 have a2:s.getD a 0<t.length:=by rw[h2.1];exact hs.2 _ (getD_mem a1)
 refine ak (aF h.turned rfl ?_);simp[-ij,-List.getD_eq_getElem?_getD,lX,a8.d,c5,gX a1,gX a2,d7]
theorem zL (n:Nat){a o c:Nat}(hd:b5 m.words m.places (.join a o t c))(hs:dG m s):ah P (n+1) 21 [(a8.join a o t c).d,aw s] M=.ok (nD (d7 (.join a o t c) s)) M:=by
 obtain⟨h1,h2,h3,h4⟩:=hd;have a1:a<s.length:=by rw[hs.1];exact h1
 have a2:o<s.length:=by rw[hs.1];exact h2
 have a3:s.getD a 0<t.length:=by rw[h3.1];exact hs.2 _ (getD_mem a1)
 have a4:s.getD o 0<(t.getD (s.getD a 0) []).length:=by rw[(h3.2 _ (getD_mem a3)).1];exact hs.2 _ (getD_mem a2)
 refine ak (aF h.joined rfl ?_);simp[-ij,-List.getD_eq_getElem?_getD,lZ,a8.d,c5,gX a1,gX a2,AY a3,gX a4,d7]
theorem Cn (n:Nat)(hd:b5 m.words m.places (.move a o c))(hs:dG m s):ah P (n+1) 22 [(a8.move a o c).d,aw s] M=.ok (nD (d7 (.move a o c) s)) M:=by
 obtain⟨h1,h2,h3⟩:=hd;have a2:o<s.length:=by rw[hs.1];exact h2
 refine ak (aF h.moved rfl ?_);simp[-ij,-List.getD_eq_getElem?_getD,oj,a8.d,c5,gX a2,d7]
theorem Cj (n:Nat):ah P (n+1) 23 [(a8.put a x c).d,aw s] M=.ok (nD (d7 (.put a x c) s)) M:=by
 refine ak (aF h.put_in rfl ?_);simp[lY,a8.d,c5,d7]
end
def Pd:cV.lookup (Str.ofString "turn")=some 20:=`k
def Pc:cV.lookup (Str.ofString "join")=some 21:=`k
def Pb:cV.lookup (Str.ofString "move")=some 22:=`k
def Pa:cV.lookup (Str.ofString "put")=some 23:=`k
def I9 {a:Nat}(ha:a<=s.length):ae (gM false (aw s) .non (.int a) M) k↔k (aw (s.take a)) M:=by
 simp only[gM,aw,aU,cut];rw[if_neg `a]
 simp;rw[Nat.min_eq_left (by simpa using ha)]
def Gm {a:Nat}(ha:a<=s.length):ae (gM false (aw s) (.int a) .non M) k↔k (aw (s.drop a)) M:=by
 simp only[gM,aw,aU,cut];rw[if_neg `a]
 simp;rw[Nat.min_eq_left (by simpa using ha),RD `s]
section
variable{P:Nat->Option Df}(h:j9 P){M:Mem}
include h
theorem Gi (n:Nat){d:a8}(hm:aL m)(hd:b5 m.words m.places d)(hs:dG m s):ah P (n+2) 24 [d.d,aw s] M=.ok (aw (bW d s)) M:=by
 have a0:=s9 hd;have l0:=hs.1;have p2:=hm.p2;have key:∀f,ah P (n+1) f [d.d,aw s] M=.ok (nD (d7 d s)) M->b6 d.d (.int 1) M=some (nD d.at')->(∀k:D->Mem->Prop,(∃y,b6 d.d (.int 0) M=some (.str y)/\cV.lookup y=some f))->ah P (n+2) 24 [d.d,aw s] M=.ok (aw (bW d s)) M:=λf e1 e2 e3=>by
  obtain⟨y,e3,e4⟩:=e3 λ_ _=>True;refine ak (aF h.done rfl ?_);simp only[qk,av,mz,Lh,eY,bg,dm,bK,bS,jZ,qa,i6,bV,cq,Ht];simp[-ij,e1,e2,e3,e4,eO];rw[I9 `a,e1]
  have e5:(d.at':Int)+1=((d.at'+1:Nat):Int):=`a
  rw[e5];simp only[aV,aw,Bw];refine{`d,?_,?_}
  ·simp;exact aI `a
  ·rw[show D.tup (s.map nD)=aw s from rfl,Gm `a]
   simp only[aw,Bw];refine{?_,?_,trivial}
   ·simp;exact aI `a
   ·simp[bW]
 cases d with
 |turn a t c=>exact key 20 (zE h n hd hs) rfl λ_=>{_,rfl,Pd}
 |join a o t c=>exact key 21 (zL h n hd hs) rfl λ_=>{_,rfl,Pc}
 |move a o c=>exact key 22 (Cn h n hd hs) rfl λ_=>{_,rfl,Pb}
 |put a x c=>exact key 23 (Cj h n) rfl λ_=>{_,rfl,Pa}
end
@[simp] theorem oW:ae (ft .len [.cell j] M) k↔∃ds,M[j]?=some ds/\k (.int ds.length) M:=by
 show ae (match M[j]? with|some xs=>_|none=>_) k↔_
 cases M[j]?<;>simp
structure aO (M:Mem) (p B:Nat):Prop where
 ex:∃(c:Nat) (cells:List Int) (at_ st:Int),M[p]?=some [.cell c,.int at_,.int st]/\M[c]?=some (cells.map D.int)/\c<p/\0<=at_/\at_<=B/\0<=st
structure aZ (p:Nat) (M M':Mem):Prop where
 len:M.length<=M'.length
 at':∀k,k<M.length->k≠p->M'[k]?=M[k]?
def aZ.refl:aZ p M M:={Qw _,λ_ _ _=>rfl}
def aZ.trans (a:aZ p M M1)(b:aZ p M1 M2):aZ p M M2:={QH a.len b.len,λk hk n=>(b.at' k (QS hk a.len) n).trans (a.at' k hk n)}
def aZ.set:aZ p M (M.set p ds):={`s,λk _ n=>Qx (RC n)}
def aZ.app:aZ p M (M++X):={`s,λk hk _=>Qv hk}
def aZ.get (h:aZ p M M')(e:M[k]?=some ds)(n:k≠p):M'[k]?=some ds:=by rw[h.at' k (Qo.mp e).1 n];exact e
def aO.lt (h:aO M p B):p<M.length:=by obtain⟨_,_,_,_,e,_⟩:=h.ex;exact(Qo.mp e).1
def aO.app (h:aO M p B):aO (M++X) p B:=by
 obtain⟨c,cells,a,st,e1,e2,r⟩:=h.ex;exact{c,cells,a,st,by rw[Qv (Qo.mp e1).1];exact e1,by rw[Qv (Qo.mp e2).1];exact e2,r}
def aO.mono (h:aO M p B)(hb:B<=B'):aO M p B':=by
 obtain⟨c,cells,a,st,e1,e2,e3,e4,e5,e6⟩:=h.ex;exact{c,cells,a,st,e1,e2,e3,e4,`a,e6}
def aO.setq (h:aO M p B)(hq:p<q):aO (M.set q ds) p B:=by
 obtain⟨c,cells,a,st,e1,e2,e3,e4,e5,e6⟩:=h.ex;exact{c,cells,a,st,by rw[Qx `a];exact e1,by rw[Qx `a];exact e2,e3,e4,e5,e6}
def aZ.setq (h:aZ p M M')(hq:M.length<=q):aZ p M (M'.set q ds):={by simpa using h.len,λk hk n=>by rw[Qx `a];exact h.at' k hk n}
def Ax {a b A B:Int}(h1:0<=a)(h2:a<=A)(h3:0<=b)(h4:b<=B):0<=a*b/\a*b<=A*B:=
 {Int.mul_nonneg h1 h3,Int.mul_le_mul h2 h4 h3 (Int.le_trans h1 h2)}
noncomputable def nJ:List Int:=[2147483629,2147483587,2147483579,2147483563,2147483549,2147483543,2147483497,2147483489,2147483477,2147483423,2147483399,2147483353,2147483323]
noncomputable def jd:List D:=nJ.map D.int
def Aj:∀q∈nJ,0<q/\q<2147483648:=`d
def oO (j:Int)(M:Mem):∃q:Int,b6 (.lst jd) (.int (j % 13)) M=some (.int q)/\0<q/\q<2147483648:=by
 have h1:0<=j % 13:=Sw _ `d
 have h2:j % 13<13:=Sv _ `d
 generalize j % 13=i at h1 h2;obtain⟨k,rfl⟩:=Int.eq_ofNat_of_zero_le h1;have hk:=Int.ofNat_lt.mp h2;refine{nJ[k],?_,Aj _ (SA hk)};show(cv jd.length (k:Int)).bind (λj=>jd[j]?)=_;rw[dS (n:=jd.length) hk];show(nJ.map D.int)[k]?=_;rw[QL,QG hk];rfl
section
variable{P:Nat->Option Df}(h:HasP0 P){M:Mem}
include h
omit h in
theorem f6 {x y:Int}(ha:a Z M=.ok (.int x) M)(hb:b Z M=.ok (.int y) M):au m .add a b Z M=.ok (.int (x+y)) M:=by
 unfold au;rw[ha];show(b Z M).bind _=_;rw[hb];rfl
omit h in
theorem mG {x y:Int}(ha:a Z M=.ok (.int x) M)(hb:b Z M=.ok (.int y) M)(c:(-(2^64)<x/\x<2^64)\/(-(2^64)<y/\y<2^64)):au m .mul a b Z M=.ok (.int (x*y)) M:=by
 unfold au;rw[ha];show(b Z M).bind _=_;rw[hb];exact if_pos c
omit h in
theorem kj {x y:Int}(ha:a Z M=.ok (.int x) M)(hb:b Z M=.ok (.int y) M)(c:0<y):au m .mod a b Z M=.ok (.int (x % y)) M:=by
 unfold au;rw[ha];show(b Z M).bind _=_;rw[hb];exact if_pos c
omit h in
theorem xx {x y:Int}(ha:a Z M=.ok (.int x) M)(hb:b Z M=.ok (.int y) M)(c:0<=y/\y<=1000000)(d:x.natAbs<2^64):au m .pow a b Z M=.ok (.int (x^y.toNat)) M:=by
 unfold au;rw[ha];show(b Z M).bind _=_;rw[hb];exact if_pos ⟨c.1,c.2,d⟩
omit h in
theorem oP {x q:Int}(hi:Z[i]?.getD none=some (.lst jd))(ha:a Z M=.ok (.int x) M)(e:b6 (.lst jd) (.int (x % 13)) M=some (.int q)):aq (aa i) (au false .mod a (gI 13)) Z M=.ok (.int q) M:=by
 unfold aq;rw[aA hi];show(au false .mod a _ Z M).bind _=_;rw[kj ha rfl `d];show cm M _=_;rw[e];rfl
theorem zG {x a:Int}(n:Nat)(h0:0<=a)(h1:a<=1000000):ae (ah P (n+1) 28 [.int x,.int a] M) λd M'=>M'=M/\∃v:Int,d=.int v/\0<=v:=by
 refine aF h.law_spread rfl ?_;refine bE rfl (λe=>?_) λe=>?_
 ·exact{rfl,x,rfl,Int.le_trans `d (of_decide_eq_true e)}
 clear e;refine bN (bZ rfl) (bN (bZ rfl) ?_);obtain⟨q1,e1,p1,p2⟩:=oO a M;obtain⟨q2,e2,p3,_⟩:=oO (a+5) M;obtain⟨q3,e3,p5,_⟩:=oO (a+7) M;have sm:∀{z c:Int},0<=z->z<=c->c<2^64->z.natAbs<2^64:=λz0 zc c0=>`a
 have lt:∀{z c:Int},0<=z->z<=c->c<2^64->-(2^64)<z/\z<2^64:=λz0 zc c0=>`a
 have r1:=Sw x (show(1000000007:Int)≠0 by decide)
 have r2:=Sv x (show(0:Int)<1000000007 by decide)
 obtain⟨m1,m2⟩:=Ax r1 (Int.le_of_lt r2) (show 0<=2*a+69069 by omega) (show 2*a+69069<=2069069 by omega)
 refine bN (bZ (kj (xx (f6 (f6 (mG (kj (aA rfl) rfl `d) (f6 (mG rfl (aA rfl) (.inl `d)) rfl) (.inl (lt r1 (Int.le_of_lt r2) `d))) (mG (aA rfl) rfl (.inl (lt h0 h1 `d)))) rfl) rfl `d (sm (c:=10000000000000000000) `a `a `d)) (oP rfl (aA rfl) e1) p1)) ?_
 generalize (x % 1000000007*(2*a+69069)+a*40503+977)^(3:Int).toNat=y1;have b1:=Sw y1 (Int.ne_of_gt p1);have b2:=Sv y1 p1;generalize y1 % q1=one at b1 b2;have b3:=Int.le_of_lt (Int.lt_trans b2 p2);obtain⟨m3,m4⟩:=Ax b1 b3 (show 0<=a+3 by omega) (show a+3<=1000003 by omega)
 refine bN (bZ (kj (xx (f6 (f6 (mG (aA rfl) (f6 (aA rfl) rfl) (.inl (lt b1 b3 `d))) (kj (aA rfl) rfl `d)) rfl) rfl `d (sm (c:=10000000000000000000) `a `a `d)) (oP rfl (f6 (aA rfl) rfl) e2) p3)) ?_
 generalize (one*(a+3)+x % 65537+5)^(5:Int).toNat=y2;have c1:=Sw y2 (Int.ne_of_gt p3);have c2:=Sv y2 p3;generalize y2 % q2=two at c1 c2;refine bN (bZ (kj (xx (f6 (f6 (aA rfl) (kj (aA rfl) rfl `d)) (aA rfl)) rfl `d (sm (c:=10000000000) `a `a `d)) (oP rfl (f6 (aA rfl) rfl) e3) p5)) ?_
 generalize (two+one % 1009+a)^(3:Int).toNat=y3;have d1:=Sw y3 (Int.ne_of_gt p5);refine c9 (f6 (mG (f6 (mG (aA rfl) rfl (.inr `d)) (aA rfl)) rfl (.inr `d)) (aA rfl)) {rfl,_,rfl,?_}
 exact Int.add_nonneg (Int.mul_nonneg (Int.add_nonneg (Int.mul_nonneg b1 `d) c1) `d) d1
omit h in
theorem Pw:cv 3 2=some 2:=rfl
omit h in
theorem qP {l:List Int}{i:Int}(h0:0<=i)(h1:i<l.length):∃x,((cv l.length i).bind λj=>Option.map D.int l[j]?)=some (.int x):=by
 obtain⟨k,rfl⟩:=Int.eq_ofNat_of_zero_le h0;have hk:k<l.length:=`a
 refine{l[k],?_};rw[dS hk];simp[hk]
noncomputable def oH:GS:=#v[ay (.one 4) (au false .mod (aq (aa 0) (gI 2)) (aa 1)),eG (aa 0) (gI 2) (au false .fdiv (aq (aa 0) (gI 2)) (aa 1)),aM (aa 4)]
noncomputable def vN (c:Call):GS:=#v[eG (aa 0) (gI 1) (au false .add (aa 2) (gI 1)),eG (aa 0) (gI 2) (ai 28 c #[aa 3,aa 2])]
omit h in
theorem Ng {x y:Int}(ha:a Z M=.ok (.int x) M)(hb:b Z M=.ok (.int y) M)(c:0<y/\y<1073741824):au m .fdiv a b Z M=.ok (.int (x / y)) M:=by
 unfold au;rw[ha];show(b Z M).bind _=_;rw[hb];exact if_pos c
omit h in
theorem bx (ha:a Z M=.ok x M)(hb:b Z M=.ok y M)(e:b6 x y M=some d):aq a b Z M=.ok d M:=by
 unfold aq;rw[ha];show(b Z M).bind _=_;rw[hb];show cm M _=_;rw[e];rfl
omit h in
theorem KR (e:M[p]?=some [c0,c1,c2]):b6 (.cell p) (.int 0) M=some c0/\b6 (.cell p) (.int 1) M=some c1/\b6 (.cell p) (.int 2) M=some c2:=by
 refine{?_,?_,?_}<;>(show(M[p]?).bind _=_;rw[e];rfl)
omit h in
theorem tY {n:Int}(hd:d Z M=.ok z M')(ha:a Z M'=.ok (.cell p) M')(hb:b Z M'=.ok (.int n) M')(e:M'[p]?=some ds)(hi:cv ds.length n=some i)(h:ae (rest Z (M'.set p (ds.set i z))) kf):ae (bw (eG a b d) rest Z M) kf:=by
 simp only[av];unfold eG;rw[hd];show ae ((a Z M').bind _) _;rw[ha];show ae ((b Z M').bind _) _;rw[hb];show ae (match M'[p]? with|some ds=>(match cv ds.length n with|some j=>Res.ok (Fl.next Z) (M'.set p (ds.set j z))|none=>.bad)|none=>.bad) _
 rw[e];show ae (match cv ds.length n with|some j=>Res.ok (Fl.next Z) (M'.set p (ds.set j z))|none=>.bad) _
 rw[hi];exact h
omit h in
theorem KU (ht:t Z M=.ok b M)(h1:b=true->ae (A Z M) (ir rest kf))(h2:b=false->ae (B Z M) (ir rest kf)):ae (bw (aN t A B) rest Z M) kf:=by
 simp only[av,mx];rw[ht];cases b with
 |true=>exact h1 rfl
 |false=>exact h2 rfl
omit h in
theorem rO {cells:List Int}{a st:Int}(e1:M1[p]?=some [.cell c,.int a,.int st])(e2:M1[c]?=some (cells.map D.int))(lt:c<p)(a0:0<=a)(aB:a<=(B+1:Nat))(s0:0<=st)(k:aZ p M M1)
 (h0:0<many) (h1:many<=10000000):ae (oH [some (.cell p),some (nD many),x,y,none] M1) (g5 λd M'=>∃v:Nat,d=nD v/\v<many/\aO M' p (B+1)/\aZ p M M'):=by
 have hp:p<M1.length:=(Qo.mp e1).1;have b0:=Int.ofNat_lt.mpr h0;have r1:=Sw st (Int.ne_of_gt b0);have r2:=Sv st b0;refine bN (bZ (kj (bx (aA rfl) rfl (KR e1).2.2) (aA rfl) b0)) (tY (Ng (bx (aA rfl) rfl (KR e1).2.2) (aA rfl) {b0,`a}) (aA rfl) rfl e1 rfl (c9 (aA rfl) ?_))
 obtain⟨v,hv⟩:=Int.eq_ofNat_of_zero_le r1;refine{v,congrArg D.int hv,`a,{c,cells,a,st / many,Q5 hp,?_,lt,a0,aB,Int.ediv_nonneg s0 (Int.le_of_lt b0)},k.trans aZ.set}
 rw[Qx (Rz lt)];exact e2
theorem vR (n:Nat){p B many:Nat}(hp:aO M p B)(hB:B<=1000000)(h0:0<many)(h1:many<=10000000):ae (ah P (n+2) 31 [.cell p,nD many] M) λd M'=>∃v:Nat,d=nD v/\v<many/\aO M' p (B+1)/\aZ p M M':=by
 obtain⟨c,cells,a,st,e1,e2,lt,a0,aB,s0⟩:=hp.ex;have hpl:p<M.length:=(Qo.mp e1).1;obtain⟨i0,i1,i2⟩:=KR e1;refine aF h.law_take rfl ?_;show ae (bw (aN _ (bw _ (bw _ (bw _ (vN (ah P (n+1)))))) _) oH [some (.cell p),some (nD many),none,none,none] M) _;have mid:∀(x:Int),ae (vN (ah P (n+1)) [some (.cell p),some (nD many),some (.int a),some (.int x),none] M) (ir oH (g5 λd M'=>∃v:Nat,d=nD v/\v<many/\aO M' p (B+1)/\aZ p M M')):=by
  intro x;refine tY (f6 (aA rfl) rfl) (aA rfl) rfl e1 rfl ?_;obtain⟨_,_,es,rfl,v,rfl,v0⟩:=dO.mp (zG h n a0 `a)
  refine tY ((aS (ag (aA rfl) (ag (aA rfl) rfl))).trans es) (aA rfl) rfl (Q5 hpl) rfl ?_;have ne:=Rz lt;exact rO (Q5 (by rw[List.length_set];exact hpl)) (by rw[Qx ne,Qx ne];exact e2) lt `a `a v0 (aZ.set.trans aZ.set) h0 h1
 have len:aJ .len #[aq (aa 0) (gI 0)] [some (.cell p),some (nD many),some (.int a),some (.int 0),none] M=.ok (.int (cells.length:Nat)) M:=by
  refine ak ?_;simp only[b8];rw[ag (bx (aA rfl) rfl i0) rfl,aV];exact oW.mpr {_,e2,by rw[Qq],rfl}
 refine bE (b:=decide (st<(many:Int))) (bo (ak ?_)) (λc1=>?_) λc1=>?_
 ·simp only[eD];rw[bx (aA rfl) rfl i2,aV,aA rfl,aV];exact{_,rfl,rfl,rfl}
 ·refine bN (bZ (bx (aA rfl) rfl i1)) (bN (bZ rfl) ?_);show ae (bw _ _ [some (.cell p),some (nD many),some (.int a),some (.int 0),none] M) _;have ixx:∀{i:Int}{x:D},((cv cells.length i).bind λj=>Option.map D.int cells[j]?)=some x->b6 (.cell c) (.int i) M=some x:=λ{i x} ex=>by
   show(M[c]?).bind _=_;rw[e2];show((cv (cells.map D.int).length i).bind λj=>(cells.map D.int)[j]?)=_;simp only[Qq,QL];exact ex
  refine KU (b:=decide (a<(cells.length:Int))) (bo (ak ?_)) (λc2=>?_) λ_=>?_
  ·simp only[eD];rw[aA rfl,aV,len,aV];exact{_,rfl,rfl,rfl}
  ·obtain⟨x,ex⟩:=qP a0 (of_decide_eq_true c2);exact bN (bZ (bx (bx (aA rfl) rfl i0) (aA rfl) (ixx ex))) (mid x)
  ·refine bE (b:=decide ((0:Int)<(cells.length:Int))) (bo (ak ?_)) (λc3=>?_) λ_=>mid 0
   ·simp only[eD,dm];rw[len,aV];exact{_,rfl,rfl,rfl}
   ·have c4:=of_decide_eq_true c3;obtain⟨x,ex⟩:=qP (Sw (a*5+3) (Int.ne_of_gt c4)) (Sv _ c4);exact bN (bZ (kj (bx (bx (aA rfl) rfl i0) (kj (f6 (mG (aA rfl) rfl (.inr `d)) rfl) len c4) (ixx ex)) (f6 rfl (aA rfl)) (Int.lt_of_lt_of_le `d (Int.le_add_of_nonneg_right a0)))) (mid _)
 ·exact rO e1 e2 lt a0 `a s0 .refl h0 h1
end
noncomputable def a8.withC:a8->Nat->a8
 |.turn a t _,c=>.turn a t c
 |.join a o t _,c=>.join a o t c
 |.move a o _,c=>.move a o c
 |.put a x _,c=>.put a x c
def BF {w p c:Nat}{d:a8}(h:b5 w p d)(hc:hZ c):b5 w p (d.withC c):=by
 cases d with
 |turn=>exact⟨h.1,h.2.1,hc⟩
 |join=>exact⟨h.1,h.2.1,h.2.2.1,hc⟩
 |move=>exact⟨h.1,h.2.1,hc⟩
 |put=>exact⟨h.1,h.2.1,hc⟩
def wU {w p:Nat}{d:a8}(h:b5 w p d):hZ d.cost:=by
 cases d with
 |turn=>exact h.2.2
 |join=>exact h.2.2.2
 |move=>exact h.2.2
 |put=>exact h.2.2
def Dx {d:a8}{c:Nat}{M:Mem}{k:D->Mem->Prop}(hk:k (d.withC c).d M):ae (gM false d.d .non (.int (-1)) M) λx M=>ae (fY false .add x (.tup [nD c]) M) k:=by
 cases d<;>(simp[a8.d,gM,aU,cut];exact{`d,hk})
def Cd (n:Nat)(d:a8):az (n+3) d.d=true:=by
 have tp:∀(n:Nat) (l:List Nat),(l.map nD).all (az n)=true:=λn l=>by
  rw[QX];intro x hx;obtain⟨i,_,rfl⟩:=QE.mp hx;cases n<;>rfl
 cases d with
 |turn a t c=>simp[a8.d,az,aw,nD];decide +kernel
 |join a o t c=>simp[a8.d,az,nD,aw];decide +kernel
 |move a o c=>simp[a8.d,az,nD];decide +kernel
 |put a x c=>simp[a8.d,az,nD];decide +kernel
def ne_nil {M:Mem}{q:Nat}{ds:List a8}(e:M[q]?=some (ds.map a8.d)):bF .ne (.cell q) (.lst []) M=some (!ds.isEmpty):=by
 have hp:(ds.map a8.d).all (az 63)=true:=by
  rw[QX];intro x hx;obtain⟨d,_,rfl⟩:=QE.mp hx;exact Cd 60 d
 have hv:view M (.cell q)=.lst (ds.map a8.d):=by simp[view,e]
 have h1:=hp;refine HY (by rw[hv];exact h1) rfl ?_
 rw[hv];cases ds<;>rfl
@[simp] theorem Kn {m:Bool}{x:List D}{j:Int}{M:Mem}{k:D->Mem->Prop}:ae (fY m .mul (.tup x) (.int j) M) k↔(x.length*j.toNat<=sz/\-(2^63)<=j/\j<2^63)/\k (.tup (List.replicate j.toNat x).flatten) M:=kK
@[simp] theorem Ko {m:Bool}{x:List D}{j:Int}{M:Mem}{k:D->Mem->Prop}:ae (fY m .mul (.lst x) (.int j) M) k↔(x.length*j.toNat<=sz/\-(2^63)<=j/\j<2^63)/\ae (bh m (List.replicate j.toNat x).flatten M) k:=kK
def zT {xs:List D}{a:Nat}{M:Mem}{k:D->Mem->Prop}:ae (gM false (.lst xs) .non (.int a) M) k↔(xs.take a).length<=sz/\k (.lst (xs.take a)) M:=by
 have e:cut xs 0 (min a xs.length)=xs.take a:=by
  unfold cut;rcases Nat.le_total a xs.length with h|h
  ·rw[Nat.min_eq_left h];simp
  ·rw[Nat.min_eq_right h];simp[RD h]
 show ae (match aU xs.length 0 D.non,aU xs.length xs.length (.int a) with|some l,some h=>bh false (cut xs l h) M|_,_=>.bad) k↔_
 have e2:aU xs.length xs.length (.int a)=some (min a xs.length):=by
  show some _=_;rw[if_neg `a];simp
 rw[e2];show ae (bh false (cut xs 0 (min a xs.length)) M) k↔_;rw[e,cu]
def u2 {w:Nat}{ge:GE}{Z:Env}{M:Mem}{kl:List D->Mem->Prop}(f:Nat->Nat)(hw:w<=100)(hf:∀k,k<w->ge (some (.int (k:Int))::Z) M=.ok (nD (f k)) M)(hk:kl (((List.range w).map f).map nD) M) :
 ae (cL (cw (.one 0) (bp ge) (none::Z)) (λ_=>some ((List.range w).map λ(k:Nat)=>D.int (k:Int))) [] M) kl:=by
 refine eR (λd=>match d with|.int i=>nD (f i.toNat)|_=>.non) (aI `o) rfl (λd hd=>?_) ?_
 ·obtain⟨k,hk,rfl⟩:=QE.mp hd;exact{_,rfl,hf k (Su.mp hk)}
 ·simpa[SK] using hk
def vP {w:Nat}{f:Nat->Nat}(hf:∀k,k<w->f k<w):i9 w ((List.range w).map f):={`s,λx hx=>by
 obtain⟨k,hk,rfl⟩:=QE.mp hx;exact hf k (Su.mp hk)}
section
variable{P:Nat->Option Df}(h:HasP0 P){M:Mem}
include h
theorem Gk (n:Nat){p B:Nat}(hp:aO M p B):ae (ah P (n+1) 30 [.cell p] M) λd M'=>d=.cell p/\aO M' p B/\aZ p M M':=by
 obtain⟨c,cells,a,st,e1,e2,lt,a0,aB,s0⟩:=hp.ex;have ne:=QY lt;have hpl:p<M.length:=(Qo.mp e1).1;refine aF h.law_anew rfl ?_;simp[kz,e1,Pw];refine{{c,cells,a,0,by simp[hpl],?_,lt,a0,aB,`a},aZ.set}
 rw[Qx (RC ne)];exact e2
theorem tk (n:Nat){p B many:Nat}{k:D->Mem->Prop}(hp:aO M p B)(hB:B<=1000000)(h0:0<many)(h1:many<=10000000)(hk:∀(v:Nat) (M':Mem),v<many->aO M' p (B+1)->aZ p M M'->k (nD v) M'):ae (ah P (n+2) 31 [.cell p,nD many] M) k:=
 aH (vR h n hp hB h0 h1) λd M' ⟨v,e,hv,hp',hk'⟩=>by subst e;exact hk v M' hv hp' hk'
end
def bd {B c k m:Nat}(h:B<=c)(e:c+k<=m):B+k<=m:=QH (Nat.add_le_add_right h k) e
def xU {B k m:Nat}(e:k<=m):B+k<=B+m:=Nat.add_le_add_left e B
def xR {Z:Env}{M:Mem}{j v c:Nat}(h:Z[j]?.getD none=some (nD v)):(aj (ax .lt (aa j) (gC (.int (c:Int)))):GT) Z M=.ok (decide (v<c)) M:=by
 refine dw ?_;simp only[iu,eD,bg,dm];refine{_,h,_,rfl,_,rfl,?_,trivial};simp
def iB {Z:Env}{M:Mem}{j v c:Nat}(h:Z[j]?.getD none=some (nD v)):(aj (ax .eq (aa j) (gC (.int (c:Int)))):GT) Z M=.ok ((v:Int)==(c:Int)) M:=by
 refine dw ?_;simp only[iu,eD,bg,dm];exact{_,h,_,rfl,_,rfl,rfl,trivial}
def Nb {Z:Env}{M:Mem}{j v c:Nat}(h:Z[j]?.getD none=some (nD v)):(aj (ax .gt (aa j) (gC (.int (c:Int)))):GT) Z M=.ok (decide ((c:Int)<(v:Int))) M:=by
 refine dw ?_;simp only[iu,eD,bg,dm];exact{_,h,_,rfl,_,rfl,rfl,trivial}
section
variable{Z:Env}{M:Mem}{g a:GE}{rest:GS}{kf:Fl->Mem->Prop}
section
variable{P:Nat->Option Df}(hp_:HasP0 P)(n:Nat){i j p B many:Nat}(hj:Z[j]?.getD none=some (.cell p))(hg:g Z M=.ok (nD many) M)(hp:aO M p B)(hB:B<=1000000)(h0:0<many)(h1:many<=10000000)
include hp_ hj hg hp hB h0 h1
theorem fD:ae (ai 31 (ah P (n+2)) #[aa j,g] Z M) λd M'=>∃v:Nat,d=nD v/\v<many/\aO M' p (B+1)/\aZ p M M':=by
 rw[aS (ag (aA hj) (ag hg rfl))];exact vR hp_ n hp hB h0 h1
theorem fB (hk:∀(v:Nat) (M':Mem),v<many->aO M' p (B+1)->aZ p M M'->ae (rest (Z.set i (some (nD v))) M') kf):ae (bw (ay (.one i) (ai 31 (ah P (n+2)) #[aa j,g])) rest Z M) kf:=by
 refine cQ (fD hp_ n hj hg hp hB h0 h1) ?_;rintro x M' ⟨v,rfl,a,b,c⟩;exact hk v M' a b c
end
end
section
variable{Z:Env}{M:Mem}{k:D->Mem->Prop}
def jq {e:GE}{K:Fl->Mem->Prop}(h:ae (e Z M) λx M=>K (.ret x) M):ae (#v[aM e] Z M) K:=by
 simp only[av,bS];exact h
def Ay {e:GE}{j v w:Nat}(he:e Z M=.ok (nD v) M)(hj:Z[j]?.getD none=some (nD w))(hw:0<w):au false .mod e (aa j) Z M=.ok (nD (v % w)) M:=by
 unfold au;rw[he];show(aa j Z M).bind _=_;rw[aA hj];show(if (0:Int)<(w:Int) then Res.ok (D.int ((v:Int) % (w:Int))) M else .bad)=_;rw[if_pos `a]
 rfl
def rD {e f:GE}{v w:Nat}(he:e Z M=.ok (nD v) M)(hf:f Z M=.ok (nD w) M):au false .add e f Z M=.ok (nD (v+w)) M:=by
 unfold au;rw[he];show(f Z M).bind _=_;rw[hf];rfl
def IZ {e:GE}{v c:Nat}(he:e Z M=.ok (nD v) M)(hc:c<=v):au false .sub e (gC (.int (c:Int))) Z M=.ok (nD (v-c)) M:=by
 unfold au;rw[he];show Res.ok (D.int ((v:Int)-(c:Int))) M=_;rw[<- Int.ofNat_sub hc]
end
section
variable{P:Nat->Option Df}(h:HasP P){M:Mem}
include h
theorem zF (n:Nat){p B w:Nat}(hp:aO M p B)(hB:B<=900000)(w2:2<=w)(w4:w<=4):ae (ah P (n+3) 32 [.cell p,nD w] M) λd M'=>∃t,d=aw t/\i9 w t/\aO M' p (B+7)/\aZ p M M':=by
 have w0:0<w:=QS `d w2
 have wM:w<=10000000:=QH w4 (QZ rfl);refine aF h.law_tab rfl ?_;show ae (i7 (ah P (n+2)) [some (.cell p),some (nD w),none,none,none,none] M) _;unfold i7;refine fB h n rfl rfl hp (QH hB `d) `d `d λkind M1 hk p1 k1=>?_
 refine fB h n rfl rfl p1 (bd hB `d) w0 wM λword M2 hw p2 k2=>?_
 refine fB h n rfl rfl p2 (bd (k:=2) hB `d) w0 wM λother M3 ho p3 k3=>?_
 have K3:=(k1.trans k2).trans k3;have fin:∀(l:List Nat) (M':Mem),i9 w l->aO M' p (B+7)->aZ p M M'->(l.map nD).length<=sz/\∃t,D.tup (l.map nD)=aw t/\i9 w t/\aO M' p (B+7)/\aZ p M M':=λl M' hl hp' hk'=>{aI (by rw[Qq,hl.1];omega),l,rfl,hl,hp',hk'}
 have p7:aO M3 p (B+7):=p3.mono (xU (k:=3) `d)
 show ae (bw _ _ [some (.cell p),some (nD w),some (nD kind),some (nD word),some (nD other),none] M3) _;refine bE (xR rfl) (λ_=>?_) λ_=>?_
 ·simp only[av,bS,b8,bV,cq,eP,fA,bg];refine{_,rfl,_,rfl,{`a,`a},?_}
  refine comp_map (λi acc M'=>∃t:List Nat,acc=t.map nD/\(∀x∈t,x<w)/\aO M' p (B+3+i)/\aZ p M M') (aI `o) (λ_ _ _ _=>rfl) {[],rfl,(λ_ hx=>nomatch hx),p3,K3} ?_ ?_
  ·rintro i d acc M' hd _ ⟨t,rfl,ht,hp',hk'⟩;have hi:i<w:=by
    have:=(Qo.mp hd).1;simpa using this
   refine{_,rfl,aH (fD h n rfl rfl hp' `a w0 wM) ?_}
   rintro _ M4 ⟨v,rfl,hv,p4,k4⟩;refine{t++[v],by rw[Q0];rfl,λx hx=>?_,p4,hk'.trans k4}
   rcases Rq.mp hx with z|z
   ·exact ht x z
   ·rw[QF.mp z];exact hv
  ·rintro acc M' hl ⟨t,rfl,ht,hp',hk'⟩;simp only[Qq,R0] at hl hp';exact cu.mpr (fin t M' ⟨hl,ht⟩ (hp'.mono `a) hk')
 refine bE (iB rfl) (λ_=>?_) λ_=>?_
 ·simp only[av,bS,b8,bV,cq,eP,fA,bg];refine{_,rfl,_,rfl,{`a,`a},?_}
  exact u2 (λk=>(k+1+word) % w) `a (λk hk=>Ay (rD (rD (aA rfl) rfl) (aA rfl)) rfl w0) (cu.mpr (fin _ M3 (vP λk _=>Nat.mod_lt _ w0) p7 K3))
 refine bE (iB rfl) (λ_=>?_) λ_=>?_
 ·simp only[av,bS,b8,bV,cq,eP,fA,bg];refine{_,rfl,_,rfl,{`a,`a},?_}
  refine u2 (λk=>if k=word then other else k) `a (λk hk=>?_) (cu.mpr (fin _ M3 (vP λk hk=>by split<;>assumption) p7 K3))
  have e:(aj (ax .eq (aa 0) (aa 4)):GT) [some (.int (k:Int)),some (.cell p),some (nD w),some (nD kind),some (nD word),some (nD other),none] M3=.ok ((k:Int)==(word:Int)) M3:=rfl;by_cases ck:k=word
  ·rw[if_pos ck];exact jg (k:=true) (e.trans (by rw[ck,beq_self_eq_true])) (λ_=>rfl) (λz=>nomatch z)
  ·rw[if_neg ck];exact jg (k:=false) (e.trans (by rw[RZ.mpr `a])) (λz=>nomatch z) (λ_=>rfl)
 refine bE (iB rfl) (λ_=>jq ?_) λ_=>?_
 ·simp only[jZ,i6,bV,cq,bg];refine{_,rfl,aI (n:=1) `d,_,rfl,Kn.mpr {{aI `o,`a,`a},List.replicate w word,?_,{List.length_replicate,λx hx=>by rw[List.eq_of_mem_replicate hx];exact hw},p7,K3}}
  simp[aw,nD]
 ·simp only[av,mz,Hr,bg,kD,bS,b8,bV,cq,bK];simp;refine{`a,aI `a,word,dS hw,other,dS ho,((List.range w).set word other).set other word,?_,{`s,λx hx=>?_},p7.app,K3.trans aZ.app}
  ·simp[aw,nD,List.map_set]
  ·rcases List.mem_or_eq_of_mem_set hx with z|rfl
   ·rcases List.mem_or_eq_of_mem_set z with y|rfl
    ·exact Su.mp y
    ·exact ho
   ·exact hw
theorem Cs (n:Nat){p B w pl:Nat}(hp:aO M p B)(hB:B<=800000)(w2:2<=w)(w4:w<=4)(p1:1<=pl)(p2:pl<=2):ae (ah P (n+4) 33 [.cell p,nD w,nD pl] M) λd M'=>∃e:a8,d=e.d/\b5 w pl e/\aO M' p (B+40)/\aZ p M M':=by
 have pM:pl<=10000000:=QH p2 (QZ rfl);refine aF h.law_deed rfl ?_;show ae (iC (ah P (n+3)) [some (.cell p),some (nD w),some (nD pl),none,none,none,none] M) _;unfold iC;refine fB h (n+1) rfl rfl hp (QH hB `d) `d `d λkind M1 hk q1 k1=>?_
 refine cQ (k:=λd M'=>∃v:Nat,d=nD (1+v)/\v<3/\aO M' p (B+2)/\aZ p M1 M') ?_ ?_
 ·rw[jZ];simp only[dm];refine aH (fD h (n+1) rfl rfl q1 (bd hB `d) `d `d) ?_
  rintro _ M2 ⟨v,rfl,hv,q,kk⟩;exact vq.mpr {v,by show D.int (1+(v:Int))=D.int ((1+v:Nat):Int);rw[Int.natCast_add];rfl,hv,q,kk}
 rintro _ M2 ⟨price,rfl,hc,q2,k2⟩;refine fB h (n+1) rfl rfl q2 (bd hB `d) p1 pM λat_ M3 ha q3 k3=>?_
 refine fB h (n+1) rfl rfl q3 (bd (k:=3) hB `d) p1 pM λother M4 ho q4 k4=>?_
 have K4:=((k1.trans k2).trans k3).trans k4;have co:hZ (1+price):={`a,`a}
 have q40:aO M4 p (B+40):=q4.mono (xU (k:=4) `d)
 show ae (bw _ _ [some (.cell p),some (nD w),some (nD pl),some (nD kind),some (nD (1+price)),some (nD at_),some (nD other)] M4) _;refine bE (xR rfl) (λ_=>jq ?_) λ_=>?_
 ·simp only[i6,bV,cq,dm,bg,uS];refine{_,rfl,_,rfl,_,rfl,aH (zF h n q4 (bd (k:=4) hB `d) w2 w4) λd M' ⟨t,e,ht,hp',hk'⟩=>{_,rfl,aI (n:=4) `d,.turn at_ t (1+price),?_,⟨ha,ht,co⟩,hp'.mono (xU (k:=11) `d),K4.trans hk'}}
  subst e;rfl
 refine bE (xR rfl) (λ_=>jq ?_) λ_=>?_
 ·obtain⟨o,eo,ho'⟩:∃o:Nat,fX (aj (ax .eq (aa 3) (gI 3))) (au false .mod (au false .add (aa 5) (gI 1)) (aa 2)) (aa 6) [some (.cell p),some (nD w),some (nD pl),some (nD kind),some (nD (1+price)),some (nD at_),some (nD other)] M4=.ok (nD o) M4/\o<pl:=by
   have e:(aj (ax .eq (aa 3) (gI 3)):GT) [some (.cell p),some (nD w),some (nD pl),some (nD kind),some (nD (1+price)),some (nD at_),some (nD other)] M4=.ok ((kind:Int)==3) M4:=iB rfl;cases q:(kind:Int)==3 with
   |true=>rw[q] at e;exact{(at_+1) % pl,jg e (λ_=>Ay (rD (aA rfl) rfl) rfl p1) (λz=>nomatch z),Nat.mod_lt _ p1}
   |false=>rw[q] at e;exact{other,jg e (λz=>nomatch z) (λ_=>aA rfl),ho}
  simp only[i6,bV,cq,dm,bg];refine{_,rfl,?_};rw[eo,aV];exact{_,rfl,aI (n:=4) `d,.move at_ o (1+price),rfl,⟨ha,ho',co⟩,q40,K4}
 refine bE (iB rfl) (λ_=>jq ?_) λ_=>?_
 ·simp only[i6,bV,cq,dm];show ae (ah P (n+3) 31 [.cell p,nD w] M4) _;refine tk h (n+1) q4 (bd (k:=4) hB `d) (QS `d w2) (QH w4 (QZ rfl)) λv M5 hv q5 k5=>?_
  exact{aI (n:=4) `d,.put at_ v (1+price),rfl,⟨ha,hv,co⟩,q5.mono (xU (k:=5) `d),K4.trans k5}
 ·simp only[av,bS,i6,bV,cq,dm,b8,eP,fA,bg];refine{_,rfl,_,rfl,_,rfl,_,rfl,{`a,`a},?_}
  refine comp_map (λi acc M'=>∃t:List (List Nat),acc=t.map aw/\(∀x∈t,i9 w x)/\aO M' p (B+4+i*7)/\aZ p M M') (aI `o) (λ_ _ _ _=>rfl) {[],rfl,(λ_ hx=>nomatch hx),q4,K4} ?_ ?_
  ·rintro i d acc M' hd _ ⟨t,rfl,ht,hp',hk'⟩;have hi:i<w:=by
    have:=(Qo.mp hd).1;simpa using this
   refine{_,rfl,?_};rw[aS (ag (aA rfl) (ag (aA rfl) rfl))];refine aH (zF h n hp' `a w2 w4) ?_
   rintro _ M4 ⟨v,rfl,hv,p4,k4⟩;refine{t++[v],by rw[Q0];rfl,λx hx=>?_,p4.mono `a,hk'.trans k4}
   rcases Rq.mp hx with z|z
   ·exact ht x z
   ·rw[QF.mp z];exact hv
  ·rintro acc M' hl ⟨t,rfl,ht,hp',hk'⟩;simp only[Qq,R0] at hl hp';exact cu.mpr {aI (by rw[Qq];omega),_,rfl,aI (n:=5) `d,.join at_ other t (1+price),rfl,{ha,ho,⟨hl,ht⟩,co},hp'.mono `a,hk'}
theorem xo (n:Nat){p B W Pl mo:Nat}(hp:aO M p B)(hB:B<=700000)(W2:2<=W)(W4:W<=4)(P1:1<=Pl)(P2:Pl<=2)(m1:1<=mo)(m6:mo<=6):ae (ah P (n+5) 34 [.cell p,nD W,nD Pl,nD mo] M) λd M'=>∃m:aP,d=m.d/\aL m/\m.words<=W/\m.places<=Pl/\m.deeds.length<=mo/\aO M' p (B+300)/\aZ p M M':=by
 refine aF h.law_machine rfl ?_;show ae (fR (ah P (n+4)) [some (.cell p),some (nD W),some (nD Pl),some (nD mo),none,none,none,none] M) _;unfold fR;have plus:∀{Z:Env}{M:Mem}{g:GE}{B c many:Nat}{rest:GS}{K:Fl->Mem->Prop}{i:Nat},Z[0]?.getD none=some (.cell p)->g Z M=.ok (nD many) M->aO M p B->B<=1000000->0<many->many<=10000000->(∀(v:Nat) (M':Mem),v<many->aO M' p (B+1)->aZ p M M'->ae (rest (Z.set i (some (nD (c+v)))) M') K)->ae (bw (ay (.one i) (au false .add (gC (.int (c:Int))) (ai 31 (ah P (n+4)) #[aa 0,g]))) rest Z M) K:=by
  intro Z M g B c many rest K i e0 eg hp hB h0 h1 hk;refine cQ (k:=λd M'=>∃v:Nat,d=nD (c+v)/\v<many/\aO M' p (B+1)/\aZ p M M') ?_ ?_
  ·rw[jZ];simp only[dm];refine aH (fD h (n+2) e0 eg hp hB h0 h1) ?_;rintro _ M2 ⟨v,rfl,hv,q,kk⟩;exact vq.mpr {v,by show D.int ((c:Int)+(v:Int))=D.int ((c+v:Nat):Int);rw[Int.natCast_add],hv,q,kk}
  ·rintro _ M' ⟨v,rfl,a,b,c⟩;exact hk v M' a b c
 refine plus rfl (IZ (c:=1) (aA rfl) `a) hp (QH hB `d) `a `a λw M1 hw q1 k1=>?_
 refine plus rfl (aA rfl) q1 (bd hB `d) P1 (QH P2 (QZ rfl)) λpl M2 hpl q2 k2=>?_
 have pl2:=q2.lt;have K2:=k1.trans k2;have ML:=K2.len;have w2:2<=2+w:=Sr _ _;have w4:2+w<=4:=`a
 have l1:1<=1+pl:=Sr _ _;have l2:1+pl<=2:=`a
 generalize hW:2+w=w' at w2 w4;generalize hP:1+pl=p' at l1 l2;refine cQ (k:=λd M'=>d=.cell M2.length/\M'=M2++[[]]) ?_ ?_
 ·simp only[yg,cq];exact nK.mpr {RB _,rfl,rfl}
 rintro _ _ ⟨rfl,rfl⟩;show ae (bw _ _ [some (.cell p),some (nD w'),some (nD p'),some (nD mo),some (.cell M2.length),none,none,none] (M2++[[]])) _;simp only[av,dH,fA,jZ,dm];refine aH (fD h (n+2) rfl rfl q2.app (bd (k:=2) hB `d) m1 (QH m6 (QZ rfl))) ?_
 rintro _ M3 ⟨many,rfl,hmany,q3,k3⟩;have e3:=k3.get (List.getElem?_concat_length) `a
 have K3:=K2.trans (aZ.app.trans k3);generalize hq:M2.length=q at *;refine vq.mpr {_,rfl,{`a,`a},?_}
 rw[show(1+(many:Int)).toNat=1+many by omega]
 refine cF (λi Z M'=>∃ds:List a8,M'[q]?=some (ds.map a8.d)/\ds.length=i/\(∀d∈ds,b5 w' p' d)/\aO M' p (B+3+i*45)/\aZ p M M'/\∃a b c,Z=[some (.cell p),some (nD w'),some (nD p'),some (nD mo),some (.cell q),a,b,c])
  (λ_ _ _ _=>rfl) {[],e3,rfl,(λ_ hd=>nomatch hd),q3,K3,none,none,none,rfl} ?_ ?_
 ·rintro i d Z M' hd ⟨ds,e4,hl,hds,q4,K4,a,b,c,rfl⟩;have hi:i<1+many:=by
   have:=(Qo.mp hd).1;simpa using this
  have hi6:i<=5:=`a
  have hB4:B+3+i*45<=700228:=`a
  have hqM:=ML;have hpq:=pl2;refine{_,rfl,?_};refine fB h (n+2) rfl rfl q4 (QH hB4 `d) `d `d λagain M5 ha q5 k5=>?_
  have e5:=k5.get e4 (Rz hpq);refine cQ (k:=λd M'=>∃e:a8,d=e.d/\b5 w' p' e/\aO M' p (B+3+i*45+41)/\aZ p M5 M') ?_ ?_
  ·rw[aS (ag (aA rfl) (ag (aA rfl) (ag (aA rfl) rfl)))];exact aH (Cs h n q5 (bd hB4 `d) w2 w4 l1 l2) λd M' ⟨e,a,b,c,d⟩=>⟨e,a,b,c,d⟩
  rintro _ M6 ⟨e,rfl,he,q6,k6⟩;have e6:=k6.get e5 (Rz hpq);have K6:=(K4.trans k5).trans k6;have hsm:(ds.map a8.d).length<sz:=Ss (show(ds.map a8.d).length<=50 by rw[Qq,hl];omega) `d
  have fin:∀(e:a8) (M'':Mem) (x5 x6:Option D),b5 w' p' e->M''[q]?=some (ds.map a8.d)->aO M'' p (B+3+(i+1)*45)->aZ p M M''->
   ae (#v[fo (aa 4) (aa 7)] [some (.cell p),some (nD w'),some (nD p'),some (nD mo),some (.cell q),x5,x6,some e.d] M'') λfl M'=>∃ρ',fl=.next ρ'/\∃ds:List a8,M'[q]?=some (ds.map a8.d)/\ds.length=i+1/\(∀d∈ds,b5 w' p' d)/\aO M' p (B+3+(i+1)*45)/\aZ p M M'/\∃a b c,ρ'=[some (.cell p),some (nD w'),some (nD p'),some (nD mo),some (.cell q),a,b,c]:=by
   intro e M'' x5 x6 he e7 q7 K7;simp only[av,Jj,bg];refine{_,rfl,_,rfl,q,ds.map a8.d,rfl,e7,hsm,_,rfl,ds++[e],?_,by rw[Rb,hl];rfl,λd hd=>?_,q7.setq hpq,K7.setq hqM,_,_,_,rfl}
   ·rw[Q5 (Qo.mp e7).1,Q0];rfl
   ·rcases Rq.mp hd with z|z
    ·exact hds d z
    ·rw[QF.mp z];exact he
  show ae (bw _ _ [some (.cell p),some (nD w'),some (nD p'),some (nD mo),some (.cell q),some d,some (nD again),some e.d] M6) _;have en:(aj (ax .ne (aa 4) (bA false bY)):GT) [some (.cell p),some (nD w'),some (nD p'),some (nD mo),some (.cell q),some d,some (nD again),some e.d] M6=.ok (!ds.isEmpty) M6:=by
   refine bo ?_;unfold ax;show(cm M6 (bF .ne (.cell q) (.lst []) M6)).bind _=_;rw[ne_nil e6];rfl
  refine bE (rC (iB rfl) en) (λcc=>?_) λ_=>fin e M6 _ _ he e6 (q6.mono `a) K6
  have hpos:0<ds.length:=by
   rw[Qy] at cc;cases ds with
   |nil=>exact absurd cc.2 `d
   |cons _ _=>exact Nat.succ_pos _
  simp only[av,mz,jZ,qa,eY,i6,bV,cq,qb,dm];have el:aJ .len #[aa 4] [some (.cell p),some (nD w'),some (nD p'),some (nD mo),some (.cell q),some d,some (nD again),some e.d] M6=.ok (nD ds.length) M6:=by
   refine ak ?_;simp only[b8,bV,cq,bg];exact{_,rfl,oW.mpr {_,e6,by rw[Qq],rfl}}
  show ae (ai 31 (ah P (n+4)) #[aa 0,aJ .len #[aa 4]] [some (.cell p),some (nD w'),some (nD p'),some (nD mo),some (.cell q),some d,some (nD again),some e.d] M6) _;refine aH (fD h (n+2) rfl el q6 (bd hB4 `d) hpos `a) ?_
  rintro _ M7 ⟨v,rfl,hv,q7,k7⟩;have e7:=k7.get e6 (Rz hpq);refine{(ds.getD v e).d,?_,1,rfl,rfl,rfl,?_}
  ·show(M7[q]?).bind (λds=>(cv ds.length (v:Int)).bind λj=>ds[j]?)=_;rw[e7];show(cv (ds.map a8.d).length (v:Int)).bind (λj=>(ds.map a8.d)[j]?)=_;rw[dS (by rw[Qq];exact hv)]
   simp[Rw,hv]
  ·refine aH (Dx ?_) λx1 M3 hx=>{1,rfl,nD e.cost,iK,aI (n:=1) `d,hx}
   exact fin _ M7 _ _ (BF (hds _ (getD_mem hv)) (wU he)) e7 (q7.mono `a) (K6.trans k7)
 ·rintro Z M' ⟨ds,e4,hl,hds,q4,K4,a,b,c,rfl⟩;simp only[Qq,R0] at hl q4;refine jq ?_;simp only[i6,bV,cq,b8,bg];refine{_,rfl,_,rfl,_,rfl,pI.mpr {_,e4,aI (n:=3) `d,⟨w',p',ds⟩,rfl,{w2,w4,l1,l2,?_,?_,hds},?_,?_,?_,q4.mono `a,K4}}
  ·show 1<=ds.length;omega
  ·show ds.length<=6;omega
  ·show w'<=W;omega
  ·show p'<=Pl;omega
  ·show ds.length<=mo;omega
omit h in
theorem Hf {g:GE}{Z:Env}{l:List a8}(e:g Z M=.ok (.tup (l.map a8.d)) M):aJ .len #[g] Z M=.ok (nD l.length) M:=by
 refine ak ?_;simp only[b8];rw[ag e rfl,aV];exact{congrArg (λ(n:Nat)=>D.int n) (Qq _),rfl}
theorem F9 (h35:P 35=some {3,6,fQ})(n:Nat){p B mo:Nat}{m:aP}(hm:aL m)(hp:aO M p B)(hB:B<=700000)(hmo:mo<=40):ae (ah P (n+3) 35 [.cell p,m.d,nD mo] M) λd M'=>∃r:List Nat,d=.lst (r.map nD)/\N1 m r/\r.length<=mo/\aO M' p (B+50)/\aZ p M M':=by
 refine aF h35 rfl ?_;show ae (fQ (ah P (n+2)) [some (.cell p),some m.d,some (nD mo),none,none,none] M) _;unfold fQ;refine fB h n rfl rfl hp `a `d `d λkind M1 _ q1 k1=>?_
 refine cQ (k:=λd M'=>∃v:Nat,d=nD v/\v<=mo/\aO M' p (B+2)/\aZ p M M') ?_ ?_
 ·show ae (fX _ _ _ [some (.cell p),some m.d,some (nD mo),some (nD kind),none,none] M1) _;have t0:(aj (ax .eq (aa 3) (gI 0)):GT) [some (.cell p),some m.d,some (nD mo),some (nD kind),none,none] M1=.ok ((kind:Int)==((0:Nat):Int)) M1:=iB rfl;rw[sW,t0,aV];split
  ·exact{mo,rfl,Qw _,q1.mono `a,k1}
  ·refine aH (fD h n (many:=mo+1) rfl rfl q1 `a (Nat.succ_pos _) `a) λd M' ⟨v,e,hv,a,b⟩=>{v,e,Nat.le_of_lt_succ hv,a,k1.trans b}
 intro x M2 hx;show ae (bw _ _ [some (.cell p),some m.d,some (nD mo),some (nD kind),some x,none] M2) _;obtain⟨many,ex,hmany,q2,k2⟩:=hx;rw[ex];clear ex;simp only[av,mz,eP,fA,bg];have m40:=QH hmany hmo;refine{_,rfl,_,rfl,{Int.le_trans `d (Int.natCast_nonneg _),Int.lt_of_le_of_lt (Int.ofNat_le.mpr m40) `d},?_}
 rw[R1];refine comp_map (λi acc M'=>∃t:List Nat,acc=t.map nD/\(∀x∈t,x<m.deeds.length)/\aO M' p (B+2+i)/\aZ p M M') (aI (by rw[Qq,R0];omega)) (λ_ _ _ _=>rfl) {[],rfl,(λ_ z=>nomatch z),q2,k2} ?_ ?_
 ·rintro i d acc M' hd _ ⟨t,rfl,ht,hp',hk'⟩;have hi:i<many:=by
   have:=(Qo.mp hd).1
   rwa [Qq,R0] at this
  refine{_,rfl,?_};refine aH (fD h n rfl (Hf (bx (aA rfl) rfl Kt)) hp' `a hm.d1 (by have:=hm.d6;omega)) ?_
  rintro _ M4 ⟨v,rfl,hv,p4,k4⟩;refine{t++[v],by rw[Q0];rfl,λx hx=>?_,p4,hk'.trans k4}
  rcases Rq.mp hx with z|z
  ·exact ht x z
  ·rw[QF.mp z];exact hv
 ·rintro acc M' hl ⟨t,rfl,ht,hp',hk'⟩;rw[Qq,Qq,R0] at hl;rw[Qq,R0] at hp';have q3:=hp'.mono (show B+2+many<=B+50 by omega)
  have k3:=hk';have hl:=Nat.le_of_eq hl;refine cu.mpr {aI (by rw[Qq];omega),?_}
  show ae (bw _ _ [some (.cell p),some m.d,some (nD mo),some (nD kind),some (nD many),some (.lst (t.map nD))] M') _;refine bE (iB rfl) (λ_=>?_) λ_=>c9 (aA rfl) {t,rfl,{`a,ht},`a,q3,k3}
  refine cQ (k:=λd M4=>M4=M'/\d=.lst ((((List.replicate many (t.take 2)).flatten).take many).map nD)) ?_ ?_
  ·have l2:((t.map nD).take 2).length<=2:=by rw[RX];exact Nat.min_le_left _ _
   simp only[qa,jZ,bg,dm];refine{_,rfl,rfl,rfl,(zT (a:=2)).mpr {aI `a,_,rfl,Ko.mpr {{?_,`a,`a},cu.mpr {?_,?_}}}}
   ·exact QH (Nat.mul_le_mul l2 (show many<=40 by omega)) `d
   ·rw[R1,List.length_flatten,List.map_replicate,List.sum_replicate_nat];exact QH (Nat.mul_le_mul (show many<=40 by omega) l2) `d
   ·refine{_,rfl,rfl,rfl,zT.mpr {aI (by rw[RX];exact QH (Nat.min_le_left _ _) `a),rfl,?_}}
    rw[R1,List.map_take,List.map_flatten,List.map_replicate,List.map_take]
  rintro _ _ ⟨rfl,rfl⟩;have lm:(((List.replicate many (t.take 2)).flatten).take many).length<=many:=by rw[RX];exact Nat.min_le_left _ _
  refine Jg.mpr (bK.mpr (c9 (aA rfl) {_,rfl,{`a,λi hi=>?_},`a,q3,k3}))
  obtain⟨l,hl1,hl2⟩:=List.mem_flatten.mp (Si hi);rw[(List.mem_replicate.mp hl1).2] at hl2;exact ht i (Si hl2)
end
def Gn {a b:Nat}:ae (gM false (.frz xs) (.int a) (.int b) M) k↔(cut xs (min a xs.length) (min b xs.length)).length<=sz/\k (.lst (cut xs (min a xs.length) (min b xs.length))) M:=by
 show ae (match aU xs.length 0 (.int a),aU xs.length xs.length (.int b) with|some l,some h=>bh false (cut xs l h) M|_,_=>.bad) k↔_
 have e1:aU xs.length 0 (.int a)=some (min a xs.length):=by
  show some _=_;rw[if_neg `a];simp
 have e2:aU xs.length xs.length (.int b)=some (min b xs.length):=by
  show some _=_;rw[if_neg `a];simp
 rw[e1,e2];exact cu
def Ct {b:Nat}:ae (gM false (.frz xs) .non (.int b) M) k↔(cut xs 0 (min b xs.length)).length<=sz/\k (.lst (cut xs 0 (min b xs.length))) M:=by
 show ae (match aU xs.length 0 D.non,aU xs.length xs.length (.int b) with|some l,some h=>bh false (cut xs l h) M|_,_=>.bad) k↔_
 have e2:aU xs.length xs.length (.int b)=some (min b xs.length):=by
  show some _=_;rw[if_neg `a];simp
 rw[e2];exact cu
def wR {α β:Type}(f:α->β)(l:List α)(a b:Nat):cut (l.map f) a b=(cut l a b).map f:=by simp[cut,List.map_take,List.map_drop]
def rg {α:Type}(l:List α)(a b:Nat):(cut l a b).length<=l.length:=by simp[cut];omega
section
variable{P:Nat->Option Df}(h:HasP0 P){M:Mem}
include h
theorem Gb (n:Nat){ns:List Int}(hn:ns.length<=63):ae (ah P (n+1) 29 [.frz (ns.map D.int)] []) λd M'=>d=.cell 1/\aO M' 1 0:=by
 refine aF h.law_open rfl ?_;simp[ky,eO];refine(Ct).mpr {?_,?_}
 ·exact aI (QH (rg _ _ _) `o)
 simp only[CZ,nK];refine{aI (QH (rg _ _ _) `o),(Gn).mpr {aI (QH (rg _ _ _) `o),rfl,?_}}
 rw[wR,wR];simp only[Qq,List.length_nil,List.nil_append];have e63:min 63 ns.length=ns.length:=`a
 rw[e63];refine cF (λi Z M'=>∃l:List Int,M'=[l.map D.int]/\l.length=min 12 ns.length/\∃a b,Z=[some (.frz (ns.map D.int)),some (.cell 0),a,b]) (λ_ _ _ _=>rfl) {cut ns 0 (min 12 ns.length),rfl,by simp[cut],none,none,rfl} ?_ ?_
 ·rintro i d Z M' hd ⟨l,rfl,hl,a,b,rfl⟩;rw[m5,QL] at hd;cases e:(cut ns (min 12 ns.length) ns.length)[i]? with
  |none=>rw[e] at hd;cases hd
  | some x =>
    rw[e] at hd;have hd:=Qz hd;subst hd;have hi:=(Qo.mp e).1;have hlen:12<ns.length:=by
     by_cases c:12<ns.length
     ·exact c
     ·have:min 12 ns.length=ns.length:=`a
      rw[this] at hi;simp[cut] at hi
    have l12:l.length=12:=`a
    have r1:=Sw (i:Int) (show(12:Int)≠0 by decide)
    have r2:=Sv (i:Int) (show(0:Int)<12 by decide)
    obtain⟨y,ey⟩:=qP r1 (by rw[l12];exact r2)
    obtain⟨k,ek⟩:∃k:Nat,(i:Int) % 12=(k:Int):={((i:Int) % 12).toNat,`a}
    refine{_,rfl,?_};simp;rw[ek] at ey ⊢;have hk:k<l.length:=`a
    refine{_,ey,?_};refine{l.map D.int,rfl,k,?_,l.set k (y+x),?_,by simp[hl]}
    ·simpa using dS hk
    ·simp[List.map_set]
 ·rintro Z M' ⟨l,rfl,hl,a,b,rfl⟩;simp;exact{`d,{0,l,0,0,rfl,rfl,`d,`d,`d,`d}}
end
abbrev aR:=List (List Nat)
noncomputable def bD (b:aR):D:=.tup (b.map aw)
noncomputable def bf (m:aP)(i:Nat)(b:aR):aR:=b.map (bW (cE m i))
noncomputable def cst (m:aP)(i:Nat):Nat:=(cE m i).cost
inductive mj (m:aP):Nat->aR->Prop
 |start:mj m 0 (bq m)
 |step {q:Nat}{b:aR}{i:Nat}:mj m q b->i<m.deeds.length->mj m (q+cst m i) (bf m i b)
noncomputable def a7 (m:aP)(q:Nat)(b:aR):Prop:=mj m q b/\∀q'<q,¬ mj m q' b
section
variable{m:aP}{q q' p:Nat}{b:aR}
def g7 (hm:aL m)(hi:i<m.deeds.length):1<=cst m i/\cst m i<=3:=wU (gL hm hi)
def vV (h:mj m q b):(q=0/\b=bq m)\/∃i b',i<m.deeds.length/\cst m i<=q/\mj m (q-cst m i) b'/\b=bf m i b':=by
 cases h with
 |start=>exact .inl ⟨rfl,rfl⟩
 | @step q b i h hi=>exact .inr {i,b,hi,Nat.le_add_left _ _,by rw[Nat.add_sub_cancel];exact h,rfl}
def ju (hm:aL m)(h:mj m q b):b.length=(bq m).length/\∀s∈b,dG m s:=by
 induction h with
 |start=>exact⟨rfl,oh⟩
 | step _ hi ih =>
   refine{by unfold bf;rw[Qq];exact ih.1,λs hs=>?_}
   obtain⟨t,ht,rfl⟩:=QE.mp hs;exact r9 (gL hm hi) (ih.2 t ht)
def jR:∀{q:Nat},mj m q b->∃q',q'<=q/\a7 m q' b:=by
 intro q;induction q using Nat.strongRecOn with
 | ind q ih =>
   intro h;by_cases z:∃q',q'<q/\mj m q' b
   ·obtain⟨q',h1,h2⟩:=z;obtain⟨r,h3,h4⟩:=ih q' h1 h2;exact{r,QH h3 (Sy h1),h4}
   ·exact{q,Qw _,h,λq' h1 h2=>z ⟨q',h1,h2⟩}
def xS (h:a7 m q b)(h':a7 m q' b):q=q':=by
 rcases Nat.lt_trichotomy q q' with z|z|z
 ·exact absurd h.1 (h'.2 q z)
 ·exact z
 ·exact absurd h'.1 (h.2 q' z)
def eW (hm:aL m):a7 m 0 b↔b=bq m:=by
 constructor
 ·intro h;rcases vV h.1 with⟨_,e⟩|⟨i,b',hi,hc,_⟩
  ·exact e
  ·have:=(g7 hm hi).1;omega
 ·rintro rfl;exact{.start,λq' h=>absurd h (R4 _)}
def gR (hm:aL m)(hp:0<p):a7 m p b↔(∃i b',i<m.deeds.length/\cst m i<=p/\a7 m (p-cst m i) b'/\b=bf m i b')/\∀q<p,¬ a7 m q b:=by
 constructor
 ·intro h;refine{?_,λq hq z=>h.2 q hq z.1};rcases vV h.1 with⟨e,_⟩|⟨i,b',hi,hc,h1,rfl⟩
  ·omega
  ·refine{i,b',hi,hc,?_,rfl};obtain⟨r,hr,hl⟩:=jR h1;have h2:¬ r+cst m i<p:=λz=>h.2 _ z (.step hl.1 hi);have e:r=p-cst m i:=`a
   rw[<- e];exact hl
 ·rintro⟨⟨i,b',hi,hc,h1,rfl⟩,h2⟩;refine{by have:=mj.step h1.1 hi;rwa [Nat.sub_add_cancel hc] at this,λq' hq' z=>?_}
  obtain⟨r,hr,hl⟩:=jR z;exact h2 r `a hl
def xT (hm:aL m)(hp:0<p)(h:∀q,q<p->p<=q+3->∀b,¬ a7 m q b):∀q,p<=q->∀b,¬ a7 m q b:=by
 intro q;induction q using Nat.strongRecOn with
 | ind q ih =>
   intro hq b hl;obtain⟨⟨i,b',hi,hc,h1,_⟩,_⟩:=(gR hm `a).mp hl
   have c:=g7 hm hi;by_cases z:p<=q-cst m i
   ·exact ih _ `a z b' h1
   ·exact h _ `a `a b' h1
def As {α β:Type}{f:α->β}:∀{l:List α},(l.map f).Nodup->l.Nodup
 |[],_=>.nil
 | a :: l, h => by
   rw[RU,RF] at h;exact List.nodup_cons.mpr {λz=>h.1 (Rt z),As h.2}
def len_sub {α:Type}[DecidableEq α]:∀{l l':List α},l.Nodup->(∀x∈l,x∈l')->l.length<=l'.length
 |[],_,_,_=>RB _
 | a :: l, l', h, s => by
   have ha:=s a QN;have h1:=len_sub (RF.mp h).2 λx hx=>by
    have ne:x≠a:=λe=>(RF.mp h).1 (by rw[<- e];exact hx)
    exact(List.mem_erase_of_ne ne).mpr (s x (QJ _ hx))
   rw[List.length_erase_of_mem ha] at h1;have h2:=List.length_pos_of_mem ha;rw[RY];omega
structure cz (m:aP) (p:Nat) (l:List (aR×Nat)):Prop where
 nd:(l.map (·.1)).Nodup
 sound:∀x∈l,a7 m x.2 x.1/\x.2<p
 all:∀q b,q<p->a7 m q b->(b,q)∈l
noncomputable def kA (m:aP)(p:Nat):Prop:=∃l:List (aR×Nat),(l.map (·.1)).Nodup/\(∀x∈l,a7 m x.2 x.1/\x.2<p)/\255<l.length
def cz.mono (h:cz m p l)(hq:p<=q)(he:∀k b,p<=k->k<q->¬ a7 m k b):cz m q l:=
 {h.nd,λx hx=>{(h.sound x hx).1,QS (h.sound x hx).2 hq},λk b hk hl=>by
  by_cases z:k<p
  ·exact h.all k b z hl
  ·exact absurd hl (he k b `a hk)}
end
def Sub.keep (h:Sub M M'):aZ p M M':={h.len,λk hk _=>h.at' k hk}
def Sub.pen (h:Sub M M')(hp:aO M p B):aO M' p B:=by
 obtain⟨c,cells,a,st,e1,e2,r⟩:=hp.ex;exact{c,cells,a,st,h.get e1,h.get e2,r}
def Bm:∀l:List Nat,d4 (l.map nD) (l.map nD)=true
 |[]=>rfl
 | i :: l => by
   show(bO (nD i) (nD i)&&d4 (l.map nD) (l.map nD))=true;rw[Bm l];simp[nD,NS]
def Ia (l:List Nat):bO (aw l) (aw l)=true:=Bm l
structure HasB (P:Nat->Option Df):Prop where
 after:P 41=some {2,4,jH}
 begins:P 42=some {1,1,iU}
structure ma (P:Nat->Option Df):Prop where
 same:P 40=some {2,2,gm}
def rJ:∀ds:List D,eF ds ds=ds.map λd=>.tup [d,d]
 |[]=>rfl
 |d::r=>by simp[eF,rJ r]
def xG {ds:List D}:bF .notin (.bl false) (.lst (ds.map λ_=>.bl true)) M=some true:=by
 show(pZ (.bl false) (ds.map λ_=>.bl true)).map (!·)=_;unfold pZ;rw[if_pos]
 ·have:(ds.map λ_=>D.bl true).any (λy=>bO y (.bl false))=false:=by
   rw[List.any_eq_false];intro x hx;obtain⟨_,_,rfl⟩:=QE.mp hx;exact QR
  rw[this];rfl
 ·simp[az]
@[simp] theorem CY:ae (ft (.list m) [.tup ds] M) k↔ae (bh m ds M) k:=RT
def cY (e:p8 (.str x) (.str y)=some b)(M:Mem):bF .eq (.str x) (.str y) M=some b:=by
 show mY M (.str x) (.str y)=some b;unfold mY;rw[show p8 (view M (.str x)) (view M (.str y))=some b from e]
def yi (hd:b5 m.words m.places d)(hs:dG m s):bW d s=s.set d.at' (d7 d s):=by
 have a0:=s9 hd;rw[List.set_eq_take_append_cons_drop,if_pos (by rw[hs.1];exact a0)]
 simp[bW]
def d5 (h0:Z[0]?=some (some D0))(e0:b6 D0 (.int 0) M=some (.str nm))(c:bF .eq (.str nm) (.str w) M=some false)(h:ae (rest Z M) k):ae (bw (aN (aj (ax .eq (aq (aa 0) (gI 0)) (gC (.str w)))) A aD) rest Z M) k:=by
 simp[h0,e0,c,h]
def nB (h0:Z[0]?=some (some D0))(e0:b6 D0 (.int 0) M=some (.str nm))(c:bF .eq (.str nm) (.str w) M=some true)(h:ae (A Z M) (ir rest k)):ae (bw (aN (aj (ax .eq (aq (aa 0) (gI 0)) (gC (.str w)))) A aD) rest Z M) k:=by
 simp[h0,e0,c,h]
noncomputable def tS (c:Call):GS:=#v[aN (aj (ax .ne (aJ .len #[aa 0]) (aJ .len #[aa 1]))) rF aD,aM (ax .notin K0 (bj false 2 (.tup [0,1]) (jW (aa 0) (aa 1)) (bp (ai 40 c #[aa 0,aa 1]))))]
section
variable{P:Nat->Option Df}(h:ma P){M:Mem}
include h
theorem zI (n:Nat)(i:Nat):ah P (n+1) 40 [nD i,nD i] M=.ok (.bl true) M:=by
 refine ak (aF h.same rfl ?_);show ae (gm (ah P n) [some (nD i),some (nD i)] M) _;exact aY rfl (aY rfl (qQ rfl (v:=.bl ((i:Int)==(i:Int))) rfl {`s,rfl}))
theorem zW (n:Nat)(hx:cj M x=some ds)(hy:cj M y=some ds)(hz:ds.length<=sz)(hs:∀d∈ds,ah P n 40 [d,d] M=.ok (.bl true) M)(hk:kl (ds.map λ_=>.bl true) M) :
 ae (cL (cw (.tup [0,1]) (bp (ai 40 (ah P n) #[aa 0,aa 1])) (none::none::Z)) (pH x y) [] M) kl:=by
 refine eR (ds:=ds.map λd=>.tup [d,d]) (λ_=>.bl true) (by simpa using hz) ?_ ?_ ?_
 ·simp[pH,hx,hy,rJ]
 ·intro d hd;obtain⟨e,he,rfl⟩:=QE.mp hd;refine{_,rfl,?_};refine ak ?_;simp;rw[hs e he];exact⟨rfl,rfl⟩
 ·simpa[SK] using hk
theorem Cw (n:Nat)(hx:cj M x=some ds)(hy:cj M y=some ds)(lx:ft .len [x] M=.ok (.int ds.length) M)(ly:ft .len [y] M=.ok (.int ds.length) M)(sx:fx x=true)(sy:fx y=true)(hz:ds.length<=sz)(hs:∀d∈ds,ah P n 40 [d,d] M=.ok (.bl true) M) :
 ae (tS (ah P n) [some x,some y] M) (g5 λd M'=>d=.bl true/\M'=M):=by
 simp[tS,lx,ly,sx,sy];exact zW h n hx hy hz hs {by simpa using hz,xG,rfl}
theorem zH (n:Nat)(hz:ds.length<=sz)(hs:∀d∈ds,ah P n 40 [d,d] M=.ok (.bl true) M):ah P (n+1) 40 [.tup ds,.tup ds] M=.ok (.bl true) M:=by
 refine ak (aF h.same rfl ?_);show ae (gm (ah P n) [some (.tup ds),some (.tup ds)] M) _;exact aY rfl (aY rfl (aY rfl (aY rfl (aY rfl (Cw h n rfl rfl rfl rfl rfl rfl hz hs)))))
end
section
variable{P:Nat->Option Df}(h:HasB P){M:Mem}
include h
set_option maxHeartbeats 2000000 in
theorem i8 (n:Nat)(ha:a<s.length)(hz:s.length<=100)(e0:∀M,b6 D0 (.int 0) M=some (.str nm))(e1:∀M,b6 D0 (.int 1) M=some (nD a))
 (bT bJ bM bP:Bool) (cT:∀M,bF .eq (.str nm) (.str "turn") M=some bT) (cJ:∀M,bF .eq (.str nm) (.str "join") M=some bJ) (cM:∀M,bF .eq (.str nm) (.str "move") M=some bM) (cP:∀M,bF .eq (.str nm) (.str "put") M=some bP)
 (hb:(bT=true/\bJ=false/\bM=false/\bP=false/\∀M,∃t,b6 D0 (.int 2) M=some t/\b6 t (nD (s.getD a 0)) M=some (nD v))
  \/(bT=false/\bJ=true/\bM=false/\bP=false/\∀M,∃t u o,b6 D0 (.int 3) M=some t/\b6 t (nD (s.getD a 0)) M=some u/\b6 D0 (.int 2) M=some (nD o)/\o<s.length/\b6 u (nD (s.getD o 0)) M=some (nD v))
  \/(bT=false/\bJ=false/\bM=true/\bP=false/\∀M,∃o,b6 D0 (.int 2) M=some (nD o)/\o<s.length/\v=s.getD o 0)
  \/(bT=false/\bJ=false/\bM=false/\bP=true/\∀M,b6 D0 (.int 2) M=some (nD v))) :
 ah P (n+1) 41 [D0,aw s] M=.ok (aw (s.set a v)) (M++[(s.set a v).map nD]):=by
 refine ak (aF h.after rfl ?_);have S:∀M i,i<s.length->b6 (aw s) (nD i) M=some (nD (s.getD i 0)):=λM i hi=>gX hi;have T:ae (ft (.list true) [aw s] M) (λx M'=>x=.cell M.length/\M'=M++[s.map nD]):=by
  show ae (ft (.list true) [.tup (s.map nD)] M) _;rw[CY,nK];exact{aI `o,rfl,rfl}
 simp only[jH,av,mz,b8,eY,dm,bV,cq,bg,RU,List.map_nil,List.cons_append,List.nil_append,List.getElem?_cons_zero,List.getElem?_cons_succ,Option.getD_some,Option.some.injEq,exists_eq_left',bK];refine aH T λx M' hx=>?_;obtain⟨rfl,rfl⟩:=hx;have q:=S (M++[s.map nD]) a ha;refine{_,rfl,_,rfl,_,e1 _,_,q,?_};have fin:∀Z:Env,Z[2]?=some (some (.cell M.length))->ae (#v[aM (aJ .tuple #[aa 2])] Z ((M++[s.map nD]).set M.length ((s.map nD).set a (nD v)))) (g5 λx M'=>x=aw (s.set a v)/\M'=M++[(s.set a v).map nD]):=λZ hρ=>by
  simp[hρ];simp[aw,List.map_set]
 have gl:(M++[s.map nD])[M.length]?=some (s.map nD):=`s
 have ix:cv (s.map nD).length (a:Int)=some a:=dS (by simpa using ha)
 rcases hb with⟨rfl,rfl,rfl,rfl,hv⟩|⟨rfl,rfl,rfl,rfl,hv⟩|⟨rfl,rfl,rfl,rfl,hv⟩|⟨rfl,rfl,rfl,rfl,hv⟩
 ·obtain⟨t,v1,v2⟩:=hv (M++[s.map nD]);refine av.mp (nB rfl (e0 _) (cT _) ?_);simp only[av,kD,eY,bg,dm];refine{_,rfl,_,v1,_,rfl,_,v2,_,rfl,_,rfl,_,e1 _,_,_,_,_,rfl,rfl,gl,ix,?_};exact d5 rfl (e0 _) (cJ _) (d5 rfl (e0 _) (cM _) (d5 rfl (e0 _) (cP _) (fin _ rfl)))
 ·obtain⟨t,u,o,v1,v2,v3,v4,v5⟩:=hv (M++[s.map nD]);refine av.mp (d5 rfl (e0 _) (cT _) (nB rfl (e0 _) (cJ _) ?_));simp only[av,kD,eY,bg,dm];refine{_,rfl,_,v1,_,rfl,_,v2,_,rfl,_,rfl,_,v3,_,S _ _ v4,_,v5,_,rfl,_,rfl,_,e1 _,_,_,_,_,rfl,rfl,gl,ix,?_};exact d5 rfl (e0 _) (cM _) (d5 rfl (e0 _) (cP _) (fin _ rfl))
 ·obtain⟨o,v1,v2,v3⟩:=hv (M++[s.map nD]);subst v3;refine av.mp (d5 rfl (e0 _) (cT _) (d5 rfl (e0 _) (cJ _) (nB rfl (e0 _) (cM _) ?_)));simp only[av,kD,eY,bg,dm];refine{_,rfl,_,rfl,_,v1,_,S _ _ v2,_,rfl,_,rfl,_,e1 _,_,_,_,_,rfl,rfl,gl,ix,?_};exact d5 rfl (e0 _) (cP _) (fin _ rfl)
 ·have v1:=hv (M++[s.map nD]);refine av.mp (d5 rfl (e0 _) (cT _) (d5 rfl (e0 _) (cJ _) (d5 rfl (e0 _) (cM _) (nB rfl (e0 _) (cP _) ?_))));simp only[av,kD,eY,bg,dm];refine{_,rfl,_,v1,_,rfl,_,rfl,_,e1 _,_,_,_,_,rfl,rfl,gl,ix,?_};exact fin [some D0,some (aw s),some (.cell M.length),some (nD (s.getD a 0))] rfl
theorem tP (n:Nat)(hm:aL m)(hd:b5 m.words m.places d)(hs:dG m s):ah P (n+1) 41 [d.d,aw s] M=.ok (aw (bW d s)) (M++[(bW d s).map nD]):=by
 rw[yi hd hs];have l0:=hs.1;have p2:=hm.p2;have g:∀i,i<m.places->s.getD i 0<m.words:=λi hi=>hs.2 _ (getD_mem `a)
 have a0:=s9 hd;have ha:d.at'<s.length:=`a
 cases d with
 |turn a t c=>exact i8 h n ha `a (λ_=>rfl) (λ_=>rfl) true false false false (cY `k) (cY `k) (cY `k) (cY `k) (.inl {rfl,rfl,rfl,rfl,λM=>{aw t,rfl,gX (by rw[hd.2.1.1];exact g _ hd.1)}})
 | join a o t c =>
   refine i8 h n ha `a (λ_=>rfl) (λ_=>rfl) false true false false (cY `k) (cY `k) (cY `k) (cY `k) (.inr (.inl {rfl,rfl,rfl,rfl,λM=>{.tup (t.map aw),aw (t.getD (s.getD a 0) []),o,rfl,AY (by rw[hd.2.2.1.1];exact g _ hd.1),rfl,by rw[l0];exact hd.2.1,gX ?_}}))
   rw[(hd.2.2.1.2 _ (getD_mem (by rw[hd.2.2.1.1];exact g _ hd.1))).1]
   exact g _ hd.2.1
 |move a o c=>exact i8 h n ha `a (λ_=>rfl) (λ_=>rfl) false false true false (cY `k) (cY `k) (cY `k) (cY `k) (.inr (.inr (.inl {rfl,rfl,rfl,rfl,λM=>{o,rfl,by rw[l0];exact hd.2.1,rfl}})))
 |put a x c=>exact i8 h n ha `a (λ_=>rfl) (λ_=>rfl) false false false true (cY `k) (cY `k) (cY `k) (cY `k) (.inr (.inr (.inr {rfl,rfl,rfl,rfl,λM=>rfl})))
theorem gF (n:Nat)(hm:aL m):ah P (n+1) 42 [m.d] M=.ok (.lst ((bq m).map aw)) M:=by
 refine ak (aF h.begins rfl ?_);simp[iU];have p1:=hm.p1;have p2:=hm.p2;have w2:=hm.w2;have w4:=hm.w4;refine{_,rfl,?_};have hp:m.places=1\/m.places=2:=`a
 have hw:m.words=2\/m.words=3\/m.words=4:=`a
 rcases hp with ep|ep
 ·refine .inr {by rw[ep];rfl,_,rfl,_,rfl,`a,?_}
  refine eR (ds:=(List.range m.words).map λ(k:Nat)=>D.int (k:Int)) (λd=>.tup [d]) (aI `o) `s (λd hd=>{_,rfl,ak (by simp;exact aI `a)}) {aI `o,?_,rfl}
  unfold bq;rw[ep];rcases hw with e|e|e<;>rw[e]<;>rfl
 ·refine .inl {by rw[ep];rfl,_,rfl,_,rfl,?_}
  simp;refine{`a,?_}
  have ew:((m.words:Int)*(m.words:Int)).toNat=m.words*m.words:=by rw[<- Int.natCast_mul];rfl
  have hw2:=Nat.mul_le_mul w4 w4;rw[ew];refine{{by rw[<- Int.natCast_mul];omega,by rw[<- Int.natCast_mul];omega},?_}
  have key:∀k:Nat,(bH #[au false oF.fdiv (aa 0) (aq (aa 1) (gC (D.int 0))),au false oF.mod (aa 0) (aq (aa 1) (gC (D.int 0)))]) [some (nD k),some m.d] M=.ok (aw [k / m.words,k % m.words]) M:=by
   intro k;refine ak ?_;simp;refine{_,rfl,?_};simp;refine{`a,_,rfl,?_}
   simp;exact{`a,aI `a,rfl}
  refine comp_map (λi acc M'=>M'=M/\acc=((List.range (m.words*m.words)).take i).map λk=>aw [k / m.words,k % m.words]) (aI (by simpa using by omega)) (λ_ _ _ _=>rfl) ⟨rfl,rfl⟩ ?_ ?_
  ·rintro i d acc M' hd _ ⟨rfl,rfl⟩;have hi:=(Qo.mp hd).1;simp at hi;have:d=nD i:=by
    rw[QL,SU `a] at hd
    exact(Qz hd).symm
   subst this;refine{_,rfl,?_};rw[show List.set [none,some m.d] 0 (some (nD i))=[some (nD i),some m.d] from rfl,key i];refine{rfl,?_};rw[RM,SU `a]
   simp
  ·rintro acc M' _ ⟨rfl,rfl⟩;simp;refine{aI `a,?_}
   unfold bq;rw[ep];rcases hw with e|e|e<;>rw[e]<;>rfl
end
section
variable{Z:Env}{M:Mem}{a b d:GE}{k:D->Mem->Prop}{kw:Walk->Mem->Prop}{kf:Fl->Mem->Prop}
@[simp] theorem Qc:ae (Jr m (.lst xs) M) k↔ae (bh m xs.reverse M) k:=RT
@[simp] theorem Qb:ae (Jr m (.tup xs) M) k↔k (.tup xs.reverse) M:=RT
end
def LU (i j:Nat):bO (nD i) (nD j)=decide (i=j):=by
 show((i:Int)==(j:Int))=_;rw[RV];simp;omega
def Bo:∀l r:List Nat,d4 (l.map nD) (r.map nD)=decide (l=r)
 |[],[]=>rfl
 |[],_::_=>rfl
 |_::_,[]=>rfl
 | i :: l, j :: r => by
   show(bO (nD i) (nD j)&&d4 (l.map nD) (r.map nD))=_;rw[LU,Bo l r,RV];simp
def vg (l r:List Nat):bO (aw l) (aw r)=decide (l=r):=Bo l r
def Bn:∀l r:List (List Nat),d4 (l.map aw) (r.map aw)=decide (l=r)
 |[],[]=>rfl
 |[],_::_=>rfl
 |_::_,[]=>rfl
 | i :: l, j :: r => by
   show(bO (aw i) (aw j)&&d4 (l.map aw) (r.map aw))=_;rw[vg,Bn l r,RV];simp
noncomputable def ends (m:aP)(r:List Nat):List (List Nat):=(bq m).map (jz m r)
section
variable{P:Nat->Option Df}(h:HasB P){M:Mem}
include h
theorem ot (he:P 44=some {2,5,fm})(n:Nat)(hx:fU M x r)(hm:aL m)(hr:∀i∈r,i<m.deeds.length):ae (ah P (n+2) 44 [m.d,x] M) λd M'=>d=.tup ((ends m r).map aw)/\Sub M M':=by
 have bb:=gF h n (M:=M++[[]]) hm;have bl:=dj hm;refine aF he rfl ?_;simp[fm,bb];refine{rfl,?_};generalize hq:M.length=q;refine cF (λi Z M'=>M'[q]?=some (((bq m).take i).map λs=>aw (jz m r s))/\Sub M M'/\q<M'.length/\∃x3 x4,Z=[some m.d,some x,some (.cell q),x3,x4]) (λ_ _ _ _=>rfl) {by subst hq;simp,Sub.app,by subst hq;simp,none,none,rfl} ?_ ?_
 ·rintro i d Z M' hd ⟨e4,S4,hql,x3,x4,rfl⟩;rw[QL] at hd;cases e:(bq m)[i]? with
  |none=>rw[e] at hd;cases hd
  | some s =>
    rw[e] at hd;cases Qz hd;have hs:=oh s (QT e);refine{_,rfl,?_};simp[hx.is];refine cF (λj Z M2=>M2[q]?=some (((bq m).take i).map λs=>aw (jz m r s))/\Sub M M2/\q<M2.length/\∃x4,Z=[some m.d,some x,some (.cell q),some (aw (jz m (r.take j) s)),x4]) (λ_ _ _ e=>(hx.sub e.2.1).seq) ⟨e4,S4,hql,x4,rfl⟩ ?_ ?_
    ·rintro j dd Z M2 hj ⟨f4,T4,ql2,y4,rfl⟩;rw[QL] at hj;cases ej:r[j]? with
     |none=>rw[ej] at hj;cases hj
     | some k =>
       rw[ej] at hj;cases Qz hj;have hk:=hr k (QT ej);have hst:dG m (jz m (r.take j) s):=qZ hm (λx hx=>hr x (Si hx)) hs;have af:=tP h n (M:=M2) hm (gL hm hk) hst;refine{_,rfl,?_};simp[-ij,Kt,pb hk,af];exact{by rw[Qv ql2,f4,List.map_take],T4.trans Sub.app,`a,by rw[RM,ej];simp[pj,jz]}
    ·rintro Z M2 ⟨f4,T4,ql2,y4,rfl⟩;simp[f4];exact{Ss (show _<=50 by omega) `d,by rw[Q5 ql2,RM];simp[e],T4.setq `a,ql2}
 ·rintro Z M' ⟨e4,S4,hql,x3,x4,rfl⟩;rw[Qq,List.take_length] at e4;simp[e4,ends,SK,S4]
theorem Co (he:P 44=some {2,5,fm})(n:Nat)(hm:aL m)(hr:∀i∈r,i<m.deeds.length):ae (ah P (n+2) 44 [m.d,.lst (r.map nD)] M) λd M'=>d=.tup ((ends m r).map aw)/\Sub M M':=ot h he n .l hm hr
end
def oZ:∀s:List Nat,intsOf (s.map nD)=some (s.map λ(n:Nat)=>(n:Int))
 |[]=>rfl
 |a::s=>by show(intsOf (s.map nD)).map _=_;rw[oZ s];rfl
def wt (s:List Nat):isKey 77 (aw s)=true:=by
 show(intsOf (s.map nD)).isSome=true;rw[oZ];rfl
def AM:∀b:aR,jS (b.map aw)=some (b.map λs=>s.map λ(n:Nat)=>(n:Int))
 |[]=>rfl
 | s :: b => by
   show((intsOf (s.map nD)).bind λk=>(jS (b.map aw)).map (k::·))=_;rw[oZ,AM b];rfl
def lL (b:aR):isKey 78 (bD b)=true:=by
 show(jS (b.map aw)).isSome=true;rw[AM];rfl
def Fp (a b:aR):bO (bD a) (bD b)=decide (a=b):=Bn a b
section
variable{Z:Env}{M:Mem}{a b:GE}{k:D->Mem->Prop}
def jA {c:Int}(e:M[j]?=some (.int c::es))(hc:c=77\/c=78):bC M (aC j)=some (c,es):=by
 unfold bC;rw[if_pos (show 5000<=aC j from Sr _ _),show aC j-5000=j from RR _ _,e];exact if_pos hc
def lJ {α:Type}(f g:α->D)(l:List α)(x:D):cK (l.map λy=>.tup [f y,g y]) x=(l.find? λy=>bO (f y) x).map g:=by
 unfold cK;rw[List.find?_map,Option.map_map];rfl
def p6 {x:D}{o:Nat}{y d:D}(ha:a Z M=.ok (.fn o) M)(hb:b Z M=.ok y M)(e:getD M o y=some d):dX a b Z M=.ok d M:=by
 unfold dX;rw[ha];show(b Z M).bind _=_;rw[hb];show cm M (getD M o y)=_;rw[e];rfl
end
noncomputable def gq (m:aP)(d:a8):List D:=.int 77::(bq m).map λs=>.tup [aw s,aw (bW d s)]
section
variable{P:Nat->Option Df}{M:Mem}{m:aP}{d:a8}{j:Nat}
def oX (e:M[j]?=some (gq m d))(hm:aL m)(hs:dG m s):getD M (aC j) (aw s)=some (aw (bW d s)):=by
 unfold getD;rw[jA e (.inl rfl)];show(if isKey 77 (aw s)=true then cK ((bq m).map λs=>.tup [aw s,aw (bW d s)]) (aw s) else none)=_;rw[if_pos (wt s),lJ aw λs=>aw (bW d s)];have e2:((bq m).find? λy=>bO (aw y) (aw s))=some s:=by
  cases e3:(bq m).find? λy=>bO (aw y) (aw s) with
  |none=>exact absurd (Ia s) (List.find?_eq_none.mp e3 s (vh hm hs))
  | some y =>
    have:=List.find?_some e3;rw[vg] at this;rw[of_decide_eq_true this]
 rw[e2];rfl
def I8 (h152:P 152=some {2,2,fb})(n:Nat)(e:M[j]?=some (gq m d))(hm:aL m)(hl:b.length<=16)(hb:∀s∈b,dG m s):ah P (n+1) 152 [.fn (aC j),bD b] M=.ok (bD (b.map (bW d))) M:=by
 refine ak (aF h152 rfl ?_);simp only[fb,av,bS,b8,bV,eP,cq,eU,bg];refine{_,rfl,rfl,?_};refine eR (λx=>(getD M (aC j) x).getD .non) (aI `o) rfl ?_ ?_
 ·intro x hx;obtain⟨s,hs,rfl⟩:=QE.mp hx;refine{_,rfl,?_};rw[oX e hm (hb s hs)];exact p6 (x:=.non) rfl rfl (oX e hm (hb s hs))
 ·have e2:(b.map aw).map (λx=>(getD M (aC j) x).getD .non)=(b.map (bW d)).map aw:=by
   rw[Rx,Rx];refine SR λs hs=>?_;show(getD M (aC j) (aw s)).getD .non=_;rw[oX e hm (hb s hs)];rfl
  rw[e2];exact cu.mpr {aI `o,rfl,rfl}
end
def wb {α β:Type}{f:α->List β}:∀{l:List α},l.Nodup->(∀a,(f a).Nodup)->(∀a b x,a≠b->x∈f a->x∉f b)->(l.flatMap f).Nodup
 |[],_,_,_=>`s
 | a :: l, h, h1, h2 => by
   rw[List.flatMap_cons,Sk];rw[RF] at h;refine{h1 a,wb h.2 h1 h2,λx hx y hy e=>?_};subst e;obtain⟨b,hb,hx2⟩:=List.mem_flatMap.mp hy;exact h2 a b x (λz=>h.1 (z ▸ hb)) hx hx2
def wa (s:List Nat):∀{l:List Nat},l.Nodup->(l.map λx=>s++[x]).Nodup
 |[],_=>`s
 | a :: l, h => by
   rw[RF] at h;rw[RU,RF];refine{λz=>?_,wa s h.2};obtain⟨b,hb,e⟩:=QE.mp z;have e:b=a:=by simpa using e
   exact h.1 (e ▸ hb)
def vm (w:Nat):∀p,(dD w p).Nodup
 |0=>by unfold dD;simp
 | p + 1 => by
   unfold dD qX;refine wb (vm w p) (λs=>wa s List.nodup_range) λa b x hab hx hy=>?_;obtain⟨i,_,rfl⟩:=QE.mp hx;obtain⟨j,_,e⟩:=QE.mp hy;exact hab (List.append_inj_left' e rfl).symm
def xJ {α:Type}{l:List α}(h:l.Nodup){i j:Nat}{x:α}(hij:i<j)(hi:l[i]?=some x)(hj:l[j]?=some x):False:=by
 obtain⟨h1,e1⟩:=Qo.mp hi;obtain⟨h2,e2⟩:=Qo.mp hj;exact List.pairwise_iff_getElem.mp h i j h1 h2 hij (e1.trans e2.symm)
section
variable{Z:Env}{M:Mem}{k:D->Mem->Prop}{kl:List D->Mem->Prop}
def Hs {c:Int}(h:ae (w Z M) λw M=>ae (cL (cw tg g (List.replicate n none++Z)) w [.fn (aC M.length)] (M++[[.int c]])) λacc M=>∃d,acc=[d]/\k d M):ae (kU c n tg w g Z M) k:=by
 refine ba.mpr (aH h λw M h=>ba.mpr (aH h ?_));rintro _ M ⟨d,rfl,h⟩;exact h
def Li (h1:gk Z M=.ok x M)(h2:gv Z M=.ok y M)(e:bC M o=some q)(hk:isKey q.1 x=true)(hl:q.2.length<1000000)(h:kl [.fn o] (M.set (o-5000) (.int q.1::putD q.2 x y))):ae (jY gk gv Z [.fn o] M) kl:=by
 unfold jY;rw[h1];show ae ((gv Z M).bind _) kl;rw[h2];show ae (match bC M o with|some q=>if isKey q.1 x=true/\q.2.length<1000000 then Res.ok [D.fn o] (M.set (o-5000) (.int q.1::putD q.2 x y)) else .bad|none=>.bad) kl
 rw[e];show ae (if isKey q.1 x=true/\q.2.length<1000000 then Res.ok [D.fn o] (M.set (o-5000) (.int q.1::putD q.2 x y)) else .bad) kl;rw[if_pos ⟨hk,hl⟩];exact h
end
def qC (h:cK es x=none):putD es x y=es++[.tup [x,y]]:=by
 unfold putD;rw[h];rfl
section
variable{P:Nat->Option Df}{M:Mem}{m:aP}{d:a8}
def Cu (h:j=M.length):(M++[x]).set j y=M++[y]:=by
 subst h;rw[List.set_append_right _ _ (Qw _),Nat.sub_self];rfl
def AF {n:Nat}(h24:∀s M,dG m s->ah P (n+2) 24 [d.d,aw s] M=.ok (aw (bW d s)) M)(hm:aL m)(hk:k (.fn (aC M.length)) (M++[gq m d])) :
 ae (kU 77 1 (.one 0) (bR (aa 2)) (jY (aa 0) (ai 24 (ah P (n+2)) #[aa 1,aa 0])) [some d.d,y,some (.lst ((bq m).map aw))] M) k:=by
 refine Hs ?_;simp only[eU,bg];refine{_,rfl,rfl,?_};have bl:=dj hm;have nd:=vm m.words m.places;refine fz (λi acc M'=>acc=[.fn (aC M.length)]/\M'=M++[.int 77::((bq m).take i).map λs=>.tup [aw s,aw (bW d s)]]) (λ_ _ _ _=>rfl) {rfl,`s} ?_ ?_
 ·rintro i x acc M' hd ⟨rfl,rfl⟩;rw[QL] at hd;cases e:(bq m)[i]? with
  |none=>rw[e] at hd;cases hd
  | some s =>
    rw[e] at hd;have hd:=Qz hd;subst hd;have hs:=oh s (QT e);simp only[cw,ba,iH];refine{_,rfl,?_};have em:(M++[.int 77::((bq m).take i).map λs=>D.tup [aw s,aw (bW d s)]])[M.length]?=some (.int 77::((bq m).take i).map λs=>D.tup [aw s,aw (bW d s)]):=`s
    refine Li rfl ((aS (ag rfl (ag rfl rfl))).trans (h24 s _ hs)) (jA em (.inl rfl)) (wt s) `o {rfl,?_}
    have none:cK (((bq m).take i).map λs=>.tup [aw s,aw (bW d s)]) (aw s)=Option.none:=by
     rw[lJ aw λs=>aw (bW d s)];rw[List.find?_eq_none.mpr];rfl;intro t ht;rw[vg];intro z;have z:=of_decide_eq_true z;subst z;obtain⟨j,hj⟩:=List.getElem?_of_mem ht;have hj2:j<i:=by
      have:=(Qo.mp hj).1;simp at this;omega
     rw[List.getElem?_take_of_lt hj2] at hj;exact xJ nd hj2 hj e
    rw[qC none];rw[show aC M.length-5000=M.length from RR _ _,Cu rfl,RM,e];simp
 ·rintro acc M' ⟨rfl,rfl⟩;rw[Qq,RD (Qw _)];exact{_,rfl,hk}
end
section
variable{Z:Env}{M:Mem}
def Ic (e:a Z M=.ok x M):fw (.one i) a Z M=.ok (.next (Z.set i (some x))) M:=by
 unfold fw;rw[e];rfl
def fE (e:s Z M=.ok xs M):cb f c s Z M=c f xs M:=by
 unfold cb;rw[e]
end
noncomputable def eC (m:aP)(L:Nat):D:=.lst ((List.range m.deeds.length).map λi=>.tup [nD (cst m i),.fn (aC (L+i))])
def rf (e:m.deeds[i]?=some d):cE m i=d:=by
 unfold cE;rw[Rw,e];rfl
section
variable{P:Nat->Option Df}{M:Mem}{m:aP}
def Cq (hb:HasB0 P)(hr:j9 P)(h15:P 15=some {1,6,cW})(h151:P 151=some {1,2,eQ})(n:Nat)(hm:aL m):ah P (n+10) 151 [m.d] M=.ok (eC m M.length) (M++m.deeds.map (gq m)):=by
 refine ak (aF h151 rfl ?_);refine bN (Ic ((fE (ag rfl rfl)).trans (qw hb h15 n hm))) ?_;simp only[av,bS,eP,eU,eY,bg,dm];refine{_,rfl,_,rfl,rfl,?_};have d6:=hm.d6;refine comp_map (λi acc M'=>acc=(List.range i).map (λi=>.tup [nD (cst m i),.fn (aC (M.length+i))])/\M'=M++(m.deeds.take i).map (gq m)) (aI `o) (λ_ _ _ _=>rfl) {rfl,`s} ?_ ?_
 ·rintro i x acc M' hd _ ⟨rfl,rfl⟩;rw[QL] at hd;cases e:m.deeds[i]? with
  |none=>rw[e] at hd;cases hd
  | some d =>
    rw[e] at hd;have hd:=Qz hd;subst hd;have hi:=(Qo.mp e).1;have hok:=hm.ok d (QT e);refine{_,rfl,?_};simp only[i6,bV,eY,bg,qb,dm,cq];refine{_,rfl,_,rfl,nD d.cost,iK,?_};refine AF (λs M hs=>Gi hr (n+7) hm hok hs) hm {aI (n:=2) `d,?_,?_}
    ·have l:(M++(m.deeds.take i).map (gq m)).length=M.length+i:=by simp;omega
     rw[l,List.range_succ,Q0];have c:cst m i=d.cost:=by unfold cst;rw[rf e]
     rw[<- c];rfl
    ·rw[RM,e];simp
 ·rintro acc M' _ ⟨rfl,rfl⟩;rw[Qq,RD (Qw _)];exact cu.mpr {aI `o,rfl,rfl}
end
section
variable{Z ρ':Env}{M M':Mem}{a b d:GE}{t rest:GS}{kf:Fl->Mem->Prop}
def eM (e:t Z M=.ok (.next ρ') M')(h:ae (rest ρ' M') kf):ae (bw t rest Z M) kf:=by
 rw[av,e];exact h
def A6 (ha:a Z M=.ok x M)(hb:b Z M=.ok (.fn o) M)(e:inD M o x=some r):gZ n a b Z M=.ok (.bl (n != r)) M:=by
 unfold gZ;rw[ha];show(b Z M).bind _=_;rw[hb];show(match inD M o x with|some r=>Res.ok (D.bl (n != r)) M|none=>.bad)=_
 rw[e]
def wL (ha:a Z M=.ok (.fn o) M)(e:bC M o=some q):jX a Z M=.ok (nD q.2.length) M:=by
 unfold jX;rw[ha];show(match bC M o with|some q=>Res.ok (D.int q.2.length) M|none=>.bad)=_
 rw[e]
def HA (hd:d Z M=.ok z M)(ha:a Z M=.ok (.fn o) M)(hb:b Z M=.ok x M)(e:bC M o=some q)(hk:isKey q.1 x=true)(hl:q.2.length<1000000):fL a b d Z M=.ok (.next Z) (M.set (o-5000) (.int q.1::putD q.2 x z)):=by
 unfold fL;rw[hd];show(a Z M).bind _=_;rw[ha];show(b Z M).bind _=_;rw[hb];show(match bC M o with|some q=>if isKey q.1 x=true/\q.2.length<1000000 then Res.ok (Fl.next Z) (M.set (o-5000) (.int q.1::putD q.2 x z)) else .bad|none=>.bad)=_
 rw[e];exact if_pos ⟨hk,hl⟩
def LY (ha:a Z M=.ok (.cell j) M)(hd:d Z M=.ok z M)(e:M[j]?=some ds)(hl:ds.length<sz):fo a d Z M=.ok (.next Z) (M.set j (ds++[z])):=by
 unfold fo;rw[ha];show(d Z M).bind _=_;rw[hd];show(match M[j]? with|some ds=>if ds.length<sz then Res.ok (Fl.next Z) (M.set j (ds++[z])) else .bad|none=>.bad)=_
 rw[e];exact if_pos hl
def mT {i j:Int}(h1:a Z M=.ok (.int i) M)(h2:b Z M=.ok (.int j) M):aj (ax .gt a b) Z M=.ok (decide (j<i)) M:=by
 refine dw (iu.mpr (eD.mpr ?_));rw[h1,aV,h2,aV];exact{_,rfl,_,rfl,rfl,rfl}
def Nm {i:Int}(ha:a Z M=.ok (.int i) M)(h1:z.length<=1000)(h2:y.length<=1000)(h3:i.natAbs<2^64):uO z y a Z M=.ok (.str (z++(toString i:Str)++y)) M:=by
 unfold uO;rw[ha];exact if_pos ⟨h1,h2,h3⟩
end
abbrev fh:=List (aR×Nat×List Nat)
def qU (I:Nat->Env->Mem->Prop)(X:Fl->Mem->Prop)(hX:∀fl M,X fl M->∀Z,fl≠.next Z)(hw:∀i Z M,I i Z M->w M=some ds)(hwX:∀fl M,X fl M->w M=some ds)(h0:I 0 Z M)
 (hs:∀i d Z M,ds[i]?=some d->I i Z M->∃ρ1,bX t d Z=some ρ1/\ae (gb ρ1 M) λfl M=>(∃ρ',fl=.next ρ'/\I (i+1) ρ' M)\/X fl M) (hk:∀Z M,I ds.length Z M->kf (.next Z) M) (hx:∀fl M,X fl M->kf fl M) :
 ae (cL (iw t gb) w (.next Z) M) kf:=by
 refine fz (λi fl M=>(∃Z,fl=.next Z/\I i Z M)\/X fl M) (λi fl M h=>h.elim (λ⟨Z,_,h⟩=>hw i Z M h) λh=>hwX fl M h) (.inl ⟨Z,rfl,h0⟩) ?_ ?_
 ·rintro i d fl M hd (⟨Z,rfl,hI⟩|hR)
  ·obtain⟨ρ1,e,h⟩:=hs i d Z M hd hI;simp only[iw,ba,iH,e];exact⟨ρ1,rfl,h⟩
  ·cases fl with
   |next Z=>exact absurd rfl (hX _ _ hR Z)
   |ret d=>exact .inr hR
   |exc x Z=>exact .inr hR
 ·rintro fl M (⟨Z,rfl,hI⟩|hR)
  ·exact hk Z M hI
  ·exact hx fl M hR
structure NW (p:Nat) (E0:fh) (S:aR->Prop) (N:fh):Prop where
 nd:((E0++N).map (·.1)).Nodup
 fr:∀x∈N,S x.1/\x.2.1=p/\x.2.2.length<=p
 al:∀b,S b->b∈(E0++N).map (·.1)
noncomputable def sI (p:Nat)(E0:fh)(S:aR->Prop):Prop:=∃N:fh,((E0++N).map (·.1)).Nodup/\(∀x∈N,S x.1/\x.2.1=p)/\255<(E0++N).length
def sI.mono (h:sI p E0 S)(hs:∀b,S b->S' b):sI p E0 S':=let⟨N,h1,h2,h3⟩:=h;{N,h1,λx hx=>{hs _ (h2 x hx).1,(h2 x hx).2},h3}
def NW.old (h:NW p E0 S N)(hs:∀x,S' x↔S x\/x=b)(hb:∃e∈E0++N,e.1=b):NW p E0 S' N:=
 {h.nd,λx hx=>{(hs _).mpr (.inl (h.fr x hx).1),(h.fr x hx).2},λc hc=>by
  rcases(hs c).mp hc with z|z
  ·exact h.al c z
  ·obtain⟨e,he,z2⟩:=hb;rw[z,<- z2];exact Rt he}
def NW.new (h:NW p E0 S N)(hs:∀x,S' x↔S x\/x=b)(hb:∀e∈E0++N,e.1≠b)(hr:r.length<=p):NW p E0 S' (N++[(b,p,r)]):=by
 refine{?_,λx hx=>?_,λc hc=>?_}
 ·rw[<- RH,Q0,Sk];refine{h.nd,`s,λx hx y hy e=>?_}
  obtain⟨z,hz,rfl⟩:=QE.mp hx;have hy:y=b:=by simpa using hy
  exact hb z hz (e.trans hy)
 ·rcases Rq.mp hx with z|z
  ·exact{(hs _).mpr (.inl (h.fr x z).1),(h.fr x z).2}
  ·obtain rfl:=QF.mp z;exact{(hs _).mpr (.inr rfl),rfl,hr}
 ·rw[<- RH,Q0];rcases(hs c).mp hc with z|z
  ·exact RE _ (h.al c z)
  ·exact Q4 _ (by rw[z];exact QF.mpr rfl)
noncomputable def vE (M:Mem)(fk:Nat)(x:D)(A:List aR):Prop:=x=.lst (A.map bD)\/∃c,x=.cell c/\c≠fk/\M[c]?=some (A.map bD)
def wJ:∀{k i:Nat}{d:D},(fy k ds)[i]?=some d->∃x,ds[i]?=some x/\d=.tup [nD (k+i),x]:=by
 induction ds with
 |nil=>intro k i d h;simp[fy] at h
 | cons a ds ih =>
   intro k i d h;cases i with
   |zero=>cases h;exact⟨a,rfl,rfl⟩
   | succ i =>
     obtain⟨x,h1,h2⟩:=ih h;exact{x,h1,by rw[h2,SI,Nat.add_comm 1 i]}
def lT:∀{ds:List D}{k:Nat},(fy k ds).length=ds.length
 |[],_=>rfl
 |_::ds,k=>by show(fy (k+1) ds).length+1=ds.length+1;rw[lT]
noncomputable def jc (m:aP)(p:Nat)(Ls:Nat->List aR)(i:Nat):List aR:=if cst m i<=p then Ls (p-cst m i) else []
noncomputable def jK (m:aP)(p:Nat)(Ls:Nat->List aR)(i:Nat)(b:aR):Prop:=∃i',i'<i/\b∈(jc m p Ls i').map (bf m i')
noncomputable def pr (e:aR×Nat×List Nat):aR×Nat:=(e.1,e.2.1)
section
variable{m:aP}{p:Nat}{E0 N:fh}{Ls:Nat->List aR}
def gG (E:fh):(E.map pr).map (·.1)=E.map (·.1):=by rw[Rx];rfl
def u6 (hm:aL m)(hLs:∀q,q<p->∀b,b∈Ls q↔a7 m q b)(b:aR):jK m p Ls m.deeds.length b↔∃i b',i<m.deeds.length/\cst m i<=p/\a7 m (p-cst m i) b'/\b=bf m i b':=by
 constructor
 ·rintro⟨i,hi,h⟩;have c:=g7 hm hi;obtain⟨b',hb,rfl⟩:=QE.mp h;unfold jc at hb;split at hb
  ·next hc=>exact{i,b',hi,hc,(hLs _ `a b').mp hb,rfl}
  ·exact nomatch hb
 ·rintro⟨i,b',hi,hc,hl,rfl⟩;have c:=g7 hm hi;refine{i,hi,Rt ?_};unfold jc;rw[if_pos hc];exact(hLs _ `a b').mpr hl
def oB (hm:aL m)(hp:0<p)(hLs:∀q,q<p->∀b,b∈Ls q↔a7 m q b)(h0:cz m p (E0.map pr))(nd:((E0++N).map (·.1)).Nodup)(hx:x∈N)(hc:jK m p Ls m.deeds.length x.1):a7 m p x.1:=by
 refine(gR hm hp).mpr {(u6 hm hLs _).mp hc,λq hq hl=>?_};have z:=h0.all q x.1 hq hl;have z2:x.1∈E0.map (·.1):=by rw[<- gG];exact Rt z
 rw[Q0,Sk] at nd;exact nd.2.2 _ z2 _ (Rt hx) rfl
def Hc (hm:aL m)(hp:0<p)(hLs:∀q,q<p->∀b,b∈Ls q↔a7 m q b)(h0:cz m p (E0.map pr))(nw:NW p E0 (jK m p Ls m.deeds.length) N):cz m (p+1) ((E0++N).map pr)/\∀b,b∈N.map (·.1)↔a7 m p b:=by
 have fl:=λx hx=>oB hm hp hLs h0 nw.nd hx (nw.fr x hx).1;have back:∀b,a7 m p b->∃x∈N,x.1=b:=λb hl=>by
  have hc:=(u6 hm hLs b).mpr ((gR hm hp).mp hl).1;obtain⟨x,hx,e⟩:=QE.mp (nw.al b hc);rcases Rq.mp hx with z|z
  ·have s:=h0.sound (pr x) (Rt z);have s1:=e ▸ s.1;have:=xS s1 hl;omega
  ·exact⟨x,z,e⟩
 refine{{by rw[gG];exact nw.nd,λy hy=>?_,λq b hq hl=>?_},λb=>{λh=>?_,λh=>?_}}
 ·obtain⟨x,hx,rfl⟩:=QE.mp hy;rcases Rq.mp hx with z|z
  ·have s:=h0.sound (pr x) (Rt z);exact{s.1,RP s.2}
  ·have e:x.2.1=p:=(nw.fr x z).2.1;exact{by show a7 m x.2.1 x.1;rw[e];exact fl x z,by show x.2.1<p+1;omega}
 ·rcases R5 q p with z|z
  ·rw[Q0];exact RE _ (h0.all q b z hl)
  ·have:q=p:=`a
   subst this;obtain⟨x,hx,rfl⟩:=back b hl;rw[Q0];refine Q4 _ (QE.mpr {x,hx,?_});show(x.1,x.2.1)=_;rw[(nw.fr x hx).2.1]
 ·obtain⟨x,hx,rfl⟩:=QE.mp h;exact fl x hx
 ·obtain⟨x,hx,rfl⟩:=back b h;exact Rt hx
def CN (hm:aL m)(hp:0<p)(hLs:∀q,q<p->∀b,b∈Ls q↔a7 m q b)(h0:cz m p (E0.map pr))(ov:sI p E0 (jK m p Ls m.deeds.length)):kA m (p+1):=by
 obtain⟨N,nd,fr,hl⟩:=ov;refine{(E0++N).map pr,by rw[gG];exact nd,λy hy=>?_,by rw[Qq];exact hl}
 obtain⟨x,hx,rfl⟩:=QE.mp hy;rcases Rq.mp hx with z|z
 ·have s:=h0.sound (pr x) (Rt z);exact{s.1,RP s.2}
 ·have e:x.2.1=p:=(fr x z).2;exact{by show a7 m x.2.1 x.1;rw[e];exact oB hm hp hLs h0 nd z (fr x z).1,by show x.2.1<p+1;omega}
def kA.mono (h:kA m p)(hq:p<=q):kA m q:=let⟨l,h1,h2,h3⟩:=h;{l,h1,λx hx=>{(h2 x hx).1,QS (h2 x hx).2 hq},h3}
end
noncomputable def lsN (Ls:Nat->List aR)(p:Nat)(A:List aR):Nat->List aR:=λq=>if q=p then A else Ls q
def yR {c:GT}{b:GS}{kf:Fl->Mem->Prop}(I:Nat->Env->Mem->Prop)
 (hs:∀k Z M,I k Z M->ae (c Z M) λv M1=>(v=false->kf (.next Z) M1)/\(v=true->∃k',k=k'+1/\ae (b Z M1) λfl M2=>(∃ρ',fl=.next ρ'/\I k' ρ' M2)\/((∀ρ',fl≠.next ρ')/\kf fl M2))) :
 ∀(n k:Nat) (Z:Env) (M:Mem),k<n->I k Z M->ae (kC c b n Z M) kf:=by
 intro n;induction n with
 |zero=>intro k Z M h;exact absurd h (R4 _)
 | succ n ih =>
   intro k Z M h hI;unfold kC;refine ba.mpr (aH (hs k Z M hI) λv M1 ⟨h1,h2⟩=>?_);cases v with
   |false=>exact h1 rfl
   | true =>
     obtain⟨k',rfl,h3⟩:=h2 rfl;rw[if_pos rfl];refine ba.mpr (aH h3 λfl M2 h4=>?_);rcases h4 with⟨ρ',rfl,h5⟩|⟨h5,h6⟩
     ·exact ih k' ρ' M2 `a h5
     ·cases fl with
      |next ρ'=>exact absurd rfl (h5 ρ')
      |ret d=>exact h6
      |exc x ρ'=>exact h6
def oK {c:GT}{b:GS}{Z:Env}{M:Mem}{kf:Fl->Mem->Prop}(I:Nat->Env->Mem->Prop)
 (hs:∀k Z M,I k Z M->ae (c Z M) λv M1=>(v=false->kf (.next Z) M1)/\(v=true->∃k',k=k'+1/\ae (b Z M1) λfl M2=>(∃ρ',fl=.next ρ'/\I k' ρ' M2)\/((∀ρ',fl≠.next ρ')/\kf fl M2))) {k:Nat} (hk:k<100000) (h:I k Z M):ae (f7 c b Z M) kf:=yR I hs 100000 k Z M hk h
section
variable{M:Mem}{m:aP}{L0 lv fk p:Nat}{E0:fh}{lvs:List D}{Ls:Nat->List aR}{Z:Env}
def Ku {x:D}{A:List aR}(h:vE M fk x A):oG M x=some (!A.isEmpty):=by
 rcases h with rfl|⟨c,rfl,_,e⟩
 ·show some (!(A.map bD).isEmpty)=_;rw[List.isEmpty_map]
 ·show(M[c]?).map (λxs=>!xs.isEmpty)=_;rw[e];show some (!(A.map bD).isEmpty)=_;rw[List.isEmpty_map]
def vM {M:Mem}{g:Nat->Bool}:∀{l:List D}{k:Nat},(∀i x,l[i]?=some x->oG M x=some (g (k+i)))->jL M l=some ((List.range l.length).map λi=>g (k+i))
 |[],_,_=>rfl
 | a :: l, k, h => by
   show(oG M a).bind (λb=>(jL M l).map (b::·))=_;have h0:=h 0 a rfl;have h1:=vM (l:=l) (k:=k+1) (M:=M) (g:=g) λi x hx=>by
    have:=h (i+1) x hx;rw[this,SI,Nat.add_comm 1 i]
   rw[h0,h1,RY,List.range_succ_eq_map,RU,Rx];show some (g (k+0)::_)=_
   congr 2
   refine SR λi _=>?_;show g (k+1+i)=g (k+(i+1));rw[SI,Nat.add_comm 1 i]
end
section
variable{Z:Env}{M M':Mem}{kf:Fl->Mem->Prop}
def Ib (e:a Z M=.ok x M'):fw (.one i) a Z M=.ok (.next (Z.set i (some x))) M':=by
 unfold fw;rw[e];rfl
def hV (e:a Z M=.ok x M'):ay (.one i) a Z M=.ok (.next (Z.set i (some x))) M':=by
 unfold ay;rw[e];rfl
def Ie (ha:a Z M=.ok (.cell j) M)(h:fC (d Z M) (λz M1=>∃ds,M1[j]?=some ds/\ds.length<sz/\kf (.next Z) (M1.set j (ds++[z]))) (λx M1=>kf (.exc x Z) M1)):ae (nH a d Z M) kf:=by
 unfold nH;rw[ha];show ae (tq (λz M=>match M[j]? with|some ds=>if ds.length<sz then Res.ok (Fl.next Z) (M.set j (ds++[z])) else .bad|none=>.bad) Z (d Z M)) kf
 cases e:d Z M with
 |bad=>rw[e] at h;exact h.elim
 |err x M1=>rw[e] at h;exact h
 | ok z M1 =>
   rw[e] at h;obtain⟨ds,e1,hl,h⟩:=h;show ae (match M1[j]? with|some ds=>if ds.length<sz then Res.ok (Fl.next Z) (M1.set j (ds++[z])) else .bad|none=>.bad) kf
   rw[e1];show ae (if ds.length<sz then Res.ok (Fl.next Z) (M1.set j (ds++[z])) else .bad) kf
   rw[if_pos hl];exact h
end
noncomputable def dz {α:Type}(k:α->aR)(v:α->D)(E:List α):List D:=.int 78::E.map λe=>.tup [bD (k e),v e]
section
variable{α:Type}{k:α->aR}{v:α->D}{E:List α}{M:Mem}{j:Nat}{b:aR}{x:α}
def nX:cK (E.map λe=>.tup [bD (k e),v e]) (bD b)=(E.find? λe=>decide (k e=b)).map v:=by
 refine(lJ (λe=>bD (k e)) v E (bD b)).trans ?_
 congr 2
 funext x
 exact Fp _ b
def g6 (e:M[j]?=some (dz k v E)):bC M (aC j)=some (78,E.map λe=>.tup [bD (k e),v e]):=jA e (.inr rfl)
def yj (e:M[j]?=some (dz k v E)):inD M (aC j) (bD b)=some (E.any λe=>decide (k e=b)):=by
 unfold inD;rw[g6 e];show(if isKey 78 (bD b)=true then some (cK _ (bD b)).isSome else none)=_;rw[if_pos (lL b),nX,Sx]
 congr 1
 rw[RV,List.find?_isSome,R7]
def Lz (hn:∀e∈E,k e≠b):putD (E.map λe=>.tup [bD (k e),v e]) (bD b) z=(E.map λe=>.tup [bD (k e),v e])++[.tup [bD b,z]]:=by
 refine qC ?_;rw[nX,List.find?_eq_none.mpr];rfl;exact λx hx e=>hn x hx (of_decide_eq_true e)
def nY:∀{E:List α},(E.map k).Nodup->∀{x:α},x∈E->(E.find? λe=>decide (k e=k x))=some x
 |[],_,_,h=>nomatch h
 | a :: E, nd, x, h => by
   rw[RU,RF] at nd;rw[List.find?_cons];by_cases e:k a=k x
   ·rw[decide_eq_true e];rcases Rf.mp h with z|z
    ·rw[z]
    ·exact absurd (by rw[e];exact Rt z) nd.1
   ·rw[decide_eq_false e];rcases Rf.mp h with z|z
    ·exact absurd (by rw[z]) e
    ·exact nY nd.2 z
def uT (e:M[j]?=some (dz k v E))(nd:(E.map k).Nodup)(hx:x∈E):getD M (aC j) (bD (k x))=some (v x):=by
 unfold getD;rw[g6 e];show(if isKey 78 (bD (k x))=true then cK _ (bD (k x)) else none)=_;rw[if_pos (lL _),nX,nY nd hx];rfl
def Hz {a b d:GE}{x z:D}(hd:d Z M=.ok z M1)(ha:a Z M1=.ok (.fn o) M1)(hb:b Z M1=.ok x M1)(e:bC M1 o=some q)(hk:isKey q.1 x=true)(hl:q.2.length<1000000):fL a b d Z M=.ok (.next Z) (M1.set (o-5000) (.int q.1::putD q.2 x z)):=by
 unfold fL;rw[hd];show(a Z M1).bind _=_;rw[ha];show(b Z M1).bind _=_;rw[hb];show(match bC M1 o with|some q=>if isKey q.1 x=true/\q.2.length<1000000 then Res.ok (Fl.next Z) (M1.set (o-5000) (.int q.1::putD q.2 x z)) else .bad|none=>.bad)=_
 rw[e];exact if_pos ⟨hk,hl⟩
def pw {M1:Mem}{a b d:GE}(hd:d Z M=.ok (v x) M1)(ha:a Z M1=.ok (.fn (aC j)) M1)(hb:b Z M1=.ok (bD (k x)) M1)(e:M1[j]?=some (dz k v E))(hl:E.length<1000000)(hn:∀e∈E,k e≠k x):fL a b d Z M=.ok (.next Z) (M1.set j (dz k v (E++[x]))):=by
 rw[Hz hd ha hb (g6 e) (lL _) (by rw[Qq];exact hl),show aC j-5000=j from RR _ _,Lz hn]
 unfold dz;rw[Q0];rfl
def LZ (h:(true != E.any λe=>decide (k e=b))=true):∀e∈E,k e≠b:=λe he z=>by
 rw[show(E.any λe=>decide (k e=b))=true from R7.mpr {e,he,decide_eq_true z}] at h;cases h
def Ig (h:(true != E.any λe=>decide (k e=b))=false):∃e∈E,k e=b:=by
 cases z:(E.any λe=>decide (k e=b)) with
 | true =>
   obtain⟨e,he,y⟩:=R7.mp z;exact{e,he,of_decide_eq_true y}
 |false=>rw[z] at h;cases h
end
noncomputable def fT (m:aP)(r:List Nat)(b:aR)(q:Nat):Prop:=(∀i∈r,i<m.deeds.length)/\ends m r=b/\sZ m r=q
section
variable{m:aP}{r:List Nat}{b:aR}{q i:Nat}
def fT.nil:fT m [] (bq m) 0:={(λ_ h=>nomatch h),List.map_id _,rfl}
def fT.snoc (h:fT m r b q)(hi:i<m.deeds.length):fT m (r++[i]) (bf m i b) (q+cst m i):=by
 refine{λk hk=>?_,?_,?_}
 ·rcases Rq.mp hk with z|z
  ·exact h.1 k z
  ·rw[QF.mp z];exact hi
 ·rw[<- h.2.1];unfold ends bf;rw[Rx];exact SR λs _=>pj r [i] s
 ·rw[<- h.2.2];show((r++[i]).map _).sum=_;rw[Q0,List.sum_append];rfl
def u1 (hm:aL m):∀r:List Nat,(∀i∈r,i<m.deeds.length)->r.length<=sZ m r
 |[],_=>RB _
 | a :: r, h => by
   have c:=(g7 hm (h a QN)).1;have t:=u1 hm r λi hi=>h i (QJ _ hi);show r.length+1<=cst m a+sZ m r;omega
def fT.len (hm:aL m)(h:fT m r b q):r.length<=q:=h.2.2 ▸ u1 hm r h.1
end
abbrev F3:=List (aR×Nat×Nat)
noncomputable def vC (e:aR×Nat×Nat):D:=.tup [nD e.2.1,.cell e.2.2]
noncomputable def ko (E:F3):List D:=dz (·.1) vC E
noncomputable def un (E:F3):fh:=E.map λe=>(e.1,e.2.1,[])
def qt (E:F3):(un E).map (·.1)=E.map (·.1):=by unfold un;rw[Rx];rfl
def mw (E N:F3):un (E++N)=un E++un N:=Q0
def IC (E:F3):(un E).length=E.length:=Qq _
def yY:(∃e∈un E,e.1=b)↔∃e∈E,e.1=b:=by
 constructor
 ·rintro⟨x,hx,rfl⟩;obtain⟨e,he,rfl⟩:=QE.mp hx;exact⟨e,he,rfl⟩
 ·rintro⟨e,he,rfl⟩;exact{_,Rt he,rfl}
structure kB (B0:Nat) (M0 M:Mem) (m:aP) (lv fk:Nat) (E:F3) (L:List aR):Prop where
 f:M[fk]?=some (ko E)
 fl:fk<M0.length
 ll:lv<M0.length
 lo:B0<=M0.length
 l:M[M0.length]?=some (L.map bD)
 r:∀e∈E,(∃r,M[e.2.2]?=some (r.map nD)/\fT m r e.1 e.2.1)/\e.2.2≠fk/\e.2.2≠M0.length/\e.2.2≠lv/\B0<=e.2.2
 k:aZ fk M0 M
 nd:(E.map (·.1)).Nodup
noncomputable def um (c:Call):GS:=#v[ay (.one 10) (ai 152 c #[aa 7,aa 9]),aN (aj (gZ true (aa 10) (aa 2))) #v[fL (aa 2) (aa 10) (bH #[aa 3,au true .add (aq (dX (aa 2) (aa 9)) (gI 1)) (bA false #[aa 5])]),fo (aa 4) (aa 10),aN (aj (ax .gt (jX (aa 2)) (gI 255))) #v[f9 8 #[uO "rows have more than " " behaviours" (gI 255)]] aD] aD]
def dM {M:Mem}(e:M[k]?=some x):k<M.length:=(Qo.mp e).1
def gE (ea:a Z M=.ok x M1)(es:s Z M1=.ok xs M2):dP a s Z M=.ok (x::xs) M2:=by
 unfold dP;rw[ea];show(s Z M1).bind _=_;rw[es];rfl
def og (ha:a Z M=.ok x M)(hb:b Z M=.ok y M):au k o a b Z M=fY k o x y M:=by
 unfold au;rw[ha];show(b Z M).bind _=_;rw[hb];rfl
def iE (e:s Z M=.ok xs M1)(hl:xs.length<=100):bH s Z M=.ok (.tup xs) M1:=by
 unfold bH;rw[e];exact if_pos (aI `a)
section
variable{P:Nat->Option Df}{M0 M:Mem}{m:aP}{lk lv fk p i B0:Nat}{E:F3}{L:List aR}{b:aR}{x0 x1 x6 x8 x10:Option D}
def LP (h152:P 152=some {2,2,fb})(n:Nat)(hm:aL m)(hE:E.length<=255)(s:kB B0 M0 M m lv fk E L)(hL:L.length<=255)(ek:M[lk]?=some (gq m (cE m i)))(hp:p<=900)(hi:i<m.deeds.length)
 (hl:b.length<=16) (hb:∀s∈b,dG m s) (hin:∃e∈E,e.1=b/\e.2.1+cst m i=p) :
 ae (um (ah P (n+1)) [x0,x1,some (.fn (aC fk)),some (nD p),some (.cell M0.length),some (nD i),x6,some (.fn (aC lk)),x8,some (bD b),x10] M) λfl M'=>
  ((∃e∈E,e.1=bf m i b)/\M'=M/\fl=.next [x0,x1,some (.fn (aC fk)),some (nD p),some (.cell M0.length),some (nD i),x6,some (.fn (aC lk)),x8,some (bD b),some (bD (bf m i b))])\/
  ((∀ e ∈ E, e.1 ≠ bf m i b) /\ ∃ c, kB B0 M0 M' m lv fk (E ++ [(bf m i b, p, c)]) (L ++ [bf m i b]) /\
    ((E.length < 255 /\ fl = .next [x0, x1, some (.fn (aC fk)), some (nD p), some (.cell M0.length), some (nD i), x6, some (.fn (aC lk)), x8, some (bD b), some (bD (bf m i b))]) \/
     (E.length=255/\∃Z,fl=.exc (.exc 8 none) Z))):=by
 refine bN (bZ (x:=bD (bf m i b)) ((aS (ag rfl (ag rfl rfl))).trans (I8 h152 n ek hm hl hb))) ?_;refine bE (bo (A6 rfl rfl (yj s.f))) (λhc=>?_) λhc=>.inl {Ig hc,rfl,rfl};have hno:=LZ hc;obtain⟨e,he,eb,ep⟩:=hin;obtain⟨⟨r,er,ro⟩,_⟩:=s.r e he;have hr:=ro.len hm;have hlen:=dM s.l;have ed:=uT s.f s.nd he;rw[eb] at ed;have e1:(M++[(r++[i]).map nD])[fk]?=some (ko E):=by rw[Qv (dM s.f)];exact s.f
 have ev:bH #[aa 3,au true .add (aq (dX (aa 2) (aa 9)) (gI 1)) (bA false #[aa 5])] [x0,x1,some (.fn (aC fk)),some (nD p),some (.cell M0.length),some (nD i),x6,some (.fn (aC lk)),x8,some (bD b),some (bD (bf m i b))] M=.ok (vC (bf m i b,p,M.length)) (M++[(r++[i]).map nD]):=by
  refine iE (gE rfl (gE ?_ rfl)) (QZ rfl);refine(og (bx (p6 (x:=.non) rfl rfl ed) rfl rfl) (ux (ag rfl rfl) (QZ rfl))).trans ?_;show(match M[e.2.2]?,(some [nD i]:Option (List D)) with|some x,some y=>bh true (x++y) M|_,_=>.bad)=_
  rw[er];show(if (r.map nD++[nD i]).length<=sz then _ else _)=_;rw[if_pos (aI `o),Q0];rfl
 refine eM (M':=(M++[(r++[i]).map nD]).set fk (ko (E++[(bf m i b,p,M.length)]))) (pw ev rfl rfl e1 `a hno) ?_
 have nf:=QY s.fl;have eL1:((M++[(r++[i]).map nD]).set fk (ko (E++[(bf m i b,p,M.length)])))[M0.length]?=some (L.map bD):=by rw[Qx nf,Qv hlen];exact s.l
 refine eM (LY rfl rfl eL1 (by rw[Qq];exact Ss hL `d)) ?_
 generalize hM':((M++[(r++[i]).map nD]).set fk (ko (E++[(bf m i b,p,M.length)]))).set M0.length (L.map bD++[bD (bf m i b)])=M';have old:∀{j:Nat}{x:List D},j≠fk->j≠M0.length->M[j]?=some x->M'[j]?=some x:=λ{j x} h1 h2 e=>by
  rw[<- hM',Qx (RC h2),Qx (RC h1),Qv (dM e)];exact e
 have s2:kB B0 M0 M' m lv fk (E++[(bf m i b,p,M.length)]) (L++[bf m i b]):=by
  refine{?_,s.fl,s.ll,s.lo,?_,λe' he'=>?_,{?_,λj hj n=>?_},?_}
  ·rw[<- hM',Qx (RC nf),Q5 (by simp;exact RP (dM s.f))]
  ·rw[<- hM',Q5 `o,Q0];rfl
  ·rcases Rq.mp he' with z|z
   ·obtain⟨⟨r',er',ro'⟩,k1,k2,k3⟩:=s.r e' z;exact{{r',old k1 k2 er',ro'},k1,k2,k3}
   ·obtain rfl:=QF.mp z;refine{{r++[i],?_,?_},Rz (dM s.f),Rz hlen,Rz (Nat.lt_trans s.ll hlen),QH s.lo (Sy hlen)}
    ·rw[<- hM',Qx (QY hlen),Qx (QY (dM s.f))];simp
    ·have:=ro.snoc hi;rw[ep,eb] at this;exact this
  ·rw[<- hM'];have:=s.k.len;simp;omega
  ·rw[<- hM',Qx `a,Qx (RC n),Qv `a];exact s.k.at' j hj n
  ·rw[Q0,Sk];exact{s.nd,`s,λx hx y hy z=>by
    obtain⟨w,hw,rfl⟩:=QE.mp hx;have hy:y=bf m i b:=by simpa using hy
    exact hno w hw (z.trans hy)}
 refine bE (mT (wL rfl (g6 s2.f)) rfl) (λh=>?_) λh=>?_
 ·have h:=of_decide_eq_true h;simp only[av,Cy];refine bV.mpr ?_;rw[Nm rfl `d `d `d,aV]
  refine{aI `d,.inr {hno,_,s2,.inr {?_,_,rfl}}}
  simp at h;omega
 ·have h:=of_decide_eq_false h;refine .inr {hno,_,s2,.inl {?_,rfl}};simp at h;omega
end
section
variable{P:Nat->Option Df}{M0 M:Mem}{m:aP}{lk lv fk p i B0:Nat}{E0:F3}{A:List aR}{x8:D}{S:aR->Prop}{x0 x1 x6 x9 x10:Option D}
def wg (h:vE M0 fk x8 A)(k:aZ fk M0 M):cj M x8=some (A.map bD):=by
 rcases h with rfl|⟨c,rfl,hc,e⟩
 ·rfl
 ·exact k.get e hc
def Hl (h152:P 152=some {2,2,fb})(n:Nat)(hm:aL m)(hi:i<m.deeds.length)(ek:M0[lk]?=some (gq m (cE m i)))(hk:lk≠fk)(hA:vE M0 fk x8 A)(hAE:∀b∈A,∃e∈E0,e.1=b/\e.2.1+cst m i=p)(hok:∀b∈A,b.length<=16/\∀s∈b,dG m s)(hp:p<=900)
 (s:kB B0 M0 M m lv fk (E0++N) (N.map (·.1))) (h:NW p (un E0) S (un N)) (hl:(E0++N).length<=255)
 (k1:∀M' N' y9 y10,kB B0 M0 M' m lv fk (E0++N') (N'.map (·.1))->NW p (un E0) (λb=>S b\/b∈A.map (bf m i)) (un N')->(E0++N').length<=255->kf (.next [x0,x1,some (.fn (aC fk)),some (nD p),some (.cell M0.length),some (nD i),x6,some (.fn (aC lk)),some x8,y9,y10]) M')
 (k2:∀Z M',aZ fk M0 M'->sI p (un E0) (λb=>S b\/b∈A.map (bf m i))->kf (.exc (.exc 8 none) Z) M') :
 ae (bU (.one 9) (bR (aa 8)) (um (ah P (n+1))) [x0,x1,some (.fn (aC fk)),some (nD p),some (.cell M0.length),some (nD i),x6,some (.fn (aC lk)),some x8,x9,x10] M) kf:=by
 simp only[dH,eU,bg];refine{_,rfl,by rcases hA with rfl|⟨c,rfl,_⟩<;>rfl,?_}
 refine qU (ds:=A.map bD) (λj Z M'=>∃N' y9 y10,kB B0 M0 M' m lv fk (E0++N') (N'.map (·.1))/\NW p (un E0) (λb=>S b\/b∈(A.take j).map (bf m i)) (un N')/\(E0++N').length<=255/\Z=[x0,x1,some (.fn (aC fk)),some (nD p),some (.cell M0.length),some (nD i),x6,some (.fn (aC lk)),some x8,y9,y10])
  (λfl M'=>(∃Z,fl=.exc (.exc 8 none) Z)/\aZ fk M0 M'/\sI p (un E0) (λb=>S b\/b∈A.map (bf m i))) ?_ ?_ ?_ {N,x9,x10,s,?_,hl,rfl} ?_ ?_ ?_
 ·rintro fl M' ⟨⟨Z,rfl⟩,_⟩ ρ' z;cases z
 ·rintro j Z M' ⟨N',_,_,s',_⟩;exact wg hA s'.k
 ·rintro fl M' ⟨_,k,_⟩;exact wg hA k
 ·exact{h.nd,λx hx=>{.inl (h.fr x hx).1,(h.fr x hx).2},λb hb=>hb.elim (h.al b) λz=>by simp at z}
 ·rintro j x Z M' hd ⟨N',y9,y10,s',nw,hl',rfl⟩;rw[QL] at hd;cases e:A[j]? with
  |none=>rw[e] at hd;cases hd
  | some b =>
    rw[e] at hd;have hd:=Qz hd;subst hd;have hb:=QT e;refine{_,rfl,?_};obtain⟨e0,he0,eb,ep⟩:=hAE b hb;have hset:∀x,(S x\/x∈(A.take (j+1)).map (bf m i))↔((S x\/x∈(A.take j).map (bf m i))\/x=bf m i b):=λx=>by
     rw[RM,e];simp[or_assoc]
    have hsub:∀x,(S x\/x∈(A.take (j+1)).map (bf m i))->(S x\/x∈A.map (bf m i)):=λx hx=>hx.imp id λz=>by
     obtain⟨y,hy,rfl⟩:=QE.mp z;exact Rt (Si hy)
    refine aH (LP h152 n hm hl' s' (by rw[Qq];simp at hl';omega) (s'.k.get ek hk) hp hi (hok b hb).1 (hok b hb).2 {e0,RE _ he0,eb,ep}) ?_
    rintro fl M' (⟨hin,rfl,rfl⟩|⟨hno,c,s2,hh⟩)
    ·exact .inl {_,rfl,N',_,_,s',nw.old hset (by rw[<- mw];exact yY.mpr hin),hl',rfl}
    ·have nw2:=nw.new hset (r:=[]) (λx hx z=>by
      rw[<- mw] at hx;obtain⟨e2,he2,z2⟩:=yY.mp ⟨x,hx,z⟩;exact hno e2 he2 z2) (RB _)
     rw[show un N'++[(bf m i b,p,[])]=un (N'++[(bf m i b,p,c)]) from(mw N' [(bf m i b,p,c)]).symm] at nw2;rw[RH,show N'.map (·.1)++[bf m i b]=(N'++[(bf m i b,p,c)]).map (·.1) from by rw[Q0];rfl] at s2
     rcases hh with⟨hlt,rfl⟩|⟨heq,Z,rfl⟩
     ·exact .inl {_,rfl,_,_,_,s2,nw2,by simp at hlt ⊢;omega,rfl}
     ·exact .inr {{_,rfl},s2.k,_,nw2.nd,λx hx=>{hsub _ (nw2.fr x hx).1,(nw2.fr x hx).2.1},by rw[<- mw,IC];simp at heq ⊢;omega}
 ·rintro Z M' ⟨N',y9,y10,s',nw,hl',rfl⟩;rw[Qq,RD (Qw _)] at nw;exact k1 M' N' y9 y10 s' nw hl'
 ·rintro fl M' ⟨⟨Z,rfl⟩,k,ov⟩;exact k2 Z M' k ov
end
structure l9 (B0:Nat) (M:Mem) (m:aP) (L0 lv fk:Nat) (E:F3) (lvs:List D) (p:Nat) (Ls:Nat->List aR):Prop where
 f:M[fk]?=some (ko E)
 l:M[lv]?=some lvs
 ne:lv≠fk
 len:lvs.length=p
 lvl:∀q x,lvs[q]?=some x->vE M fk x (Ls q)
 led:∀i,i<m.deeds.length->M[L0+i]?=some (gq m (cE m i))/\L0+i≠fk/\L0+i≠lv
 lvn:∀(q c:Nat),lvs[q]?=some (D.cell c)->c≠lv
 row:∀e∈E,(∃r,M[e.2.2]?=some (r.map nD)/\fT m r e.1 e.2.1)/\e.2.2≠fk/\e.2.2≠lv/\B0<=e.2.2
 lo:B0<=fk
 lss:∀q,q<p->∀b,b∈Ls q↔a7 m q b
 all:cz m p ((un E).map pr)
 few:E.length<=255
noncomputable def EG (c:Call):GS:=#v[ay (.one 8) (fX (aj (ax .le (aa 6) (aa 3))) (aq (aa 1) (au false .sub (aa 3) (aa 6))) (bA false bY)),bU (.one 9) (bR (aa 8)) (um c)]
section
variable{P:Nat->Option Df}{M:Mem}{m:aP}{L0 lv fk p B0:Nat}{E0:F3}{lvs:List D}{Ls:Nat->List aR}
def Cm (hbn:∀c,bn c=#v[ay (.one 3) (aJ .len #[aa 1]),ay (.one 4) (bA true bY),bU (.two 5 [6,7]) (gr (aa 0)) (EG c),aM (aa 4)])(h152:P 152=some {2,2,fb})(hnx:P nx=some {3,11,bn})(n:Nat)(hm:aL m)(hp:p<=900)(s:l9 B0 M m L0 lv fk E0 lvs p Ls) :
 fC (ah P (n+2) nx [eC m L0,.cell lv,.fn (aC fk)] M) (λd M'=>d=.cell M.length/\∃N,kB B0 M M' m lv fk (E0++N) (N.map (·.1))/\NW p (un E0) (jK m p Ls m.deeds.length) (un N)/\(E0++N).length<=255)
  (λx M'=>x=.exc 8 none/\sI p (un E0) (jK m p Ls m.deeds.length)/\aZ fk M M'):=by
 refine pA hnx rfl ?_;show ae (bn (ah P (n+1)) [some (eC m L0),some (.cell lv),some (.fn (aC fk)),none,none,none,none,none,none,none,none] M) _;rw[hbn];have hf:=dM s.f;have hlv:=dM s.l;have nd0:(E0.map (·.1)).Nodup:=by have:=s.all.nd;rw[gG,qt] at this;exact this
 have el:aJ .len #[aa 1] [some (eC m L0),some (.cell lv),some (.fn (aC fk)),none,none,none,none,none,none,none,none] M=.ok (nD p) M:=by
  refine ak (b8.mpr ?_);rw[ag rfl rfl,aV];show ae (match M[lv]? with|some xs=>Res.ok (D.int xs.length) M|none=>.bad) _
  rw[s.l];exact{by show D.int (lvs.length:Int)=_;rw[s.len],rfl}
 refine bN (bZ el) ?_;refine eM rfl ?_;rw[av];simp only[dH,yV,bg];refine{_,rfl,rfl,?_};have start:kB B0 M (M++[[]]) m lv fk (E0++[]) []:=by
  rw[Rv];refine{by rw[Qv hf];exact s.f,hf,hlv,QH s.lo (Sy hf),`s,λe he=>?_,aZ.app,nd0}
  obtain⟨⟨r,er,ro⟩,h1,h2⟩:=s.row e he;have:=dM er;exact{{r,by rw[Qv this];exact er,ro},h1,QY this,h2}
 have hmem:∀q,q<p->∀b∈Ls q,(∃e∈E0,e.1=b/\e.2.1=q)/\b.length<=16/\∀s∈b,dG m s:=λq hq b hb=>by
  have lb:=(s.lss q hq b).mp hb;have ok:=ju hm lb.1;refine{?_,by rw[ok.1];exact dj hm,ok.2}
  have:=s.all.all q b hq lb;unfold un at this;rw[Rx] at this;obtain⟨e,he,z⟩:=QE.mp this;cases z;exact⟨e,he,rfl,rfl⟩
 refine qU (λi Z M'=>∃N y5 y6 y7 y8 y9 y10,kB B0 M M' m lv fk (E0++N) (N.map (·.1))/\NW p (un E0) (jK m p Ls i) (un N)/\(E0++N).length<=255/\Z=[some (eC m L0),some (.cell lv),some (.fn (aC fk)),some (nD p),some (.cell M.length),y5,y6,y7,y8,y9,y10])
  (λfl M'=>(∃Z,fl=.exc (.exc 8 none) Z)/\aZ fk M M'/\sI p (un E0) (jK m p Ls m.deeds.length)) ?_ (λ_ _ _ _=>rfl) (λ_ _ _=>rfl) {[],none,none,none,none,none,none,start,?_,?_,rfl} ?_ ?_ ?_
 ·rintro fl M' ⟨⟨Z,rfl⟩,_⟩ ρ' z;cases z
 ·exact{by rw[show un []=[] from rfl,Rv,qt];exact nd0,(λx hx=>nomatch hx),λb ⟨i,hi,_⟩=>absurd hi (R4 _)}
 ·rw[Rv];exact s.few
 ·rintro i x Z M' hx ⟨N,y5,y6,y7,y8,y9,y10,s',nw,hl,rfl⟩;obtain⟨x2,hx2,rfl⟩:=wJ hx;rw[QL] at hx2;have hi:i<m.deeds.length:=by
   have:=(Qo.mp hx).1;rw[lT] at this;simpa using this
  rw[SU hi] at hx2;cases hx2;rw[Nat.zero_add];refine{_,rfl,?_};obtain⟨hk1,hk2,_⟩:=s.led i hi;have cok:=g7 hm hi;have hset:∀b,(jK m p Ls i b\/b∈(jc m p Ls i).map (bf m i))↔jK m p Ls (i+1) b:=λb=>by
   constructor
   ·rintro(⟨j,hj,h⟩|h)
    ·exact{j,RP hj,h}
    ·exact{i,Nat.lt_succ_self _,h}
   ·rintro⟨j,hj,h⟩;rcases R5 j i with z|z
    ·exact .inl ⟨j,z,h⟩
    ·have:j=i:=`a
     subst this;exact .inr h
  have hx8:∃x8,fX (aj (ax .le (aa 6) (aa 3))) (aq (aa 1) (au false .sub (aa 3) (aa 6))) (bA false bY) [some (eC m L0),some (.cell lv),some (.fn (aC fk)),some (nD p),some (.cell M.length),some (nD i),some (nD (cst m i)),some (.fn (aC (L0+i))),y8,y9,y10] M'=.ok x8 M'/\vE M fk x8 (jc m p Ls i):=by
   have hle:aj (ax .le (aa 6) (aa 3)) [some (eC m L0),some (.cell lv),some (.fn (aC fk)),some (nD p),some (.cell M.length),some (nD i),some (nD (cst m i)),some (.fn (aC (L0+i))),y8,y9,y10] M'=.ok (decide ((cst m i:Int)<=(p:Int))) M':=by
    exact dw (iu.mpr (eD.mpr (bg.mpr {_,rfl,bg.mpr {_,rfl,_,rfl,_,rfl,rfl,rfl}})))
   by_cases hc:cst m i<=p
   ·have hq:p-cst m i<lvs.length:=by rw[s.len];omega
    refine{lvs[p-cst m i],jg hle (λ_=>?_) (λz=>absurd `a (of_decide_eq_false z)),?_}
    ·refine bx (y:=nD (p-cst m i)) rfl ?_ ?_
     ·refine ak (jZ.mpr (bg.mpr {_,rfl,bg.mpr {_,rfl,IY.mpr {?_,rfl}}}))
      congr 1;omega
     ·show(M'[lv]?).bind _=_;rw[s'.k.get s.l s.ne];show((cv lvs.length ((p-cst m i:Nat):Int)).bind λj=>lvs[j]?)=_;rw[dS hq];exact QG hq
    ·have:=s.lvl _ _ (QG hq);unfold jc;rw[if_pos hc];exact this
   ·refine{.lst [],jg hle (λz=>absurd (of_decide_eq_true z) `a) (λ_=>ux rfl `d),?_}
    unfold jc;rw[if_neg hc];exact .inl rfl
  obtain⟨x8,e8,l8⟩:=hx8;refine bN (bZ e8) ?_;rw[av];have hAm:∀b∈jc m p Ls i,cst m i<=p/\b∈Ls (p-cst m i):=λb hb=>by
   unfold jc at hb;split at hb
   ·next hc=>exact⟨hc,hb⟩
   ·exact nomatch hb
  refine Hl h152 n hm hi hk1 hk2 l8 (λb hb=>?_) (λb hb=>?_) hp s' nw hl (λM2 N' z9 z10 s2 nw' hl'=>?_) λZ M2 k2 ov=>?_
  ·obtain⟨hc,h2⟩:=hAm b hb;obtain⟨e,he,eb,eq⟩:=(hmem _ `a b h2).1
   exact{e,he,eb,`a}
  ·obtain⟨hc,h2⟩:=hAm b hb;exact(hmem _ `a b h2).2
  ·refine .inl {_,rfl,N',_,_,_,_,_,_,s2,?_,hl',rfl};exact{nw'.nd,λx hx=>{(hset _).mp (nw'.fr x hx).1,(nw'.fr x hx).2},λb hb=>nw'.al b ((hset b).mpr hb)}
  ·refine .inr {{_,rfl},k2,ov.mono λb hb=>?_};obtain⟨j,hj,h⟩:=(hset b).mp hb;exact{j,`a,h}
 ·rintro Z M' ⟨N,y5,y6,y7,y8,y9,y10,s',nw,hl,rfl⟩;rw[lT,Qq,R0] at nw;exact bK.mpr (c9 rfl ⟨rfl,N,s',nw,hl⟩)
 ·rintro fl M' ⟨⟨Z,rfl⟩,k,ov⟩;exact⟨rfl,ov,k⟩
end
section
variable{M M':Mem}{m:aP}{L0 lv fk p B0:Nat}{E0 N:F3}{lvs:List D}{Ls:Nat->List aR}{Z:Env}
def l9.next (hm:aL m)(hp:0<p)(s:l9 B0 M m L0 lv fk E0 lvs p Ls)(s':kB B0 M M' m lv fk (E0++N) (N.map (·.1)))(nw:NW p (un E0) (jK m p Ls m.deeds.length) (un N))(hl:(E0++N).length<=255) :
 l9 B0 (M'.set lv (lvs++[.cell M.length])) m L0 lv fk (E0++N) (lvs++[.cell M.length]) (p+1) (lsN Ls p (N.map (·.1))):=by
 obtain⟨h1,h2⟩:=Hc hm hp s.lss s.all nw;rw[qt] at h2;rw[<- mw] at h1;have ml:=QS s'.ll s'.k.len;have old:∀{c:Nat}{x:List D},c≠fk->c≠lv->M[c]?=some x->(M'.set lv (lvs++[.cell M.length]))[c]?=some x:=λn1 n2 e=>by
  rw[Qx (RC n2)];exact s'.k.get e n1
 refine{?_,Q5 ml,s.ne,by simp[s.len],λq x hx=>?_,λi hi=>?_,λq c hc=>?_,λe he=>?_,s.lo,λq hq b=>?_,h1,hl}
 ·rw[Qx s.ne];exact s'.f
 ·rcases R5 q p with z|z
  ·rw[Qv (by rw[s.len];exact z)] at hx
   unfold lsN;rw[if_neg `a]
   rcases s.lvl q x hx with y|⟨c,y,n1,e⟩
   ·exact .inl y
   ·exact .inr {c,y,n1,old n1 (s.lvn q c (y ▸ hx)) e}
  ·have hq:q=p:=by
    have:=(Qo.mp hx).1;simp[s.len] at this;omega
   subst hq;rw[Ro (by rw[s.len];exact Qw _),s.len,Nat.sub_self] at hx
   cases hx;unfold lsN;rw[if_pos rfl];refine .inr {_,rfl,Rz s'.fl,?_};rw[Qx (QY s'.ll)];exact s'.l
 ·obtain⟨e1,e2,e3⟩:=s.led i hi;exact{old e2 e3 e1,e2,e3}
 ·rcases R5 q p with z|z
  ·rw[Qv (by rw[s.len];exact z)] at hc
   exact s.lvn q c hc
  ·have hq:q=p:=by
    have:=(Qo.mp hc).1;simp[s.len] at this;omega
   subst hq;rw[Ro (by rw[s.len];exact Qw _),s.len,Nat.sub_self] at hc
   cases hc;exact Rz s'.ll
 ·obtain⟨⟨r,er,ro⟩,n1,_,n3,n4⟩:=s'.r e he;exact{{r,by rw[Qx (RC n3)];exact er,ro},n1,n3,n4}
 ·unfold lsN;split
  ·next z=>rw[z];exact h2 b
  ·next z=>exact s.lss q `a b
def Bu (s:l9 B0 M m L0 lv fk E0 lvs p Ls)(hp:p<=900)(hi:Z[i]?.getD none=some (.cell lv)):∃b:Bool,aj (qT (fq false true false (aa i) (d3 (gI 3)) gN)) Z M=.ok b M/\(b=false->∀q,q<p->p<=q+3->Ls q=[])/\(b=true->∃q,q<p/\p<=q+3/\Ls q≠[]):=by
 have es:fq false true false (aa i) (d3 (gI 3)) gN Z M=.ok (.lst (lvs.drop (p-3))) M:=by
  refine ak (qa.mpr (bg.mpr {_,hi,qb.mpr (dm.mpr {3,rfl,dm.mpr {rfl,rfl,?_}})}));show ae (match M[lv]? with|some xs=>(match aU xs.length 0 (.int (-3)),aU xs.length xs.length .non with|some l,some h=>bh false (cut xs l h) M|_,_=>.bad)|none=>.bad) _
  rw[s.l];show ae (bh false (cut lvs (-3+(lvs.length:Int)).toNat lvs.length) M) _;have hl:=s.len;have e1:(-3+(lvs.length:Int)).toNat=p-3:=`a
  have e2:cut lvs (p-3) lvs.length=lvs.drop (p-3):=by
   exact RD `s
  rw[e1,e2];exact cu.mpr {aI `o,rfl,rfl}
 refine{((List.range (lvs.drop (p-3)).length).map λj=>!(Ls (p-3+j)).isEmpty).any id,?_,λh q hq hq2=>?_,λh=>?_}
 ·refine bo ?_;unfold qT;rw[es];show(match jL M (lvs.drop (p-3)) with|some bs=>Res.ok (D.bl (bs.any id)) M|none=>.bad)=_
  rw[vM (g:=λq=>!(Ls q).isEmpty) λj x hx=>?_];rw[List.getElem?_drop] at hx;exact Ku (s.lvl _ x hx)
 ·have z:=List.any_eq_false.mp h;have h1:=z (!(Ls q).isEmpty) (QE.mpr {q-(p-3),?_,?_})
  ·cases e:(Ls q) with
   |nil=>rfl
   |cons a l=>rw[e] at h1;exact absurd rfl h1
  ·rw[Su,List.length_drop,s.len];omega
  ·rw[show p-3+(q-(p-3))=q by omega]
 ·obtain⟨x,hx,hb⟩:=R7.mp h;obtain⟨j,hj,rfl⟩:=QE.mp hx;rw[Su,List.length_drop,s.len] at hj;refine{p-3+j,`a,`a,λz=>?_}
  rw[z] at hb;cases hb
def NN {c:Int}(hc:c=77\/c=78)(h1:gk Z (M++[[D.int c]])=.ok x (M++[[D.int c]]))(h2:gv Z (M++[[D.int c]])=.ok y (M++[D.int c]::X))(hk:isKey c x=true):wF c gk gv Z M=.ok (.fn (aC M.length)) (M++[D.int c,D.tup [x,y]]::X):=by
 unfold wF;rw[h1];show(gv Z (M++[[D.int c]])).bind _=_;rw[h2];have e:bC (M++[D.int c]::X) (aC M.length)=some (c,[]):=jA `s hc
 show(match bC (M++[D.int c]::X) (aC M.length) with|some q=>if isKey q.1 x=true/\q.2.length<1000000 then Res.ok (D.fn (aC M.length)) ((M++[D.int c]::X).set (aC M.length-5000) (.int q.1::putD q.2 x y)) else .bad|none=>.bad)=_
 rw[e];show(if isKey c x=true/\0<1000000 then Res.ok (D.fn (aC M.length)) ((M++[D.int c]::X).set (aC M.length-5000) (.int c::putD [] x y)) else .bad)=_;rw[if_pos {hk,`d},show aC M.length-5000=M.length from RR _ _,List.set_append_right _ _ (Qw _),Nat.sub_self]
 rfl
end
noncomputable def sF:Option Nat->D
 |none=>.non
 |some b=>nD b
noncomputable def AllIn (m:aP):Option Nat->List (aR×Nat)->Prop
 |some b,A=>cz m (b+1) A
 |none,A=>∃p,cz m p A/\∀q,p<=q->∀b,¬ a7 m q b
noncomputable def fG (m:aP):Option Nat->Prop
 |some b=>kA m (b+1)
 |none=>∃p,kA m p
noncomputable def vA (m:aP)(B0:Nat)(M:Mem)(E:F3):Prop:=∀e∈E,(∃r,M[e.2.2]?=some (r.map nD)/\fT m r e.1 e.2.1)/\B0<=e.2.2
section
variable{P:Nat->Option Df}{M:Mem}{m:aP}{bd:Option Nat}
def zJ (hbn:∀c,bn c=#v[ay (.one 3) (aJ .len #[aa 1]),ay (.one 4) (bA true bY),bU (.two 5 [6,7]) (gr (aa 0)) (EG c),aM (aa 4)])
 (hbr:∀c,br c=#v[fw (.one 2) (cb 151 c #[aa 0]),ay (.one 3) (aJ .tuple #[ai 15 c #[aa 0]]),ay (.one 4) (wF 78 (aa 3) (bH #[gI 0,bA true bY])),ay (.one 5) (bA true #[bA false #[aa 3]]),f7 (eV (aj (qT (fq false true false (aa 5) (d3 (gI 3)) gN))) (dY (aj (ax .isN (aa 1) gN)) (aj (ax .le (aJ .len #[aa 5]) (aa 1))))) #v[nH (aa 5) (cb nx c #[aa 2,aa 5,aa 4])],aM (aa 4)])
 (hb:HasB0 P) (hr:j9 P) (h15:P 15=some {1,6,cW}) (h151:P 151=some {1,2,eQ}) (h152:P 152=some {2,2,fb}) (hnx:P nx=some {3,11,bn}) (hrc:P rc=some {2,6,br}) (n:Nat) (hm:aL m) (hbd:∀b,bd=some b->b<=70) :
 fC (ah P (n+11) rc [m.d,sF bd] M) (λd M'=>∃fk E,d=.fn (aC fk)/\M.length<=fk/\M'[fk]?=some (ko E)/\vA m M.length M' E/\AllIn m bd ((un E).map pr)/\E.length<=255/\Sub M M') (λx M'=>x=.exc 8 none/\fG m bd/\Sub M M'):=by
 refine pA hrc rfl ?_;show ae (br (ah P (n+10)) [some m.d,some (sF bd),none,none,none,none] M) _;rw[hbr];refine eM (Ib ((fE (ag rfl rfl)).trans (Cq hb hr h15 h151 n hm))) ?_;have et:aJ .tuple #[ai 15 (ah P (n+10)) #[aa 0]] [some m.d,some (sF bd),some (eC m M.length),none,none,none] (M++m.deeds.map (gq m))=.ok (bD (bq m)) (M++m.deeds.map (gq m)):=by
  refine ak (b8.mpr ?_);rw[ag ((aS (ag rfl rfl)).trans (qw hb h15 (n+1) hm)) rfl,aV];exact⟨rfl,rfl⟩
 refine eM (hV et) ?_;generalize hM1:M++m.deeds.map (gq m)=M1;have ev:bH #[gI 0,bA true bY] [some m.d,some (sF bd),some (eC m M.length),some (bD (bq m)),none,none] (M1++[[D.int 78]])=.ok (.tup [.int 0,.cell (M1.length+1)]) (M1++[D.int 78]::[[]]):=by
  refine iE (gE rfl (gE ?_ rfl)) (QZ rfl);show Res.ok (D.cell (M1++[[D.int 78]]).length) ((M1++[[D.int 78]])++[[]])=_;rw[Rb,RH];rfl
 refine eM (hV (NN (.inr rfl) rfl ev (lL _))) ?_;generalize hM2:M1++[D.int 78,D.tup [bD (bq m),D.tup [D.int 0,D.cell (M1.length+1)]]]::[[]]=M2;refine eM rfl ?_;have l1:M1.length=M.length+m.deeds.length:=by rw[<- hM1];simp
 have l2:M2.length=M1.length+2:=by rw[<- hM2];simp
 have s1:Sub M (M2++[[.lst [bD (bq m)]]]):=by rw[<- hM2,<- hM1,RH,RH];exact Sub.app
 have start:l9 M.length (M2++[[.lst [bD (bq m)]]]) m M.length M2.length M1.length [(bq m,0,M1.length+1)] [.lst [bD (bq m)]] 1 (λ_=>[bq m]):=by
  refine{?_,`s,`a,rfl,λq x hx=>?_,λi hi=>?_,λq c hc=>?_,?_,`a,λq hq b=>?_,{by simp[un],λx hx=>?_,λq b hq hl=>?_},QZ rfl}
  ·rw[Qv `a,<- hM2,Ro (Qw _),Nat.sub_self];rfl
  ·cases q with
   |zero=>cases hx;exact .inl rfl
   |succ q=>simp at hx
  ·refine{?_,`a,`a}
   rw[Qv `a,<- hM2,Qv `a,<- hM1,Ro `a]
   rw[RR,QL,QG hi];rw[<- rf (QG hi)];rfl
  ·cases q with
   |zero=>cases hc
   |succ q=>simp at hc
  ·intro e he;obtain rfl:=QF.mp he;refine{{[],?_,fT.nil},by show M1.length+1≠M1.length;omega,by show M1.length+1≠M2.length;omega,by show M.length<=M1.length+1;omega}
   rw[Qv (by show M1.length+1<M2.length;omega),<- hM2,Ro (by show M1.length<=M1.length+1;omega)]
   rw[RR];rfl
  ·have:q=0:=`a
   subst this;rw[eW hm];exact QF
  ·have hx:=QF.mp hx;subst hx;exact{(eW hm).mpr rfl,Nat.zero_lt_one}
  ·have:q=0:=`a
   subst this;rw[(eW hm).mp hl];exact QF.mpr rfl
 rw[av];refine oK (λk Z M'=>∃p E lvs Ls g,k=900-p/\1<=p/\(∀b,bd=some b->p<=b+1)/\g<=3/\p+2<=3*E.length+g/\(∀q,q<p->p<=q+g->Ls q=[])/\l9 M.length M' m M.length M2.length M1.length E lvs p Ls/\Sub M M'/\Z=[some m.d,some (sF bd),some (eC m M.length),some (bD (bq m)),some (.fn (aC M1.length)),some (.cell M2.length)]) ?_ `a {1,_,_,_,0,rfl,`a,λb _=>`a,`a,QZ rfl,λq h1 h2=>`a,start,s1,rfl}
 rintro k Z M' ⟨p,E,lvs,Ls,g,rfl,hp1,hp2,hg,hpg,hge,s,hsub,rfl⟩;have few:=s.few;have hp:p<=800:=`a
 obtain⟨b,e1,hempty,hfull⟩:=Bu s `a (Z:=[some m.d,some (sF bd),some (eC m M.length),some (bD (bq m)),some (.fn (aC M1.length)),some (.cell M2.length)]) (i:=5) rfl
 have el:aJ .len #[aa 5] [some m.d,some (sF bd),some (eC m M.length),some (bD (bq m)),some (.fn (aC M1.length)),some (.cell M2.length)] M'=.ok (nD p) M':=by
  refine ak (b8.mpr ?_);rw[ag rfl rfl,aV];show ae (match M'[M2.length]? with|some xs=>Res.ok (D.int xs.length) M'|none=>.bad) _
  rw[s.l];exact{by show D.int (lvs.length:Int)=_;rw[s.len],rfl}
 have e3:∃b2:Bool,dY (aj (ax .isN (aa 1) gN)) (aj (ax .le (aJ .len #[aa 5]) (aa 1))) [some m.d,some (sF bd),some (eC m M.length),some (bD (bq m)),some (.fn (aC M1.length)),some (.cell M2.length)] M'=.ok b2 M'/\(b2=false->∃B,bd=some B/\p=B+1)/\(b2=true->∀B,bd=some B->p<=B):=by
  cases bd with
  |none=>exact{true,rfl,(λz=>by cases z),λ_ B z=>by cases z}
  | some B =>
    have hB:=hp2 B rfl;refine{decide ((p:Int)<=(B:Int)),pU (x:=false) rfl ?_,λz=>{B,rfl,by have:=of_decide_eq_false z;omega},λz B' e=>by cases e;have:=of_decide_eq_true z;omega}
    refine dw (iu.mpr (eD.mpr ?_));rw[el,aV];exact bg.mpr {_,rfl,_,rfl,_,rfl,rfl,rfl}
 obtain⟨b2,e4,hno,hyes⟩:=e3;rw[rC e1 e4,aV];refine{λhv=>?_,λhv=>?_}
 ·have full:AllIn m bd ((un E).map pr):=by
   have stop:=λhb=>xT hm hp1 λq' h1 h2 c hl=>by
    have:=(s.lss q' h1 c).mpr hl;rw[hempty hb q' h1 h2] at this;exact nomatch this
   cases hb2:b2 with
   | false =>
     obtain⟨B,rfl,hpB⟩:=hno hb2;show cz m (B+1) _;rw[<- hpB];exact s.all
   | true =>
     rw[hb2,Bool.and_true] at hv;cases bd with
     |none=>exact{p,s.all,stop hv}
     |some B=>exact s.all.mono (by have:=hyes hb2 B rfl;omega) λq c hq _=>stop hv q hq c
  exact bK.mpr (c9 rfl {M1.length,E,rfl,`a,s.f,λe he=>{(s.row e he).1,(s.row e he).2.2.2},full,few,hsub})
 ·have hb1:=(Sj.mp hv).1;have hpb:=hyes (Sj.mp hv).2;have hg2:g<=2:=by
   obtain⟨q,h1,h2,h3⟩:=hfull hb1;rcases R5 g 3 with z|z
   ·omega
   ·exact absurd (hge q h1 `a) h3
  refine{900-(p+1),`a,?_}
  rw[av];have sn:=Cm hbn h152 hnx (n+8) hm `a s
  refine Ie rfl ?_;rw[fE (ag rfl (ag rfl (ag rfl rfl)))];have sN:∀{M3:Mem},aZ M1.length M' M3->Sub M M3:=λk=>{QH hsub.len k.len,λj hj=>(k.at' j (QS hj hsub.len) `a).trans (hsub.at' j hj)}
  cases e:ah P (n+8+2) nx [eC m M.length,.cell M2.length,.fn (aC M1.length)] M' with
  |bad=>rw[e] at sn;exact sn.elim
  | err x M3 =>
    rw[e] at sn;obtain⟨rfl,ov,kk⟩:=sn;refine .inr {(λ_ z=>nomatch z),rfl,?_,sN kk};have mn:=CN hm hp1 s.lss s.all ov;cases bd with
    |none=>exact{_,mn}
    |some B=>exact mn.mono (by have:=hpb B rfl;omega)
  | ok d M3 =>
    rw[e] at sn;obtain⟨rfl,N,s',nw,hl⟩:=sn;refine{lvs,s'.k.get s.l s.ne,by rw[s.len];exact Ss hp `d,?_}
    have sx:=s.next hm hp1 s' nw hl
    refine .inl {_,rfl,p+1,E++N,_,_,if N=[] then g+1 else 0,rfl,`a,λB hB=>by have:=hpb B hB;omega,?_,?_,λq h1 h2=>?_,sx,(sN s'.k).setq `a,rfl}
    ·split<;>omega
    ·cases N with
     |nil=>rw[if_pos rfl,Rv];omega
     |cons a N=>rw[if_neg `s,Rb,RY];omega
    ·unfold lsN;split
     ·next z=>
      cases N with
      |nil=>rfl
      |cons a N=>rw[if_neg `s] at h2;omega
     ·next z=>
      cases N with
      |nil=>rw[if_pos rfl] at h2;exact hge q `a `a
      |cons a N=>rw[if_neg `s] at h2;omega
end
structure Ox where
 place:Nat
 num:Nat
 back:Bool
noncomputable def Ox.d (s:Ox):D:=.tup [nD s.place,nD s.num,.bl s.back]
def sg (f:D->Bool)(g:D->D)(hz:ds.length<=sz)(hw:w M=some ds)
 (hs:∀d∈ds,∃ρ1,bX tg d ρ0=some ρ1/\gc ρ1 M=.ok (f d) M/\(f d=true->ge ρ1 M=.ok (g d) M)) (hk:kl ((ds.filter f).map g) M):ae (cL (cw tg (gY gc (bp ge)) ρ0) w [] M) kl:=by
 refine fz (λi acc M'=>M'=M/\acc=((ds.take i).filter f).map g) (λi acc M' h=>by rw[h.1];exact hw) ⟨rfl,rfl⟩ ?_ ?_
 ·rintro i d acc M' hd ⟨rfl,rfl⟩;obtain⟨ρ1,e1,e2,e3⟩:=hs d (QT hd);have hi:i<ds.length:=(Qo.mp hd).1;simp only[cw,e1,ug,Res.bind_ok,gY,e2];rw[RM,hd];cases q:f d with
  | false =>
    simp[q]
  | true =>
    rw[if_pos rfl];have len:(((ds.take i).filter f).map g).length<=i:=by
     rw[Qq];exact QH (R3 _ _) `o
    simp only[bp,e3 q,Res.bind_ok];rw[if_pos `a]
    simp[q]
 ·rintro acc M' ⟨rfl,rfl⟩;simpa using hk
def Kv {a b:Int}(h:mJ a x b y=true):a<=b:=by
 unfold mJ at h;split at h
 ·next e=>exact Int.le_of_eq (eq_of_beq e)
 ·exact Int.le_of_lt (of_decide_eq_true h)
def Kw {a b:Int}(h:mJ a x b y=false):b<=a:=by
 unfold mJ at h;split at h
 ·next e=>exact Int.le_of_eq (eq_of_beq e).symm
 ·exact Int.not_lt.mp (of_decide_eq_false h)
def wX (ks:List (Int×List Int)):∀n:Nat,argBest (mK ks) n<=n/\∀j,j<=n->(ks.getD (argBest (mK ks) n) (0,[])).1<=(ks.getD j (0,[])).1
 |0=>{Qw _,λj hj=>by rw[Nat.le_zero.mp hj];exact Int.le_refl _}
 | n + 1 => by
   obtain⟨h1,h2⟩:=wX ks n;unfold argBest;cases e:mK ks (n+1) (argBest (mK ks) n) with
   | true =>
     refine{Qw _,λj hj=>?_};rcases Nat.lt_or_eq_of_le hj with hj|rfl
     ·exact Int.le_trans (Kv e) (h2 j (Nat.le_of_lt_succ hj))
     ·exact Int.le_refl _
   | false =>
     refine{Nat.le_succ_of_le h1,λj hj=>?_};rcases Nat.lt_or_eq_of_le hj with hj|rfl
     ·exact h2 j (Nat.le_of_lt_succ hj)
     ·exact Kw e
def Ah {α:Type}(v:α->D)(q:α->Int×List Int):∀{A:List α},(∀x∈A,rT M (v x)=some (q x))->qE M (A.map v)=some (A.map q)
 |[],_=>rfl
 | x :: A, h => by
   show(rT M (v x)).bind _=_;rw[h x QN];rw[Ah v q λy hy=>h y (QJ _ hy)];rfl
def Ha {α:Type}(v:α->D)(q:α->Int×List Int){A:List α}(ea:a Z M=.ok (.lst (A.map v)) M1)(hq:∀x∈A,rT M1 (v x)=some (q x)) :
 (A=[]/\lP a Z M=.ok .non M1)\/∃x∈A,lP a Z M=.ok (v x) M1/\∀y∈A,(q x).1<=(q y).1:=by
 have e:lP a Z M=.ok ((A.map v).getD (argBest (mK (A.map q)) ((A.map v).length-1)) .non) M1:=by
  unfold lP;rw[ea];show(match qE M1 (A.map v) with|some ks=>Res.ok ((A.map v).getD (argBest (mK ks) ((A.map v).length-1)) .non) M1|none=>.bad)=_
  rw[Ah v q hq]
 rw[e];cases hA:A with
 |nil=>exact .inl ⟨rfl,rfl⟩
 | cons z B =>
   refine .inr ?_;rw[<- hA];have hl:0<A.length:=by rw[hA];exact Nat.succ_pos _
   obtain⟨h1,h2⟩:=wX (A.map q) (A.length-1);have hi:argBest (mK (A.map q)) (A.length-1)<A.length:=`a
   rw[Qq];generalize argBest (mK (A.map q)) (A.length-1)=i at h1 h2 hi;refine{A[i],SA hi,by rw[Rw,QL,QG hi];rfl,λy hy=>?_}
   obtain⟨j,hj,rfl⟩:=List.getElem_of_mem hy;have:=h2 j `a
   rw[Rw,Rw,QL,QL,QG hi,QG hj] at this;exact this
section
variable{α:Type}{k:α->aR}{v:α->D}{E:List α}{M:Mem}{fk:Nat}
def KA (hj:Z[j]?.getD none=some (.fn (aC fk)))(ef:M[fk]?=some (dz k v E)):fg c8 (aa j) Z M=.ok (dW (aC fk) E.length c8) M/\dW (aC fk) E.length c8 M=some (E.map λx=>bD (k x)):=by
 constructor
 ·unfold fg;rw[aA hj];show(match bC M (aC fk) with|some q=>Res.ok (dW (aC fk) q.2.length c8) M|none=>.bad)=_
  rw[g6 ef];show Res.ok (dW (aC fk) (E.map _).length c8) M=_;rw[Qq]
 ·unfold dW;rw[g6 ef];show(if (E.map _).length=E.length then some ((E.map _).map c8) else none)=_;rw[if_pos (Qq _),Rx];rfl
def q8 (m:Bool)(p:α->Bool)(f:α->D)(hj:Z[j]?.getD none=some (.fn (aC fk)))(ef:M[fk]?=some (dz k v E))(hl:E.length<=sz)
 (ht:∀x∈E,t (some (bD (k x))::Z) M=.ok (p x) M) (hg:∀x∈E,p x=true->ge (some (bD (k x))::Z) M=.ok (f x) M):bj m 1 (.one 0) (fg c8 (aa j)) (gY t (bp ge)) Z M=bh m ((E.filter p).map f) M:=by
 obtain⟨w1,w2⟩:=KA hj ef;unfold bj;rw[w1];show(cL (cw (.one 0) (gY t (bp ge)) (none::Z)) (dW (aC fk) E.length c8) [] M).bind (bh m)=_;have e:cL (cw (.one 0) (gY t (bp ge)) (none::Z)) (dW (aC fk) E.length c8) [] M=.ok ((E.filter p).map f) M:=by
  refine dw (fz (λi acc M'=>M'=M/\acc=((E.take i).filter p).map f) (λi acc M' h=>by rw[h.1];exact w2) ⟨rfl,rfl⟩ ?_ ?_)
  ·rintro i d acc M' hd ⟨rfl,rfl⟩;rw[QL] at hd;obtain⟨x,hx,rfl⟩:=QA.mp hd;have hm:=QT hx;have hi:i<E.length:=(Qo.mp hx).1;have e0:bX (.one 0) (bD (k x)) (none::Z)=some (some (bD (k x))::Z):=rfl;simp only[cw,e0,ug,Res.bind_ok,gY,ht x hm];rw[RM,hx];cases q:p x with
   |false=>simp[q]
   | true =>
     rw[if_pos rfl];have len:(((E.take i).filter p).map f).length<=i:=by
      rw[Qq];exact QH (R3 _ _) `o
     simp only[bp,hg x hm q,Res.bind_ok];rw[if_pos `a]
     simp[q]
  ·rintro acc M' ⟨rfl,rfl⟩;rw[Qq,List.take_length];exact⟨rfl,rfl⟩
 rw[e];rfl
def Du (m:Bool)(hj:Z[j]?.getD none=some (.fn (aC fk)))(ef:M[fk]?=some (dz k v E)):kT m (aa j) Z M=bh m (E.map λx=>bD (k x)) M:=by
 unfold kT;rw[aA hj];show(match bC M (aC fk) with|some q=>bh m (q.2.map c8) M|none=>.bad)=_
 rw[g6 ef];show bh m ((E.map _).map c8) M=_;rw[Rx];rfl
end
def eq_empty (hp:l.all (az 63)=true):bF .eq (.lst l) (.lst []) M=some l.isEmpty:=by
 refine jj hp rfl ?_;cases l<;>rfl
def lS (f:D->Bool):∀ds:List D,((ds.filter λd=>!f d).map λ_=>D.int 1).isEmpty=ds.all f
 |[]=>rfl
 | d :: r => by
   have ih:=lS f r;cases q:f d with
   |true=>simpa[q] using ih
   |false=>simp[q]
def qH (f:D->Bool)(hw:ae (w Z M) λwk M'=>M'=M/\wk M=some ds)(hz:ds.length<=sz)(he:∀d∈ds,gc (some d::Z) M=.ok (!f d) M)(hk:k (.bl (ds.all f)) M) :
 ae (ax .eq (bj false 1 (.one 0) w (gY gc (bp (gI 1)))) (bA false bY) Z M) k:=by
 simp only[eD,eP,yg,cq,cu];refine aH hw λwk M' ⟨e1,e2⟩=>?_;subst e1;refine sg (λd=>!f d) (λ_=>.int 1) hz e2 (λd hd=>{some d::Z,rfl,he d hd,λ_=>rfl}) ?_;refine{QH (by rw[Qq];exact R3 _ _) hz,aI `d,_,eq_empty ?_,?_}
 ·rw[QX];intro x hx;obtain⟨_,_,rfl⟩:=QE.mp hx;rfl
 ·rw[lS];exact hk
section
variable{P:Nat->Option Df}{M:Mem}{m:aP}{i:Nat}{b:aR}
def lp (ha:HasB P)(h158:P 158=some {3,3,cx})(n:Nat)(hm:aL m)(hi:i<m.deeds.length)(hl:b.length<=16)(hb:∀s∈b,dG m s):ae (ah P (n+2) 158 [m.d,bD b,nD i] M) λd M'=>d=bD (bf m i b)/\Sub M M':=by
 refine aF h158 rfl ?_;unfold cx;simp only[av,bS,b8,bV,eP,cq,eU,bg];refine{_,rfl,rfl,?_};refine comp_map (λj acc M'=>acc=((b.take j).map (bW (cE m i))).map aw/\Sub M M') (aI `o) (λ_ _ _ _=>rfl) {rfl,.refl} ?_ ?_
 ·rintro j x acc M' hd _ ⟨rfl,sub⟩;rw[QL] at hd;cases e:b[j]? with
  |none=>rw[e] at hd;cases hd
  | some s =>
    rw[e] at hd;have hd:=Qz hd;subst hd;refine{_,rfl,?_};have hs:=hb s (QT e);have ed:aq (aq (aa 1) (gI 2)) (aa 3) [some (aw s),some m.d,some (bD b),some (nD i)] M'=.ok (cE m i).d M':=bx (bx rfl rfl rfl) rfl (pb hi);show ae (ai 41 (ah P (n+1)) #[aq (aq (aa 1) (gI 2)) (aa 3),aa 0] [some (aw s),some m.d,some (bD b),some (nD i)] M') _;rw[aS (ag ed (ag rfl rfl)),tP ha n hm (gL hm hi) hs,aV];refine{?_,sub.trans Sub.app};rw[RM,e];simp
 ·rintro acc M' _ ⟨rfl,sub⟩;rw[Qq,RD (Qw _)];exact cu.mpr {aI `o,rfl,sub}
end
section
variable{P:Nat->Option Df}{M:Mem}{m:aP}{bound:Nat}
def A2 (e:a Z M=.ok x M):iR a Z M=.ok (.next Z) M:=by
 unfold iR;rw[e];rfl
end
noncomputable def Bk (m:aP)(W:aR->Nat->Nat->Prop)(Q:Nat->List aR):Prop:=∀i b,b∈Q i↔(i=0/\b=bq m)\/∃b' q j,W b' q j/\q+cst m j=i/\b=bf m j b'
noncomputable def WE (m:aP)(E:fh)(b:aR)(q j:Nat):Prop:=(b,q)∈E.map pr/\j<m.deeds.length
noncomputable def jN (Q:Nat->List aR)(i:Nat)(b:aR):Nat->List aR:=λk=>if k=i then Q i++[b] else Q k
section
variable{m:aP}{p:Nat}{E N:fh}{Q:Nat->List aR}{W W':aR->Nat->Nat->Prop}
def Bk.congr (h:Bk m W Q)(e:∀b q j,W b q j↔W' b q j):Bk m W' Q:=λi b=>(h i b).trans (or_congr_right {λ⟨b',q,j,w,r⟩=>{b',q,j,(e _ _ _).mp w,r},λ⟨b',q,j,w,r⟩=>{b',q,j,(e _ _ _).mpr w,r}})
def Bk.push (h:Bk m W Q)(b0:aR)(q0 j0:Nat):Bk m (λb q j=>W b q j\/(b=b0/\q=q0/\j=j0)) (jN Q (q0+cst m j0) (bf m j0 b0)):=λi b=>by
 unfold jN;constructor
 ·intro hb;split at hb
  ·next z=>
   subst z;rcases Rq.mp hb with y|y
   ·exact((h _ b).mp y).imp id λ⟨b',q,j,w,r⟩=>{b',q,j,.inl w,r}
   ·exact .inr {b0,q0,j0,.inr ⟨rfl,rfl,rfl⟩,rfl,QF.mp y}
  ·exact((h i b).mp hb).imp id λ⟨b',q,j,w,r⟩=>{b',q,j,.inl w,r}
 ·intro hb;have old:b∈Q i->b∈(if i=q0+cst m j0 then Q (q0+cst m j0)++[bf m j0 b0] else Q i):=λy=>by
   split
   ·next z=>rw[<- z];exact RE _ y
   ·exact y
  rcases hb with y|⟨b',q,j,w|⟨rfl,rfl,rfl⟩,e1,e2⟩
  ·exact old ((h i b).mpr (.inl y))
  ·exact old ((h i b).mpr (.inr ⟨b',q,j,w,e1,e2⟩))
  ·rw[if_pos e1.symm,e2];exact Q4 _ (QF.mpr rfl)
def gK (h:cz m p (E.map pr)):(b,q)∈E.map pr↔a7 m q b/\q<p:={λz=>h.sound _ z,λz=>h.all q b z.2 z.1}
def Hg:b∈E.map (·.1)↔∃q,(b,q)∈E.map pr:=by
 constructor
 ·intro h;obtain⟨e,he,rfl⟩:=QE.mp h;exact{e.2.1,Rt he}
 ·rintro⟨q,h⟩;obtain⟨e,he,z⟩:=QE.mp h;have:e.1=b:=congrArg Prod.fst z;rw[<- this];exact Rt he
def pB (hm:aL m)(h:cz m p (E.map pr))(hb:Bk m (WE m E) Q)(b:aR):a7 m p b↔b∈Q p/\b∉E.map (·.1):=by
 have key:b∉E.map (·.1)↔∀q<p,¬ a7 m q b:=by
  rw[Hg];exact{λz q hq l=>z {q,(gK h).mpr ⟨l,hq⟩},λz ⟨q,y⟩=>z q ((gK h).mp y).2 ((gK h).mp y).1}
 rw[key,hb p b];rcases Nat.eq_zero_or_pos p with rfl|hp
 ·rw[eW hm];refine{λz=>{.inl ⟨rfl,z⟩,λq hq=>absurd hq (R4 _)},λz=>?_};rcases z.1 with y|⟨b',q,j,w,_⟩
  ·exact y.2
  ·exact absurd ((gK h).mp w.1).2 (R4 _)
 ·rw[gR hm hp];refine and_congr_left λ_=>{λ⟨i,b',hi,hc,l,e⟩=>.inr {b',p-cst m i,i,{(gK h).mpr {l,?_},hi},Nat.sub_add_cancel hc,e},λz=>?_}
  ·have:=(g7 hm hi).1;omega
  ·rcases z with y|⟨b',q,j,w,e1,e2⟩
   ·omega
   ·refine{j,b',w.2,`a,?_,e2}
    have:=((gK h).mp w.1).1;rw[<- e1,Nat.add_sub_cancel];exact this
def LS (h:cz m p (E.map pr))(hb:Bk m (WE m E) Q)(z:b∈Q i):mj m i b:=by
 rcases(hb i b).mp z with⟨rfl,rfl⟩|⟨b',q,j,w,rfl,rfl⟩
 ·exact .start
 ·exact .step ((gK h).mp w.1).1.1 w.2
def H8 (hm:aL m)(h:cz m p (E.map pr))(hb:Bk m (WE m E) Q)(nw:NW p E (·∈Q p) N):cz m (p+1) ((E++N).map pr):=by
 have fl:=λx hx=>(pB hm h hb x.1).mpr {(nw.fr x hx).1,λz=>by
  have nd:=nw.nd;rw[Q0,Sk] at nd;exact nd.2.2 _ z _ (Rt hx) rfl}
 refine{by rw[gG];exact nw.nd,λy hy=>?_,λq b hq hl=>?_}
 ·obtain⟨x,hx,rfl⟩:=QE.mp hy;rcases Rq.mp hx with z|z
  ·have s:=h.sound (pr x) (Rt z);exact{s.1,RP s.2}
  ·have e:x.2.1=p:=(nw.fr x z).2.1;exact{by show a7 m x.2.1 x.1;rw[e];exact fl x z,by show x.2.1<p+1;omega}
 ·rw[Q0];rcases R5 q p with z|z
  ·exact RE _ (h.all q b z hl)
  ·have:q=p:=`a
   subst this;obtain⟨h1,h2⟩:=(pB hm h hb b).mp hl;have h3:=nw.al b h1;rw[Q0] at h3;rcases Rq.mp h3 with y|y
   ·exact absurd y h2
   ·obtain⟨x,hx,rfl⟩:=QE.mp y;refine Q4 _ (QE.mpr {x,hx,?_});show(x.1,x.2.1)=_;rw[(nw.fr x hx).2.1]
def H9 (hm:aL m)(h:cz m p (E.map pr))(hb:Bk m (WE m E) Q)(nd:((E++N).map (·.1)).Nodup)(fr:∀x∈N,x.1∈Q p/\x.2.1=p)(hl:255<(E++N).length):kA m (p+1):=by
 refine{(E++N).map pr,by rw[gG];exact nd,λy hy=>?_,by rw[Qq];exact hl}
 obtain⟨x,hx,rfl⟩:=QE.mp hy;rcases Rq.mp hx with z|z
 ·have s:=h.sound (pr x) (Rt z);exact{s.1,RP s.2}
 ·have e:x.2.1=p:=(fr x z).2;refine{?_,by show x.2.1<p+1;omega}
  show a7 m x.2.1 x.1;rw[e];refine(pB hm h hb x.1).mpr {(fr x z).1,λy=>?_};rw[Q0,Sk] at nd;exact nd.2.2 _ y _ (Rt z) rfl
def wW (hm:aL m)(h:cz m p (E.map pr))(hb:Bk m (WE m E) Q)(he:∀i,p<=i->Q i=[]):∀q,p<=q->∀b,¬ a7 m q b:=by
 intro q;induction q using Nat.strongRecOn with
 | ind q ih =>
   intro hq b hl;rcases Nat.eq_zero_or_pos q with rfl|hq0
   ·have:b∈Q 0:=(hb 0 b).mpr (.inl {rfl,(eW hm).mp hl});rw[he 0 hq] at this;exact nomatch this
   ·obtain⟨⟨i,b',hi,hc,h1,e⟩,_⟩:=(gR hm hq0).mp hl;have c:=g7 hm hi;by_cases z:p<=q-cst m i
    ·exact ih _ `a z b' h1
    ·have:b∈Q q:=(hb q b).mpr (.inr {b',q-cst m i,i,{(gK h).mpr {h1,`a},hi},Nat.sub_add_cancel hc,e})
     rw[he q hq] at this;exact nomatch this
end
noncomputable def qY (e:aR×Nat×List Nat):D:=.tup [bD e.1,nD e.2.1]
noncomputable def oQ (E:fh):List D:=.int 78::E.map qY
section
variable{M:Mem}{fk:Nat}{E:fh}{b:aR}
def t8 (E:fh)(b:aR):cK (E.map qY) (bD b)=(E.find? λe=>decide (e.1=b)).map λe=>nD e.2.1:=by
 refine Eq.trans (lJ (λe:aR×Nat×List Nat=>bD e.1) (λe=>nD e.2.1) E (bD b)) ?_
 congr 2
 funext x
 exact Fp x.1 b
def JN (e:M[fk]?=some (oQ E)):inD M (aC fk) (bD b)=some (E.any λe=>decide (e.1=b)):=by
 unfold inD;rw[jA e (.inr rfl)];show(if isKey 78 (bD b)=true then some (cK (E.map qY) (bD b)).isSome else none)=_;rw[if_pos (lL b),t8,Sx]
 congr 1
 rw[RV,List.find?_isSome,R7]
def GO (hn:∀e∈E,e.1≠b):putD (E.map qY) (bD b) (nD q)=(E++[(b,q,[])]).map qY:=by
 rw[qC,Q0];rfl;rw[t8,List.find?_eq_none.mpr];rfl;exact λx hx e=>hn x hx (of_decide_eq_true e)
end
structure cy (M0 M:Mem) (fk dv:Nat) (E:fh) (cs:List Nat) (Q:Nat->List aR):Prop where
 f:M[fk]?=some (oQ E)
 d:M[dv]?=some (cs.map D.cell)
 nd:(fk::dv::cs).Nodup
 lo:∀x∈fk::dv::cs,M0.length<=x
 q:∀(i c:Nat),cs[i]?=some c->M[c]?=some ((Q i).map bD)
 e:∀i,cs.length<=i->Q i=[]
 s:Sub M0 M
section
variable{M0 M M':Mem}{fk dv c i:Nat}{E E':fh}{cs:List Nat}{Q:Nat->List aR}{b:aR}
def lH (e:M[k]?=some x):k<M.length:=(Qo.mp e).1
def cy.sub (h:cy M0 M fk dv E cs Q)(s:Sub M M'):cy M0 M' fk dv E cs Q:={s.get h.f,s.get h.d,h.nd,h.lo,λi c e=>s.get (h.q i c e),h.e,h.s.trans s}
def cy.ne (h:cy M0 M fk dv E cs Q):fk≠dv/\∀(i c:Nat),cs[i]?=some c->c≠fk/\c≠dv:=by
 have nd:=h.nd;rw[RF,RF] at nd;refine{λe=>nd.1 (by rw[e];exact QN),λi c e=>{λz=>nd.1 (by rw[<- z];exact QJ _ (QT e)),λz=>nd.2.1 (by rw[<- z];exact QT e)}}
def cy.put (h:cy M0 M fk dv E cs Q)(E':fh):cy M0 (M.set fk (oQ E')) fk dv E' cs Q:=
 {Q5 (lH h.f),by rw[Qx h.ne.1];exact h.d,h.nd,h.lo,λi c e=>by rw[Qx (RC (h.ne.2 i c e).1)];exact h.q i c e,h.e,h.s.setq (h.lo fk QN)}
def cy.more (h:cy M0 M fk dv E cs Q):cy M0 ((M++[[]]).set dv (cs.map D.cell++[D.cell M.length])) fk dv E (cs++[M.length]) Q:=by
 have hf:=lH h.f;have hd:=lH h.d;have all:∀x∈fk::dv::cs,x<M.length:=λx hx=>by
  rcases Rf.mp hx with z|hx
  ·rw[z];exact hf
  ·rcases Rf.mp hx with z|hx
   ·rw[z];exact hd
   ·obtain⟨i,e⟩:=List.getElem?_of_mem hx;exact lH (h.q i x e)
 refine{?_,?_,?_,λx hx=>?_,λi c e=>?_,λi hi=>?_,(h.s.trans Sub.app).setq (h.lo dv `s)}
 ·rw[Qx (RC h.ne.1),Qv hf];exact h.f
 ·rw[Q5 `o,Q0];rfl
 ·show((fk::dv::cs)++[M.length]).Nodup;rw[Sk];exact{h.nd,`s,λx hx y hy z=>by
   have:=all x hx;have hy:y=M.length:=by simpa using hy
   omega}
 ·rcases Rq.mp (show x∈(fk::dv::cs)++[M.length] from hx) with z|z
  ·exact h.lo x z
  ·rw[QF.mp z];exact h.s.len
 ·rcases R5 i cs.length with z|z
  ·rw[Qv z] at e;have:=h.q i c e;rw[Qx (RC (h.ne.2 i c e).2),Qv (lH this)];exact this
  ·have hi:i=cs.length:=by
    have:=(Qo.mp e).1;simp at this;omega
   subst hi;rw[Ro (Qw _),Nat.sub_self] at e;cases e;rw[Qx (QY hd),h.e _ (Qw _)];simp
 ·rw[Rb] at hi;exact h.e i (by simp at hi;omega)
def cy.push (h:cy M0 M fk dv E cs Q)(hi:cs[i]?=some c)(b:aR):cy M0 (M.set c ((Q i).map bD++[bD b])) fk dv E cs (jN Q i b):=by
 have n:=h.ne.2 i c hi;have nd:=(RF.mp (RF.mp h.nd).2).2;refine{by rw[Qx n.1];exact h.f,by rw[Qx n.2];exact h.d,h.nd,h.lo,λk c' e=>?_,λk hk=>?_,h.s.setq (h.lo c (by simp[QT hi]))}
 ·unfold jN;by_cases z:k=i
  ·subst z;rw[hi] at e;cases e;rw[Q5 (lH (h.q k c hi)),if_pos rfl,Q0];rfl
  ·have ne:c≠c':=λy=>by
    subst y;rcases R5 k i with y|y
    ·exact xJ nd y e hi
    ·exact xJ nd (by omega:i<k) hi e
   rw[Qx ne,if_neg z];exact h.q k c' e
 ·have:=(Qo.mp hi).1;unfold jN;rw[if_neg `a];exact h.e k hk
end
noncomputable def uz (c:Call):GS:=#v[f7 (aj (ax .le (aJ .len #[aa 3]) (au false .add (aa 4) (aq (aa 7) (d3 (gI 1)))))) #v[fo (aa 3) (bA true bY)],fo (aq (aa 3) (au false .add (aa 4) (aq (aa 7) (d3 (gI 1))))) (ai 158 c #[aa 0,aa 5,aa 6])]
noncomputable def MV (c:Call):GS:=#v[fL (aa 2) (aa 5) (aa 4),aN (aj (ax .gt (jX (aa 2)) (gI 255))) #v[aM gN] aD,bU (.tup [6,7]) (gr (aq (aa 0) (gI 2))) (uz c)]
noncomputable def AH (c:Call):GS:=#v[aN (aj (gZ true (aa 5) (aa 2))) (MV c) aD]
noncomputable def AG (c:Call):GS:=#v[bU (.one 5) (bR (aq (aa 3) (aa 4))) (AH c),ay (.one 4) (au false .add (aa 4) (gI 1))]
def MU (c:Call):fF c=#v[ay (.one 2) (nV 78),ay (.one 3) (bA true #[bA true #[aJ .tuple #[ai 42 c #[aa 0]]]]),ay (.one 4) (gI 0),f7 (eV (aj (ax .lt (aa 4) (aJ .len #[aa 3]))) (aj (ax .le (aa 4) (aa 1)))) (AG c),aM (aa 2)]:=rfl
section
variable{Z:Env}{M M' M1:Mem}{a b d:GE}
def Bs (ha:a Z M=.ok (.cell j) M)(hd:d Z M=.ok z M1)(e:M1[j]?=some ds)(hl:ds.length<sz):fo a d Z M=.ok (.next Z) (M1.set j (ds++[z])):=by
 unfold fo;rw[ha];show(d Z M).bind _=_;rw[hd];show(match M1[j]? with|some ds=>if ds.length<sz then Res.ok (Fl.next Z) (M1.set j (ds++[z])) else .bad|none=>.bad)=_
 rw[e];exact if_pos hl
def wm (h:Z[j]?.getD none=some (.cell k))(e:M[k]?=some ds):aJ .len #[aa j] Z M=.ok (nD ds.length) M:=by
 refine ak (b8.mpr ?_);rw[ag (aA h) rfl,aV];show ae (match M[k]? with|some xs=>Res.ok (D.int xs.length) M|none=>.bad) _
 rw[e];exact⟨rfl,rfl⟩
def uy (h1:a Z M=.ok (nD i) M)(h2:b Z M=.ok (nD j) M):aj (ax .le a b) Z M=.ok (decide (i<=j)) M:=by
 refine dw (iu.mpr (eD.mpr ?_));rw[h1,aV,h2,aV];refine{_,rfl,_,rfl,?_,rfl};exact decide_eq_decide.mpr Int.ofNat_le
def AD (h1:a Z M=.ok (nD i) M)(h2:b Z M=.ok (nD j) M):aj (ax .lt a b) Z M=.ok (decide (i<j)) M:=by
 refine dw (iu.mpr (eD.mpr ?_));rw[h1,aV,h2,aV];refine{_,rfl,_,rfl,?_,rfl};exact decide_eq_decide.mpr Int.ofNat_lt
def wB (h:Z[j]?.getD none=some (.cell k))(hb:b Z M=.ok (nD i) M)(e:M[k]?=some ds)(hx:ds[i]?=some x):aq (aa j) b Z M=.ok x M:=by
 refine bx (aA h) hb ?_;show(M[k]?).bind _=_;rw[e];show((cv ds.length (i:Int)).bind λj=>ds[j]?)=_;rw[dS (Qo.mp hx).1];exact hx
def DK (ha:a Z M=.ok (nD i) M)(hb:b Z M=.ok (nD j) M):au false .add a b Z M=.ok (nD (i+j)) M:=(f6 ha hb).trans (by rw[<- Int.natCast_add])
end
noncomputable def qo (m:aP)(fit:aR->Bool)(B0:Nat)(d:D)(M':Mem):Prop:=∃(E:F3) (c:Nat),d=.tup [.str "none",.cell c]/\B0<=c/\M'[c]?=some (E.map λe=>bD e.1)/\AllIn m none ((un E).map pr)/\E.length<=255/\∀e∈E,fit e.1=false
noncomputable def vB (m:aP)(fit:aR->Bool)(B0:Nat)(d:D)(M':Mem):Prop:=∃(E:F3) (e:aR×Nat×Nat) (r:List Nat) (c:Nat),d=.tup [.str "row",nD e.2.1,.cell e.2.2,.cell c]/\e∈E/\fit e.1=true/\(∀x∈E,fit x.1=true->e.2.1<=x.2.1)/\B0<=e.2.2/\e.2.2<c/\M'[e.2.2]?=some (r.map nD)/\fT m r e.1 e.2.1/\
 M'[c]?=some ((E.filter λx=>decide (x.2.1<=e.2.1)).map λx=>.tup [bD x.1,nD (e.2.1-x.2.1)])/\AllIn m none ((un E).map pr)/\E.length<=255
def AllIn.nd {bd:Option Nat}(h:AllIn m bd l):(l.map (·.1)).Nodup:=by
 cases bd with
 |none=>obtain⟨_,h,_⟩:=h;exact h.nd
 |some b=>exact cz.nd h
def AllIn.sound {bd:Option Nat}(h:AllIn m bd l):∀x∈l,a7 m x.2 x.1:=by
 cases bd with
 |none=>obtain⟨_,h,_⟩:=h;exact λx hx=>(h.sound x hx).1
 |some b=>exact λx hx=>(cz.sound h x hx).1
def lh (E:F3):(un E).map pr=E.map λe=>(e.1,e.2.1):=by unfold un;rw[Rx];rfl
def wz (r:List Nat):intsOf (r.map nD)=some (r.map λ(i:Nat)=>(i:Int)):=by
 induction r with
 |nil=>rfl
 |cons a r ih=>show(intsOf (r.map nD)).map _=_;rw[ih];rfl
section
variable{P:Nat->Option Df}{M:Mem}{m:aP}{w:D}{fit:aR->Bool}{Z:Env}{a b:GE}
def OS (ha:a Z M=.ok (nD i) M)(hb:b Z M=.ok (nD j) M)(h:j<=i):au false .sub a b Z M=.ok (nD (i-j)) M:=by
 unfold au;rw[ha];show(b Z M).bind _=_;rw[hb];show Res.ok (D.int ((i:Int)-(j:Int))) M=_;rw[<- Int.ofNat_sub h]
def mP (h:Z[j]?.getD none=some x):aj (ax .isN (aa j) gN) Z M=.ok (eX x) M:=by
 refine bo ?_;unfold ax;rw[aA h];rfl
def t9 (hf:Z[3]?.getD none=some (.fn (aC fk)))(ef:M[fk]?=some (ko E))(nd:(E.map (·.1)).Nodup)(hx:x∈E)(h0:Z[0]?.getD none=some (bD x.1)):dX (aa 3) (aa 0) Z M=.ok (vC x) M/\aq (dX (aa 3) (aa 0)) (gI 0) Z M=.ok (nD x.2.1) M:=by
 have e:=p6 (x:=.non) (aA hf) (aA h0) (uT ef nd hx);exact{e,bx e rfl rfl}
def Cp (n:Nat)(hr166:∀(M:Mem),fC (ah P n 166 [m.d,.non] M) (λd M'=>∃fk E,d=.fn (aC fk)/\M.length<=fk/\M'[fk]?=some (ko E)/\vA m M.length M' E/\AllIn m none ((un E).map pr)/\E.length<=255/\Sub M M') (λx M'=>x=.exc 8 none/\fG m none/\Sub M M'))
 (h80:∀M:Mem,ah P n 80 [m.d,w] M=.ok .non M) (h81:∀(M:Mem) (q:Nat) (b:aR),a7 m q b->ah P n 81 [bD b,w] M=.ok (.bl (fit b)) M) (h167:P 167=some {2,7,om}) :
 fC (ah P (n+1) 167 [m.d,w] M) (λd M'=>(qo m fit M.length d M'\/vB m fit M.length d M')/\Sub M M') (λx M'=>x=.exc 8 none/\fG m none/\Sub M M'):=by
 refine pA h167 rfl ?_;simp only[RU,List.map_nil,RY,List.length_nil,List.replicate,List.cons_append,List.nil_append,Nat.reduceAdd,Nat.reduceSub];unfold om;rw[av,A2 ((fE (ag rfl (ag rfl rfl))).trans (h80 M)),aV,bK,av,qy];have sr:=hr166 M;have ec:cb 166 (ah P n) #[aa 0,gN] [some m.d,some w,none,none,none,none,none] M=ah P n 166 [m.d,.non] M:=fE (ag rfl (ag rfl rfl));rw[ec];cases e:ah P n 166 [m.d,.non] M with
 |bad=>rw[e] at sr;exact sr.elim
 |err x M1=>rw[e] at sr;exact sr
 | ok d M1 =>
   rw[e] at sr;obtain⟨fk,E,rfl,hfk,ef,rows,all,few,sub⟩:=sr;refine bK.mpr ?_;have nd:(E.map (·.1)).Nodup:=by have:=all.nd;rw[lh,Rx] at this;exact this
   have snd:∀x∈E,a7 m x.2.1 x.1:=λx hx=>all.sound (x.1,x.2.1) (by rw[lh];exact QE.mpr ⟨x,hx,rfl⟩)
   have hz:E.length<=sz:=aI `a
   have e1:bj false 1 (.one 0) (fg c8 (aa 2)) (gY (aj (ai 81 (ah P n) #[aa 0,aa 2])) (bp (dX (aa 3) (aa 0)))) [some m.d,some w,some (.fn (aC fk)),none,none,none,none] M1=.ok (.lst ((E.filter λx=>fit x.1).map vC)) M1:=by
    rw[q8 false (λx=>fit x.1) vC rfl ef hz (λx hx=>bo ((aS (ag rfl (ag rfl rfl))).trans (h81 M1 _ _ (snd x hx)))) (λx hx _=>(t9 rfl ef nd hx rfl).1)];exact if_pos (aI (by rw[Qq];exact QH (R3 _ _) `a))
   have hq:∀x∈E.filter λx=>fit x.1,rT M1 (vC x)=some ((x.2.1:Int),((M1[x.2.2]?.bind intsOf).getD [])):=λx hx=>by
    obtain⟨⟨r,er,_⟩,_⟩:=rows x (RG.mp hx).1;show((M1[x.2.2]?).bind intsOf).map _=_;rw[er];show(intsOf (r.map nD)).map _=some (_,(intsOf (r.map nD)).getD []);rw[wz];rfl
   rcases Ha vC (λx=>((x.2.1:Int),((M1[x.2.2]?.bind intsOf).getD []))) e1 hq with⟨hE,em⟩|⟨x,hx,em,hb⟩
   ·refine bN (bZ em) ?_;refine bE (mP rfl) (λ_=>?_) (λh=>by cases h)
    have ek:bH #[gS "none",kT true (aa 2)] [some m.d,some w,some (.fn (aC fk)),some .non,none,none,none] M1=.ok (.tup [.str "none",.cell M1.length]) (M1++[E.map λe=>bD e.1]):=by
     refine iE (gE rfl (gE ?_ rfl)) (QZ rfl);rw[Du true rfl ef];exact if_pos (aI (by rw[Qq];omega))
    simp only[av,bS];refine dO.mpr {_,_,ek,?_};refine{.inl {E,M1.length,rfl,sub.len,`s,all,few,λx hx=>?_},sub.trans Sub.app}
    cases hf:fit x.1 with
    |false=>rfl
    | true =>
      have:x∈E.filter λx=>fit x.1:=RG.mpr ⟨hx,hf⟩;rw[hE] at this;cases this
   ·obtain⟨hxE,hxf⟩:=RG.mp hx;obtain⟨⟨r,er,ro⟩,lo⟩:=rows x hxE;refine bN (bZ em) ?_;refine aY (mP (x:=vC x) rfl) ?_;refine bN rfl ?_;have e2:bj true 1 (.one 0) (fg c8 (aa 2)) (gY (aj (ax .le (aq (dX (aa 3) (aa 0)) (gI 0)) (aa 5))) (bp (bH #[aa 0,au false .sub (aa 5) (aq (dX (aa 3) (aa 0)) (gI 0))]))) [some m.d,some w,some (.fn (aC fk)),some (vC x),some (nD x.2.1),some (.cell x.2.2),none] M1
     = .ok (.cell M1.length) (M1++[(E.filter λy=>decide (y.2.1<=x.2.1)).map λy=>.tup [bD y.1,nD (x.2.1-y.2.1)]]):=by
     rw[q8 true (λy=>decide (y.2.1<=x.2.1)) (λy=>.tup [bD y.1,nD (x.2.1-y.2.1)]) rfl ef hz (λy hy=>uy (t9 rfl ef nd hy rfl).2 rfl) (λy hy hd=>iE (ag rfl (ag (OS rfl (t9 rfl ef nd hy rfl).2 (of_decide_eq_true hd)) rfl)) (QZ rfl))];exact if_pos (aI (by rw[Qq];exact QH (R3 _ _) `a))
    refine eM (hV e2) ?_;simp only[List.set,av,bS];refine dO.mpr {_,_,iE (ag rfl (ag rfl (ag rfl (ag rfl rfl)))) (QZ rfl),?_};refine{.inr {E,x,r,M1.length,rfl,hxE,hxf,λy hy hf=>?_,lo,dM er,?_,ro,`s,all,few},sub.trans Sub.app}
    ·exact Int.ofNat_le.mp (hb y (RG.mpr ⟨hy,hf⟩))
    ·rw[Qv (dM er)];exact er
end
section
variable{P:Nat->Option Df}{M0 M:Mem}{m:aP}{fk dv p bound:Nat}{E:fh}{cs:List Nat}{Q:Nat->List aR}{kf:Fl->Mem->Prop}{x1 y5 y6 y7:Option D}
def FH {E:fh}{b:aR}:∀b' q j,(WE m E b' q j\/(b'=b/\q=p/\j<m.deeds.length))↔WE m (E++[(b,p,[])]) b' q j:=λb' q j=>by
 unfold WE;rw[Q0,Rq];constructor
 ·rintro(⟨h1,h2⟩|⟨rfl,rfl,h2⟩)
  ·exact{.inl h1,h2}
  ·exact{.inr (QF.mpr rfl),h2}
 ·rintro⟨h1|h1,h2⟩
  ·exact .inl ⟨h1,h2⟩
  ·cases QF.mp h1;exact .inr ⟨rfl,rfl,h2⟩
def wj {s:GA}{Z:Env}{M M1:Mem}{xs:List D}(e:s Z M=.ok xs M1)(hl:xs.length<=100):bA true s Z M=.ok (.cell M1.length) (M1++[xs]):=by
 unfold bA;rw[e];show(if xs.length<=sz then(if true=true then Res.ok (D.cell M1.length) (M1++[xs]) else _) else .bad)=_;rw[if_pos (aI `a)]
 rfl
def HS {a:GE}{s:GA}{Z:Env}{M M1 M2:Mem}{x:D}{xs:List D}(ea:a Z M=.ok x M1)(es:s Z M1=.ok xs M2):dP a s Z M=.ok (x::xs) M2:=by
 unfold dP;rw[ea];show(s Z M1).bind _=_;rw[es];rfl
end
section
variable{M0 M:Mem}{fk dv p c C:Nat}{E:fh}{cs:List Nat}{Q:Nat->List aR}{Z:Env}{kf:Fl->Mem->Prop}
def KW (h3:Z[3]?.getD none=some (.cell dv))(h4:Z[4]?.getD none=some (nD p))(h7:∀M,aq (aa 7) (d3 (gI 1)) Z M=.ok (nD c) M)(hc:p+c<C)(hC:C<=800)(h:cy M0 M fk dv E cs Q)(hl:cs.length<=C)
 (k:∀M' t,cy M0 M' fk dv E (cs++t) Q->(cs++t).length<=C->p+c<(cs++t).length->kf (.next Z) M') :
 ae (f7 (aj (ax .le (aJ .len #[aa 3]) (au false .add (aa 4) (aq (aa 7) (d3 (gI 1)))))) #v[fo (aa 3) (bA true bY)] Z M) kf:=by
 refine oK (λk ρ' M'=>ρ'=Z/\∃t,cy M0 M' fk dv E (cs++t) Q/\(cs++t).length<=C/\k=C-(cs++t).length) ?_ (k:=C-cs.length) `a {rfl,[],by rw[Rv];exact h,by rw[Rv];exact hl,by rw[Rv]}
 rintro k' ρ' M' ⟨rfl,t,h',hl',rfl⟩;rw[uy (wm h3 h'.d) (DK (aA h4) (h7 M')),aV,Qq];refine{λz=>k M' t h' hl' (by have:=of_decide_eq_false z;omega),λz=>?_}
 refine{C-(cs++(t++[M'.length])).length,by simp at z hl' ⊢;omega,?_}
 have hd:=lH h'.d;refine eM (Bs (aA h3) rfl (by rw[Qv hd];exact h'.d) (by rw[Qq];exact Ss (QH hl' hC) `d)) ?_
 refine .inl {ρ',rfl,rfl,t++[M'.length],?_,by simp at z hl' ⊢;omega,rfl}
 rw[<- RH];exact h'.more
end
section
variable{P:Nat->Option Df}{M0 M:Mem}{m:aP}{fk dv p L C:Nat}{E:fh}{cs:List Nat}{Q:Nat->List aR}{W:aR->Nat->Nat->Prop}{b:aR}{kf:Fl->Mem->Prop}{x1 y6 y7:Option D}
def JK (ha:HasB P)(h158:P 158=some {3,3,cx})(n:Nat)(hm:aL m)(hp:p+4<=C)(hC:C<=800)(hbl:b.length<=16)(hb:∀s∈b,dG m s)(h:cy M0 M fk dv E cs Q)(hl:cs.length<=C)(bk:Bk m W Q)(hL:∀i,(Q i).length<=L)(hL2:L<=90000)
 (k:∀M' t Q' y6 y7,cy M0 M' fk dv E (cs++t) Q'->(cs++t).length<=C->Bk m (λb' q j=>W b' q j\/(b'=b/\q=p/\j<m.deeds.length)) Q'->(∀i,(Q' i).length<=L+6)->Q' p=Q p->kf (.next [some m.d,x1,some (.fn (aC fk)),some (.cell dv),some (nD p),some (bD b),y6,y7]) M') :
 ae (bU (.tup [6,7]) (gr (aq (aa 0) (gI 2))) (uz (ah P (n+2))) [some m.d,x1,some (.fn (aC fk)),some (.cell dv),some (nD p),some (bD b),y6,y7] M) kf:=by
 rw[dH,yV,bx rfl rfl rfl,aV];refine{rfl,?_};have d6:=hm.d6;refine cF (λi Z M'=>∃t Q' y6 y7,cy M0 M' fk dv E (cs++t) Q'/\(cs++t).length<=C/\Bk m (λb' q j=>W b' q j\/(b'=b/\q=p/\j<i)) Q'/\(∀k,(Q' k).length<=L+i)/\Q' p=Q p/\Z=[some m.d,x1,some (.fn (aC fk)),some (.cell dv),some (nD p),some (bD b),y6,y7])
  (λ_ _ _ _=>rfl) {[],Q,y6,y7,by rw[Rv];exact h,by rw[Rv];exact hl,bk.congr λb' q j=>{.inl,λz=>z.elim id λz=>absurd z.2.2 (R4 _)},hL,rfl,rfl} ?_ ?_
 ·rintro i x Z M' hx ⟨t,Q',y6,y7,h',hl',bk',hL',hQ,rfl⟩;obtain⟨x2,hx2,rfl⟩:=wJ hx;rw[QL] at hx2;cases ed:m.deeds[i]? with
  |none=>rw[ed] at hx2;cases hx2
  | some d =>
    rw[ed] at hx2;have hx2:=Qz hx2;subst hx2;have hi:=(Qo.mp ed).1;have et:=rf ed;have c:=g7 hm hi;have ec:cst m i=d.cost:=by unfold cst;rw[et]
    rw[Nat.zero_add];refine{_,rfl,?_};unfold uz;have h7:∀M,aq (aa 7) (d3 (gI 1)) [some m.d,x1,some (.fn (aC fk)),some (.cell dv),some (nD p),some (bD b),some (nD i),some d.d] M=.ok (nD (cst m i)) M:=λM=>by
     rw[ec];exact ak (eY.mpr (bg.mpr {_,rfl,qb.mpr (dm.mpr {1,rfl,_,iK,rfl,rfl})}))
    rw[av];refine KW rfl rfl h7 `a hC h' hl' λM2 t2 h2 hl2 hc2=>?_
    rw[RH] at h2 hl2 hc2;rw[bK];obtain⟨z,M3,e3,ez,sub⟩:=dO.mp (lp ha h158 n hm hi hbl hb);subst ez;have h3:=h2.sub sub;have hcc:=QG hc2;refine eM (Bs (wB rfl (DK rfl (h7 M2)) h2.d (by rw[QL,hcc];rfl)) ((aS (ag rfl (ag rfl (ag rfl rfl)))).trans e3) (h3.q _ _ hcc) (by rw[Qq];exact Ss (hL' _) (Ss (show L+i<=90006 by omega) `d))) ?_
    refine{_,rfl,t++t2,jN Q' (p+cst m i) (bf m i b),_,_,h3.push hcc _,hl2,(bk'.push b p i).congr λb' q j=>?_,λk=>?_,?_,rfl}
    ·constructor
     ·rintro((w|⟨e1,e2,e4⟩)|⟨e1,e2,e4⟩)
      ·exact .inl w
      ·exact .inr {e1,e2,RP e4}
      ·exact .inr {e1,e2,`a}
     ·rintro(w|⟨e1,e2,e4⟩)
      ·exact .inl (.inl w)
      ·rcases R5 j i with z|z
       ·exact .inl (.inr ⟨e1,e2,z⟩)
       ·exact .inr {e1,e2,`a}
    ·have:=hL' k;unfold jN;split
     ·next z=>subst z;rw[Rb];have:=hL' (p+cst m i);simp;omega
     ·omega
    ·unfold jN;rw[if_neg `a];exact hQ
 ·rintro Z M' ⟨t,Q',y6,y7,h',hl',bk',hL',hQ,rfl⟩;rw[lT,Qq] at bk' hL';exact k M' t Q' y6 y7 h' hl' bk' (λi=>QH (hL' i) `a) hQ
end
section
variable{P:Nat->Option Df}{M0 M:Mem}{m:aP}{fk dv p bound:Nat}{E:fh}{cs:List Nat}{Q:Nat->List aR}{kf:Fl->Mem->Prop}{x1 y5 y6 y7:Option D}
def He (ha:HasB P)(h158:P 158=some {3,3,cx})(n:Nat)(hm:aL m)(hall:cz m p (E.map pr))(hE:E.length<=255)(h:cy M0 M fk dv E cs Q)(hl:cs.length<=3*E.length+1)(bk:Bk m (WE m E) Q)(hL:∀i,(Q i).length<=7*E.length+1)(hpc:p<cs.length)
 (k1:∀M' N t Q' y5 y6 y7,cz m (p+1) ((E++N).map pr)->(E++N).length<=255->cy M0 M' fk dv (E++N) (cs++t) Q'->(cs++t).length<=3*(E++N).length+1->Bk m (WE m (E++N)) Q'->(∀i,(Q' i).length<=7*(E++N).length+1)->kf (.next [some m.d,x1,some (.fn (aC fk)),some (.cell dv),some (nD p),y5,y6,y7]) M')
 (k2:∀M',kA m (p+1)->Sub M0 M'->kf (.ret .non) M') :
 ae (bU (.one 5) (bR (aq (aa 3) (aa 4))) (AH (ah P (n+2))) [some m.d,x1,some (.fn (aC fk)),some (.cell dv),some (nD p),y5,y6,y7] M) kf:=by
 have hcc:=QG hpc;generalize cs[p]=cc at hcc;rw[dH,eU,wB rfl rfl h.d (by rw[QL,hcc];rfl),aV]
 refine{rfl,?_};have at':∀{t:List Nat},(cs++t)[p]?=some cc:=λ{t}=>by rw[Qv hpc];exact hcc
 refine qU (ds:=(Q p).map bD) (λi Z M'=>∃N t Q' y5 y6 y7,NW p E (·∈(Q p).take i) N/\(E++N).length<=255/\cy M0 M' fk dv (E++N) (cs++t) Q'/\(cs++t).length<=3*(E++N).length+1/\Bk m (WE m (E++N)) Q'/\(∀i,(Q' i).length<=7*(E++N).length+1)/\Q' p=Q p/\Z=[some m.d,x1,some (.fn (aC fk)),some (.cell dv),some (nD p),y5,y6,y7])
  (λfl M'=>fl=.ret .non/\kA m (p+1)/\Sub M0 M'/\M'[cc]?=some ((Q p).map bD)) ?_ ?_ ?_ {[],[],Q,y5,y6,y7,{by rw[Rv,<- gG];exact hall.nd,(λx hx=>nomatch hx),λb hb=>by simp at hb},by rw[Rv];exact hE,by rw[Rv,Rv];exact h,by rw[Rv,Rv];exact hl,by rw[Rv];exact bk,by rw[Rv];exact hL,rfl,rfl} ?_ ?_ ?_
 ·rintro fl M' ⟨rfl,_⟩ Z z;cases z
 ·rintro i Z M' ⟨N,t,Q',_,_,_,_,_,h',_,_,_,hQ,_⟩;show M'[cc]?=_;rw[h'.q p cc at',hQ]
 ·rintro fl M' ⟨_,_,_,e⟩;exact e
 ·rintro i x Z M' hx ⟨N,t,Q',y5,y6,y7,nw,hn,h',hl',bk',hL',hQ,rfl⟩;rw[QL] at hx;cases eb:(Q p)[i]? with
  |none=>rw[eb] at hx;cases hx
  | some b =>
    rw[eb] at hx;have hx:=Qz hx;subst hx;have hb:=QT eb;refine{_,rfl,?_};have hset:∀x,x∈(Q p).take (i+1)↔x∈(Q p).take i\/x=b:=λx=>by
     rw[RM,eb];simp
    have ok:=ju hm (LS hall bk hb);refine bE (bo (A6 rfl rfl (JN h'.f))) (λhc=>?_) λhc=>?_
    ·have hno:∀e∈E++N,e.1≠b:=λe he z=>by
      rw[show((E++N).any λe=>decide (e.1=b))=true from R7.mpr {e,he,decide_eq_true z}] at hc;cases hc
     have nw2:=nw.new hset hno (r:=[]) (RB _);refine eM (HA rfl rfl rfl (jA h'.f (.inr rfl)) (lL _) (by rw[Qq];omega)) ?_
     have s1:(M'.set (aC fk-5000) (.int 78::putD ((E++N).map qY) (bD b) (nD p)))=M'.set fk (oQ (E++(N++[(b,p,[])]))):=by
      rw[show aC fk-5000=fk from RR _ _,GO hno,RH];rfl
     rw[s1];have h2:=h'.put (E++(N++[(b,p,[])]));refine bE (mT (wL rfl (jA h2.f (.inr rfl))) rfl) (λhg=>?_) λhg=>?_
     ·have hg:=of_decide_eq_true hg;rw[av,bS];refine .inr {rfl,H9 hm hall bk nw2.nd (λx hx=>{Si (nw2.fr x hx).1,(nw2.fr x hx).2.1}) ?_,h2.s,?_}
      ·simp at hg ⊢;omega
      ·rw[h2.q p cc at',hQ]
     ·have hg:=of_decide_eq_false hg;have hlen:(E++(N++[(b,p,[])])).length=(E++N).length+1:=by rw[<- RH,Rb];rfl
      have hg2:(E++(N++[(b,p,[])])).length<=255:=by simp at hg ⊢;omega
      rw[av];have e4:E.length<=(E++N).length:=by rw[Rb];omega
      refine JK (C:=3*(E++N).length+4) ha h158 n hm `a `a (by rw[ok.1];exact dj hm) ok.2 h2 `a bk' hL' `a λM3 t3 Q3 z6 z7 h3 hl3 bk3 hL3 hQ3=>?_
      rw[RH] at h3 hl3;refine .inl {_,rfl,N++[(b,p,[])],t++t3,Q3,_,_,_,nw2,hg2,h3,by rw[hlen];omega,?_,λi=>?_,hQ3.trans hQ,rfl}
      ·rw[<- RH];exact bk3.congr FH
      ·have:=hL3 i;rw[hlen];omega
    ·have hc:((E++N).any λe=>decide (e.1=b))=true:=by
      cases z:((E++N).any λe=>decide (e.1=b)) with
      |true=>rfl
      |false=>rw[z] at hc;cases hc
     obtain⟨e,he,z⟩:=R7.mp hc;exact .inl {_,rfl,N,t,Q',_,_,_,nw.old hset {e,he,of_decide_eq_true z},hn,h',hl',bk',hL',hQ,rfl}
 ·rintro Z M' ⟨N,t,Q',y5,y6,y7,nw,hn,h',hl',bk',hL',hQ,rfl⟩;rw[Qq,RD (Qw _)] at nw;exact k1 M' N t Q' y5 y6 y7 (H8 hm hall bk nw) hn h' hl' bk' hL'
 ·rintro fl M' ⟨rfl,mn,s,_⟩;exact k2 M' mn s
def zQ (ha:HasB P)(h158:P 158=some {3,3,cx})(h159:P 159=some {2,8,fF})(n:Nat)(hm:aL m) :
 ae (ah P (n+3) 159 [m.d,nD bound] M) λd M'=>Sub M M'/\((d=.non/\kA m (bound+1))\/∃fk E,d=.fn (aC fk)/\M.length<=fk/\M'[fk]?=some (oQ E)/\cz m (bound+1) (E.map pr)/\(800<=bound->AllIn m none (E.map pr)/\∀e∈E,e.2.1<=800)/\E.length<=255):=by
 refine aF h159 rfl ?_;show ae (fF (ah P (n+2)) [some m.d,some (nD bound),none,none,none,none,none,none] M) _;rw[MU];refine eM (hV rfl) ?_;have et:aJ .tuple #[ai 42 (ah P (n+2)) #[aa 0]] [some m.d,some (nD bound),some (.fn (aC M.length)),none,none,none,none,none] (M++[[.int 78]])=.ok (bD (bq m)) (M++[[.int 78]]):=by
  refine ak (b8.mpr ?_);rw[ag ((aS (ag rfl rfl)).trans (gF ha (n+1) hm)) rfl,aV];exact⟨rfl,rfl⟩
 have ei:bA true #[bA true #[aJ .tuple #[ai 42 (ah P (n+2)) #[aa 0]]]] [some m.d,some (nD bound),some (.fn (aC M.length)),none,none,none,none,none] (M++[[.int 78]])=.ok (.cell (M.length+2)) (M++[[.int 78],[bD (bq m)],[.cell (M.length+1)]]):=by
  refine(wj (HS (wj (ag et rfl) (QZ rfl)) rfl) (QZ rfl)).trans ?_;simp
 refine eM (hV ei) ?_;refine bN (bZ rfl) ?_;have start:cy M (M++[[.int 78],[bD (bq m)],[.cell (M.length+1)]]) M.length (M.length+2) [] [M.length+1] (λi=>if i=0 then [bq m] else []):=by
  refine{by simp;rfl,`s,`s,λx hx=>by simp at hx;omega,λi c e=>?_,λi hi=>if_neg (by simp at hi;omega),Sub.app}
  cases i with
  |zero=>cases e;simp
  |succ i=>simp at e
 rw[av];refine oK (λk Z M'=>∃(p:Nat) (E:fh) (cs:List Nat) (Q:Nat->List aR) (y5 y6 y7:Option D),k=800-p/\p<=800/\p<=bound+1/\cz m p (E.map pr)/\E.length<=255/\cy M M' M.length (M.length+2) E cs Q/\cs.length<=3*E.length+1/\Bk m (WE m E) Q/\(∀i,(Q i).length<=7*E.length+1)/\Z=[some m.d,some (nD bound),some (.fn (aC M.length)),some (.cell (M.length+2)),some (nD p),y5,y6,y7]) ?_ `a {0,[],_,_,none,none,none,rfl,RB _,RB _,{.nil,(λx hx=>nomatch hx),λq b hq=>absurd hq (R4 _)},RB _,start,`s,λi b=>?_,λi=>?_,rfl}
 ·rintro k Z M' ⟨p,E,cs,Q,y5,y6,y7,rfl,hp8,hp,hall,hE,h,hl,bk,hL,rfl⟩;rw[rC (AD rfl (wm rfl h.d)) (uy rfl rfl),aV,Qq];refine{λhv=>?_,λhv=>?_}
  ·have full:cz m (bound+1) (E.map pr):=by
    rcases R5 bound p with z|z
    ·have:p=bound+1:=`a
     rw[<- this];exact hall
    ·rw[decide_eq_true z,Bool.and_true] at hv;have hv:=of_decide_eq_false hv;exact hall.mono hp λq c hq _=>wW hm hall bk (λi hi=>h.e i `a) q hq c
   have none':800<=bound->AllIn m none (E.map pr)/\∀e∈E,e.2.1<=800:=λhb=>by
    rw[decide_eq_true (show p<=bound by omega),Bool.and_true] at hv
    have hv:=of_decide_eq_false hv;exact{{p,hall,wW hm hall bk (λi hi=>h.e i `a)},λe he=>QH (Sy (hall.sound (pr e) (QE.mpr ⟨e,he,rfl⟩)).2) hp8}
   exact bK.mpr (c9 rfl {h.s,.inr {_,E,rfl,Qw _,h.f,full,none',hE}})
  ·have h1:=of_decide_eq_true (Sj.mp hv).1;have h2:=of_decide_eq_true (Sj.mp hv).2;refine{800-(p+1),`a,?_}
   unfold AG;rw[av];refine He ha h158 n hm hall hE h hl bk hL h1 (λM2 N t Q2 z5 z6 z7 hall2 hE2 h2' hl2 bk2 hL2=>?_) λM2 mn s=>?_
   ·rw[bK];refine bN (bZ (DK rfl rfl)) ?_;exact .inl {_,rfl,p+1,E++N,cs++t,Q2,z5,z6,z7,rfl,`a,`a,hall2,hE2,h2',hl2,bk2,hL2,rfl}
   ·exact .inr {(λ_ z=>nomatch z),s,.inl {rfl,mn.mono `a}}
 ·constructor
  ·intro hb;dsimp only at hb;split at hb
   ·next z=>exact .inl {z,QF.mp hb}
   ·exact nomatch hb
  ·rintro(⟨rfl,rfl⟩|⟨b',q,j,w,_⟩)
   ·exact QF.mpr rfl
   ·exact nomatch w.1
 ·show(if i=0 then [bq m] else []).length<=1;split<;>simp
end
def vf (is:List Int):∀n:Nat,argBest (ltI is) n<=n/\∀j,j<=n->is.getD (argBest (ltI is) n) 0<=is.getD j 0
 |0=>{Qw _,λj hj=>by rw[Nat.le_zero.mp hj];exact Int.le_refl _}
 | n + 1 => by
   obtain⟨h1,h2⟩:=vf is n;unfold argBest;cases e:ltI is (n+1) (argBest (ltI is) n) with
   | true =>
     refine{Qw _,λj hj=>?_};rcases Nat.lt_or_eq_of_le hj with hj|rfl
     ·exact Int.le_trans (Int.le_of_lt (of_decide_eq_true e)) (h2 j (Nat.le_of_lt_succ hj))
     ·exact Int.le_refl _
   | false =>
     refine{Nat.le_succ_of_le h1,λj hj=>?_};rcases Nat.lt_or_eq_of_le hj with hj|rfl
     ·exact h2 j (Nat.le_of_lt_succ hj)
     ·exact Int.not_lt.mp (of_decide_eq_false e)
def Hb {α:Type}(q:α->Nat){A:List α}(ea:a Z M=.ok (.lst (A.map λx=>nD (q x))) M1)(h0:A≠[]):∃x∈A,nS a Z M=.ok (nD (q x)) M1/\∀y∈A,q x<=q y:=by
 have hl:=List.length_pos_iff.mpr h0;have ei:intsOf (A.map λx=>nD (q x))=some ((A.map q).map λ(i:Nat)=>(i:Int)):=by rw[<- wz,Rx];rfl
 have e:nS a Z M=.ok (.int (((A.map q).map λ(i:Nat)=>(i:Int)).getD (argBest (ltI ((A.map q).map λ(i:Nat)=>(i:Int))) (A.length-1)) 0)) M1:=by
  unfold nS;rw[ea];show(match intsOf (A.map λx=>nD (q x)) with|some is=>if is.length=0 then Res.bad else Res.ok (D.int (is.getD (argBest (ltI is) (is.length-1)) 0)) M1|none=>Res.bad)=_
  rw[ei];show(if ((A.map q).map λ(i:Nat)=>(i:Int)).length=0 then Res.bad else _)=_;rw[if_neg (by simp;exact h0),Qq,Qq]
 obtain⟨h1,h2⟩:=vf ((A.map q).map λ(i:Nat)=>(i:Int)) (A.length-1);rw[e];generalize argBest (ltI ((A.map q).map λ(i:Nat)=>(i:Int))) (A.length-1)=i at h1 h2;have hi:i<A.length:=`a
 have g:∀j (hj:j<A.length),((A.map q).map λ(i:Nat)=>(i:Int)).getD j 0=(q A[j]:Int):=λj hj=>by
  rw[Rw,Rx,QL,QG hj];rfl
 refine{A[i],SA hi,by rw[g i hi],λy hy=>?_}
 obtain⟨j,hj,rfl⟩:=List.getElem_of_mem hy;have:=h2 j `a
 rw[g i hi,g j hj] at this;exact Int.ofNat_le.mp this
def jB (h1:a Z M=.ok x M)(h2:b Z M=.ok y M)(h3:bF o x y M=some v):ax o a b Z M=.ok (.bl v) M:=by
 unfold ax;rw[h1];show(b Z M).bind _=_;rw[h2];show(cm M (bF o x y M)).bind _=_;rw[h3];rfl
section
variable{P:Nat->Option Df}{M:Mem}{m:aP}{w:D}{fit:aR->Bool}
noncomputable def DV (fit:aR->Bool)(E:fh)(d:D):Prop:=(d=.tup [.str "none"]/\∀e∈E,fit e.1=false)\/∃e∈E,d=.tup [.str "row",nD e.2.1]/\fit e.1=true/\∀y∈E,fit y.1=true->e.2.1<=y.2.1
def Dr (n:Nat)(h173:P 173=some {3,4,d9}):ah P (n+1) 173 [m.d,w,.non] M=.ok (.tup [.str "many"]) M:=by
 refine ak (aF h173 rfl ?_);show ae (d9 (ah P n) [some m.d,some w,some .non,none] M) _;refine bE (mP rfl) (λ_=>?_) (λh=>by cases h)
 rw[av,bS,iE (ag rfl rfl) (QZ rfl),aV];exact⟨rfl,rfl⟩
def Gh (n:Nat)(h84:∀(M:Mem) (q:Nat) (b:aR),a7 m q b->ah P n 84 [bD b,w] M=.ok (.bl (fit b)) M)(h173:P 173=some {3,4,d9})(ef:M[fk]?=some (oQ E))(all:AllIn m none (E.map pr))(few:E.length<=255):∃d,ah P (n+1) 173 [m.d,w,.fn (aC fk)] M=.ok d M/\DV fit E d:=by
 have ef':=ef;have nd:(E.map (·.1)).Nodup:=by have:=all.nd;rw[gG] at this;exact this
 have snd:=λx hx=>all.sound (x.1,x.2.1) (QE.mpr ⟨x,hx,rfl⟩);have e1:bj false 1 (.one 0) (fg c8 (aa 2)) (gY (aj (ai 84 (ah P n) #[aa 0,aa 2])) (bp (dX (aa 3) (aa 0)))) [some m.d,some w,some (.fn (aC fk)),none] M=.ok (.lst ((E.filter λx=>fit x.1).map λe=>nD e.2.1)) M:=by
  rw[q8 false (λx=>fit x.1) (λe=>nD e.2.1) rfl ef' (aI `a) (λx hx=>bo ((aS (ag rfl (ag rfl rfl))).trans (h84 M _ _ (snd x hx)))) (λx hx _=>p6 (x:=.non) rfl rfl (uT (v:=λe=>nD e.2.1) ef' nd hx))]
  exact if_pos (aI (by rw[Qq];exact QH (R3 _ _) `a))
 have key:∃d,ae (d9 (ah P n) [some m.d,some w,some (.fn (aC fk)),none] M) (g5 λx M'=>x=d/\M'=M)/\DV fit E d:=by
  have hp:((E.filter λx=>fit x.1).map λe=>nD e.2.1).all (az 63)=true:=by
   rw[QX];intro x hx;obtain⟨_,_,rfl⟩:=QE.mp hx;rfl
  have et:aj (ax .eq (aa 3) (bA false bY)) [some m.d,some w,some (.fn (aC fk)),some (.lst ((E.filter λx=>fit x.1).map λe=>nD e.2.1))] M=.ok (((E.filter λx=>fit x.1).map λe=>nD e.2.1).isEmpty) M:=by
   exact bo (jB (aA rfl) (ux rfl (RB _)) (eq_empty hp))
  cases hE:E.filter λx=>fit x.1 with
  | nil =>
    refine{.tup [.str "none"],?_,.inl {rfl,λe he=>?_}}
    ·refine aY (mP (x:=.fn (aC fk)) rfl) ?_;refine bN (bZ e1) ?_;simp only[List.set];rw[av,bS,sW,et,aV,hE,List.map_nil,List.isEmpty_nil,if_pos rfl,iE (ag rfl rfl) (QZ rfl),aV];exact⟨rfl,rfl⟩
    ·cases hf:fit e.1 with
     |false=>rfl
     | true =>
       have:e∈E.filter λx=>fit x.1:=RG.mpr ⟨he,hf⟩;rw[hE] at this;cases this
  | cons z B =>
    have h0:E.filter (λx=>fit x.1)≠[]:=by rw[hE];exact List.cons_ne_nil _ _
    obtain⟨x,hx,em,hb⟩:=Hb (a:=aa 3) (Z:=[some m.d,some w,some (.fn (aC fk)),some (.lst ((E.filter λx=>fit x.1).map λe=>nD e.2.1))]) (λe:aR×Nat×List Nat=>e.2.1) rfl h0;obtain⟨hxE,hxf⟩:=RG.mp hx;refine{.tup [.str "row",nD x.2.1],?_,.inr {x,hxE,rfl,hxf,λy hy hf=>hb y (RG.mpr ⟨hy,hf⟩)}};refine aY (mP (x:=.fn (aC fk)) rfl) ?_;refine bN (bZ e1) ?_;simp only[List.set];rw[av,bS,sW,et,aV];rw[show(((E.filter λx=>fit x.1).map λe=>nD e.2.1).isEmpty)=false from by rw[hE];rfl,if_neg `s,iE (ag rfl (ag em rfl)) (QZ rfl),aV]
    exact⟨rfl,rfl⟩
 obtain⟨d,h,dd⟩:=key;exact{d,ak (aF h173 rfl h),dd}
end
section
variable{P:Nat->Option Df}{M:Mem}{m:aP}{w:D}{fit:aR->Bool}
def Cf (n:Nat)(h172:P 172=some {2,3,fP})(hc:fC (ah P n 167 [m.d,w] M) (λd M'=>(qo m fit M.length d M'\/vB m fit M.length d M')/\Sub M M') (λx M'=>x=.exc 8 none/\fG m none/\Sub M M')) :
 ae (ah P (n+1) 172 [m.d,w] M) λd M'=>((d=.tup [.str "many"]/\fG m none)\/qo m fit M.length d M'\/vB m fit M.length d M')/\Sub M M':=by
 refine aF h172 rfl ?_;show ae (fP (ah P n) [some m.d,some w,none] M) _;refine bN (bZ rfl) ?_;rw[av];cases e:ah P n 167 [m.d,w] M with
 |bad=>rw[e] at hc;exact hc.elim
 | err x M1 =>
   rw[e] at hc;obtain⟨rfl,mn,sub⟩:=hc;simp only[tU,av,qy];rw[fE (ag rfl (ag rfl rfl)),e];exact{8,none,rfl,.inl rfl,.inl ⟨rfl,mn⟩,sub}
 | ok d M1 =>
   rw[e] at hc;simp only[tU,av,qy];rw[fE (ag rfl (ag rfl rfl)),e];exact{.inr hc.1,hc.2}
def AllIn.mem (h:AllIn m none A):(b,q)∈A↔a7 m q b:=by
 refine{λz=>h.sound _ z,λz=>?_};obtain⟨p,h,no⟩:=h;rcases R5 q p with hq|hq
 ·exact h.all q b hq z
 ·exact absurd z (no q hq b)
def AllIn.few (h:AllIn m none A)(hl:A.length<=255):¬ fG m none:=by
 rintro⟨p,l',n',s',hl'⟩;have:=len_sub (As n') λx hx=>h.mem.mpr (s' x hx).1;omega
end
section
variable{P:Nat->Option Df}{M M1:Mem}{m:aP}{w:D}{fit:aR->Bool}{Z:Env}{a b:GE}{t:GT}{A rest:GS}{k:Fl->Mem->Prop}
def A5 (ha:a Z M=.ok x M1)(hb:b Z M1=.ok (.fn o) M1)(e:inD M1 o x=some r):aj (gZ n a b) Z M=.ok (n != r) M1:=by
 unfold aj gZ;rw[ha];show Res.bind (Res.bind (b Z M1) _) _=_;rw[hb];show Res.bind (match inD M1 o x with|some r=>Res.ok (D.bl (n != r)) M1|none=>.bad) _=_
 rw[e];rfl
def iI (ht:t Z M=.ok false M1)(h:ae (rest Z M1) k):ae (bw (aN t A aD) rest Z M) k:=by
 simp only[av,mx];rw[ht];exact h
def mF (h:Z[j]?.getD none=some m.d):aJ .len #[aq (aa j) (gI 2)] Z M=.ok (nD m.deeds.length) M:=by
 refine ak (b8.mpr ?_);rw[ag (bx (aA h) rfl rfl) rfl,aV];show ae (Res.ok (D.int ((m.deeds.map a8.d).length:Int)) M) _;rw[Qq];exact⟨rfl,rfl⟩
def zR (n:Nat){E:List aR}(ha:HasB P)(hm:aL m)(h158:P 158=some {3,3,cx})(h170:P 170=some {3,6,gy})(h168:∀(M:Mem) (q:Nat) (b:aR),a7 m q b->ah P (n+2) 168 [m.d,bD b] M=.ok (.bl true) M)(h84:∀(M:Mem) (q:Nat) (b:aR),a7 m q b->ah P (n+2) 84 [bD b,w] M=.ok (.bl (fit b)) M)
 (ec:M[c]?=some (E.map bD)) (nd:E.Nodup) (few:E.length<=255) (snd:∀b∈E,∃q,a7 m q b) (no:∀b∈E,fit b=false) (hb:bq m∈E) (cl:∀b∈E,∀i,i<m.deeds.length->bf m i b∈E) :
 ae (ah P (n+3) 170 [m.d,w,.cell c] M) λd M'=>d=.bl true/\Sub M M':=by
 refine aF h170 rfl ?_;show ae (gy (ah P (n+2)) [some m.d,some w,some (.cell c),none,none,none] M) _;refine eM (hV rfl) ?_;rw[av,dH,eU,aA rfl,aV];refine{rfl,?_};have hc:=dM ec;refine cF (ds:=E.map bD) (λi Z M'=>M'=M++[dz id (λ_=>.bl true) (E.take i)]/\∃y4 y5,Z=[some m.d,some w,some (.cell c),some (.fn (aC M.length)),y4,y5]) ?_ ⟨rfl,none,none,rfl⟩ ?_ ?_
 ·rintro i Z M' ⟨rfl,_⟩;show(M++_)[c]?=_;rw[Qv hc];exact ec
 ·rintro i x Z M' hx ⟨rfl,y4,y5,rfl⟩;rw[QL] at hx;obtain⟨b,eb,rfl⟩:=QA.mp hx;have hi:=(Qo.mp eb).1;have hbE:=QT eb;obtain⟨q,lq⟩:=snd b hbE;refine{_,rfl,?_};have t1:=pU (dJ (bo (M:=M++[dz id (λ_=>.bl true) (E.take i)]) (Z:=[some m.d,some w,some (.cell c),some (.fn (aC M.length)),some (bD b),y5]) ((aS (ag (a:=aa 0) rfl (ag (a:=aa 4) (s:=bY) rfl rfl))).trans (h168 _ q b lq)))) (bo ((aS (ag (a:=aa 4) rfl (ag (a:=aa 1) (s:=bY) rfl rfl))).trans (h84 _ q b lq)));rw[no b hbE] at t1;refine aY t1 ?_;have e0:(M++[dz id (λ_=>D.bl true) (E.take i)])[M.length]?=some (dz id (λ_=>.bl true) (E.take i)):=`s
  refine eM (pw (x:=b) rfl rfl rfl e0 (by rw[RX];omega) λe he z=>?_) ?_
  ·have z:=z;subst z;obtain⟨j,hj,ej⟩:=List.getElem_of_mem he;rw[RX] at hj;rw[List.getElem_take] at ej;exact(List.pairwise_iff_getElem.mp nd) j i `a hi `a (ej.trans (Qo.mp eb).2.symm)
  ·refine{_,rfl,?_,_,_,rfl};rw[RM,eb];simp
 ·rintro Z M' ⟨rfl,y4,y5,rfl⟩;rw[Qq,RD (Qw _),bK];generalize hM2:M++[dz id (λ_=>D.bl true) E]=M2;have ed:M2[M.length]?=some (dz id (λ_=>.bl true) E):=by rw[<- hM2];simp
  have ec2:M2[c]?=some (E.map bD):=by rw[<- hM2,Qv hc];exact ec
  have yes:∀b∈E,(true != E.any λe=>decide (id e=b))=false:=λb hb=>by
   rw[R7.mpr {b,hb,decide_eq_true rfl}];rfl
  have et:aJ .tuple #[ai 42 (ah P (n+2)) #[aa 0]] [some m.d,some w,some (.cell c),some (.fn (aC M.length)),y4,y5] M2=.ok (bD (bq m)) M2:=by
   refine ak (b8.mpr ?_);rw[ag ((aS (ag rfl rfl)).trans (gF ha (n+1) hm)) rfl,aV];exact⟨rfl,rfl⟩
  have t2:=A5 (n:=true) et (b:=aa 3) rfl (yj ed);rw[yes _ hb] at t2;refine iI t2 ?_;rw[av,dH,eU,aA rfl,aV];refine{rfl,?_};refine cF (λi Z M'=>Sub M2 M'/\∃y4 y5,Z=[some m.d,some w,some (.cell c),some (.fn (aC M.length)),y4,y5]) (λi Z M' h=>h.1.get ec2) {.refl,_,_,rfl} ?_ ?_
  ·rintro i x Z M3 hx ⟨s3,y4,y5,rfl⟩;rw[QL] at hx;obtain⟨b,eb,rfl⟩:=QA.mp hx;have hbE:=QT eb;obtain⟨q,lq⟩:=snd b hbE;have ok:=ju hm lq.1;have d6:=hm.d6;refine{_,rfl,?_};rw[av,dH,fA,mF rfl,aV];refine{_,rfl,`a,?_}
   rw[show((m.deeds.length:Nat):Int).toNat=m.deeds.length from R1 _];refine cF (λi Z M'=>Sub M2 M'/\∃y5,Z=[some m.d,some w,some (.cell c),some (.fn (aC M.length)),some (bD b),y5]) (λ_ _ _ _=>rfl) {s3,_,rfl} ?_ ?_
   ·rintro j x Z M4 hx ⟨s4,y5,rfl⟩;rw[QL] at hx;obtain⟨j',ej,rfl⟩:=QA.mp hx;obtain⟨hj,rfl⟩:j<m.deeds.length/\j=j':=by
     rw[Qo] at ej;obtain⟨h1,h2⟩:=ej;rw[R0] at h1;rw[List.getElem_range] at h2;exact⟨h1,h2⟩
    refine{_,rfl,?_};obtain⟨z,M5,e5,ez,s5⟩:=dO.mp (lp ha h158 n hm hj (by rw[ok.1];exact dj hm) ok.2)
    subst ez;have s45:=s4.trans s5;have t3:=A5 (n:=true) (Z:=[some m.d,some w,some (.cell c),some (.fn (aC M.length)),some (bD b),some (D.int (j:Int))]) ((aS (ag (a:=aa 0) rfl (ag (a:=aa 4) rfl (ag (a:=aa 5) (s:=bY) rfl rfl)))).trans e5) (b:=aa 3) rfl (yj (k:=id) (s45.get ed));rw[yes _ (cl b hbE j hj)] at t3;exact iI t3 {_,rfl,s45,_,rfl}
   ·rintro Z M4 ⟨s4,y5,rfl⟩;rw[bK];exact{_,rfl,s4,_,_,rfl}
  ·rintro Z M3 ⟨s3,y4,y5,rfl⟩;rw[bK];exact c9 (v:=.bl true) rfl {rfl,Sub.trans (by rw[<- hM2];exact Sub.app) s3}
end
section
variable{α:Type}{k:α->aR}{v:α->D}{E:List α}{M M1:Mem}{j:Nat}{y:aR}{Z:Env}{a b c:GE}{z:D}
def uU (ha:a Z M=.ok (.fn (aC j)) M)(e0:M[j]?=some (dz k v E))(hb:b Z M=.ok (bD y) M1)(hc:c Z M1=.ok z M1)(e:M1[j]?=some (dz k v E)):g4 a b c Z M=.ok (((E.find? λe=>decide (k e=y)).map v).getD z) M1:=by
 unfold g4;rw[ha];show(if (bC M (aC j)).isSome=true then _ else _)=_;rw[g6 e0];rw[hb];show(c Z M1).bind _=_;rw[hc];show(match bC M1 (aC j) with|some q=>if isKey q.1 (bD y)=true then Res.ok ((cK q.2 (bD y)).getD z) M1 else Res.bad|none=>Res.bad)=_
 rw[g6 e];show(if isKey 78 (bD y)=true then _ else _)=_;rw[if_pos (lL y),nX]
end
section
variable{P:Nat->Option Df}{M:Mem}{m:aP}{w:D}{fit:aR->Bool}{price:Nat}
noncomputable def vF (price:Nat)(y:aR×Nat):D:=nD (price-y.2)
structure OA (m:aP) (fit:aR->Bool) (price:Nat) (F:List (aR×Nat)):Prop where
 nd:(F.map (·.1)).Nodup
 few:F.length<=255
 snd:∀y∈F,a7 m y.2 y.1/\y.2<=price
 no:∀y∈F,y.2<price->fit y.1=false
 st:(bq m,0)∈F
 cl:∀y∈F,∀i,i<m.deeds.length->y.2+cst m i<price->∃q,(bf m i y.1,q)∈F/\q<=y.2+cst m i
def HR (h0:Z[0]?.getD none=some m.d)(h7:Z[7]?.getD none=some (nD i))(hi:i<m.deeds.length):aq (aq (aq (aa 0) (gI 2)) (aa 7)) (d3 (gI 1)) Z M=.ok (nD (cst m i)) M:=by
 have e1:=bx (aA (M:=M) h0) (b:=gC (.int 2)) rfl rfl;have e2:=bx e1 (aA h7) (uu hi);exact ak (eY.mpr (by rw[e2,aV];exact qb.mpr (dm.mpr {1,rfl,_,iK,rfl,rfl})))
def Cg (n:Nat)(ha:HasB P)(hm:aL m)(h158:P 158=some {3,3,cx})(h169:P 169=some {4,9,g9})(h168:∀(M:Mem) (q:Nat) (b:aR),a7 m q b->ah P (n+2) 168 [m.d,bD b] M=.ok (.bl true) M)(h84:∀(M:Mem) (q:Nat) (b:aR),a7 m q b->ah P (n+2) 84 [bD b,w] M=.ok (.bl (fit b)) M)
 (ec:M[c]?=some (F.map λy=>.tup [bD y.1,vF price y])) (f:OA m fit price F):ae (ah P (n+3) 169 [m.d,w,nD price,.cell c] M) λd M'=>d=.bl true/\Sub M M':=by
 refine aF h169 rfl ?_;show ae (g9 (ah P (n+2)) [some m.d,some w,some (nD price),some (.cell c),none,none,none,none,none] M) _;refine eM (hV rfl) ?_;rw[av,dH,eU,aA rfl,aV];refine{rfl,?_};have hc:=dM ec;refine cF (ds:=F.map λy=>.tup [bD y.1,vF price y]) (λi Z M'=>M'=M++[dz (·.1) (vF price) (F.take i)]/\∃y5 y6,Z=[some m.d,some w,some (nD price),some (.cell c),some (.fn (aC M.length)),y5,y6,none,none]) ?_ ⟨rfl,none,none,rfl⟩ ?_ ?_
 ·rintro i Z M' ⟨rfl,_⟩;show(M++_)[c]?=_;rw[Qv hc];exact ec
 ·rintro i x Z M' hx ⟨rfl,y5,y6,rfl⟩;rw[QL] at hx;obtain⟨y,ey,rfl⟩:=QA.mp hx;have hi:=(Qo.mp ey).1;have hy:=QT ey;refine{_,rfl,?_};have t1:=dJ (bo (M:=M++[dz (·.1) (vF price) (F.take i)]) (Z:=[some m.d,some w,some (nD price),some (.cell c),some (.fn (aC M.length)),some (bD y.1),some (vF price y),none,none]) ((aS (ag (a:=aa 0) rfl (ag (a:=aa 5) (s:=bY) rfl rfl))).trans (h168 _ y.2 y.1 (f.snd y hy).1)));refine aY t1 ?_;have e0:(M++[dz (·.1) (vF price) (F.take i)])[M.length]?=some (dz (·.1) (vF price) (F.take i)):=`s
  have new:∀e∈F.take i,e.1≠y.1:=λe he z=>by
   obtain⟨j,hj,ej⟩:=List.getElem_of_mem he;rw[RX] at hj;rw[List.getElem_take] at ej;have:=(List.pairwise_iff_getElem.mp f.nd) j i (by rw[Qq];omega) (by rw[Qq];exact hi) `a
   rw[List.getElem_map,List.getElem_map,ej,(Qo.mp ey).2] at this;exact this z
  have eg:=uU (Z:=[some m.d,some w,some (nD price),some (.cell c),some (.fn (aC M.length)),some (bD y.1),some (vF price y),none,none]) (a:=aa 4) (b:=aa 5) (c:=aa 6) rfl e0 rfl rfl e0;rw[List.find?_eq_none.mpr (λe he z=>new e he (of_decide_eq_true z))] at eg;have em:uL #[aa 6,g4 (aa 4) (aa 5) (aa 6)] [some m.d,some w,some (nD price),some (.cell c),some (.fn (aC M.length)),some (bD y.1),some (vF price y),none,none] (M++[dz (·.1) (vF price) (F.take i)])=.ok (vF price y) (M++[dz (·.1) (vF price) (F.take i)]):=by
   unfold uL;rw[ag rfl (ag eg rfl)];show Res.ok (D.int (if _ then _ else _)) _=_;rw[if_neg (Int.lt_irrefl _)];rfl
  refine eM (pw em rfl rfl e0 (by have:=f.few;rw[RX];omega) new) ?_
  refine{_,rfl,?_,_,_,rfl};rw[RM,ey];simp
 ·rintro Z M' ⟨rfl,y5,y6,rfl⟩;rw[Qq,RD (Qw _),bK];generalize hM2:M++[dz (·.1) (vF price) F]=M2;have ed:M2[M.length]?=some (dz (·.1) (vF price) F):=by rw[<- hM2];simp
  have ec2:M2[c]?=some (F.map λy=>.tup [bD y.1,vF price y]):=by rw[<- hM2,Qv hc];exact ec
  have et:aJ .tuple #[ai 42 (ah P (n+2)) #[aa 0]] [some m.d,some w,some (nD price),some (.cell c),some (.fn (aC M.length)),y5,y6,none,none] M2=.ok (bD (bq m)) M2:=by
   refine ak (b8.mpr ?_);rw[ag ((aS (ag rfl rfl)).trans (gF ha (n+1) hm)) rfl,aV];exact⟨rfl,rfl⟩
  have e1:=uU (a:=aa 4) (c:=au false .sub (aa 2) (gI 1)) rfl ed et rfl ed;rw[nY f.nd f.st] at e1;have t2:aj (ax .lt (g4 (aa 4) (aJ .tuple #[ai 42 (ah P (n+2)) #[aa 0]]) (au false .sub (aa 2) (gI 1))) (aa 2)) [some m.d,some w,some (nD price),some (.cell c),some (.fn (aC M.length)),y5,y6,none,none] M2=.ok false M2:=by
   rw[AD (i:=price) e1 rfl];rw[decide_eq_false (RL _)]
  refine aY t2 ?_;rw[av,dH,eU,aA rfl,aV];refine{rfl,?_};refine cF (λi Z M'=>Sub M2 M'/\∃y5 y6 y7 y8,Z=[some m.d,some w,some (nD price),some (.cell c),some (.fn (aC M.length)),y5,y6,y7,y8]) (λi Z M' h=>h.1.get ec2) {.refl,_,_,_,_,rfl} ?_ ?_
  ·rintro i x Z M3 hx ⟨s3,y5,y6,y7,y8,rfl⟩;rw[QL] at hx;obtain⟨y,ey,rfl⟩:=QA.mp hx;have hy:=QT ey;obtain⟨lq,hq⟩:=f.snd y hy;have ok:=ju hm lq.1;have d6:=hm.d6;refine{_,rfl,?_};have t3:=Bv (mT (M:=M3) (Z:=[some m.d,some w,some (nD price),some (.cell c),some (.fn (aC M.length)),some (bD y.1),some (vF price y),y7,y8]) (a:=aa 6) (b:=gC (.int 0)) (i:=((price-y.2:Nat):Int)) (j:=0) rfl rfl) (u:=aj (ai 84 (ah P (n+2)) #[aa 5,aa 1])) λh=>by
    have h:=of_decide_eq_true h;refine bo ((aS (xs:=[bD y.1,w]) (ag rfl (ag rfl rfl))).trans ?_);rw[h84 M3 y.2 y.1 lq,f.no y hy `a]
   refine aY t3 ?_;have er:au false .mul (aJ .len #[aq (aa 0) (gI 2)]) (uM (ax .gt (aa 6) (gI 0))) [some m.d,some w,some (nD price),some (.cell c),some (.fn (aC M.length)),some (bD y.1),some (vF price y),y7,y8] M3=.ok (nD (if y.2<price then m.deeds.length else 0)) M3:=by
    have g1:uM (ax .gt (aa 6) (gI 0)) [some m.d,some w,some (nD price),some (.cell c),some (.fn (aC M.length)),some (bD y.1),some (vF price y),y7,y8] M3=.ok (.int (if decide ((0:Int)<((price-y.2:Nat):Int))=true then 1 else 0)) M3:=rfl;rw[mG (mF (m:=m) rfl) g1 (.inl `a)]
    congr 2
    by_cases h:y.2<price
    ·rw[if_pos h,if_pos (decide_eq_true `a)];omega
    ·rw[if_neg h,if_neg `o];simp
   simp only[List.set];rw[av,dH,fA,er,aV];refine{_,rfl,by split<;>omega,?_}
   rw[R1];refine cF (ds:=(List.range (if y.2<price then m.deeds.length else 0)).map λ(k:Nat)=>D.int (k:Int)) (λi Z M'=>Sub M2 M'/\∃y7 y8,Z=[some m.d,some w,some (nD price),some (.cell c),some (.fn (aC M.length)),some (bD y.1),some (vF price y),y7,y8]) (λ_ _ _ _=>rfl) {s3,_,_,rfl} ?_ ?_
   ·rintro j x Z M4 hx ⟨s4,y7,y8,rfl⟩;rw[QL] at hx;obtain⟨j',ej,rfl⟩:=QA.mp hx;obtain⟨⟨hlt,hj⟩,rfl⟩:(y.2<price/\j<m.deeds.length)/\j=j':=by
     rw[Qo] at ej;obtain⟨h1,h2⟩:=ej;rw[R0] at h1;rw[List.getElem_range] at h2;split at h1
     ·next z=>exact{⟨z,h1⟩,h2}
     ·omega
    refine{_,rfl,?_};have el:au false .sub (aa 6) (aq (aq (aq (aa 0) (gI 2)) (aa 7)) (d3 (gI 1))) [some m.d,some w,some (nD price),some (.cell c),some (.fn (aC M.length)),some (bD y.1),some (vF price y),some (D.int (j:Int)),y8] M4=.ok (.int (((price-y.2:Nat):Int)-(cst m j:Int))) M4:=(og (aA rfl) (HR (m:=m) (i:=j) rfl rfl hj)).trans rfl;refine bN (bZ el) ?_;simp only[List.set];obtain⟨z,M5,e5,ez,s5⟩:=dO.mp (lp ha h158 n (M:=M4) hm hj (by rw[ok.1];exact dj hm) ok.2)
    subst ez;have s45:=s4.trans s5;by_cases hg:y.2+cst m j<price
    ·obtain⟨q,hqF,hql⟩:=f.cl y hy j hj hg;have e6:=uU (k:=λy:aR×Nat=>y.1) (v:=vF price) (Z:=[some m.d,some w,some (nD price),some (.cell c),some (.fn (aC M.length)),some (bD y.1),some (vF price y),some (D.int (j:Int)),some (.int (((price-y.2:Nat):Int)-(cst m j:Int)))]) (a:=aa 4) (c:=gC (.int 0)) (z:=.int 0) rfl (s4.get ed) ((aS (c:=ah P (n+2)) (xs:=[m.d,bD y.1,nD j]) (ag (a:=aa 0) rfl (ag (a:=aa 5) rfl (ag (a:=aa 7) (s:=bY) rfl rfl)))).trans e5) rfl (s45.get ed);rw[nY f.nd hqF] at e6;refine iI (M1:=M5) ?_ {_,rfl,s45,_,_,rfl};unfold eV;rw[mT (i:=((price-y.2:Nat):Int)-(cst m j:Int)) (j:=0) rfl rfl,decide_eq_true `a]
     show aj _ _ M4=_;unfold aj ax;rw[e6];show Res.ok (decide (((price-q:Nat):Int)<((price-y.2:Nat):Int)-(cst m j:Int))) M5=_;rw[decide_eq_false `a]
    ·refine aY (Bv (mT (i:=((price-y.2:Nat):Int)-(cst m j:Int)) (j:=0) rfl rfl) λh=>?_) {_,rfl,s4,_,_,rfl};have h:=of_decide_eq_true h;omega
   ·rintro Z M4 ⟨s4,y7,y8,rfl⟩;rw[bK];exact{_,rfl,s4,_,_,_,_,rfl}
  ·rintro Z M3 ⟨s3,y5,y6,y7,y8,rfl⟩;rw[bK];exact c9 (v:=.bl true) rfl {rfl,Sub.trans (by rw[<- hM2];exact Sub.app) s3}
end
structure Mg (P:Nat->Option Df):Prop where
 whole:P 67=some {1,1,hU}
 is_in:P 68=some {3,3,nq}
 numbers:P 69=some {4,4,kZ}
def ne_self:bF .ne (nD i) (nD i) M=some false:=by
 show some (!((i:Int)==(i:Int)))=_;rw[beq_self_eq_true];rfl
def nQ (e:a Z M=.ok (.tup xs) M):aJ .len #[a] Z M=.ok (nD xs.length) M:=by
 refine ak (b8.mpr ?_);rw[ag e rfl,aV];exact⟨rfl,rfl⟩
def C0 (e:a Z M=.ok (.lst xs) M):aJ .len #[a] Z M=.ok (nD xs.length) M:=by
 refine ak (b8.mpr ?_);rw[ag e rfl,aV];exact⟨rfl,rfl⟩
section
variable{P:Nat->Option Df}{M:Mem}{m:aP}(h:Mg P)
include h
theorem zC (n x:Nat):ah P (n+1) 67 [nD x] M=.ok (.bl true) M:=by
 refine ak (aF h.whole rfl ?_);show ae (hU (ah P n) [some (nD x)] M) _;exact c9 rfl ⟨rfl,rfl⟩
theorem zN {hi:Int}(n:Nat){x:Nat}(hx:(x:Int)<=hi):ah P (n+2) 68 [nD x,.int 0,.int hi] M=.ok (.bl true) M:=by
 refine ak (aF h.is_in rfl ?_);refine c9 ((L3 ((aS (ag rfl rfl)).trans (zC h n x)) λ_=>?_).trans rfl) ⟨rfl,rfl⟩;show Res.ok (D.bl (decide ((0:Int)<=(x:Int))&&decide ((x:Int)<=hi))) M=_;rw[decide_eq_true (Int.natCast_nonneg x),decide_eq_true hx];rfl
theorem Gd {hi:Int}(n:Nat){s:List Nat}(hz:s.length<=100)(hs:∀x∈s,(x:Int)<=hi):ah P (n+3) 69 [aw s,nD s.length,.int 0,.int hi] M=.ok (.bl true) M:=by
 refine ak (aF h.numbers rfl ?_);refine aY (pU (dJ (b:=true) (bo rfl)) (bo (jB (x:=nD s.length) ?_ rfl ?_))) ?_
 ·refine ak (b8.mpr ?_);rw[ag rfl rfl,aV];show ae (Res.ok (D.int ((s.map nD).length:Int)) M) _;rw[Qq];exact⟨rfl,rfl⟩
 ·exact ne_self
 rw[av,bS];refine qH (ds:=s.map nD) (λ_=>true) ?_ (aI (by rw[Qq];omega)) (λd hd=>?_) ?_
 ·rw[eU,aA rfl,aV];exact⟨rfl,rfl,rfl⟩
 ·obtain⟨x,hx,rfl⟩:=QE.mp hd;exact dJ (bo ((aS (ag rfl (ag rfl (ag rfl rfl)))).trans (zN h n (hs x hx))))
 ·rw[QX.mpr λ_ _=>rfl];exact⟨rfl,rfl⟩
theorem tO (n:Nat)(ha:HasB P)(h168:P 168=some {2,2,fv})(hm:aL m)(lq:a7 m q b):ah P (n+4) 168 [m.d,bD b] M=.ok (.bl true) M:=by
 obtain⟨ol,os⟩:=ju hm lq.1;have hb:=dj hm;refine ak (aF h168 rfl ?_);refine aY (pU (dJ (b:=true) (bo rfl)) (bo (jB (y:=nD (bq m).length) ?_ ?_ ne_self))) ?_
 ·rw[nQ rfl,Qq,ol]
 ·rw[C0 ((aS (ag rfl rfl)).trans (gF ha (n+2) hm)),Qq]
 rw[av,bS];refine qH (ds:=b.map aw) (λ_=>true) ?_ (aI (by rw[Qq];omega)) (λd hd=>?_) ?_
 ·rw[eU,aA rfl,aV];exact⟨rfl,rfl,rfl⟩
 ·obtain⟨s,hs,rfl⟩:=QE.mp hd;obtain⟨o1,o2⟩:=os s hs;have p2:=hm.p2;have e1:aq (aa 1) (gI 1) [some (aw s),some m.d,some (bD b)] M=.ok (nD s.length) M:=by rw[o1];exact bx rfl rfl rfl
  have e2:au false .sub (aq (aa 1) (gI 0)) (gI 1) [some (aw s),some m.d,some (bD b)] M=.ok (.int ((m.words:Int)-1)) M:=(og (bx rfl rfl rfl) rfl).trans rfl;exact dJ (bo ((aS (ag rfl (ag e1 (ag rfl (ag e2 rfl))))).trans (Gd h n `a λx hx=>by have:=o2 x hx;omega)))
 ·rw[QX.mpr λ_ _=>rfl];exact⟨rfl,rfl⟩
theorem Cr (n:Nat)(h171:P 171=some {2,2,gx}){c:Nat}{r:List Nat}(ec:M[c]?=some (r.map nD))(hz:r.length<=10000)(hr:∀i∈r,i<m.deeds.length):ah P (n+3) 171 [m.d,.cell c] M=.ok (.bl true) M:=by
 refine ak (aF h171 rfl ?_);show ae (gx (ah P (n+2)) [some m.d,some (.cell c)] M) _;refine aY (dJ (b:=true) (bo rfl)) ?_;rw[av,bS];refine qH (ds:=r.map nD) (λ_=>true) ?_ (QH (by rw[Qq];exact hz) `d) (λd hd=>?_) ?_
 ·rw[eU,aA rfl,aV];exact⟨rfl,rfl,ec⟩
 ·obtain⟨x,hx,rfl⟩:=QE.mp hd;have e2:au false .sub (aJ .len #[aq (aa 1) (gI 2)]) (gI 1) [some (nD x),some m.d,some (.cell c)] M=.ok (.int ((m.deeds.length:Int)-1)) M:=(og (mF rfl) rfl).trans rfl;exact dJ (bo ((aS (ag rfl (ag rfl (ag e2 rfl)))).trans (zN h n (by have:=hr x hx;omega))))
 ·rw[QX.mpr λ_ _=>rfl];exact⟨rfl,rfl⟩
end
def jh:b6 (.tup (x::r)) (.int 0) M=some x:=by
 rw[ij];show(cv (r.length+1) 0).bind _=_;rw[show(0:Int)=((0:Nat):Int) from rfl,dS (Nat.succ_pos _)];rfl
section
variable{P:Nat->Option Df}{M:Mem}{m:aP}{w:D}{fit:aR->Bool}{Z:Env}
def Gq (ha:a Z M=.ok (.tup (xs++ys)) M)(hb:b Z M=.ok (nD xs.length) M):fq false false true a gN b Z M=.ok (.tup xs) M:=by
 refine ak (qa.mpr ?_);rw[ha,aV];refine dm.mpr ?_;rw[hb,aV];refine{rfl,rfl,?_};show ae (Res.ok (D.tup (cut (xs++ys) 0 (if (xs.length:Int)<0 then _ else min (xs.length:Int).toNat (xs++ys).length))) M) _;rw[if_neg `a,R1,Rb,Nat.min_eq_left (Sr _ _)]
 unfold cut;rw[List.drop_zero,Nat.sub_zero,List.take_left']
 ·exact⟨rfl,rfl⟩
 ·rfl
def HE {i:Int}(hb:b Z M=.ok (.str z) M)(e:kvs.lookup z=some i):nU kvs b Z M=.ok (.int i) M:=by
 unfold nU;rw[hb];show(match kvs.lookup z with|some i=>Res.ok (D.int i) M|none=>Res.bad)=_
 rw[e]
def mX (h:a Z M=.ok (.str z) M)(hz:az 64 (.str z)=true)(hy:az 64 (.str y)=true)(e:bO (.str z) (.str y)=b):aj (ax .eq a (gC (.str y))) Z M=.ok b M:=bo (jB h rfl (jj hz hy e))
def Ci (h:ma P)(n:Nat)(hz:az 64 (.str z)=true):ah P (n+1) 40 [.str z,.str z] M=.ok (.bl true) M:=by
 refine ak (aF h.same rfl ?_);have e:bF .eq (.str z) (.str z) M=some true:=jj hz hz (by show(z==z)=true;exact beq_self_eq_true z)
 show ae (gm (ah P n) [some (.str z),some (.str z)] M) _;refine aY rfl (aY rfl (aY rfl (qQ rfl ?_ ⟨rfl,rfl⟩)));show((cm M (bF .eq (.str z) (.str z) M)).bind λb M=>Res.ok (D.bl b) M)=_;rw[e];rfl
noncomputable def sX:List (Str×Int):=[("many",1),("none",2),("row",4)]
def lE (h:ma P)(n:Nat)(hz:az 64 (.str z)=true)(hs:∀d∈ds,ah P (n+1) 40 [d,d] M=.ok (.bl true) M)(hl:ds.length<=5)(e:sX.lookup z=some ((1+ds.length+ys.length:Nat):Int))
 (hk:ae (rest (some m.d::some w::some (.tup (.str z::ds))::some (.tup ((.str z::ds)++ys))::r) M) k) :
 ae (bw (aN (dY (bL (aj (bI .tuple (aa 3)))) (bL (aj (ai 40 (ah P (n+2)) #[fq false false true (aa 3) gN (aJ .len #[aa 2]),aa 2])))) rF aD) (bw (aN (aj (ax .ne (aJ .len #[aa 3]) (nU sX (aq (aa 2) (gI 0))))) rF aD) rest) (some m.d::some w::some (.tup (.str z::ds))::some (.tup ((.str z::ds)++ys))::r) M) k:=by
 have e1:aJ .len #[aa 2] (some m.d::some w::some (.tup (.str z::ds))::some (.tup ((.str z::ds)++ys))::r) M=.ok (nD (D.str z::ds).length) M:=nQ rfl;have e2:=Gq (a:=aa 3) (aA rfl) e1;have e3:=zH h (n+1) (M:=M) (ds:=.str z::ds) (aI (by rw[RY];omega)) λd hd=>by
  rcases Rf.mp hd with rfl|hd
  ·exact Ci h n hz
  ·exact hs d hd
 refine aY (pU (dJ (b:=true) (bo rfl)) (dJ (bo ((aS (ag e2 (ag rfl rfl))).trans e3)))) ?_;have e4:aq (aa 2) (gI 0) (some m.d::some w::some (.tup (.str z::ds))::some (.tup ((.str z::ds)++ys))::r) M=.ok (.str z) M:=bx rfl rfl jh;refine aY (bo (jB ?_ (HE e4 e) ne_self)) hk;rw[nQ rfl,Rb,RY,Nat.add_comm 1]
def xv (h:ma P)(n:Nat)(h174:P 174=some {4,9,eE}):ah P (n+3) 174 [m.d,w,.tup [.str "many"],.tup [.str "many"]] M=.ok (.bl true) M:=by
 refine ak (aF h174 rfl ?_);refine lE h n `k (λ_ z=>nomatch z) (RB _) `k ?_
 refine aY (mX (bx rfl rfl jh) `k `k `k) ?_
 exact qQ (mX (bx rfl rfl jh) `k `k `k) rfl ⟨rfl,rfl⟩
def xu (h:ma P)(n:Nat)(h174:P 174=some {4,9,eE})(h170:ae (ah P (n+2) 170 [m.d,w,.cell c] M) λd M'=>d=.bl true/\Sub M M'):ae (ah P (n+3) 174 [m.d,w,.tup [.str "none"],.tup [.str "none",.cell c]] M) λd M'=>d=.bl true/\Sub M M':=by
 refine aF h174 rfl ?_;refine lE h n `k (λ_ z=>nomatch z) (RB _) (show sX.lookup ("none":Str)=some (2:Int) by decide +kernel) ?_
 refine bE (mX (b:=true) (bx rfl rfl jh) `k `k `k) (λ_=>?_) (λz=>by cases z)
 obtain⟨d,M1,e,rfl,sub⟩:=dO.mp h170;rw[av,bS];refine dO.mpr {.bl true,M1,?_,rfl,sub};have ei:aq (aa 3) (gI 1) [some m.d,some w,some (.tup [.str "none"]),some (.tup [.str "none",.cell c]),none,none,none,none,none] M=.ok (.cell c) M:=bx rfl rfl rfl;show dF _ _ [some m.d,some w,some (.tup [.str "none"]),some (.tup [.str "none",.cell c]),none,none,none,none,none] M=_;unfold dF;rw[show bI .list (aq (aa 3) (gI 1)) [some m.d,some w,some (.tup [.str "none"]),some (.tup [.str "none",.cell c]),none,none,none,none,none] M=.ok (.bl true) M by unfold bI;rw[ei];rfl]
 exact(aS (ag (a:=aa 0) rfl (ag (a:=aa 1) rfl (ag (s:=bY) ei rfl)))).trans e
end
section
variable{P:Nat->Option Df}{M:Mem}{m:aP}{w:D}{fit:aR->Bool}{Z:Env}
def HW (e:s Z M=.ok xs M1):ai f c s Z M=c f xs M1:=by
 unfold ai;rw[e];rfl
def pT (h1:t Z M=.ok false M1)(h2:u Z M1=.ok false M1):dY t u Z M=.ok false M1:=by
 unfold dY;rw[h1];exact h2
def Aa (h:ma P)(n:Nat){F:List (aR×Nat)}(h174:P 174=some {4,9,eE})(h171:ah P (n+2) 171 [m.d,.cell rc] M=.ok (.bl true) M)(h89:ah P (n+2) 89 [m.d,.cell rc] M=.ok (nD q) M)(h44:ae (ah P (n+2) 44 [m.d,.cell rc] M) λd M'=>d=bD b/\Sub M M')
 (h84:∀M':Mem,ah P (n+2) 84 [bD b,w] M'=.ok (.bl true) M') (h67:∀(M':Mem) (x:Nat),ah P (n+2) 67 [nD x] M'=.ok (.bl true) M') (ef:M[fc]?=some (F.map λy=>.tup [bD y.1,vF q y])) (hF:F.length<=255) (h169:∀M':Mem,Sub M M'->ae (ah P (n+2) 169 [m.d,w,nD q,.cell fc] M') λd M''=>d=.bl true/\Sub M' M'') :
 ae (ah P (n+3) 174 [m.d,w,.tup [.str "row",nD q],.tup [.str "row",nD q,.cell rc,.cell fc]] M) λd M'=>d=.bl true/\Sub M M':=by
 refine aF h174 rfl ?_;refine lE h n `k (λd hd=>by rw[QF.mp hd];exact zI h n q) (QZ rfl) (show sX.lookup ("row":Str)=some (4:Int) by decide +kernel) ?_
 refine aY (mX (bx rfl rfl jh) `k `k `k) ?_
 refine aY (mX (bx rfl rfl jh) `k `k `k) ?_
 refine bN (ρ':=[some m.d,some w,some (.tup [.str "row",nD q]),some (.tup [.str "row",nD q,.cell rc,.cell fc]),some (.str "row"),some (nD q),some (.cell rc),some (.cell fc),none]) rfl ?_;refine aY (pT (dJ (bo ((aS (ag rfl (ag rfl rfl))).trans h171))) (bo (jB ((aS (ag rfl (ag rfl rfl))).trans h89) rfl ne_self))) ?_;obtain⟨d,M1,e44,rfl,s1⟩:=dO.mp h44;refine iI (M1:=M1) (pT ?_ (dJ (b:=true) (bo rfl))) ?_
 ·have e5:ai 44 (ah P (n+2)) #[aa 0,aa 6] [some m.d,some w,some (.tup [.str "row",nD q]),some (.tup [.str "row",nD q,.cell rc,.cell fc]),some (.str "row"),some (nD q),some (.cell rc),some (.cell fc),none] M=.ok (bD b) M1:=(aS (ag rfl (ag rfl rfl))).trans e44;unfold bL aj;rw[HW (gE e5 (ag rfl rfl)),h84];rfl
 have ef1:=s1.get ef;rw[av,dH,eU,aA rfl,aV];refine{rfl,?_};refine cF (λi Z M'=>M'=M1/\∃y8,Z=[some m.d,some w,some (.tup [.str "row",nD q]),some (.tup [.str "row",nD q,.cell rc,.cell fc]),some (.str "row"),some (nD q),some (.cell rc),some (.cell fc),y8]) (λi Z M' h=>by rw[h.1];exact ef1) {rfl,_,rfl} ?_ ?_
 ·rintro i x Z M' hx ⟨rfl,y8,rfl⟩;rw[QL] at hx;obtain⟨y,ey,rfl⟩:=QA.mp hx;refine{_,rfl,?_};refine aY (pT (dJ (b:=true) (bo rfl)) (pT (bo (jB (nQ rfl) rfl ne_self)) (dJ (bo ((aS (ag (bx rfl rfl rfl) rfl)).trans (h67 _ _)))))) ?_;exact{_,rfl,rfl,_,rfl}
 ·rintro Z M' ⟨rfl,y8,rfl⟩;rw[bK,av,bS];rw[aS (ag rfl (ag rfl (ag rfl (ag rfl rfl))))];obtain⟨d,M2,e,rfl,s2⟩:=dO.mp (h169 _ s1);exact dO.mpr {_,M2,e,rfl,s1.trans s2}
end
noncomputable def rE (m:aP)(x:D):Prop:=x=.non\/∃v:Nat,x=nD v/\v<m.words
noncomputable def iN (m:aP)(ws:List D):Prop:=ws.length=(bq m).length/\∀x∈ws,rE m x
noncomputable def qW:D->Bool
 |.tup [.tup (x::_),w]=>eX w||bO x w
 |_=>false
def qj (f:D->Bool):∀ds:List D,boolsOf (ds.map λd=>.bl (f d))=some (ds.map f)
 |[]=>rfl
 |d::r=>by simp[boolsOf,qj f r]
def all_gen (f:D->Bool)(hw:ae (w Z M) λwk M'=>M'=M/\wk M=some ds)(hz:ds.length<=sz)(he:∀d∈ds,∃ρ1,bX tg d (List.replicate own none++Z)=some ρ1/\ge ρ1 M=.ok (.bl (f d)) M) :
 aJ .all #[bj false own tg w (bp ge)] Z M=.ok (.bl (ds.all f)) M:=by
 refine ak ?_;simp only[b8,bV,eP,cq];refine aH hw λwk M' ⟨e1,e2⟩=>?_;subst e1;refine eR (λd=>.bl (f d)) hz e2 he ?_;simp only[cu,Qq,w5];refine{hz,_,qj f ds,?_,trivial}
 congr 1
 rw[List.all_map];rfl
def mS:b6 (.tup (x::r)) (.int 0) M=some x:=by
 show(cv (x::r).length ((0:Nat):Int)).bind (λj=>(x::r)[j]?)=_;rw[dS `s]
 rfl
section
variable{P:Nat->Option Df}(h:HasB0 P){M:Mem}{m:aP}
include h
theorem GX (n:Nat)(hx:rE m x) :
 uK (ax .isN (aa 0) gN) (ai 1 (ah P (n+2)) #[aq (aa 1) (gI 0),aa 0]) (some x::some m.d::r) M=.ok (.bl true) M:=by
 rcases hx with rfl|⟨v,rfl,hv⟩
 ·rfl
 ·refine ak (Lg.mpr (eD.mpr (bg.mpr {nD v,rfl,dm.mpr {false,rfl,false,rfl,?_}})));rw[if_neg QR,(aS (ag (bx rfl rfl mS) (ag rfl rfl))).trans (qv h n hv)];exact⟨rfl,rfl⟩
theorem zM (h15:P 15=some {1,6,cW})(h79:P 79=some {2,2,j7})(n:Nat)(hm:aL m)(hw:iN m ws):ah P (n+10) 79 [m.d,.tup ws] M=.ok (.bl true) M:=by
 refine ak (aF h79 rfl ?_);have e15:=qw h h15 n (M:=M) hm;have:=dj hm;refine aY (dJ (bo ((aS (ag ?_ (ag rfl rfl))).trans (lj h (n+8) hw.1)))) ?_
 ·refine ak (b8.mpr ?_);rw[ag ((aS (ag rfl rfl)).trans e15) rfl,aV];exact{by rw[Qq],rfl}
 ·exact c9 (ak (all_true ⟨rfl,rfl⟩ (aI (by rw[hw.1];omega)) (λx hx=>GX h (n+7) (hw.2 x hx)) ⟨rfl,rfl⟩)) ⟨rfl,rfl⟩
theorem Kf (h15:P 15=some {1,6,cW})(h79:P 79=some {2,2,j7})(h80:P 80=some {2,2,ku})(n:Nat)(hm:aL m)(hw:iN m ws):ah P (n+11) 80 [m.d,.tup ws] M=.ok .non M:=by
 refine ak (aF h80 rfl ?_);refine bN (A2 ((fE (ag rfl rfl)).trans (tN h (n+2) hm))) ?_;exact aY (dJ (bo ((aS (ag rfl (ag rfl rfl))).trans (zM h h15 h79 n hm hw)))) ⟨rfl,rfl⟩
end
noncomputable def rG (zs:List D):Prop:=∀z∈zs,∃x r w,z=.tup [.tup (nD x::r),w]/\(w=.non\/∃v:Nat,w=nD v)
def uQ (hw:w=.non\/∃v:Nat,w=nD v):bF .eq (nD x) w M=some (bO (nD x) w):=by
 rcases hw with rfl|⟨v,rfl⟩
 ·exact jj rfl rfl rfl
 ·exact jj rfl rfl rfl
section
variable{P:Nat->Option Df}{M:Mem}
def zO (h81:P 81=some {2,2,iM})(n:Nat)(hz:(eF es ws).length<=sz)(hp:rG (eF es ws)):ah P (n+1) 81 [.tup es,.tup ws] M=.ok (.bl ((eF es ws).all qW)) M:=by
 refine ak (aF h81 rfl ?_);unfold iM;refine c9 (all_gen qW ⟨rfl,rfl⟩ hz λz hz=>?_) ⟨rfl,rfl⟩;obtain⟨x,r,w,rfl,hw⟩:=hp z hz;refine{_,rfl,ak ?_};simp only[Lg,eD,dm,bg,eY];refine{w,rfl,eX w,rfl,eX w,rfl,?_};cases hn:eX w with
 | true =>
   refine{?_,trivial};show _=D.bl (eX w||bO (nD x) w);rw[hn];rfl
 | false =>
   refine{_,rfl,nD x,mS,w,rfl,_,uQ hw,?_,trivial};show _=D.bl (eX w||bO (nD x) w);rw[hn];rfl
def xp (h84:P 84=some {2,2,gn})(n:Nat)(hz:(eF es ws).length<=sz)(hp:rG (eF es ws)):ah P (n+1) 84 [.tup es,.tup ws] M=.ok (.bl ((eF es ws).all qW)) M:=by
 refine ak (aF h84 rfl ?_);unfold gn;simp only[av,bS,eD,eP,Iv,bg];refine{_,rfl,_,rfl,rfl,?_};refine sg (λz=>!qW z) (λ_=>.int 1) hz rfl (λz hz=>?_) ?_
 ·obtain⟨x,r,w,rfl,hw⟩:=hp z hz;refine{_,rfl,dw ?_,λ_=>rfl};simp only[Mp,iu,eD,dm,bg,eY];refine{w,rfl,!eX w,rfl,!eX w,rfl,?_};cases hn:eX w with
  | true =>
    refine{?_,trivial};show _=!(eX w||bO (nD x) w);rw[hn];rfl
  | false =>
    refine{_,rfl,nD x,mS,w,rfl,_,(show bF .ne (nD x) w M=some (!bO (nD x) w) by show(bF .eq (nD x) w M).map (!·)=_;rw[uQ hw];rfl),_,rfl,?_,trivial}
    show _=!(eX w||bO (nD x) w);rw[hn];rfl
 ·refine cu.mpr {QH (by rw[Qq];exact R3 _ _) hz,?_}
  simp only[yg,cq];refine cu.mpr {RB _,_,eq_empty ?_,?_,rfl}
  ·rw[QX];intro x hx;obtain⟨_,_,rfl⟩:=QE.mp hx;rfl
  ·rw[lS qW]
end
section
variable{Z:Env}{M:Mem}{kf:Fl->Mem->Prop}{rest:GS}{g a:GE}{s:GA}
def pz (Q:D->Prop)(hw:ae (w Z M) λwk M'=>M'=M/\∀M',aZ p M M'->wk M'=some ds)(hz:ds.length<=100)(hp:aO M p B)
 (hs:∀d∈ds,∀M' B',aZ p M M'->aO M' p B'->B'<=B+100->∃ρ1,bX tg d (List.replicate own none++Z)=some ρ1/\ae (g ρ1 M') λx M''=>Q x/\aO M'' p (B'+1)/\aZ p M' M'') :
 ae (bj true own tg w (bp g) Z M) λd M'=>∃q ws,d=.cell q/\M'[q]?=some ws/\ws.length=ds.length/\(∀x∈ws,Q x)/\M.length<=q/\aO M' p (B+100)/\aZ p M M':=by
 rw[eP];refine aH hw ?_;rintro wk M0 ⟨rfl,hk⟩;refine comp_map (λi acc M'=>aO M' p (B+i)/\aZ p M0 M'/\∀x∈acc,Q x) (aI `a) (λ_ _ _ h=>hk _ h.2.1) {hp,.refl,λ_ h=>nomatch h} ?_ ?_
 ·rintro i d acc M' hd hl ⟨q1,k1,a1⟩;have hi:=(Qo.mp hd).1;obtain⟨ρ1,e,o⟩:=hs d (QT hd) M' (B+i) k1 q1 `a
  refine{ρ1,e,aH o λx M2 ⟨c1,c2,c3⟩=>{c2,k1.trans c3,λy hy=>?_}};rcases Rq.mp hy with hy|hy
  ·exact a1 y hy
  ·rw[QF.mp hy];exact c1
 ·rintro acc M' hl ⟨q1,k1,a1⟩;exact nK.mpr {aI `a,M'.length,acc,rfl,List.getElem?_concat_length,hl,a1,k1.len,(q1.mono `a).app,k1.trans .app}
end
def DH (hm:aL m):0<(bq m).length:=List.length_pos_of_mem (vh hm (s:=List.replicate m.places 0) {`s,λx hx=>by have:=hm.w2;rw[(List.mem_replicate.mp hx).2];omega})
def tu {m:aP}(h:Z[j]?.getD none=some m.d):aq (aa j) (gI 0) Z M=.ok (nD m.words) M:=by
 refine ak ?_;simp only[eY,bg,dm];exact{_,h,_,mS,rfl,trivial}
def rZ (hm:aL m)(hs:dG m s):∃x r,aw s=.tup (nD x::r)/\x<m.words:=by
 cases s with
 | nil =>
   have h1:=hs.1;have h2:=hm.p1;rw[<- h1] at h2;exact absurd h2 `d
 |cons x t=>exact{x,t.map nD,rfl,hs.2 x QN}
noncomputable def Iq (c:Call):GS:=#v[aN (aj (ax .gt (aa 3) (gI 0))) #v[ay (.one 6) (bj true 1 (.one 0) (bR (aa 6)) (bp (fX (aj (ax .eq (ai 31 c #[aa 1,au false .add (gI 2) (aa 4)]) (gI 0))) gN (aa 0))))] aD,aM (aJ .tuple #[aa 6])]
noncomputable def Ir (c:Call):GS:=(bw (ay (.one 7) (ai 31 c #[aa 0,aJ .len #[aa 6]])) (bw (aN (aj (ax .eq (aa 2) (gI 1))) #v[eG (aa 6) (aa 7) (ai 31 c #[aa 0,aq (aa 1) (gI 0)])] aD) (Iq c)))
structure yx (m:aP) (p B q:Nat) (M0 M:Mem):Prop where
 pen:aO M p B
 keep:aZ p M0 M
 new:M0.length<=q
 at':∃ws,M[q]?=some ws/\iN m ws
noncomputable def fS (m:aP)(p B:Nat)(M0:Mem):D->Mem->Prop:=λd M'=>∃ws,d=.tup ws/\iN m ws/\aO M' p B/\aZ p M0 M'
section
variable{P:Nat->Option Df}{M M0:Mem}{m:aP}{p B q:Nat}
def vK (h:yx m p B q M0 M):ae (#v[aM (aJ .tuple #[aa 6])] [x0,x1,x2,x3,x4,x5,some (.cell q),x7] M) (g5 (fS m p B M0)):=by
 obtain⟨ws,e,hw⟩:=h.at';refine c9 (ak ?_) ⟨ws,rfl,hw,h.pen,h.keep⟩;simp only[b8,bV,cq,bg];exact{_,rfl,pI.mpr ⟨ws,e,rfl,rfl⟩}
def fS.mono (hB:B<=B')(h:g5 (fS m p B M0) fl M):g5 (fS m p B' M0) fl M:=by
 cases fl with
 |next Z=>obtain⟨ws,e,_⟩:=h;cases e
 |ret d=>obtain⟨ws,e,hw,q,k⟩:=h;exact{ws,e,hw,q.mono hB,k}
 |exc x Z=>exact h
variable(hp_:HasP0 P)
include hp_
theorem D7 (n:Nat)(hm:aL m)(hp0:p<M0.length)(hf:free<4)(h:yx m p B q M0 M)(hB:B<=900000):ae (Iq (ah P (n+2)) [some (.cell p),some m.d,x2,some (nD free),x4,x5,some (.cell q),x7] M) (g5 (fS m p (B+100) M0)):=by
 have l2:=dj hm;refine bE (Nb rfl) (λ_=>?_) λ_=>aH (vK h) λfl M'=>fS.mono `a
 obtain⟨ws,e,hw⟩:=h.at';have hne:q≠p:=by have:=h.new;omega
 refine cQ (pz (rE m) {rfl,λM' k=>k.get e hne} (by rw[hw.1];omega) h.pen λd hd M' B' k' p' hB'=>{_,rfl,?_}) ?_
 ·simp only[sW,iu,eD,dm,bg];refine aH (fD hp_ n rfl (by show Res.ok (D.int ((2:Int)+(free:Int))) M'=_;rw[show((2:Int)+(free:Int))=((2+free:Nat):Int) by omega]) p' `a `a `a) ?_
  rintro _ M2 ⟨v,rfl,hv,q2,k2⟩;refine{(v:Int)==0,rfl,(v:Int)==0,rfl,?_};cases (v:Int)==0 with
  |true=>exact{.inl rfl,q2,k2}
  |false=>exact{d,rfl,hw.2 d hd,q2,k2}
 ·rintro _ M5 ⟨q',ws',rfl,e',hl,hQ,hn,q5,k5⟩;exact vK {q5,h.keep.trans k5,QH h.keep.len hn,ws',e',hl.trans hw.1,hQ}
theorem D8 (n:Nat)(hm:aL m)(hp0:p<M0.length)(hf:free<4)(h:yx m p B q M0 M)(hB:B<=800000):ae (Ir (ah P (n+2)) [some (.cell p),some m.d,some (nD kind),some (nD free),x4,x5,some (.cell q),x7] M) (g5 (fS m p (B+102) M0)):=by
 have l1:=DH hm;have l2:=dj hm;have w2:=hm.w2;have w4:=hm.w4;obtain⟨ws,e,hw⟩:=h.at';have hne:q≠p:=by have:=h.new;omega
 have hlt:p<q:=by have:=h.new;omega
 refine fB hp_ n (many:=ws.length) rfl (ak ?_) h.pen `a (by rw[hw.1];omega) (by rw[hw.1];omega) λat_ M1 hat q1 k1=>?_
 ·simp only[b8,bV,cq,bg];exact{_,rfl,oW.mpr ⟨ws,e,rfl,rfl⟩}
 have e1:=k1.get e hne;refine bE (iB rfl) (λ_=>?_) λ_=>aH (D7 hp_ n hm hp0 hf {q1,h.keep.trans k1,h.new,ws,e1,hw} `a) λfl M'=>fS.mono `a
 simp only[av,kD];refine aH (fD hp_ n rfl (tu rfl) q1 `a `a `a) ?_
 rintro _ M2 ⟨v,rfl,hv,q2,k2⟩;simp only[bg];have e2:=k2.get e1 hne;refine{_,rfl,_,rfl,q,at_,ws,at_,rfl,rfl,e2,dS hat,?_};refine aH (D7 hp_ n hm hp0 hf {q2.setq hlt,((h.keep.trans k1).trans k2).setq h.new,h.new,ws.set at_ (nD v),?_,?_,λx hx=>?_} `a) λfl M'=>fS.mono `a
 ·rw[Q5 (Qo.mp e2).1]
 ·rw[List.length_set];exact hw.1
 ·rcases List.mem_or_eq_of_mem_set hx with hx|rfl
  ·exact hw.2 x hx
  ·exact .inr ⟨v,rfl,hv⟩
end
section
variable{P:Nat->Option Df}{M:Mem}
def zD (hp_:HasP P)(hb:HasB P)(h35:P 35=some {3,6,fQ})(h44:P 44=some {2,5,fm})(h83:P 83=some {2,8,iT})(n:Nat)(hm:aL m)(hp:aO M p B)(hB:B<=600000) :
 ae (ah P (n+4) 83 [.cell p,m.d] M) (fS m p (B+400) M):=by
 have l2:=dj hm;have w2:=hm.w2;have w4:=hm.w4;refine aF h83 rfl ?_;refine fB hp_ (n+1) (many:=5) rfl rfl hp `a `a `a λkind M1 hkd q1 k1=>?_
 refine fB hp_ (n+1) (many:=4) rfl rfl q1 `a `a `a λfree M2 hfr q2 k2=>?_
 refine bN (bZ (NR rfl (gF hb (n+2) hm))) ?_;refine cQ (k:=λd M'=>∃r,d=.tup ((ends m r).map aw)/\(∀i∈r,i<m.deeds.length)/\aO M' p (B+60)/\aZ p M2 M') ?_ ?_
 ·simp only[uS,bV,cq,dm];show ae (ah P (n+3) 35 [.cell p,m.d,nD 6] M2) _;refine aH (F9 hp_ h35 n hm q2 `a `a) ?_
  rintro _ M3 ⟨r,rfl,hr,_,q3,k3⟩;refine aH (Co hb h44 (n+1) hm hr.2) ?_;rintro _ M4 ⟨rfl,S⟩;exact{r,rfl,hr.2,S.pen (q3.mono `a),k3.trans S.keep}
 rintro _ M4 ⟨r,rfl,hr,q4,k4⟩;have K4:=(k1.trans k2).trans k4;refine cQ (pz (rE m) {rfl,λ_ _=>rfl} (by simp[ends];omega) q4 λd hd M' B' k' p' hB'=>{_,rfl,?_}) ?_
 ·obtain⟨s,hs,rfl⟩:=QE.mp hd;obtain⟨b,hb',rfl⟩:=QE.mp hs;obtain⟨x,t,e,hx⟩:=rZ hm (qZ hm hr (oh b hb'));rw[e];simp only[eY,bg,dm];exact{_,rfl,_,mS,.inr ⟨x,rfl,hx⟩,p'.mono `a,.refl}
 rintro _ M5 ⟨q,ws,rfl,e5,hl,hQ,hn,q5,k5⟩;have F5:yx m p (B+260) q M M5:={q5.mono `a,K4.trans k5,QH K4.len hn,ws,e5,by rw[hl];simp[ends],hQ}
 have hp0:=hp.lt;refine bE (iB rfl) (λ_=>?_) λ_=>aH (D8 hp_ (n+1) hm hp0 hfr F5 `a) λfl M'=>fS.mono `a
 refine cQ (pz (rE m) {rfl,λ_ _=>rfl} `o q5 λd hd M' B' k' p' hB'=>{_,rfl,?_}) ?_
 ·refine aH (fD hp_ (n+1) rfl (tu rfl) p' `a `a `a) ?_
  rintro _ M2 ⟨v,rfl,hv,q2,k2⟩;exact{.inr ⟨v,rfl,hv⟩,q2,k2}
 rintro _ M6 ⟨q',ws',rfl,e6,hl',hQ',hn',q6,k6⟩;show ae (Ir (ah P (n+1+2)) [some (.cell p),some m.d,some (nD kind),some (nD free),some (.lst ((bq m).map aw)),some (.tup ((ends m r).map aw)),some (.cell q'),none] M6) (g5 (fS m p (B+400) M));exact aH (D8 hp_ (n+1) hm hp0 hfr {q6,F5.keep.trans k6,QH F5.keep.len hn',ws',e6,by rw[hl'];simp,hQ'} `a) λfl M'=>fS.mono `a
end
noncomputable def pe (ws:List D)(b:aR):Bool:=(eF (b.map aw) ws).all qW
def oS (hm:aL m):∀{b:aR}{ws:List D},(∀s∈b,dG m s)->(∀x∈ws,rE m x)->rG (eF (b.map aw) ws)
 |[],ws,_,_=>by intro z hz;cases ws<;>exact nomatch hz
 |s::b,[],_,_=>by intro z hz;exact nomatch hz
 | s :: b, x :: ws, hb, hw => by
   intro z hz;rcases Rf.mp (hz) with rfl|hz
   ·obtain⟨v,r,e,_⟩:=rZ hm (hb s QN);refine{v,r,x,by rw[e],?_}
    rcases hw x QN with z|⟨v,z,_⟩
    ·exact .inl z
    ·exact .inr ⟨v,z⟩
   ·exact oS hm (λs hs=>hb s (QJ _ hs)) (λx hx=>hw x (QJ _ hx)) z hz
def qr:∀{xs ys:List D},(eF xs ys).length<=xs.length
 |[],ys=>by cases ys<;>exact Qw _
 |_::_,[]=>RB _
 |x::xs,y::ys=>Nat.succ_le_succ (qr)
section
variable{P:Nat->Option Df}{M:Mem}{m:aP}{ws:List D}{q:Nat}{b:aR}
def Nf (n:Nat)(h81:P 81=some {2,2,iM})(hm:aL m)(hw:iN m ws)(lq:a7 m q b):ah P (n+1) 81 [bD b,.tup ws] M=.ok (.bl (pe ws b)) M:=by
 obtain⟨ol,os⟩:=ju hm lq.1;have:=dj hm;exact zO h81 n (aI (QH qr (by rw[Qq];omega))) (oS hm os hw.2)
def sV (n:Nat)(h84:P 84=some {2,2,gn})(hm:aL m)(hw:iN m ws)(lq:a7 m q b):ah P (n+1) 84 [bD b,.tup ws] M=.ok (.bl (pe ws b)) M:=by
 obtain⟨ol,os⟩:=ju hm lq.1;have:=dj hm;exact xp h84 n (aI (QH qr (by rw[Qq];omega))) (oS hm os hw.2)
end
section
variable{m:aP}{fit:aR->Bool}{E:F3}
def gW (all:AllIn m none ((un E).map pr)):(∃x∈E,x.1=b/\x.2.1=q)↔a7 m q b:=by
 rw[<- all.mem,lh,QE];constructor
 ·rintro⟨x,hx,rfl,rfl⟩;exact⟨x,hx,rfl⟩
 ·rintro⟨x,hx,e⟩;cases e;exact⟨x,hx,rfl,rfl⟩
noncomputable def pd (E:F3)(q:Nat):List (aR×Nat):=(E.filter λx=>decide (x.2.1<=q)).map λx=>(x.1,x.2.1)
def mR (all:AllIn m none ((un E).map pr)):y∈pd E q↔a7 m y.2 y.1/\y.2<=q:=by
 unfold pd;rw[QE];constructor
 ·rintro⟨x,hx,rfl⟩;obtain⟨h1,h2⟩:=RG.mp hx;exact{(gW all).mp ⟨x,h1,rfl,rfl⟩,of_decide_eq_true h2}
 ·rintro⟨h1,h2⟩;obtain⟨x,hx,e1,e2⟩:=(gW all).mpr h1;exact{x,RG.mpr {hx,decide_eq_true (by rw[e2];exact h2)},by rw[e1,e2]}
def K5 (hm:aL m)(all:AllIn m none ((un E).map pr))(few:E.length<=255)(hmin:∀x∈E,fit x.1=true->q<=x.2.1):OA m fit q (pd E q):=by
 have nd:(E.map (·.1)).Nodup:=by have:=all.nd;rw[lh,Rx] at this;exact this
 refine{?_,?_,λy hy=>(mR all).mp hy,λy hy hq=>?_,(mR all).mpr {(eW hm).mpr rfl,RB _},λy hy i hi hc=>?_}
 ·unfold pd;rw[Rx];exact nd.sublist (List.Sublist.map _ List.filter_sublist)
 ·unfold pd;rw[Qq];exact QH (R3 _ _) few
 ·obtain⟨h1,h2⟩:=(mR all).mp hy;obtain⟨x,hx,e1,e2⟩:=(gW all).mpr h1;cases hf:fit y.1 with
  |false=>rfl
  | true =>
    have:=hmin x hx (by rw[e1];exact hf)
    omega
 ·obtain⟨h1,h2⟩:=(mR all).mp hy;obtain⟨q',l1,l2⟩:=jR (h1.1.step hi);exact{q',(mR all).mpr {l2,by show q'<=q;omega},l1}
def Bf (hm:aL m)(all:AllIn m none ((un E).map pr)):(E.map (·.1)).Nodup/\(∀b∈E.map (·.1),∃q,a7 m q b)/\bq m∈E.map (·.1)/\∀b∈E.map (·.1),∀i,i<m.deeds.length->bf m i b∈E.map (·.1):=by
 have key:∀{b:aR},b∈E.map (·.1)↔∃q,a7 m q b:=λ{b}=>by
  rw[QE];constructor
  ·rintro⟨x,hx,rfl⟩;exact{_,(gW all).mp ⟨x,hx,rfl,rfl⟩}
  ·rintro⟨q,h⟩;obtain⟨x,hx,e,_⟩:=(gW all).mpr h;exact⟨x,hx,e⟩
 refine{by have:=all.nd;rw[lh,Rx] at this;exact this,λb hb=>key.mp hb,key.mpr {0,(eW hm).mpr rfl},λb hb i hi=>?_}
 obtain⟨q,h⟩:=key.mp hb;obtain⟨q',_,l2⟩:=jR (h.1.step hi);exact key.mpr ⟨q',l2⟩
def zX {A:fh}(all:AllIn m none ((un E).map pr))(all':AllIn m none (A.map pr))(he:e∈E)(hf:fit e.1=true)(hmin:∀x∈E,fit x.1=true->e.2.1<=x.2.1)(ha:a∈A)(hg:fit a.1=true)(hmin':∀y∈A,fit y.1=true->a.2.1<=y.2.1):e.2.1=a.2.1:=by
 have l1:a7 m e.2.1 e.1:=(gW all).mp ⟨e,he,rfl,rfl⟩;have l2:=all'.sound (a.1,a.2.1) (QE.mpr ⟨a,ha,rfl⟩);obtain⟨x,hx,e1,e2⟩:=(gW all).mpr l2;have h1:=hmin x hx (by rw[e1];exact hg)
 obtain⟨y,hy,e3⟩:=QE.mp (all'.mem.mpr l1);have e4:y.1=e.1:=congrArg (·.1) e3;have e5:y.2.1=e.2.1:=congrArg (·.2) e3;have h2:=hmin' y hy (by rw[e4];exact hf)
 omega
end
section
variable{P:Nat->Option Df}{M:Mem}{m:aP}
def zK (hb:HasB0 P)(hr:j9 P)(h15:P 15=some {1,6,cW})(h151:P 151=some {1,2,eQ})(h152:P 152=some {2,2,fb})(h165:P 165=some {3,11,g8})(h166:P 166=some {2,6,jE})(n:Nat)(hm:aL m) :
 fC (ah P (n+11) 166 [m.d,.non] M) (λd M'=>∃fk E,d=.fn (aC fk)/\M.length<=fk/\M'[fk]?=some (ko E)/\vA m M.length M' E/\AllIn m none ((un E).map pr)/\E.length<=255/\Sub M M') (λx M'=>x=.exc 8 none/\fG m none/\Sub M M'):=
 zJ (bd:=none) (λ_=>rfl) (λ_=>rfl) hb hr h15 h151 h152 h165 h166 n hm (λ_ z=>nomatch z)
def Ck (h89:P 89=some {2,2,hJ})(n:Nat)(hx:fU M x r)(hl:r.length<=100000)(hr:∀i∈r,i<m.deeds.length):ah P (n+1) 89 [m.d,x] M=.ok (nD (sZ m r)) M:=by
 refine ak (aF h89 rfl ?_);simp[hJ,hx.is];refine eR (λd=>match d with|.int i=>nD (cE m i.toNat).cost|_=>.non) (aI `o) hx.seq ?_ ?_
 ·intro d hd;obtain⟨x,hx,rfl⟩:=QE.mp hd;refine{_,rfl,ak ?_};simp[-ij,Kt,pb (hr x hx),iK]
 ·obtain⟨bs,e1,e2⟩:=uI (λi=>(cE m i).cost) r;refine{?_,bs,?_,?_,rfl}
  ·simp;exact aI `a
  ·simpa[SK] using e1
  ·exact e2
end
structure HasL (P:Nat->Option Df):Prop where
 b0:HasB0 P
 r0:j9 P
 b:HasB P
 s:ma P
 n:Mg P
 h44:P 44=some {2,5,fm}
 h84:P 84=some {2,2,gn}
 h89:P 89=some {2,2,hJ}
 h158:P 158=some {3,3,cx}
 h168:P 168=some {2,2,fv}
 h169:P 169=some {4,9,g9}
 h170:P 170=some {3,6,gy}
 h171:P 171=some {2,2,gx}
 h174:P 174=some {4,9,eE}
section
variable{P:Nat->Option Df}{M:Mem}{m:aP}{ws:List D}{B0:Nat}{due told:D}
noncomputable def DU (m:aP)(fit:aR->Bool)(due:D):Prop:=(due=.tup [.str "many"]/\fG m none)\/∃A:fh,AllIn m none (A.map pr)/\(∀a∈A,a.2.1<=800)/\A.length<=255/\DV fit A due
def Ab (h:HasL P)(n:Nat)(hm:aL m)(hw:iN m ws)(hd:DU m (pe ws) due)(ht:(told=.tup [.str "many"]/\fG m none)\/qo m (pe ws) B0 told M\/vB m (pe ws) B0 told M):ae (ah P (n+6) 174 [m.d,.tup ws,due,told] M) λd M'=>d=.bl true/\Sub M M':=by
 rcases hd with⟨rfl,mn⟩|⟨A,all',top,few',dd⟩<;>rcases ht with⟨rfl,mn'⟩|⟨E,c,rfl,_,ec,all,few,no⟩|⟨E,e,r,c,rfl,he,hf,hmin,_,_,er,ro,ec,all,few⟩
 ·exact dO.mpr {_,_,xv h.s (n+3) h.h174,rfl,.refl}
 ·exact absurd mn (all.few (by rw[lh,Qq];exact few))
 ·exact absurd mn (all.few (by rw[lh,Qq];exact few))
 ·exact absurd mn' (all'.few (by rw[Qq];exact few'))
 ·rcases dd with⟨rfl,_⟩|⟨a,ha,rfl,hg,_⟩
  ·obtain⟨nd,snd,hb,cl⟩:=Bf hm all;exact xu h.s (n+3) h.h174 (zR (n+2) h.b hm h.h158 h.h170 (λM q b lq=>tO h.n n h.b h.h168 hm lq) (λM q b lq=>sV (n+3) h.h84 hm hw lq) (by rw[Rx];exact ec) nd (by rw[Qq];exact few) snd (λb hb=>by obtain⟨x,hx,rfl⟩:=QE.mp hb;exact no x hx) hb cl)
  ·have l2:=all'.sound (a.1,a.2.1) (QE.mpr ⟨a,ha,rfl⟩);obtain⟨x,hx,e1,_⟩:=(gW all).mpr l2;have:=no x hx;rw[e1,hg] at this;cases this
 ·have l1:a7 m e.2.1 e.1:=(gW all).mp ⟨e,he,rfl,rfl⟩;rcases dd with⟨rfl,no⟩|⟨a,ha,rfl,hg,hmin'⟩
  ·obtain⟨y,hy,e3⟩:=QE.mp (all'.mem.mpr l1);have e4:y.1=e.1:=congrArg (·.1) e3;have:=no y hy;rw[e4,hf] at this;cases this
  ·have eq:=zX all all' he hf hmin ha hg hmin';rw[<- eq];obtain⟨r1,r2,r3⟩:=ro;have hz:=fT.len hm ⟨r1,r2,r3⟩;have h8:=top a ha;have f:=K5 hm all few hmin;have ec':M[c]?=some ((pd E e.2.1).map λy=>.tup [bD y.1,vF e.2.1 y]):=by rw[ec];unfold pd;rw[Rx];rfl
   have hz2:r.length<=10000:=`a
   refine Aa h.s (n+3) (b:=e.1) h.h174 (Cr h.n (n+2) h.h171 er hz2 r1) ?_ ?_ (λM'=>?_) (λM' x=>zC h.n (n+4) x) ec' f.few λM' s=>Cg (n+2) h.b hm h.h158 h.h169 (λM q b lq=>tO h.n n h.b h.h168 hm lq) (λM q b lq=>sV (n+3) h.h84 hm hw lq) (s.get ec') f
   ·rw[Ck h.h89 (n+4) (.c er) `a r1,r3]
   ·have:=ot h.b h.h44 (n+3) (.c er) hm r1;rw[r2] at this;exact this
   ·rw[sV (n+4) h.h84 hm hw l1,hf]
end
noncomputable def Be:GS:=#v[aN (aj (bI .list (aa 10))) #v[zY (qR (aa 10))] aD]
section
variable{M0 M:Mem}{kf:Fl->Mem->Prop}
def LO (ha:a Z M=.ok (.cell k) M)(e:M[k]?=some ds):zY (qR a) Z M=.ok (.next Z) (M.set k []):=by
 unfold zY qR;rw[ha];show Res.bind (match M[k]? with|some _=>Res.ok D.non (M.set k [])|none=>Res.bad) _=_
 rw[e];rfl
def Bg (hx:∀d∈xs,(∃z,d=.str z)\/(∃i:Nat,d=nD i)\/∃k,d=.cell k/\M0.length<=k/\k<M.length)(s:Sub M0 M)
 (hk:∀M' y,Sub M0 M'->kf (.next [x0,x1,x2,x3,x4,x5,x6,x7,x8,some (.tup xs),y]) M'):ae (bU (.one 10) (bR (aa 9)) Be [x0,x1,x2,x3,x4,x5,x6,x7,x8,some (.tup xs),x10] M) kf:=by
 rw[dH,eU,aA rfl,aV];refine{rfl,?_};refine cF (λi Z M'=>Sub M0 M'/\M'.length=M.length/\∃y,Z=[x0,x1,x2,x3,x4,x5,x6,x7,x8,some (.tup xs),y]) (λ_ _ _ _=>rfl) {s,rfl,_,rfl} ?_ ?_
 ·rintro i d Z M' hd ⟨s',hl,y,rfl⟩;refine{_,rfl,?_};rcases hx d (QT hd) with⟨z,rfl⟩|⟨j,rfl⟩|⟨k,rfl,h1,h2⟩
  ·exact aY (bo rfl) {_,rfl,s',hl,_,rfl}
  ·exact aY (bo rfl) {_,rfl,s',hl,_,rfl}
  ·refine bE (bo rfl) (λ_=>?_) (λz=>by cases z)
   refine eM (LO rfl (QG (by rw[hl];exact h2))) ?_
   refine{_,rfl,{by rw[List.length_set,hl];exact s.len,λj hj=>?_},by rw[List.length_set];exact hl,_,rfl}
   rw[Qx `a]
   exact s'.at' j hj
 ·rintro Z M' ⟨s',_,y,rfl⟩;exact hk M' y s'
end
structure yE (P:Nat->Option Df):Prop extends HasL P where
 p:HasP P
 h15:P 15=some {1,6,cW}
 h35:P 35=some {3,6,fQ}
 h79:P 79=some {2,2,j7}
 h80:P 80=some {2,2,ku}
 h81:P 81=some {2,2,iM}
 h83:P 83=some {2,8,iT}
 h151:P 151=some {1,2,eQ}
 h152:P 152=some {2,2,fb}
 h159:P 159=some {2,8,fF}
 h160:P 160=some {2,3,fu}
 h165:P 165=some {3,11,g8}
 h166:P 166=some {2,6,jE}
 h167:P 167=some {2,7,om}
 h172:P 172=some {2,3,fP}
 h173:P 173=some {3,4,d9}
 h175:P 175=some {1,11,oo}
noncomputable def w6 (c:Call):GS:=#v[ay (.one 9) (ai 172 c #[aa 3,aa 6]),aN (bL (aj (ai 174 c #[aa 3,aa 6,aa 7,aa 9]))) rF aD,bU (.one 10) (bR (aa 9)) Be]
section
variable{P:Nat->Option Df}{M:Mem}{m:aP}{ws:List D}{due:D}{x0 x1 x2 x4 x5 x8 x9 x10:Option D}
def xm {fit:aR->Bool}(ht:(d=.tup [.str "many"]/\fG m none)\/qo m fit B0 d M\/vB m fit B0 d M):∃xs,d=.tup xs/\∀y∈xs,(∃z,y=.str z)\/(∃i:Nat,y=nD i)\/∃k,y=.cell k/\B0<=k/\k<M.length:=by
 rcases ht with⟨rfl,_⟩|⟨E,c,rfl,hc,ec,_⟩|⟨E,e,r,c,rfl,_,_,_,h1,h2,er,_,ec,_⟩
 ·exact{_,rfl,λy hy=>.inl {_,QF.mp hy}}
 ·refine{_,rfl,λy hy=>?_};rcases Rf.mp hy with rfl|hy
  ·exact .inl {_,rfl}
  ·exact .inr (.inr {c,QF.mp hy,hc,dM ec})
 ·refine{_,rfl,λy hy=>?_};rcases Rf.mp hy with rfl|hy
  ·exact .inl {_,rfl}
  rcases Rf.mp hy with rfl|hy
  ·exact .inr (.inl {_,rfl})
  rcases Rf.mp hy with rfl|hy
  ·exact .inr (.inr {_,rfl,h1,dM er})
  ·exact .inr (.inr {c,QF.mp hy,`a,dM ec})
def N0 (h:yE P)(n:Nat)(hm:aL m)(hw:iN m ws)(hd:DU m (pe ws) due):ae (w6 (ah P (n+13)) [x0,x1,x2,some m.d,x4,x5,some (.tup ws),some due,x8,x9,x10] M) λfl M'=>(∃y9 y10,fl=.next [x0,x1,x2,some m.d,x4,x5,some (.tup ws),some due,x8,y9,y10])/\Sub M M':=by
 have t:=Cf (M:=M) (n+12) h.h172 (Cp (n+11) (λM=>zK h.b0 h.r0 h.h15 h.h151 h.h152 h.h165 h.h166 n hm) (λM=>Kf h.b0 h.h15 h.h79 h.h80 n hm hw) (λM q b lq=>Nf (n+10) h.h81 hm hw lq) h.h167);obtain⟨d,M1,e1,ht,s1⟩:=dO.mp t;refine eM (hV ((aS (ag rfl (ag rfl rfl))).trans e1)) ?_;obtain⟨d2,M2,e2,rfl,s2⟩:=dO.mp (Ab h.toHasL (n+7) hm hw hd ht);refine iI (M1:=M2) ?_ ?_
 ·unfold bL aj;rw[(aS (ag rfl (ag rfl (ag rfl (ag rfl rfl))))).trans e2];rfl
 obtain⟨xs,rfl,hx⟩:=xm ht;rw[av];refine Bg (λy hy=>(hx y hy).imp id λz=>z.imp id λ⟨k,a,b,c⟩=>{k,a,b,QS c s2.len}) (s1.trans s2) λM' y s=>?_;exact{{_,_,rfl},s}
end
section
variable{P:Nat->Option Df}{M:Mem}{p B:Nat}{m:aP}
def F8 (hp_:HasP P)(h160:P 160=some {2,3,fu})(n:Nat)(ht:t<6)(hp:aO M p B)(hB:B<=700000):ae (ah P (n+6) 160 [.cell p,nD t] M) λd M'=>∃m:aP,d=m.d/\aL m/\aO M' p (B+300)/\aZ p M M':=by
 refine aF h160 rfl ?_;have key:∃a b c:Nat,aq (bA false #[bH #[gI 3,gI 1,gI 6],bH #[gI 2,gI 2,gI 3],bH #[gI 3,gI 1,gI 4],bH #[gI 2,gI 2,gI 2],bH #[gI 4,gI 1,gI 2]]) (au false .mod (aa 1) (gI 5)) [some (.cell p),some (nD t),none] M=.ok (.tup [nD a,nD b,nD c]) M/\2<=a/\a<=4/\1<=b/\b<=2/\1<=c/\c<=6:=by
  match t,ht with
  |0,_=>exact{3,1,6,rfl,`d}
  |1,_=>exact{2,2,3,rfl,`d}
  |2,_=>exact{3,1,4,rfl,`d}
  |3,_=>exact{2,2,2,rfl,`d}
  |4,_=>exact{4,1,2,rfl,`d}
  |5,_=>exact{3,1,6,rfl,`d}
 obtain⟨a,b,c,e,a2,a4,b1,b2,c1,c6⟩:=key;refine bN (bZ e) ?_;rw[av,bS,aS (ag rfl (ag (bx rfl rfl rfl) (ag (bx rfl rfl rfl) (ag (bx rfl rfl rfl) rfl))))];refine aH (xo hp_ n hp hB a2 a4 b1 b2 c1 c6) ?_;rintro d M' ⟨m,rfl,hm,_,_,_,q,k⟩;exact⟨m,rfl,hm,q,k⟩
noncomputable def aP.withC (m:aP)(c:Nat):aP:={m.words,m.places,m.deeds.map (·.withC c)}
end
noncomputable def yQ (c:Call):GS:=#v[ay (.one 6) (ai 83 c #[aa 1,aa 3]),ay (.one 7) (ai 173 c #[aa 3,aa 6,aa 4]),bU (.one 8) (cZ (gI 2)) (w6 c)]
noncomputable def zu (c:Call):GS:=#v[ay (.one 3) (ai 160 c #[ai 30 c #[aa 1],aa 2]),ay (.one 4) (ai 159 c #[aa 3,au false .pow (gI 10) (gI 9)]),bU (.one 5) (cZ (gI 2)) (yQ c)]
def C5 (c:Call):oo c=#v[ay (.one 1) (ai 29 c #[aa 0]),bU (.one 2) (cZ (gI 5)) (zu c),aM wD]:=rfl
noncomputable def iD (m:aP)(p:Nat)(M:Mem)(d:D):Prop:=(d=.non/\fG m none)\/∃fk A,d=.fn (aC fk)/\fk≠p/\M[fk]?=some (oQ A)/\AllIn m none (A.map pr)/\(∀a∈A,a.2.1<=800)/\A.length<=255
section
variable{P:Nat->Option Df}(h:yE P){M:Mem}{m:aP}{p B:Nat}{x0 x2 x5 x6 x7 x8 x9 x10:Option D}{cd:D}{kf:Fl->Mem->Prop}
omit h in
def aO.subL (hp:aO M p B)(s:Sub M M'):aO M' p B:=by
 obtain⟨c,cells,a,st,e1,e2,r⟩:=hp.ex;exact{c,cells,a,st,s.get e1,s.get e2,r}
omit h in
def iD.sub (hc:iD m p M cd)(s:Sub M M'):iD m p M' cd:=hc.imp id λ⟨fk,A,e,n,ef,r⟩=>{fk,A,e,n,s.get ef,r}
omit h in
def iD.keep (hc:iD m p M cd)(s:aZ p M M'):iD m p M' cd:=hc.imp id λ⟨fk,A,e,n,ef,r⟩=>{fk,A,e,n,s.get ef n,r}
include h
theorem yP (hm:aL m)(hc:iD m p M cd)(hp:aO M p B)(hB:B<=600000)
 (k:∀M' z6 z7 z8 z9 z10,iD m p M' cd->aO M' p (B+400)->kf (.next [x0,some (.cell p),x2,some m.d,some cd,x5,z6,z7,z8,z9,z10]) M') :
 ae (yQ (ah P 39) [x0,some (.cell p),x2,some m.d,some cd,x5,x6,x7,x8,x9,x10] M) kf:=by
 obtain⟨d,M1,e1,ws,rfl,hw,p1,k1⟩:=dO.mp (zD h.p h.b h.h35 h.h44 h.h83 35 hm hp hB);refine eM (hV ((aS (ag rfl (ag rfl rfl))).trans e1)) ?_;have hc1:=hc.keep k1;have key:∃due,ah P 39 173 [m.d,.tup ws,cd] M1=.ok due M1/\DU m (pe ws) due:=by
  rcases hc1 with⟨rfl,mn⟩|⟨fk,A,rfl,_,ef,all,top,few⟩
  ·exact{_,Dr 38 h.h173,.inl ⟨rfl,mn⟩}
  ·obtain⟨d,e,dd⟩:=Gh 38 (λM q b lq=>sV 37 h.h84 hm hw lq) h.h173 ef all few;exact{d,e,.inr ⟨A,all,top,few,dd⟩}
 obtain⟨due,e2,hd⟩:=key;refine bN (bZ ((aS (ag rfl (ag rfl (ag rfl rfl)))).trans e2)) ?_;rw[av,dH,fA,dm];refine{2,rfl,{`d,`d},?_}
 refine cF (λi Z M'=>Sub M1 M'/\∃z8 z9 z10,Z=[x0,some (.cell p),x2,some m.d,some cd,x5,some (.tup ws),some due,z8,z9,z10]) (λ_ _ _ _=>rfl) {.refl,_,_,_,rfl} ?_ ?_
 ·rintro i d Z M' hd' ⟨s,z8,z9,z10,rfl⟩;refine{_,rfl,aH (N0 h 26 hm hw hd) ?_};rintro fl M2 ⟨⟨y9,y10,rfl⟩,s2⟩;exact{_,rfl,s.trans s2,_,_,_,rfl}
 ·rintro Z M' ⟨s,z8,z9,z10,rfl⟩;exact k M' _ _ _ _ _ (hc1.sub s) (p1.subL s)
theorem zp (ht:t<6)(hB:B<=400000)(hp:aO M p B)
 (k:∀M' z3 z4 z5 z6 z7 z8 z9 z10,aO M' p (B+1100)->kf (.next [x0,some (.cell p),some (nD t),z3,z4,z5,z6,z7,z8,z9,z10]) M') :
 ae (zu (ah P 39) [x0,some (.cell p),some (nD t),x3,x4,x5,x6,x7,x8,x9,x10] M) kf:=by
 refine cQ (k:=λd M'=>∃m:aP,d=m.d/\aL m/\aO M' p (B+300)) ?_ ?_
 ·rw[uS,bV,aS (ag rfl rfl)];refine aH (Gk h.p.toHasP0 38 hp) ?_;rintro _ M1 ⟨rfl,p1,k1⟩;rw[bV];refine bg.mpr {_,rfl,cq.mpr ?_};refine aH (F8 h.p h.h160 33 ht p1 `a) ?_
  rintro d M2 ⟨m,e,hm,p2,_⟩;exact⟨m,e,hm,p2⟩
 rintro _ M1 ⟨m,rfl,hm,p1⟩;refine cQ (k:=λd M'=>iD m p M' d/\aO M' p (B+300)) ?_ ?_
 ·rw[aS (ag rfl (ag (xx rfl rfl {`d,`d} `d) rfl))]
  refine aH (zQ h.b h.h158 h.h159 36 hm) ?_;rintro d M2 ⟨s,⟨rfl,mn⟩|⟨fk,E,rfl,hf,ef,_,all,few⟩⟩
  ·exact{.inl {rfl,_,mn},p1.subL s}
  ·have hl:=p1.lt;exact{.inr {fk,E,rfl,`a,ef,(all `d).1,(all `d).2,few},p1.subL s}
 rintro cd M2 ⟨hc,p2⟩;rw[av,dH,fA,dm];refine{2,rfl,{`d,`d},?_}
 refine cF (λi Z M'=>iD m p M' cd/\aO M' p (B+300+400*i)/\∃z5 z6 z7 z8 z9 z10,Z=[x0,some (.cell p),some (nD t),some m.d,some cd,z5,z6,z7,z8,z9,z10]) (λ_ _ _ _=>rfl) {hc,p2,_,_,_,_,_,_,rfl} ?_ ?_
 ·rintro i d Z M' hd ⟨hc,hp,z5,z6,z7,z8,z9,z10,rfl⟩;have hi:i<2:=(Qo.mp hd).1;refine{_,rfl,?_};exact yP h hm hc hp `a λM2 z6 z7 z8 z9 z10 hc2 hp2=>{_,rfl,hc2,hp2.mono `a,_,_,_,_,_,_,rfl}
 ·rintro Z M' ⟨hc,hp,z5,z6,z7,z8,z9,z10,rfl⟩;exact k M' _ _ _ _ _ _ _ _ (hp.mono `s)
omit h in
theorem MW (h:yE P)(ns:List Int)(hn:ns.length<=63):∃M,ah P 40 175 [.frz (ns.map D.int)] []=.ok (.bl true) M:=by
 have goal:ae (ah P 40 175 [.frz (ns.map D.int)] []) λd _=>d=.bl true:=by
  refine aF h.h175 rfl ?_;show ae (oo (ah P 39) [some (.frz (ns.map D.int)),none,none,none,none,none,none,none,none,none,none] []) _;rw[C5];refine cQ (k:=λd M'=>d=.cell 1/\aO M' 1 0) ?_ ?_
  ·rw[aS (ag rfl rfl)];exact Gb h.p.toHasP0 38 hn
  rintro _ M1 ⟨rfl,p1⟩;rw[av,dH,fA,dm];refine{5,rfl,{`d,`d},?_}
  refine cF (ds:=(List.range 5).map λ(k:Nat)=>D.int (k:Int)) (λi Z M'=>aO M' 1 (1100*i)/\∃y2 y3 y4 y5 y6 y7 y8 y9 y10,Z=[some (.frz (ns.map D.int)),some (.cell 1),y2,y3,y4,y5,y6,y7,y8,y9,y10]) (λ_ _ _ _=>rfl) {p1,_,_,_,_,_,_,_,_,_,rfl} ?_ ?_
  ·rintro i d Z M' hd ⟨hp,y2,y3,y4,y5,y6,y7,y8,y9,y10,rfl⟩;have hi:i<5:=(Qo.mp hd).1;rw[QL,SU hi] at hd;cases hd;refine{_,rfl,?_};exact zp h `a `a hp λM2 z3 z4 z5 z6 z7 z8 z9 z10 p2=>{_,rfl,p2.mono `a,_,_,_,_,_,_,_,_,_,rfl}
  ·rintro Z M' ⟨hp,y2,y3,y4,y5,y6,y7,y8,y9,y10,rfl⟩;rw[bK];exact c9 rfl rfl
 obtain⟨d,M,e,rfl⟩:=dO.mp goal;exact⟨M,e⟩
end
end LD
end
set_option maxHeartbeats 0
namespace K21
open PySem PySem.Spec PyProof.Rows L2 LD
noncomputable def top (i:Nat):Stmt:=PySem.Challenge.pw_leastdeeds_k21_least_rows.main.body.getD i (.Pass {0,0,0,0})
noncomputable def q0:Str×Tok:=("leastdeeds.wholes",255)
noncomputable def q1:Str×Tok:=("leastdeeds.machines",266)
noncomputable def q2:Str×Tok:=("leastdeeds.runs",409)
noncomputable def q3:Str×Tok:=("leastdeeds.works",479)
noncomputable def q4:Str×Tok:=("leastdeeds.least",501)
noncomputable def q5:Str×Tok:=("law_leastdeeds_k21_least_rows",552)
noncomputable def tb:List Ent:=[{0,"is_between",top 6,3,["thing","low","high"],70,q0,jG,false,none,0},
 {1,"is_word",top 13,2,["words","thing"],77,q1,m8,false,none,0},
 {2,"is_place",top 14,2,["places","thing"],84,q1,l5,false,none,0},
 {3,"is_cost",top 15,1,["thing"],91,q1,nj,false,none,0},
 {4,"is_tuple_of",top 16,2,["long","thing"],98,q1,iS,false,none,0},
 {5,"is_table",top 17,2,["words","thing"],103,q1,l4,false,none,0},
 {6,"is_double_table",top 18,2,["words","thing"],108,q1,fZ,false,none,0},
 {7,"is_turn",top 19,3,["words","places","parts","at","table","price"],115,q1,m9,false,none,0},
 {8,"is_join",top 20,3,["words","places","parts","at","other","table","price"],122,q1,nh,false,none,0},
 {9,"is_move",top 21,3,["words","places","parts","at","other","price"],129,q1,ng,false,none,0},
 {10,"is_put",top 22,3,["words","places","parts","at","word","price"],136,q1,pC,false,none,0},
 {11,"is_deed",top 24,3,["words","places","thing","sort","is_sort"],144,q1,ni,false,none,0},
 {12,"is_machine",top 25,1,["thing","words","places","deeds"],149,q1,jF,false,none,0},
 {13,"need_machine",top 26,1,["thing"],156,q1,ip,true,none,0},
 {15,"beginnings",top 27,1,["machine","words","places","deeds","starts","place"],161,q1,cW,true,none,0},
 {20,"turned",top 29,2,["deed","standing","sort","at","table","price"],168,q2,lX,false,none,0},
 {21,"joined",top 30,2,["deed","standing","sort","at","other","table","price"],175,q2,lZ,false,none,0},
 {22,"moved",top 31,2,["deed","standing","sort","at","other","price"],182,q2,oj,false,none,0},
 {23,"put_in",top 32,2,["deed","standing","sort","at","word","price"],189,q2,lY,false,none,0},
 {24,"done",top 34,2,["deed","standing","new_word","at"],197,q2,qk,false,none,0},
 {79,"is_work",top 36,2,["machine","thing"],202,q3,j7,false,none,0},
 {80,"need_work",top 37,2,["machine","work"],209,q3,ku,true,none,0},
 {81,"ends_do",top 38,2,["ends","work"],214,q3,iM,false,none,0},
 {151,"priced_leads",top 41,1,["machine","starts"],219,q4,eQ,true,none,0},
 {152,"led_to",top 42,2,["lead","ends"],224,q4,fb,false,none,0},
 {165,"next_level",top 43,3,["leads","levels","found","price","level","number","step_price","lead","ahead","ends","new_ends"],231,q4,g8,true,none,0},
 {166,"reached",top 44,2,["machine","bound","leads","empty_ends","found","levels"],239,q4,jE,true,none,232},
 {167,"least",top 45,2,["machine","work","found","best","price","row","floors"],244,q4,om,true,none,0},
 {28,"_law_spread",top 47,2,["cell","at","primes","one","two","three"],251,q5,mh,false,none,0},
 {29,"_law_open",top 48,1,["script","cells","k","cell"],258,q5,ky,false,none,0},
 {30,"_law_anew",top 49,1,["pen"],265,q5,kz,false,none,0},
 {31,"_law_take",top 50,2,["pen","many","at","cell","found"],272,q5,oD,false,none,0},
 {67,"_law_is_whole",top 51,1,["thing"],279,q5,hU,false,none,0},
 {40,"_law_same",top 52,2,["found","due"],284,q5,gm,false,none,0},
 {32,"_law_tab",top 53,2,["pen","words","kind","word","other","found"],289,q5,i7,false,none,0},
 {33,"_law_deed",top 54,3,["pen","words","places","kind","price","at","other"],294,q5,iC,false,none,0},
 {34,"_law_machine",top 55,4,["pen","words","places","most","deeds","k","again","deed"],301,q5,fR,false,none,0},
 {35,"_law_row",top 56,3,["pen","machine","most","kind","many","found"],306,q5,fQ,false,none,0},
 {41,"_law_after",top 57,2,["deed","end","here","own"],313,q5,jH,false,none,0},
 {42,"_law_begins",top 58,1,["machine"],318,q5,iU,false,none,0},
 {44,"_law_ends",top 59,2,["machine","row","found","end","number"],325,q5,fm,false,none,0},
 {89,"_law_price",top 60,2,["machine","row"],330,q5,hJ,false,none,0},
 {158,"_law_behind",top 61,3,["machine","here","number"],335,q5,cx,false,none,0},
 {159,"_law_costs",top 62,2,["machine","bound","found","due","price","here","number","deed"],342,q5,fF,false,none,0},
 {68,"_law_is_in",top 63,3,["thing","low","high"],349,q5,nq,false,none,0},
 {69,"_law_numbers",top 64,4,["thing","many","low","high"],354,q5,kZ,false,none,0},
 {160,"_law_some_machine",top 65,2,["pen","turn","size"],361,q5,fu,false,none,0},
 {83,"_law_wanted",top 66,2,["pen","machine","kind","free","begins","ends","found","at"],366,q5,iT,false,none,0},
 {84,"_law_does",top 67,2,["here","work"],371,q5,gn,false,none,0},
 {168,"_law_is_behaviour",top 68,2,["machine","here"],376,q5,fv,false,none,0},
 {169,"_law_shown",top 69,4,["machine","work","number","floors","best","here","many","at","left"],383,q5,g9,false,none,0},
 {170,"_law_closed",top 70,3,["machine","work","some","known","here","at"],390,q5,gy,false,none,0},
 {171,"_law_is_row",top 71,2,["machine","row"],395,q5,gx,false,none,0},
 {172,"_law_told",top 72,2,["machine","work","found"],402,q5,fP,false,none,0},
 {173,"_law_due",top 73,3,["machine","work","prices","some"],407,q5,d9,false,none,0},
 {174,"_law_right",top 74,4,["machine","work","due","found","word","price","row","floors","floor"],414,q5,eE,false,none,0},
 {175,"law",top 75,1,["script","pen","turn","machine","prices","k","work","due","again","found","part"],421,q5,oo,false,none,0}]
noncomputable def rs:Rs:={[Ej,zi,Eg,Ef,zg,Em,El,Ek,N6,zk,IQ,IP,Ee,zm,IM,IF,IE,IJ,IH,IS,ID,IG,zb,ze,Eh,II,Ei,Ep,Eo,N5],[Iy,vT],[yO,D6],[yX,Ea,Eb,D9,Iw],[D3,D5,yK,D4,Ij,Ik,Il,Ii,yM,vJ]}
def Mz:DM rs:={⟨BS,zh,BP,BO,zf,BW,BV,BU,IL,zj,FY,FX,BN,zl,FW,FQ,FP,FV,FT,FZ,FO,FR,yZ,zd,BQ,FU,BR,BY,BX,IK,trivial⟩,⟨FL,Mn,trivial⟩,⟨yN,BD,trivial⟩,⟨yW,BL,BM,BK,FJ,trivial⟩,⟨BA,BC,yJ,BB,FC,FD,FE,FA,yL,xh,trivial⟩}
noncomputable def te0:List (Str×En):=List.map (λx=>(x,En.bl)) ["all","any","bool","enumerate","int","isinstance","len","list","max","min","range","str","sum","tuple","zip"]
noncomputable def te1:List (Str×En):=[("LEAST_WORDS",.int 2),("MOST_BEHAVIOURS",.int 255),("MOST_COST",.int 3),("MOST_DEEDS",.int 6),("MOST_PLACES",.int 2),("MOST_WORDS",.int 4),("NEW_WORDS",.dct cV),("SORTS",.dct eI),("NoMachine",.xc 3),("NoWork",.xc 6),("TooMany",.xc 8),("DeedError",.de)]
noncomputable def te:List (Str×En):=te0++te1
noncomputable def tbl:nr:={(tb.filter (·.q.isNone)).map (λe=>(e.x,if e.i==166 then En.fnD e.i else En.fn e.i e.r))++te,[("TooMany","TooMany",8,8)],[],[("NEW_WORDS",cV),("SORTS",eI)],[],[(121,12,14),(127,42,67),(135,29,31),(136,13,27),(143,40,45),(145,24,35),(147,13,90),(147,57,62),(160,12,29),(163,11,24),(208,12,30),(227,12,14),(243,11,20),(259,12,14),(270,12,14),(271,10,41),(271,11,40),(281,35,37),(299,12,36),(301,16,62),(306,16,83),(315,11,13),(331,12,14),(357,37,43)],[(118,18,27),(126,15,36),(127,16,31),(127,42,53),(129,19,29),(135,12,33),(143,16,27),(145,24,35),(147,29,40),(147,66,77),(270,12,14),(275,15,32),(276,16,27),(277,19,29),(315,11,13),(319,8,18),(331,12,14),(335,8,19),(336,7,47),(340,15,58),(357,12,24)],[],rs,tb}
noncomputable def Pg:Nat->Option Df:=tbl.Pg
def MA:∀c,tb.map (tbl.rd c)=tb.map λe=>some (e.b c):=λc=>by kernel_rfl
def tab:yy tbl:={Mz,MA,by kernel_rfl,by kernel_rfl,λ_ _ _ _ _ _=>by kernel_rfl,λ_ _ _ _ _ _ _=>by kernel_rfl,λ_ _ _ _ _ _ _ _=>by kernel_rfl,λ_ _ _ _ _ _ _ _ _=>by kernel_rfl,λ_ _ _ _ _ _ _ _ _ _=>by kernel_rfl,λ_ _ _ _ _ _ _ _ _ _ _ _=>by kernel_rfl,by rw[show tbl.tb.filter (λe=>!(e.df==0))=[tb[26]] from by kernel_rfl];exact{{rfl,λ_ _ _ _ _ _ _ _=>{_,_,rfl,rfl,rfl,rfl}},trivial}}
noncomputable def fa:Fa:=LD.uP (tb.map (λe=>(e.i,e.f))++[(666,1)]) [(3,37),(6,49),(8,61)] 24
def C3:∀ns:List Int,ns.length<=63->∃M,ah Pg 40 175 [.frz (ns.map D.int)] []=.ok (.bl true) M:=MW (by repeat' (first|rfl|constructor))
end K21
open PySem PySem.W PyProof.Rows K21
set_option maxRecDepth 100000 in
set_option maxHeartbeats 0 in
theorem PySem.Challenge.cw_leastdeeds_k21_least_rows_holds : PySem.Challenge.rw_leastdeeds_k21_least_rows.Holds := by
 w_on;o_law
 refine PySem.W.holds_open (r:=K21.xV) (q:=K21.kq) (loose:=K21.pX) (Xt:=fun s=>PySem.W.xlAt K21.kq [] s&&PySem.W.recOk (PySem.W.RowW.records K21.xV.toRowW) s) (XP:=PySem.W.XL K21.kq []) (Yf:=K21.kH.obs) (Ya:=K21.kH.val) (YP:=K21.kH.says) (N:=5762) K21.MX K21.kH.of K21.kH.keeps (fun s e=>PySem.W.xl_of s (Sj.mp e).1) PySem.W.XL.keeps `r `r `r (fun s e=>PySem.W.recFacts_of (Sj.mp e).2) `r (by first|assumption|decide +kernel) `k ⟨rfl,rfl,rfl,rfl,rfl,`k⟩ ?hw ?hc
 case hw=>w_witness2
 refine L2.FI (l:=PySem.Challenge.rw_leastdeeds_k21_least_rows) (n:=63) (k:=84) (x:="script") (CX:=fun w=>LD.iY PySem.Challenge.rw_leastdeeds_k21_least_rows.prog w) (K:=K21.kh) (sp:=fun w=>LD.Ew (K21.kh w.params)) rfl `d rfl ⟨rfl,`d,`d,rfl⟩ (fun w h Y=>PySem.W.kIn_of Y) ?F (fun w H a ns hl hO hS=>⟨a,ns,rfl,hS,hO,hl,fun _=>rfl⟩) (fun _ _ _ _ _ z=>let⟨_,_,_,_,_,_,_,_,_,_,q⟩:=z;q)
 case F=>
  intro w mg fa h KX G hmg;have tk:LD.By (K21.kh w.params) K21.tb:=⟨by kernel_rfl,by kernel_rfl,by kernel_rfl,by kernel_rfl⟩
  obtain⟨m,fd,F⟩:=LD.F4 tk KX G (e:=K21.tb[56]) (SA _) rfl rfl;have d_NEW_WORDS:=LD.we (x:="NEW_WORDS") (P:=w.params) (fa:=K21.fa) (fs:=LD.cV) (ad:=190) (es:=#[{hash:=PySem.PyData.keyHash w.params (PySem.Str.ofString "turn"),key:=PySem.Value.str (PySem.Str.ofString "turn") 460,val:=PySem.Value.ref 168},{hash:=PySem.PyData.keyHash w.params (PySem.Str.ofString "join"),key:=PySem.Value.str (PySem.Str.ofString "join") 461,val:=PySem.Value.ref 175},{hash:=PySem.PyData.keyHash w.params (PySem.Str.ofString "move"),key:=PySem.Value.str (PySem.Str.ofString "move") 462,val:=PySem.Value.ref 182},{hash:=PySem.PyData.keyHash w.params (PySem.Str.ofString "put"),key:=PySem.Value.str (PySem.Str.ofString "put") 463,val:=PySem.Value.ref 189}]) (n:=4) KX G (by kernel_rfl) (by kernel_rfl) (by exact LD.gJ (LD.gJ (LD.gJ (LD.gJ (LD.AO))))) `k `d (by exact .cons ⟨rfl,rfl⟩ (.cons ⟨rfl,rfl⟩ (.cons ⟨rfl,rfl⟩ (.cons ⟨rfl,rfl⟩ (.nil)))))
  have d_SORTS:=LD.we (x:="SORTS") (P:=w.params) (fa:=K21.fa) (fs:=LD.eI) (ad:=137) (es:=#[{hash:=PySem.PyData.keyHash w.params (PySem.Str.ofString "turn"),key:=PySem.Value.str (PySem.Str.ofString "turn") 370,val:=PySem.Value.ref 115},{hash:=PySem.PyData.keyHash w.params (PySem.Str.ofString "join"),key:=PySem.Value.str (PySem.Str.ofString "join") 371,val:=PySem.Value.ref 122},{hash:=PySem.PyData.keyHash w.params (PySem.Str.ofString "move"),key:=PySem.Value.str (PySem.Str.ofString "move") 372,val:=PySem.Value.ref 129},{hash:=PySem.PyData.keyHash w.params (PySem.Str.ofString "put"),key:=PySem.Value.str (PySem.Str.ofString "put") 373,val:=PySem.Value.ref 136}]) (n:=4) KX G (by kernel_rfl) (by kernel_rfl) (by exact LD.gJ (LD.gJ (LD.gJ (LD.gJ (LD.AO))))) `k `d (by exact .cons ⟨rfl,rfl⟩ (.cons ⟨rfl,rfl⟩ (.cons ⟨rfl,rfl⟩ (.cons ⟨rfl,rfl⟩ (.nil)))))
  have TO:=fun base=>LD.F2 (base:=base) (P:=PySem.Challenge.rw_leastdeeds_k21_least_rows.prog) (w:=w) (t:=K21.tbl) (fa:=K21.fa) KX G (by kernel_rfl) (LD.Io (by kernel_rfl)) (LD.Ka (by kernel_rfl)) (LD.Dn (by kernel_rfl)) ⟨rfl,rfl⟩ ⟨d_NEW_WORDS,d_SORTS,trivial⟩ trivial
  have tw:LD.AllP (fun q=>LD.w8 K21.fa (K21.kh w.params) mg q.1 q.2.1 q.2.2.1 q.2.2.2) K21.tbl.tw:=⟨LD.IU (LD.Az (x:="TooMany") (f:=61) KX G (by kernel_rfl)) (LD.Az (x:="TooMany") (f:=61) KX G (by kernel_rfl)) (by kernel_rfl),trivial⟩
  have xf:LD.AllP (fun f=>LD.Fs K21.fa (K21.kh w.params) f) K21.tbl.xf:=trivial
  have ms:∀q∈K21.tbl.ms,LD.qp K21.fa (K21.kh w.params) q.1 q.2.1 q.2.2:=LD.Kq (by kernel_rfl)
  have e:=hmg.symm.trans m;cases e;exact⟨fd,fun s v=>by
   obtain⟨oc,od,kV,doc,pm,an,cdv,ct,osl,rfl,lk,hcd⟩:=F.ex;exact .of_eq rfl,fun base _ _=>LD.Ky (n:=39) (f:=175) (LD.Ca K21.tab tk KX G (TO base) tw.mem xf.mem ms (by kernel_rfl)) K21.C3 rfl F (LD.p9 (e:=K21.tb[56]) (QX.mp K21.tab.sc K21.tb[56] (SA _))).1 rfl fun c n a b d s H E C hr=>LD.tD (e:=K21.tb[56]) K21.tab (TO base) tw.mem xf.mem ms (SA _) c n a b d s H E C hr⟩
